import PyProof.Rows.All
import Wide.All
import OpenK.AllK
import Wide.FinOn
import HandS.ForMost
import HandS.Wide
import HandS.Codes
import HandS.Conv
import HandS.More
import HandS.IsInst
import HandS.Zip
import HandS.TupAny
import HandS.Star
import HandS.ClsMeth
import HandS.Deep
import HandS.Flow
import HandS.Walk
import KE.DatumOrd
import HandS.ForExc
import HandS.ExcInit
import KE.KSuper
import KE.KExcSuper
import HandS.TryMany
import HandS.HotCalls
import HandS.ExcField
import HandS.Lambda
import HandS.EndTab
import HandS.Property
import HandS.Defaults
import KE.KSortedM
import HandS.Rev
import HandS.RevTup
import HandS.TupMul
import HandS.Keys
import HandS.Style
import HandS.WordsExc
import HandS.EndOwn
import KE.KDflt
import PySem.Challenge.RW_lookscan_k01_classes_and_rests
set_option Elab.async false
set_option linter.all false
set_option maxRecDepth 100000
set_option maxHeartbeats 4000000
namespace Lk
open PySem L2
def topS (i : Nat) : Stmt := PySem.Challenge.pw_lookscan_k01_classes_and_rests.main.body.getD i (.Pass ⟨0, 0, 0, 0⟩)
abbrev sProduct : Stmt := topS 1
theorem scProduct : FnScope ["numbers", "total", "number"] ["numbers"] (defScope sProduct) := ⟨rfl, rfl, rfl, by decide +kernel, rfl, by decide +kernel, by decide +kernel⟩
abbrev sSE : Stmt := inClass (topS 3) 0
abbrev sIP : Stmt := inClass (topS 4) 0
abbrev sID : Stmt := inClass (topS 5) 0
abbrev sTM : Stmt := inClass (topS 6) 0
abbrev sIsNum : Stmt := topS 13
theorem scIsNum : FnScope ["value"] ["value"] (defScope sIsNum) := ⟨rfl, rfl, rfl, by decide +kernel, rfl, by decide +kernel, by decide +kernel⟩
abbrev sAreNums : Stmt := topS 14
theorem scAreNums : FnScope ["value", "count", "item"] ["value", "count"] (defScope sAreNums) := ⟨rfl, rfl, rfl, by decide +kernel, rfl, by decide +kernel, by decide +kernel⟩
abbrev sAreSides : Stmt := topS 15
theorem scAreSides : FnScope ["value", "least"] ["value", "least"] (defScope sAreSides) := ⟨rfl, rfl, rfl, by decide +kernel, rfl, by decide +kernel, by decide +kernel⟩
abbrev sChkPlace : Stmt := topS 16
theorem scChkPlace : FnScope ["place", "directions"] ["place", "directions"] (defScope sChkPlace) := ⟨rfl, rfl, rfl, by decide +kernel, rfl, by decide +kernel, by decide +kernel⟩
abbrev sChkDiv : Stmt := topS 17
theorem scChkDiv : FnScope ["divisors"] ["divisors"] (defScope sChkDiv) := ⟨rfl, rfl, rfl, by decide +kernel, rfl, by decide +kernel, by decide +kernel⟩
abbrev sPlaceAt : Stmt := topS 18
theorem scPlaceAt : FnScope ["sides", "number", "backwards", "side"] ["sides", "number"] (defScope sPlaceAt) := ⟨rfl, rfl, rfl, by decide +kernel, rfl, by decide +kernel, by decide +kernel⟩
abbrev sClassAt : Stmt := topS 19
theorem scClassAt : FnScope ["divisors", "place", "number", "divisor", "step"] ["divisors", "place"] (defScope sClassAt) := ⟨rfl, rfl, rfl, by decide +kernel, rfl, by decide +kernel, by decide +kernel⟩
abbrev sClassCount : Stmt := topS 20
theorem scClassCount : FnScope ["divisors"] ["divisors"] (defScope sClassCount) := ⟨rfl, rfl, rfl, by decide +kernel, rfl, by decide +kernel, by decide +kernel⟩
abbrev sClassOf : Stmt := topS 21
theorem scClassOf : FnScope ["divisors", "place"] ["divisors", "place"] (defScope sClassOf) := ⟨rfl, rfl, rfl, by decide +kernel, rfl, by decide +kernel, by decide +kernel⟩
abbrev sRestsOf : Stmt := topS 22
theorem scRestsOf : FnScope ["divisors", "number", "total"] ["divisors", "number"] (defScope sRestsOf) := ⟨rfl, rfl, rfl, by decide +kernel, rfl, by decide +kernel, by decide +kernel⟩
abbrev sBag : Stmt := topS 24
theorem scBag : FnScope ["_law_script", "_law_salt", "_law_cell"] ["_law_script"] (defScope sBag) := ⟨rfl, rfl, rfl, by decide +kernel, rfl, by decide +kernel, by decide +kernel⟩
abbrev sPull : Stmt := topS 25
theorem scPull : FnScope ["_law_bag_here", "_law_amount", "_law_cell", "_law_got", "_law_seed"] ["_law_bag_here", "_law_amount"] (defScope sPull) := ⟨rfl, rfl, rfl, by decide +kernel, rfl, by decide +kernel, by decide +kernel⟩
abbrev sOf : Stmt := topS 26
theorem scOf : FnScope ["_law_bag_here", "_law_things"] ["_law_bag_here", "_law_things"] (defScope sOf) := ⟨rfl, rfl, rfl, by decide +kernel, rfl, by decide +kernel, by decide +kernel⟩
abbrev sMixed : Stmt := topS 27
theorem scMixed : FnScope ["_law_bag_here", "_law_things", "_law_found", "_law_thing"] ["_law_bag_here", "_law_things"] (defScope sMixed) := ⟨rfl, rfl, rfl, by decide +kernel, rfl, by decide +kernel, by decide +kernel⟩
abbrev sLSame : Stmt := topS 28
theorem scLSame : FnScope ["_law_found", "_law_due", "_law_one", "_law_other", "_law_key"] ["_law_found", "_law_due"] (defScope sLSame) := ⟨rfl, rfl, rfl, by decide +kernel, rfl, by decide +kernel, by decide +kernel⟩
abbrev sField : Stmt := topS 29
theorem scField : FnScope ["_law_e"] ["_law_e"] (defScope sField) := ⟨rfl, rfl, rfl, by decide +kernel, rfl, by decide +kernel, by decide +kernel⟩
abbrev sTry : Stmt := topS 30
theorem scTry : FnScope ["_law_ask", "_law_e"] ["_law_ask"] (defScope sTry) := ⟨rfl, rfl, rfl, by decide +kernel, rfl, by decide +kernel, by decide +kernel⟩
abbrev sOdd : Stmt := topS 31
theorem scOdd : FnScope ["_law_bag_here"] ["_law_bag_here"] (defScope sOdd) := ⟨rfl, rfl, rfl, by decide +kernel, rfl, by decide +kernel, by decide +kernel⟩
abbrev sCount : Stmt := topS 32
theorem scCount : FnScope ["_law_divisors_here", "_law_found", "_law_one"] ["_law_divisors_here"] (defScope sCount) := ⟨rfl, rfl, rfl, by decide +kernel, rfl, by decide +kernel, by decide +kernel⟩
abbrev sLClass : Stmt := topS 33
theorem scLClass : FnScope ["_law_divisors_here", "_law_place_here", "_law_found", "_law_at"] ["_law_divisors_here", "_law_place_here"] (defScope sLClass) := ⟨rfl, rfl, rfl, by decide +kernel, rfl, by decide +kernel, by decide +kernel⟩
abbrev sLCells : Stmt := topS 34
theorem scLCells : FnScope ["_law_box", "_law_found", "_law_side", "_law_rows", "_law_cell", "_law_at"] ["_law_box"] (defScope sLCells) := ⟨rfl, rfl, rfl, by decide +kernel, rfl, by decide +kernel, by decide +kernel⟩
abbrev sDivisors : Stmt := topS 35
theorem scDivisors : FnScope ["_law_bag_here", "_law_directions", "_law_found", "_law_left", "_law_at", "_law_one"] ["_law_bag_here", "_law_directions"] (defScope sDivisors) := ⟨rfl, rfl, rfl, by decide +kernel, rfl, by decide +kernel, by decide +kernel⟩
abbrev sPlace : Stmt := topS 36
theorem scPlace : FnScope ["_law_bag_here", "_law_directions", "_law_size", "_law_at"] ["_law_bag_here", "_law_directions", "_law_size"] (defScope sPlace) := ⟨rfl, rfl, rfl, by decide +kernel, rfl, by decide +kernel, by decide +kernel⟩
abbrev sIsPlace : Stmt := topS 37
theorem scIsPlace : FnScope ["_law_value", "_law_directions", "_law_one"] ["_law_value", "_law_directions"] (defScope sIsPlace) := ⟨rfl, rfl, rfl, by decide +kernel, rfl, by decide +kernel, by decide +kernel⟩
abbrev sDivErr : Stmt := topS 38
theorem scDivErr : FnScope ["_law_value"] ["_law_value"] (defScope sDivErr) := ⟨rfl, rfl, rfl, by decide +kernel, rfl, by decide +kernel, by decide +kernel⟩
abbrev sLaw : Stmt := topS 39
theorem scLaw : FnScope ["_law_script", "_law_bag_here", "_law_turn", "_law_directions", "_law_divisors_here", "_law_rests", "_law_place_here", "_law_number", "_law_told", "_law_bad", "_law_due", "_law_asks", "_law_odd_here", "_law_far", "_law_k", "_law_one", "_law_two", "_law_ask"] ["_law_script"] (defScope sLaw) := ⟨rfl, rfl, rfl, by decide +kernel, rfl, by decide +kernel, by decide +kernel⟩
end Lk

namespace Lk
open PySem L2
/-! ### the bag: the script's ints, a place in them, what is left of a great one, a seed -/
structure BagS (H : Hp) (b l : Addr) (ns : List Int) (i big seed : Int) : Prop where
  ob : H b = some (.lst [.ref l, .int i, .int big, .int seed])
  ls : H l = some (.lst (ns.map V.int))
  i0 : 0 ≤ i
  i1 : i ≤ ns.length
  g0 : 0 ≤ big
  s0 : 0 ≤ seed
  s1 : seed < 2147483647
def BagAt (H : Hp) (b l : Addr) : Prop := ∃ ns i big seed, BagS H b l ns i big seed
/-- all that was tracked but b is as it was -/
def But (b : Addr) (H H' : Hp) : Prop := ∀ a o, a ≠ b → H a = some o → H' a = some o
theorem But.refl (b : Addr) (H : Hp) : But b H H := fun _ _ _ h => h
theorem But.trans {b : Addr} {H H1 H2 : Hp} (x : But b H H1) (y : But b H1 H2) : But b H H2 := fun a o n h => y a o n (x a o n h)
theorem But.same {b : Addr} {H H1 : Hp} (x : Same H H1) : But b H H1 := fun a o _ h => x a o h
theorem but_upd {b : Addr} {H : Hp} {o : HO} : But b H (upd H b o) := fun a u n h => by
  rw [upd_ne n]
  exact h
theorem BagS.ne {H : Hp} {b l : Addr} {ns : List Int} {i big seed : Int} (B : BagS H b l ns i big seed) : l ≠ b := by
  refine ne_of B.ls B.ob fun e => ?_
  have e2 := HO.lst.inj e
  cases ns with
  | nil => cases e2
  | cons z r =>
    rw [List.map_cons] at e2
    injection e2 with e3 _
    cases e3
theorem BagS.put {H : Hp} {b l : Addr} {ns : List Int} {i big seed i' big' seed' : Int} (B : BagS H b l ns i big seed) (a0 : 0 ≤ i') (a1 : i' ≤ ns.length) (a2 : 0 ≤ big') (a3 : 0 ≤ seed') (a4 : seed' < 2147483647) :
    BagS (upd H b (.lst [.ref l, .int i', .int big', .int seed'])) b l ns i' big' seed' :=
  ⟨upd_same, by rw [upd_ne B.ne]; exact B.ls, a0, a1, a2, a3, a4⟩
theorem BagAt.upd {H : Hp} {b l D : Addr} {o : HO} (B : BagAt H b l) (h1 : D ≠ b) (h2 : D ≠ l) : BagAt (upd H D o) b l := by
  obtain ⟨ns, i, big, seed, B⟩ := B
  exact ⟨ns, i, big, seed, by rw [upd_ne h1.symm]; exact B.ob, by rw [upd_ne h2.symm]; exact B.ls, B.i0, B.i1, B.g0, B.s0, B.s1⟩
theorem BagAt.nb {H : Hp} {b l D : Addr} (B : BagAt H b l) (h : H D = none) : D ≠ b := by
  obtain ⟨ns, i, big, seed, B⟩ := B
  exact (ne_of_none B.ob h).symm
theorem BagAt.nl {H : Hp} {b l D : Addr} (B : BagAt H b l) (h : H D = none) : D ≠ l := by
  obtain ⟨ns, i, big, seed, B⟩ := B
  exact (ne_of_none B.ls h).symm
theorem BagAt.new {H : Hp} {b l D : Addr} {o : HO} (B : BagAt H b l) (h : H D = none) : BagAt (L2.upd H D o) b l := B.upd (B.nb h) (B.nl h)
theorem BagAt.lst {H : Hp} {b l : Addr} (B : BagAt H b l) : ∃ xs, H b = some (.lst xs) := by
  obtain ⟨ns, i, big, seed, B⟩ := B
  exact ⟨_, B.ob⟩
def spPull : Sp := fun vs H Q _ => ∃ (b l : Addr) (m : Int), vs = [.ref b, .int m] ∧ BagAt H b l ∧ 0 < m ∧ m.natAbs < 2 ^ 200 ∧
  ∀ (g : Int) (H' : Hp), 0 ≤ g → g < m → BagAt H' b l → But b H H' → Q (.int g) H'
theorem new_but {b D : Addr} {H : Hp} {o : HO} (h : H D = none) : But b H (upd H D o) := fun a u _ e => by
  rw [upd_ne (ne_of_none e h)]
  exact e
theorem But.free {b l D : Addr} {H H' : Hp} (B : BagAt H b l) (x : But b H H') (B' : BagAt H' b l) (h : H' D = none) : H D = none := by
  cases e : H D with
  | none => rfl
  | some o => exact (x D o (B'.nb h) e).symm.trans h
section
variable {P : Program} {w : World} {K : PySem.W.Frag} {mg : Str → Option Value} {base : Heap}
theorem ix4 {x y z u : V} : ∀ {j : Nat} {v : V}, ([x, y, z, u] : List V)[j]? = some v → atI [x, y, z, u] (j : Int) = some v := fun h => atI_nat h
theorem ok_pull {f : Addr} {fd : FuncData} {k : Nat} (F : Fun K "_law_pull" "_law_pull" sPull f fd) (ml : mg "len" = none) (mi : mg "int" = none) : FnOk P w K mg base CX0 (k + 1) f fd ["_law_bag_here", "_law_amount"] spPull := by
  refine F.ok scPull (fun vs H Q E h => ?_) (fun cdv A outer s H vs Q E hr h => ?_)
  · obtain ⟨b, l, m, rfl, _⟩ := h
    rfl
  · obtain ⟨b, l, m, rfl, ⟨ns, i, big, seed, B⟩, m0, mb, q⟩ := h
    refine ⟨_, C8.pss_cut (ps_if (PW.pt (pw_and (pt_cmpR op_eq (pe_ix ix_list (pv 0) pe_int (fun _ _ => rfl)) pe_int (nomark _)) (pw_and1 (pt_cmpR op_lt (pe_ix ix_list (pv 0) pe_int (fun _ _ => rfl)) (pe_callB call_len_seq (by rfl) ml PySem.boot_len (pa_cons (pe_ix ix_list (pv 0) pe_int (fun _ _ => rfl)) pa_nil)) (nomark _)))))
        (pss_cons (ps_set (i := 2) scPull.nd rfl (.inl rfl) (pe_ix ix_list (pe_ix ix_list (pv 0) pe_int (fun _ _ => rfl)) (pe_ix ix_list (pv 0) pe_int (fun _ _ => rfl)) (fun _ _ => rfl)))
          (pss_cons (ps_asg (pe_op op_add (pe_ix ix_list (pv 0) pe_int (fun _ _ => rfl)) pe_int) (pg_sub (pv 0) pe_int set_list))
          (pss_one (ps_if (pt_cmpR op_ge (pv 2) (pe_op op_pow pe_int pe_int) (nomark _))
            (pss_one (ps_asg (pv 2) (pg_sub (pv 0) pe_int set_list)))
            (pss_one (ps_asg (pe_op op_mod (pe_callTy call_int1 (by rfl) mi (by decide +kernel) (pa_cons (pe_op op_add (pe_op op_add (pe_op op_mul (pe_ix ix_list (pv 0) pe_int (fun _ _ => rfl)) pe_int) (pe_op op_mul (pe_op op_mod (pe_callTy call_int1 (by rfl) mi (by decide +kernel) (pa_cons (pv 2) pa_nil)) pe_int) pe_int)) pe_int) pa_nil)) pe_int) (pg_sub (pv 0) pe_int set_list)))))))
        pss_nil)
      (pss_cons (ps_if (pt_cmpR op_gt (pe_ix ix_list (pv 0) pe_int (fun _ _ => rfl)) pe_int (nomark _))
        (pss_cons (ps_set (i := 3) scPull.nd rfl (.inl rfl) (pe_op op_mod (pe_callTy call_int1 (by rfl) mi (by decide +kernel) (pa_cons (pe_ix ix_list (pv 0) pe_int (fun _ _ => rfl)) pa_nil)) (pv 1)))
          (pss_cons (ps_asg (pe_op op_fdivW (pe_ix ix_list (pv 0) pe_int (fun _ _ => rfl)) (pv 1)) (pg_sub (pv 0) pe_int set_list)) (pss_one (ps_ret (pv 3))))) pss_nil)
      (pss_cons (ps_set (i := 4) scPull.nd rfl (.inl rfl) (pe_ix ix_list (pv 0) pe_int (fun _ _ => rfl)))
      (pss_cons (ps_asg (pe_op op_mod (pe_callTy call_int1 (by rfl) mi (by decide +kernel) (pa_cons (pe_op op_add (pe_op op_add (pe_op op_mul (pv 4) (pv 4)) (pe_op op_mul (pv 4) pe_int)) pe_int) pa_nil)) pe_int) (pg_sub (pv 0) pe_int set_list))
      (pss_one (ps_ret (pe_op op_mod (pe_callTy call_int1 (by rfl) mi (by decide +kernel) (pa_cons (pe_op op_add (pe_op op_fdiv (pe_ix ix_list (pv 0) pe_int (fun _ _ => rfl)) pe_int) (pe_op op_mul (pe_op op_mod (pe_callTy call_int1 (by rfl) mi (by decide +kernel) (pa_cons (pe_ix ix_list (pv 0) pe_int (fun _ _ => rfl)) pa_nil)) pe_int) pe_int)) pa_nil)) (pv 1))))))), ?_⟩
    refine ⟨fun σ' H1 => ∃ (c : Option V) (i' big' seed' : Int), σ' = [some (.ref b), some (.int m), c, none, none] ∧ BagS H1 b l ns i' big' seed' ∧ But b H H1, ?_, ?_⟩
    · -- the first if
      have hL := SqL.of (K := K) B.ob
      refine ⟨_, rfl, b, _, _, _, rfl, rfl, hL, atI_nat (j := 2) rfl, rfl, _, rfl, ite2 (fun e => ?_) (fun e => ?_)⟩
      · refine ⟨_, rfl, b, _, _, _, rfl, rfl, hL, atI_nat (j := 1) rfl, _, rfl, b, _, _, _, rfl, rfl, hL, atI_nat (j := 0) rfl, l, _, rfl, .inl (SqL.of B.ls), _, _, rfl, rfl, _, rfl, ite2 (fun e2 => ?_) (fun e2 => ?_)⟩
        · have e3 : i < ((ns.map V.int).length : Nat) := of_decide_eq_true e2
          rw [List.length_map] at e3
          obtain ⟨j, hj⟩ : ∃ j : Nat, i = (j : Int) := ⟨i.toNat, by have := B.i0; omega⟩
          have hj2 : j < ns.length := by omega
          have g1 : (ns.map V.int)[j]? = some (.int ns[j]) := by
            rw [List.getElem?_map, List.getElem?_eq_getElem hj2]
            rfl
          have B2 := B.put (i' := i + 1) (big' := big) (seed' := seed) (by have := B.i0; omega) (by omega) B.g0 B.s0 B.s1
          refine ⟨_, rfl, b, _, _, _, rfl, rfl, hL, atI_nat (j := 0) rfl, _, rfl, b, _, _, _, rfl, rfl, hL, atI_nat (j := 1) rfl, l, _, _, _, rfl, rfl, SqL.of B.ls, at_of hj g1, ?_⟩
          refine ⟨_, rfl, b, _, _, _, rfl, rfl, hL, atI_nat (j := 1) rfl, _, _, rfl, rfl, _, rfl, b, _, _, 1, rfl, rfl, B.ob, rfl, ?_⟩
          have hL2 := SqL.of (K := K) B2.ob
          refine ⟨_, rfl, _, _, rfl, rfl, ⟨by decide, by decide, by decide⟩, _, _, rfl, rfl, _, rfl, ite2 (fun e4 => ?_) (fun e4 => ?_)⟩
          · have e5 : (10 : Int) ^ (18 : Int).toNat ≤ ns[j] := of_decide_eq_true e4
            refine ⟨_, rfl, _, rfl, b, _, _, 2, rfl, rfl, B2.ob, rfl, ?_⟩
            refine ⟨_, i + 1, ns[j], seed, rfl, ?_, ?_⟩
            · have h0 : (0 : Int) ≤ ns[j] := Int.le_trans (by decide) e5
              exact B2.put (by have := B.i0; omega) (by omega) h0 B.s0 B.s1
            · exact but_upd.trans but_upd
          · have r0 := Int.emod_nonneg (ns[j]) (show (2147483579 : Int) ≠ 0 by decide)
            have r1 := Int.emod_lt_of_pos (ns[j]) (show (0 : Int) < 2147483579 by decide)
            have q0 := B.s0
            have q1 := B.s1
            refine ⟨_, rfl, b, _, _, _, rfl, rfl, hL2, atI_nat (j := 3) rfl, _, _, rfl, rfl, .inl ⟨by omega, by omega⟩, _, rfl, .inl ⟨_, rfl, ?_⟩⟩
            refine ⟨_, _, rfl, rfl, (by show (0 : Int) < 2147483579; decide), _, _, rfl, rfl, .inl ⟨by omega, by omega⟩, _, _, rfl, rfl, _, _, rfl, rfl, .inl ⟨_, rfl, ?_⟩⟩
            refine ⟨_, _, rfl, rfl, (by show (0 : Int) < 2147483647; decide), _, rfl, b, _, _, 3, rfl, rfl, B2.ob, rfl, ?_⟩
            refine ⟨_, i + 1, big, _, rfl, B2.put (by have := B.i0; omega) (by omega) B.g0 (Int.emod_nonneg _ (by decide)) (Int.emod_lt_of_pos _ (by decide)), but_upd.trans but_upd⟩
        · exact ⟨_, i, big, seed, rfl, B, But.refl _ _⟩
      · exact ⟨_, i, big, seed, rfl, B, But.refl _ _⟩
    · rintro σ' H1 ⟨c, i', big', seed', rfl, B1, bt⟩
      have hL := SqL.of (K := K) B1.ob
      refine ⟨_, rfl, b, _, _, _, rfl, rfl, hL, atI_nat (j := 2) rfl, _, _, rfl, rfl, _, rfl, ite2 (fun e => ?_) (fun e => ?_)⟩
      · refine ⟨_, rfl, b, _, _, _, rfl, rfl, hL, atI_nat (j := 2) rfl, .inl ⟨_, rfl, ?_⟩⟩
        refine ⟨_, rfl, _, _, rfl, rfl, m0, ?_⟩
        refine ⟨_, rfl, b, _, _, _, rfl, rfl, hL, atI_nat (j := 2) rfl, _, rfl, _, _, rfl, rfl, wide_div m0 mb (by decide) (by decide), _, rfl, b, _, _, 2, rfl, rfl, B1.ob, rfl, ?_⟩
        refine ⟨_, rfl, ?_⟩
        exact q _ _ (Int.emod_nonneg _ (by omega)) (Int.emod_lt_of_pos _ m0) ⟨ns, i', _, seed', B1.put B1.i0 B1.i1 (Int.ediv_nonneg B1.g0 (by omega)) B1.s0 B1.s1⟩ (bt.trans but_upd)
      · have q0 := B1.s0
        have q1 := B1.s1
        refine ⟨_, rfl, b, _, _, _, rfl, rfl, hL, atI_nat (j := 3) rfl, ?_⟩
        refine ⟨_, rfl, _, rfl, _, _, rfl, rfl, .inl ⟨by omega, by omega⟩, _, rfl, _, _, rfl, rfl, .inl ⟨by omega, by omega⟩, _, _, rfl, rfl, _, _, rfl, rfl, .inl ⟨_, rfl, ?_⟩⟩
        refine ⟨_, _, rfl, rfl, (by show (0 : Int) < 2147483647; decide), _, rfl, b, _, _, 3, rfl, rfl, B1.ob, rfl, ?_⟩
        have z0 := Int.emod_nonneg (seed' * seed' + seed' * 48271 + 1013904223) (show (2147483647 : Int) ≠ 0 by decide)
        have z1 := Int.emod_lt_of_pos (seed' * seed' + seed' * 48271 + 1013904223) (show (0 : Int) < 2147483647 by decide)
        have B2 := B1.put (i' := i') (big' := big') B1.i0 B1.i1 B1.g0 z0 z1
        have hL2 := SqL.of (K := K) B2.ob
        refine ⟨_, rfl, b, _, _, _, rfl, rfl, hL2, atI_nat (j := 3) rfl, _, _, rfl, rfl, ⟨by decide, by decide⟩, ?_⟩
        refine ⟨_, rfl, b, _, _, _, rfl, rfl, hL2, atI_nat (j := 3) rfl, .inl ⟨_, rfl, ?_⟩⟩
        have y0 := Int.emod_nonneg ((seed' * seed' + seed' * 48271 + 1013904223) % 2147483647) (show (8191 : Int) ≠ 0 by decide)
        have y1 := Int.emod_lt_of_pos ((seed' * seed' + seed' * 48271 + 1013904223) % 2147483647) (show (0 : Int) < 8191 by decide)
        refine ⟨_, _, rfl, rfl, (by show (0 : Int) < 8191; decide), _, _, rfl, rfl, .inl ⟨by omega, by omega⟩, _, _, rfl, rfl, .inl ⟨_, rfl, ?_⟩⟩
        refine ⟨_, rfl, _, _, rfl, rfl, m0, ?_⟩
        exact q _ _ (Int.emod_nonneg _ (by omega)) (Int.emod_lt_of_pos _ m0) ⟨ns, i', big', _, B2⟩ (bt.trans but_upd)
/-- things[pull(bag, len(things))] -/
def spOf (K : PySem.W.Frag) : Sp := fun vs H Q _ => ∃ (b l t : Addr) (xs : List V), vs = [.ref b, .ref t] ∧ BagAt H b l ∧ t ≠ b ∧ SqL K H t xs ∧ 0 < xs.length ∧ xs.length < 1000 ∧
  ∀ (v : V) (H' : Hp), v ∈ xs → BagAt H' b l → But b H H' → Q v H'
theorem But.seq {b a : Addr} {H H' : Hp} {xs : List V} (e : But b H H') (n : a ≠ b) (h : SqL K H a xs) : SqL K H' a xs := by
  rcases h with (h | ⟨o, h⟩) | h
  · exact .inl (.inl (e _ _ n h))
  · exact .inl (.inr ⟨o, e _ _ n h⟩)
  · exact .inr h
theorem But.sqT {b l a : Addr} {H H' : Hp} {xs : List V} (e : But b H H') (B : BagAt H b l) (h : SqT K H a xs) : SqT K H' a xs := by
  obtain ⟨ys, hb⟩ := B.lst
  rcases h with (h | ⟨o, h⟩) | h
  · exact .inl (.inl (e _ _ (ne_of h hb (by intro z; cases z)) h))
  · exact .inl (.inr ⟨o, e _ _ (ne_of h hb (by intro z; cases z)) h⟩)
  · exact .inr h
theorem But.tup {b l a : Addr} {H H' : Hp} {xs : List V} (e : But b H H') (B : BagAt H b l) (h : H a = some (.tup xs)) : H' a = some (.tup xs) := by
  obtain ⟨ys, hb⟩ := B.lst
  exact e _ _ (ne_of h hb (by intro z; cases z)) h
theorem ok_of {f fP : Addr} {fd fdP : FuncData} {k : Nat} (F : Fun K "_law_of" "_law_of" sOf f fd) (ml : mg "len" = none) (GP : FnOk P w K mg base CX0 (k + 1) fP fdP ["_law_bag_here", "_law_amount"] spPull)
    (kp : PySem.W.keepIn K (.ref fP) = true) (bP : Binds K fdP ["_law_bag_here", "_law_amount"] []) (gP : mg "_law_pull" = some (.ref fP)) :
    FnOk P w K mg base CX0 (k + 2) f fd ["_law_bag_here", "_law_things"] (spOf K) := by
  refine F.ok scOf (fun vs H Q E h => ?_) (fun cdv A outer s H vs Q E hr h => ?_)
  · obtain ⟨b, l, m, _, rfl, _⟩ := h
    rfl
  · obtain ⟨b, l, t, xs, rfl, B, nt, hS, l0, l1, q⟩ := h
    refine ⟨_, pss_one (ps_ret (pe_ix ix_list (pv 1) (pe_call GP hr (by rfl) gP kp bP .nil pass0 (pa_cons (pv 0) (pa_cons (pe_callB call_len_seq (by rfl) ml PySem.boot_len (pa_cons (pv 1) pa_nil)) pa_nil))) (fun _ _ => rfl))), ?_⟩
    refine ⟨_, rfl, _, rfl, _, rfl, t, _, rfl, .inl hS, b, l, _, rfl, B, by omega, ?_, fun g H' g0 g1 B' bt => ?_⟩
    · have : ((xs.length : Int)).natAbs < 1000 := by omega
      exact Nat.lt_trans this (by decide)
    · obtain ⟨j, hj⟩ : ∃ j : Nat, g = (j : Int) := ⟨g.toNat, by omega⟩
      have hj2 : j < xs.length := by omega
      exact ⟨t, _, _, xs[j], rfl, rfl, bt.seq nt hS, at_of hj (List.getElem?_eq_getElem hj2), q _ _ (List.getElem_mem hj2) B' bt⟩
end
end Lk

namespace Lk
open PySem L2
/-! ### mathematics -/
def prodL : List Int → Int
  | [] => 1
  | x :: r => x * prodL r
theorem prodL_app (x : Int) : ∀ l : List Int, prodL (l ++ [x]) = prodL l * x
  | [] => by simp [prodL]
  | y :: r => by
    show y * prodL (r ++ [x]) = y * prodL r * x
    rw [prodL_app x r, Int.mul_assoc]
theorem prodL_perm {l m : List Int} (h : l.Perm m) : prodL l = prodL m := by
  induction h with
  | nil => rfl
  | cons x _ ih => simp [prodL, ih]
  | swap x y l => simp only [prodL]; rw [← Int.mul_assoc, ← Int.mul_assoc, Int.mul_comm x y]
  | trans _ _ a b => exact a.trans b
theorem prodL_pos : ∀ {l : List Int}, (∀ z ∈ l, 1 ≤ z) → 1 ≤ prodL l
  | [], _ => by simp [prodL]
  | x :: r, h => by
    have h1 := prodL_pos (l := r) fun z hz => h z (List.mem_cons_of_mem _ hz)
    have h2 := h x List.mem_cons_self
    show 1 ≤ x * prodL r
    calc (1 : Int) = 1 * 1 := rfl
      _ ≤ x * prodL r := Int.mul_le_mul h2 h1 (by decide) (by omega)
theorem prodL_take {l : List Int} (h : ∀ z ∈ l, 1 ≤ z) (i : Nat) : prodL (l.take i) ≤ prodL l := by
  have e : ∀ (a b : List Int), prodL (a ++ b) = prodL a * prodL b := fun a b => by
    induction a with
    | nil => simp [prodL]
    | cons x r ih => show x * prodL (r ++ b) = x * prodL r * prodL b; rw [ih, Int.mul_assoc]
  have e2 : prodL l = prodL (l.take i) * prodL (l.drop i) := by rw [← e, List.take_append_drop]
  have h1 := prodL_pos (l := l.take i) fun z hz => h z (List.mem_of_mem_take hz)
  have h2 := prodL_pos (l := l.drop i) fun z hz => h z (List.mem_of_mem_drop hz)
  rw [e2]
  calc prodL (l.take i) = prodL (l.take i) * 1 := by rw [Int.mul_one]
    _ ≤ prodL (l.take i) * prodL (l.drop i) := Int.mul_le_mul_of_nonneg_left h2 (by omega)
theorem take_more {α : Type} {l : List α} {i : Nat} {x : α} (h : l[i]? = some x) : l.take (i + 1) = l.take i ++ [x] := by
  rw [List.take_add_one, h]
  rfl
theorem map_get {α : Type} {g : α → V} {ns : List α} {i : Nat} {y : V} (hi : (ns.map g)[i]? = some y) : ∃ z, ns[i]? = some z ∧ y = g z := by
  rw [List.getElem?_map] at hi
  cases e : ns[i]? with
  | none =>
    rw [e] at hi
    cases hi
  | some z =>
    rw [e] at hi
    exact ⟨z, rfl, (Option.some.inj hi).symm⟩
/-- divisors: numbers from 1 on, their product at most 12 -/
structure Divs (ns : List Int) : Prop where
  one : ∀ z ∈ ns, 1 ≤ z
  most : prodL ns ≤ 12
theorem Divs.part {ns : List Int} (D : Divs ns) (i : Nat) : 1 ≤ prodL (ns.take i) ∧ prodL (ns.take i) ≤ 12 :=
  ⟨prodL_pos fun z hz => D.one z (List.mem_of_mem_take hz), Int.le_trans (prodL_take D.one i) D.most⟩
theorem same_new {H : Hp} {p : Addr} {o : HO} (h : H p = none) : Same H (upd H p o) := fun b x e => by
  rw [upd_ne (ne_of_none e h)]
  exact e
theorem Same.sqT {K : PySem.W.Frag} {H H' : Hp} {a : Addr} {xs : List V} (e : Same H H') (h : SqT K H a xs) : SqT K H' a xs := by
  rcases h with (h | ⟨o, h⟩) | h
  · exact .inl (.inl (e _ _ h))
  · exact .inl (.inr ⟨o, e _ _ h⟩)
  · exact .inr h
/-- zip of two tuples, walked -/
theorem walk_zipT {K : PySem.W.Frag} {a b : Addr} {xs ys : List V} (e : xs.length = ys.length) :
    Walk (RZ.ItzT K a b) xs.length (fun H => SqT K H a xs ∧ SqT K H b ys) (YPair (fun j => xs[j]?) (fun j => ys[j]?)) := by
  constructor
  · intro i H hi q
    have h2 : i < ys.length := by omega
    exact ⟨xs, ys, xs[i], ys[i], q.1, q.2, List.getElem?_eq_getElem hi, List.getElem?_eq_getElem h2⟩
  · intro H q
    exact ⟨xs, ys, q.1, q.2, by omega⟩
  · rintro i H v H' hi q ⟨T, x, z, h1, h2, h3, h4, h5⟩
    exact ⟨T, x, z, h1, h2, h3, h4 xs q.1, h5 ys q.2⟩
/-! ### promises -/
def spBag (K : PySem.W.Frag) : Sp := fun vs H Q _ => ∃ (a : Addr) (ns : List Int), vs = [.ref a] ∧ SqL K H a (ns.map V.int) ∧
  ∀ (H' : Hp) (b l : Addr), Same H H' → H b = none → H l = none → BagAt H' b l → Q (.ref b) H'
def spMixed (K : PySem.W.Frag) : Sp := fun vs H Q _ => ∃ (b l t : Addr) (xs : List V), vs = [.ref b, .ref t] ∧ BagAt H b l ∧ t ≠ b ∧ SqL K H t xs ∧ xs.length ≤ 100 ∧
  ∀ (ys : List V) (H' : Hp) (p : Addr), ys.Perm xs → H p = none → H' p = some (.lst ys) → BagAt H' b l → But b H H' → Q (.ref p) H'
def spCount (K : PySem.W.Frag) : Sp := fun vs H Q _ => ∃ (a : Addr) (ns : List Int), vs = [.ref a] ∧ SqT K H a (ns.map V.int) ∧ Divs ns ∧ Q (.int (prodL ns)) H
def spPlus (K : PySem.W.Frag) : Sp := fun vs H Q _ => ∃ (a b : Addr) (ns ms : List Int), vs = [.ref a, .ref b] ∧ SqT K H a (ns.map V.int) ∧ SqT K H b (ms.map V.int) ∧ ns.length = ms.length ∧ ns.length ≤ 3 ∧
  ∀ (H' : Hp) (p : Addr), Same H H' → H p = none → H' p = some (.tup ((List.zipWith (· + ·) ns ms).map V.int)) → Q (.ref p) H'
def spDivisors : Sp := fun vs H Q _ => ∃ (b l : Addr) (d : Int), vs = [.ref b, .int d] ∧ BagAt H b l ∧ 1 ≤ d ∧ d ≤ 3 ∧
  ∀ (ns : List Int) (H' : Hp) (p : Addr), (ns.length : Int) = d → Divs ns → H p = none → H' p = some (.tup (ns.map V.int)) → BagAt H' b l → But b H H' → Q (.ref p) H'
def spPlace : Sp := fun vs H Q _ => ∃ (b l : Addr) (d z : Int), vs = [.ref b, .int d, .int z] ∧ BagAt H b l ∧ 1 ≤ d ∧ d ≤ 3 ∧ 0 ≤ z ∧ z ≤ 2 ^ 100 ∧
  ∀ (ns : List Int) (H' : Hp) (p : Addr), (ns.length : Int) = d → H p = none → H' p = some (.tup (ns.map V.int)) → BagAt H' b l → But b H H' → Q (.ref p) H'
section
variable {P : Program} {w : World} {K : PySem.W.Frag} {mg : Str → Option Value} {base : Heap}
theorem ok_bag {f : Addr} {fd : FuncData} {k : Nat} (F : Fun K "_law_bag" "_law_bag" sBag f fd) (mi : mg "int" = none) (ml : mg "list" = none) : FnOk P w K mg base CX0 (k + 1) f fd ["_law_script"] (spBag K) := by
  refine F.ok scBag (fun vs H Q E h => ?_) (fun cdv A outer s H vs Q E hr h => ?_)
  · obtain ⟨a, ns, rfl, _⟩ := h
    rfl
  · obtain ⟨a, ns, rfl, hS, q⟩ := h
    obtain ⟨ms, em⟩ : ∃ ms : List Int, cutV (ns.map V.int) none (some 63) = ms.map V.int := by
      unfold cutV
      rw [← List.map_drop, ← List.map_take]
      exact ⟨_, rfl⟩
    refine ⟨_, pss_cons (ps_set (i := 1) scBag.nd rfl (.inl rfl) pe_int)
      (pss_cons (ps_for PassesOwn.never rfl (pi_list (pe_slice sl_list (pv 0) po_none (po_some pe_int))) (pg_name (i := 2) scBag.nd rfl (.inl rfl))
        (pss_one (ps_set (i := 1) scBag.nd rfl (.inl rfl) (pe_op op_mod (pe_callTy call_int1 (by rfl) mi (by decide +kernel) (pa_cons (pe_op op_add (pe_op op_add (pe_op op_mul (pv 1) pe_int) (pe_op op_mod (pe_callTy call_int1 (by rfl) mi (by decide +kernel) (pa_cons (pv 2) pa_nil)) pe_int)) pe_int) pa_nil)) pe_int))))
      (pss_one (ps_ret (pe_lst (pa_cons (pe_callTy call_list_of (by rfl) ml (by decide +kernel) (pa_cons (pe_slice sl_list (pv 0) po_none (po_some pe_int)) pa_nil)) (pa_cons pe_int (pa_cons pe_int (pa_cons (pv 1) pa_nil)))))))), ?_⟩
    refine ⟨_, rfl, _, rfl, a, _, rfl, hS, fun c nc => ?_⟩
    rw [em]
    have s1 : Same H (upd H c (.lst (ms.map V.int))) := same_new nc
    refine ⟨c, rfl, ⟨_, SqL.of upd_same⟩, for_list (K := K) (a := c) (xs := ms.map V.int) (fun i σ H2 => ∃ (z : Int) (v : Option V), σ = [some (.ref a), some (.int z), v] ∧ 0 ≤ z ∧ z < 2147483647 ∧ H2 = upd H c (.lst (ms.map V.int)))
      ⟨3823, none, rfl, by decide, by decide, rfl⟩ (fun i σ H2 _ ⟨_, _, _, _, _, e⟩ => by rw [e]; exact SqL.of upd_same) ?_ ?_⟩
    · rintro i y σ H2 hi ⟨z, v, rfl, z0, z1, rfl⟩
      obtain ⟨u, hu, rfl⟩ := map_get hi
      refine ⟨_, rfl, _, _, rfl, rfl, .inl ⟨by omega, by omega⟩, _, rfl, .inl ⟨_, rfl, ?_⟩⟩
      refine ⟨_, _, rfl, rfl, (by show (0 : Int) < 2147483579; decide), _, _, rfl, rfl, _, _, rfl, rfl, .inl ⟨_, rfl, ?_⟩⟩
      refine ⟨_, _, rfl, rfl, (by show (0 : Int) < 2147483647; decide), ?_⟩
      exact ⟨_, _, rfl, Int.emod_nonneg _ (by decide), Int.emod_lt_of_pos _ (by decide), rfl⟩
    · rintro σ H2 ⟨z, v, rfl, z0, z1, rfl⟩
      refine ⟨_, rfl, _, rfl, a, _, rfl, s1.seq hS, fun c2 nc2 => ?_⟩
      rw [em]
      have s2 := same_new (o := .lst (ms.map V.int)) nc2
      refine ⟨c2, _, rfl, .inl (SqL.of upd_same), fun l nl => ?_⟩
      have s3 := same_new (o := .lst (ms.map V.int)) nl
      refine ⟨_, rfl, (by show 4 ≤ sizeLine; decide), fun b nb => ?_⟩
      have s4 := same_new (o := .lst [.ref l, .int 0, .int 0, .int z]) nb
      refine q _ b l (((s1.trans s2).trans s3).trans s4) (((s1.trans s2).trans s3).free nb) ((s1.trans s2).free nl) ⟨ms, 0, 0, z, upd_same, ?_, by decide, by omega, by decide, z0, z1⟩
      exact s4 _ _ upd_same
theorem ok_mixed {f fP : Addr} {fd fdP : FuncData} {k : Nat} (F : Fun K "_law_mixed" "_law_mixed" sMixed f fd) (ml : mg "len" = none) (GP : FnOk P w K mg base CX0 (k + 1) fP fdP ["_law_bag_here", "_law_amount"] spPull)
    (kp : PySem.W.keepIn K (.ref fP) = true) (bP : Binds K fdP ["_law_bag_here", "_law_amount"] []) (gP : mg "_law_pull" = some (.ref fP)) :
    FnOk P w K mg base CX0 (k + 2) f fd ["_law_bag_here", "_law_things"] (spMixed K) := by
  refine F.ok scMixed (fun vs H Q E h => ?_) (fun cdv A outer s H vs Q E hr h => ?_)
  · obtain ⟨b, l, t, xs, rfl, _⟩ := h
    rfl
  · obtain ⟨b, l, t, xs, rfl, B, nt, hS, l1, q⟩ := h
    refine ⟨_, pss_cons (ps_set (i := 2) scMixed.nd rfl (.inl rfl) (pe_lst pa_nil))
      (pss_cons (ps_for PassesOwn.never rfl (pi_list (pv 1)) (pg_name (i := 3) scMixed.nd rfl (.inl rfl))
        (pss_one (ps_expr (pe_bm PySem.F.plainAttrs_list PySem.F.slot_list_insert PySem.F.type_list_insert mt_insert (pv 2) (pa_cons (pe_call GP hr (by rfl) gP kp bP .nil pass0 (pa_cons (pv 0) (pa_cons (pe_op op_add (pe_callB call_len_seq (by rfl) ml PySem.boot_len (pa_cons (pv 2) pa_nil)) pe_int) pa_nil))) (pa_cons (pv 3) pa_nil))))))
      (pss_one (ps_ret (pv 2)))), ?_⟩
    refine ⟨Nat.zero_le _, fun o no => ?_⟩
    have nob := B.nb no
    have nol := B.nl no
    have s0 := same_new (o := .lst []) no
    have nto : ∀ ys, SqL K H t ys → t ≠ o ∨ True := fun _ _ => .inr trivial
    have hS1 : SqL K (upd H o (.lst [])) t xs := s0.seq hS
    refine ⟨_, rfl, t, rfl, ⟨_, hS1⟩, for_list (K := K) (a := t) (xs := xs) (fun i σ H2 => ∃ (v : Option V) (ys : List V), σ = [some (.ref b), some (.ref t), some (.ref o), v] ∧ ys.Perm (xs.take i) ∧ H2 o = some (.lst ys) ∧ BagAt H2 b l ∧ But b H H2)
      ⟨none, [], rfl, by simp, upd_same, B.new no, new_but no⟩ (fun i σ H2 _ ⟨_, _, _, _, _, _, bt⟩ => bt.seq nt hS) ?_ ?_⟩
    · rintro i y σ H2 hi ⟨v, ys, rfl, pm, ho, B2, bt⟩
      have hi2 : i < xs.length := (List.getElem?_eq_some_iff.mp hi).1
      have ly : ys.length = i := by
        rw [pm.length_eq, List.length_take]
        omega
      refine ⟨_, rfl, .inl ⟨rfl, _, SqL.of ho⟩, _, rfl, _, rfl, o, _, rfl, .inl (SqL.of ho), _, _, rfl, rfl, b, l, _, rfl, B2, by omega, ?_, fun g H3 g0 g1 B3 bt3 => ?_⟩
      · have : (((ys.length : Int) + 1)).natAbs < 1000 := by omega
        exact Nat.lt_trans this (by decide)
      · have ho3 := bt3 o _ nob ho
        refine ⟨_, rfl, o, ys, g, y, rfl, rfl, ho3, ?_, g0, by omega, ?_⟩
        · exact Nat.lt_of_le_of_lt (show ys.length ≤ 100 by omega) (by decide)
        · refine ⟨_, _, rfl, ?_, upd_same, B3.upd nob nol, ?_⟩
          · rw [take_more hi]
            refine List.Perm.trans ?_ (List.Perm.append_right [y] pm)
            have e : ys = ys.take g.toNat ++ ys.drop g.toNat := (List.take_append_drop _ _).symm
            conv => rhs; rw [e]
            rw [List.append_assoc, List.append_assoc]
            exact List.Perm.append_left _ List.perm_append_comm
          · intro a u na hu
            have nao : a ≠ o := ne_of_none hu no
            rw [upd_ne nao]
            exact bt3 a u na (bt a u na hu)
    · rintro σ H2 ⟨v, ys, rfl, pm, ho, B2, bt⟩
      rw [List.take_length] at pm
      exact ⟨_, rfl, q ys H2 o pm no ho B2 bt⟩
theorem ok_count {f : Addr} {fd : FuncData} {k : Nat} (F : Fun K "_law_count" "_law_count" sCount f fd) : FnOk P w K mg base CX0 (k + 1) f fd ["_law_divisors_here"] (spCount K) := by
  refine F.ok scCount (fun vs H Q E h => ?_) (fun cdv A outer s H vs Q E hr h => ?_)
  · obtain ⟨a, ns, rfl, _⟩ := h
    rfl
  · obtain ⟨a, ns, rfl, hS, D, q⟩ := h
    refine ⟨_, pss_cons (ps_set (i := 1) scCount.nd rfl (.inl rfl) pe_int)
      (pss_cons (ps_for PassesOwn.never rfl (pi_tup (pv 0)) (pg_name (i := 2) scCount.nd rfl (.inl rfl)) (pss_one (ps_set (i := 1) scCount.nd rfl (.inl rfl) (pe_op op_mul (pv 1) (pv 2)))))
      (pss_one (ps_ret (pv 1)))), ?_⟩
    refine ⟨_, rfl, a, rfl, ⟨_, hS⟩, for_tup (K := K) (a := a) (xs := ns.map V.int) (fun i σ H2 => ∃ (v : Option V), σ = [some (.ref a), some (.int (prodL (ns.take i))), v] ∧ H2 = H)
      ⟨none, rfl, rfl⟩ (fun i σ H2 _ ⟨_, _, e⟩ => by rw [e]; exact hS) ?_ ?_⟩
    · rintro i y σ H2 hi ⟨v, rfl, rfl⟩
      obtain ⟨u, hu, rfl⟩ := map_get hi
      have pt := D.part i
      refine ⟨_, rfl, _, rfl, _, _, rfl, rfl, .inl ⟨by omega, by omega⟩, some (.int u), ?_, rfl⟩
      rw [take_more hu, prodL_app]
      rfl
    · rintro σ H2 ⟨v, rfl, rfl⟩
      refine ⟨_, rfl, ?_⟩
      rw [List.length_map, List.take_length]
      exact q
theorem ok_product {f : Addr} {fd : FuncData} {k : Nat} (F : Fun K "product" "product" sProduct f fd) : FnOk P w K mg base CX0 (k + 1) f fd ["numbers"] (spCount K) := by
  refine F.ok scProduct (fun vs H Q E h => ?_) (fun cdv A outer s H vs Q E hr h => ?_)
  · obtain ⟨a, ns, rfl, _⟩ := h
    rfl
  · obtain ⟨a, ns, rfl, hS, D, q⟩ := h
    refine ⟨_, pss_cons (ps_set (i := 1) scProduct.nd rfl (.inl rfl) pe_int)
      (pss_cons (ps_for PassesOwn.never rfl (pi_tup (pv 0)) (pg_name (i := 2) scProduct.nd rfl (.inl rfl)) (pss_one (ps_set (i := 1) scProduct.nd rfl (.inl rfl) (pe_op op_mul (pv 1) (pv 2)))))
      (pss_one (ps_ret (pv 1)))), ?_⟩
    refine ⟨_, rfl, a, rfl, ⟨_, hS⟩, for_tup (K := K) (a := a) (xs := ns.map V.int) (fun i σ H2 => ∃ (v : Option V), σ = [some (.ref a), some (.int (prodL (ns.take i))), v] ∧ H2 = H)
      ⟨none, rfl, rfl⟩ (fun i σ H2 _ ⟨_, _, e⟩ => by rw [e]; exact hS) ?_ ?_⟩
    · rintro i y σ H2 hi ⟨v, rfl, rfl⟩
      obtain ⟨u, hu, rfl⟩ := map_get hi
      have pt := D.part i
      refine ⟨_, rfl, _, rfl, _, _, rfl, rfl, .inl ⟨by omega, by omega⟩, some (.int u), ?_, rfl⟩
      rw [take_more hu, prodL_app]
      rfl
    · rintro σ H2 ⟨v, rfl, rfl⟩
      refine ⟨_, rfl, ?_⟩
      rw [List.length_map, List.take_length]
      exact q
end
end Lk

namespace Lk
open PySem L2
section
variable {P : Program} {w : World} {K : PySem.W.Frag} {mg : Str → Option Value} {base : Heap}
theorem ok_place {f fP : Addr} {fd fdP : FuncData} {k : Nat} (F : Fun K "_law_place" "_law_place" sPlace f fd) (mt : mg "tuple" = none) (mr : mg "range" = none) (GP : FnOk P w K mg base CX0 (k + 1) fP fdP ["_law_bag_here", "_law_amount"] spPull)
    (kp : PySem.W.keepIn K (.ref fP) = true) (bP : Binds K fdP ["_law_bag_here", "_law_amount"] []) (gP : mg "_law_pull" = some (.ref fP)) :
    FnOk P w K mg base CX0 (k + 2) f fd ["_law_bag_here", "_law_directions", "_law_size"] spPlace := by
  refine F.ok scPlace (fun vs H Q E h => ?_) (fun cdv A outer s H vs Q E hr h => ?_)
  · obtain ⟨b, l, d, z, rfl, _⟩ := h
    rfl
  · obtain ⟨b, l, d, z, rfl, B, d0, d1, z0, z1, q⟩ := h
    refine ⟨_, pss_one (ps_ret (pe_callTy call_tuple_of (by rfl) mt (by decide +kernel) (pa_cons (pe_lc (own := [("_law_at", 3)]) (g := gName 3) (by rfl) scPlace.nd (pi_range1 (by rfl) mr (pa_cons (pv 1) pa_nil))
      (blkOk_by (own := [("_law_at", 3)]) (N := ["_law_bag_here", "_law_directions", "_law_size", "_law_at"]) (sc := defScope sPlace) (by decide +kernel))
      (fun _ _ _ _ _ => pg_name (i := 3) scPlace.nd rfl (Or.inl rfl)) (fun _ _ _ _ _ => pts_nil)
      (fun _ _ _ _ _ => pe_op op_sub (pe_call GP hr (by rfl) gP kp bP .nil pass0 (pa_cons (pv 0) (pa_cons (pe_op op_add (pe_op op_mul pe_int (pv 2)) pe_int) pa_nil))) (pv 2))) pa_nil))), ?_⟩
    refine ⟨_, rfl, d, rfl, by omega, by omega, fun D nD => ?_⟩
    have nDb := B.nb nD
    have nDl := B.nl nD
    refine lc_range (lo := 0) (n := d.toNat) (fun i H2 => ∃ ns : List Int, ns.length = i ∧ H2 D = some (.lst (ns.map V.int)) ∧ BagAt H2 b l ∧ But b H H2) ⟨[], rfl, upd_same, B.new nD, new_but nD⟩ ?_ ?_
    · rintro i H2 hi ⟨ns, hl, hD, B2, bt⟩
      refine ⟨rfl, ?_⟩
      refine ⟨_, rfl, _, rfl, _, _, rfl, rfl, .inl ⟨by decide, by decide⟩, _, _, rfl, rfl, b, l, _, rfl, B2, by omega, ?_, fun g H3 g0 g1 B3 bt3 => ?_⟩
      · have : ((2 * z + 1)).natAbs < 2 ^ 102 := by omega
        exact Nat.lt_trans this (by decide)
      · have hD3 := bt3 D _ nDb hD
        refine ⟨_, rfl, _, _, rfl, rfl, ns.map V.int, hD3, ?_, ns ++ [g - z], ?_, ?_, B3.upd nDb nDl, ?_⟩
        · rw [List.length_map]
          exact small1000 (by omega)
        · rw [List.length_append, hl]
          rfl
        · rw [upd_same, List.map_append]
          rfl
        · intro a u na hu
          rw [upd_ne (ne_of_none hu nD)]
          exact bt3 a u na (bt a u na hu)
    · rintro H2 ⟨ns, hl, hD, B2, bt⟩
      refine ⟨D, _, rfl, .inl ⟨SqL.of hD, fun p np => ?_⟩⟩
      exact q ns _ p (by omega) (bt.free B B2 np) upd_same (B2.new np) (bt.trans (new_but np))
theorem ok_divisors {f fP fM : Addr} {fd fdP fdM : FuncData} {k : Nat} (F : Fun K "_law_divisors" "_law_divisors" sDivisors f fd) (mt : mg "tuple" = none) (mr : mg "range" = none) (mm : mg "min" = none)
    (GP : FnOk P w K mg base CX0 (k + 1) fP fdP ["_law_bag_here", "_law_amount"] spPull) (kp : PySem.W.keepIn K (.ref fP) = true) (bP : Binds K fdP ["_law_bag_here", "_law_amount"] []) (gP : mg "_law_pull" = some (.ref fP))
    (GM : FnOk P w K mg base CX0 (k + 2) fM fdM ["_law_bag_here", "_law_things"] (spMixed K)) (kM : PySem.W.keepIn K (.ref fM) = true) (bM : Binds K fdM ["_law_bag_here", "_law_things"] []) (gM : mg "_law_mixed" = some (.ref fM)) :
    FnOk P w K mg base CX0 (k + 3) f fd ["_law_bag_here", "_law_directions"] spDivisors := by
  refine F.ok scDivisors (fun vs H Q E h => ?_) (fun cdv A outer s H vs Q E hr h => ?_)
  · obtain ⟨b, l, d, rfl, _⟩ := h
    rfl
  · obtain ⟨b, l, d, rfl, B, d0, d1, q⟩ := h
    have hr1 : Room (k + 1) _ := hr.mono (by omega)
    refine ⟨_, pss_cons (ps_par (i := 2) (j := 3) (by rfl) scDivisors.nd rfl rfl (by decide) rfl rfl (pa_cons (pe_lst pa_nil) (pa_cons pe_int pa_nil)) (by rfl))
      (pss_cons (ps_for PassesOwn.never rfl (pi_range1 (by rfl) mr (pa_cons (pv 1) pa_nil)) (pg_name (i := 4) scDivisors.nd rfl (.inl rfl))
        (pss_cons (ps_set (i := 5) scDivisors.nd rfl (.inl rfl) (pe_op op_add pe_int (pe_call GP hr1 (by rfl) gP kp bP .nil pass0 (pa_cons (pv 0) (pa_cons (pe_callB (call_min2 rfl) (by rfl) mm (by decide +kernel) (pa_cons (pv 3) (pa_cons (pe_ix ix_list (pe_lst (pa_cons pe_int (pa_cons pe_int (pa_cons pe_int pa_nil)))) (pe_call GP hr1 (by rfl) gP kp bP .nil pass0 (pa_cons (pv 0) (pa_cons pe_int pa_nil))) (fun _ _ => rfl)) pa_nil))) pa_nil)))))
        (pss_cons (ps_expr (pe_bm PySem.F.plainAttrs_list PySem.F.slot_list_append PySem.F.type_list_append mt_append (pv 2) (pa_cons (pv 5) pa_nil)))
        (pss_one (ps_set (i := 3) scDivisors.nd rfl (.inl rfl) (pe_op op_fdiv (pv 3) (pv 5)))))))
      (pss_one (ps_ret (pe_callTy call_tuple_of (by rfl) mt (by decide +kernel) (pa_cons (pe_call GM hr (by rfl) gM kM bM .nil pass0 (pa_cons (pv 0) (pa_cons (pv 2) pa_nil))) pa_nil))))), ?_⟩
    refine ⟨Nat.zero_le _, fun o no => ?_⟩
    have nob := B.nb no
    have nol := B.nl no
    refine ⟨_, _, rfl, ?_⟩
    refine ⟨_, rfl, d, rfl, by omega, by omega, for_range (lo := 0) (n := d.toNat) (fun i σ H2 => ∃ (v4 v5 : Option V) (ns : List Int) (left : Int), σ = [some (.ref b), some (.int d), some (.ref o), some (.int left), v4, v5] ∧ ns.length = i ∧ (∀ z ∈ ns, 1 ≤ z) ∧ 1 ≤ left ∧ prodL ns * left ≤ 12 ∧ H2 o = some (.lst (ns.map V.int)) ∧ BagAt H2 b l ∧ But b H H2)
      ⟨none, none, [], 12, rfl, rfl, by simp, by decide, by simp [prodL], upd_same, B.new no, new_but no⟩ ?_ ?_⟩
    · rintro i σ H2 hi ⟨v4, v5, ns, left, rfl, hl, h1, l1, l2, ho, B2, bt⟩
      have pp := prodL_pos h1
      have l12 : left ≤ 12 := by
        have : 1 * left ≤ prodL ns * left := Int.mul_le_mul_of_nonneg_right pp (by omega)
        omega
      refine ⟨_, rfl, _, rfl, (by show 3 ≤ sizeLine; decide), fun c nc => ?_⟩
      have B2c := B2.new (o := .lst [.int 4, .int 4, .int 12]) nc
      refine ⟨_, rfl, b, l, 3, rfl, B2c, by decide, by decide, fun g H3 g0 g1 B3 bt3 => ?_⟩
      have hc3 : H3 c = some (.lst [.int 4, .int 4, .int 12]) := bt3 c _ (B2.nb nc) upd_same
      obtain ⟨t, ht, t1, t12⟩ : ∃ t : Int, atI ([.int 4, .int 4, .int 12] : List V) g = some (.int t) ∧ 1 ≤ t ∧ t ≤ 12 := by
        have : g = 0 ∨ g = 1 ∨ g = 2 := by omega
        rcases this with rfl | rfl | rfl
        · exact ⟨4, atI_nat (j := 0) rfl, by decide, by decide⟩
        · exact ⟨4, atI_nat (j := 1) rfl, by decide, by decide⟩
        · exact ⟨12, atI_nat (j := 2) rfl, by decide, by decide⟩
      have ho3 : H3 o = some (.lst (ns.map V.int)) := bt3 o _ nob (by rw [upd_ne (ne_of_none ho nc)]; exact ho)
      have mn1 : 1 ≤ (if t < left then t else left) := by split <;> omega
      have mn2 : (if t < left then t else left) ≤ left := by split <;> omega
      refine ⟨c, _, _, _, rfl, rfl, SqL.of hc3, ht, left, t, rfl, b, l, _, rfl, B3, by omega, ?_, fun e H4 e0 e1 B4 bt4 => ?_⟩
      · have : (if t < left then t else left).natAbs < 100 := by omega
        exact Nat.lt_trans this (by decide)
      · have ho4 := bt4 o _ nob ho3
        refine ⟨_, _, rfl, rfl, ?_⟩
        refine ⟨_, rfl, .inl ⟨rfl, _, SqL.of ho4⟩, _, rfl, o, _, _, rfl, rfl, ho4, ?_, ?_⟩
        · rw [List.length_map]
          exact small1000 (by omega)
        · refine ⟨_, rfl, _, rfl, left, 1 + e, rfl, rfl, ⟨by omega, by omega⟩, ?_⟩
          refine ⟨_, _, ns ++ [1 + e], left / (1 + e), rfl, ?_, ?_, ?_, ?_, ?_, B4.upd nob nol, ?_⟩
          · rw [List.length_append, hl]
            rfl
          · intro y hy
            rcases List.mem_append.mp hy with hy | hy
            · exact h1 y hy
            · rw [List.mem_singleton.mp hy]
              omega
          · exact (Int.le_ediv_iff_mul_le (by omega)).mpr (by omega)
          · rw [prodL_app, Int.mul_assoc]
            exact Int.le_trans (Int.mul_le_mul_of_nonneg_left (Int.mul_ediv_self_le (by omega)) (by omega)) l2
          · rw [upd_same, List.map_append]
            rfl
          · intro a u na hu
            have nao : a ≠ o := ne_of_none hu no
            have h2 := bt a u na hu
            rw [upd_ne nao]
            refine bt4 a u na (bt3 a u na ?_)
            rw [upd_ne (ne_of_none h2 nc)]
            exact h2
    · rintro σ H2 ⟨v4, v5, ns, left, rfl, hl, h1, l1, l2, ho, B2, bt⟩
      have pp := prodL_pos h1
      refine ⟨_, rfl, _, rfl, b, l, o, _, rfl, B2, nob, SqL.of ho, ?_, fun ys H3 p pm np hp B3 bt3 => ?_⟩
      · rw [List.length_map]
        omega
      · obtain ⟨ms, em⟩ : ∃ ms : List Int, ys = ms.map V.int := by
          have : ∀ y ∈ ys, ∃ z, y = V.int z := fun y hy => by
            obtain ⟨z, _, e⟩ := List.mem_map.mp (pm.mem_iff.mp hy)
            exact ⟨z, e.symm⟩
          clear pm hp
          induction ys with
          | nil => exact ⟨[], rfl⟩
          | cons y r ih =>
            obtain ⟨z, rfl⟩ := this y List.mem_cons_self
            obtain ⟨ms, rfl⟩ := ih fun x hx => this x (List.mem_cons_of_mem _ hx)
            exact ⟨z :: ms, rfl⟩
        subst em
        have pm2 : ms.Perm ns := by
          have e := pm.filterMap (fun v => match v with | V.int z => some z | _ => none)
          rw [List.filterMap_map, List.filterMap_map] at e
          have e2 : ∀ l : List Int, List.filterMap ((fun v => match v with | V.int z => some z | _ => none) ∘ V.int) l = l := fun l => by
            induction l with
            | nil => rfl
            | cons x r ih => rw [List.filterMap_cons]; simp [ih]
          rw [e2, e2] at e
          exact e
        refine ⟨p, _, rfl, .inl ⟨SqL.of hp, fun t nt => ?_⟩⟩
        refine q ms _ t ?_ ⟨fun z hz => h1 z (pm2.mem_iff.mp hz), ?_⟩ ((bt.trans bt3).free B B3 nt) upd_same (B3.new nt) ((bt.trans bt3).trans (new_but nt))
        · rw [pm2.length_eq, hl]
          omega
        · rw [prodL_perm pm2]
          have : prodL ns * 1 ≤ prodL ns * left := Int.mul_le_mul_of_nonneg_left l1 (by omega)
          omega
end
end Lk

namespace Lk
open PySem L2
/-! ### the least of a tuple of ints -/
def rMinT (K : PySem.W.Frag) : List V → Hp → VK → Prop := fun vs H Q => ∃ (a : Addr) (ns : List Int), vs = [V.ref a] ∧ SqT K H a (ns.map V.int) ∧ 0 < ns.length ∧ ∀ m, m ∈ ns → Q (.int m) H
theorem cr_minT {X : Cx} (hc : X.calm = true) (hu : X.A.units + 1 < cLine) : CallR X (.builtin "min") (rMinT X.K) := by
  intro pins s σ H vs us Q I r h
  obtain ⟨a, ns, rfl, hs, hne, q⟩ := h
  obtain ⟨its, rv, hl, _⟩ := I.tuple hs
  rw [Vals.ref1 r]
  cases ns with
  | nil => exact absurd hne (by decide)
  | cons x xs =>
    have hA := PySem.W.HoldAll.of_ints (h := s.heap) rv.ints
    refine PySem.W.min_tuple_datum (α := Int) (x := x) (xs := xs) (I.ok.hd hc) hl (by simpa using hA) hu fun i v h' tk hi hv hk => ?_
    have hi2 : its[i]? = some v := by simpa using hi
    obtain ⟨z, hz, hzv⟩ := hA.at hi2
    obtain ⟨as, rd⟩ := hzv
    cases rd with
    | int n t => exact ⟨.int z, H, I.kept hk, ⟨t, rfl⟩, q z (List.mem_of_getElem? hz)⟩
theorem tyT {K : PySem.W.Frag} {H : Hp} {a : Addr} {xs : List V} (h : SqT K H a xs) : TyX K H (.ref a) (.type "tuple") := by
  rcases h with (h | ⟨o, h⟩) | ⟨o, its, n, hk, hc, _⟩
  · exact .base (.tup h)
  · exact .fTuple h
  · exact .kTuple hk hc
/-! ### mathematics -/
def clsF (l : List (Int × Int)) (n : Int) : Int := l.foldl (fun n q => n * q.1 + q.2 % q.1) n
def cls (ds ps : List Int) : Int := clsF (ds.zip ps) 0
theorem clsF_bound : ∀ (l : List (Int × Int)) (n m : Int), (∀ q ∈ l, 1 ≤ q.1) → 0 ≤ n → n < m → 0 ≤ clsF l n ∧ clsF l n < m * prodL (l.map (·.1))
  | [], n, m, _, h0, h1 => by simp [clsF, prodL, h0, h1]
  | (d, s) :: r, n, m, h, h0, h1 => by
    have hd : 1 ≤ d := h (d, s) List.mem_cons_self
    have r0 := Int.emod_nonneg s (show d ≠ 0 by omega)
    have r1 := Int.emod_lt_of_pos s (show 0 < d by omega)
    have z0 : 0 ≤ n * d := Int.mul_nonneg h0 (by omega)
    have z1 : n * d + d ≤ m * d := by
      have : (n + 1) * d ≤ m * d := Int.mul_le_mul_of_nonneg_right (by omega) (by omega)
      rw [Int.add_mul] at this
      omega
    have ih := clsF_bound r (n * d + s % d) (m * d) (fun q hq => h q (List.mem_cons_of_mem _ hq)) (by omega) (by omega)
    show 0 ≤ clsF r (n * d + s % d) ∧ clsF r (n * d + s % d) < m * (d * prodL (r.map (·.1)))
    rw [← Int.mul_assoc]
    exact ih
theorem zip_fst : ∀ (ds ps : List Int), ds.length = ps.length → (ds.zip ps).map (·.1) = ds
  | [], [], _ => rfl
  | [], _ :: _, h => by cases h
  | _ :: _, [], h => by cases h
  | d :: ds, p :: ps, h => by
    show d :: (ds.zip ps).map (·.1) = d :: ds
    rw [zip_fst ds ps (by simpa using h)]
theorem cls_bound {ds ps : List Int} (hl : ds.length = ps.length) (h : ∀ z ∈ ds, 1 ≤ z) (i : Nat) : 0 ≤ clsF ((ds.zip ps).take i) 0 ∧ clsF ((ds.zip ps).take i) 0 < prodL (ds.take i) := by
  have e : ((ds.zip ps).take i).map (·.1) = ds.take i := by rw [List.map_take, zip_fst _ _ hl]
  have b := clsF_bound ((ds.zip ps).take i) 0 1 (fun q hq => h _ (by
    have : q.1 ∈ (ds.zip ps).map (·.1) := List.mem_map.mpr ⟨q, List.mem_of_mem_take hq, rfl⟩
    rw [zip_fst _ _ hl] at this
    exact this)) (by decide) (by decide)
  rw [e, Int.one_mul] at b
  exact b
def dotL (rs ps : List Int) : Int := (List.zipWith (· * ·) rs ps).sum
/-! ### promises -/
def spIsNum : Sp := fun vs H Q _ => ∃ i, vs = [.int i] ∧ Q (.bl true) H
def spNums (K : PySem.W.Frag) : Sp := fun vs H Q _ => ∃ (a : Addr) (ns : List Int) (c : Int), vs = [.ref a, .int c] ∧ SqT K H a (ns.map V.int) ∧ (ns.length : Int) = c ∧ ns.length ≤ 1000 ∧ ∀ H', Same H H' → Q (.bl true) H'
def spSides (K : PySem.W.Frag) : Sp := fun vs H Q _ => ∃ (a : Addr) (ns : List Int), vs = [.ref a, .int 1] ∧ SqT K H a (ns.map V.int) ∧ 1 ≤ ns.length ∧ ns.length ≤ 3 ∧ (∀ z ∈ ns, 1 ≤ z) ∧ ∀ H', Same H H' → Q (.bl true) H'
def spChkPlace (K : PySem.W.Frag) : Sp := fun vs H Q _ => ∃ (a : Addr) (ns : List Int) (c : Int), vs = [.ref a, .int c] ∧ SqT K H a (ns.map V.int) ∧ (ns.length : Int) = c ∧ ns.length ≤ 1000 ∧ ∀ H', Same H H' → Q .non H'
def spChkDiv (K : PySem.W.Frag) : Sp := fun vs H Q _ => ∃ (a : Addr) (ns : List Int), vs = [.ref a] ∧ SqT K H a (ns.map V.int) ∧ 1 ≤ ns.length ∧ ns.length ≤ 3 ∧ Divs ns ∧ ∀ H', Same H H' → Q .non H'
def spClassCount (K : PySem.W.Frag) : Sp := fun vs H Q _ => ∃ (a : Addr) (ns : List Int), vs = [.ref a] ∧ SqT K H a (ns.map V.int) ∧ 1 ≤ ns.length ∧ ns.length ≤ 3 ∧ Divs ns ∧ ∀ H', Same H H' → Q (.int (prodL ns)) H'
def spClassAt (K : PySem.W.Frag) : Sp := fun vs H Q _ => ∃ (a c : Addr) (ds ps : List Int), vs = [.ref a, .ref c] ∧ SqT K H a (ds.map V.int) ∧ SqT K H c (ps.map V.int) ∧ ds.length = ps.length ∧ Divs ds ∧ ∀ H', Same H H' → Q (.int (cls ds ps)) H'
def spDot (K : PySem.W.Frag) : Sp := fun vs H Q _ => ∃ (a c : Addr) (rs ps : List Int), vs = [.ref a, .ref c] ∧ SqT K H a (rs.map V.int) ∧ SqT K H c (ps.map V.int) ∧ rs.length = ps.length ∧ rs.length ≤ 3 ∧ (∀ z ∈ rs, -(2 ^ 64) < z ∧ z < 2 ^ 64) ∧ ∀ H', Same H H' → Q (.int (dotL rs ps)) H'
section
variable {P : Program} {w : World} {K : PySem.W.Frag} {mg : Str → Option Value} {base : Heap}
theorem ok_isnum {f : Addr} {fd : FuncData} {k : Nat} (F : Fun K "is_number" "is_number" sIsNum f fd) (mi : mg "int" = none) (mb : mg "bool" = none) (ms : mg "isinstance" = none) : FnOk P w K mg base CX0 (k + 1) f fd ["value"] spIsNum := by
  refine F.ok scIsNum (fun vs H Q E h => ?_) (fun cdv A outer s H vs Q E hr h => ?_)
  · obtain ⟨i, rfl, _⟩ := h
    rfl
  · obtain ⟨i, rfl, q⟩ := h
    refine ⟨_, pss_one (ps_ret (pe_and (pe_callB call_isi (by rfl) ms (by decide +kernel) (pa_cons (pv 0) (pa_cons (pe_bltn (v := .ty "int") (by rfl) mi (by decide +kernel) rfl) pa_nil)))
      (pe_one (pe_not (pe_callB call_isi (by rfl) ms (by decide +kernel) (pa_cons (pv 0) (pa_cons (pe_bltn (v := .ty "bool") (by rfl) mb (by decide +kernel) rfl) pa_nil))))))), ?_⟩
    refine ⟨_, rfl, _, _, _, _, true, rfl, .ty _, .base (.int i), kit_ty (by decide +kernel), true, rfl, iteT ?_⟩
    exact ⟨_, rfl, _, _, _, _, false, rfl, .ty _, .base (.int i), kit_ty (by decide +kernel), false, rfl, q⟩
theorem ok_nums {f fN : Addr} {fd fdN : FuncData} {k : Nat} (F : Fun K "are_numbers" "are_numbers" sAreNums f fd) (ms : mg "isinstance" = none) (mt : mg "tuple" = none) (ml : mg "len" = none) (ma : mg "all" = none)
    (GN : FnOk P w K mg base CX0 (k + 1) fN fdN ["value"] spIsNum) (kN : PySem.W.keepIn K (.ref fN) = true) (bN : Binds K fdN ["value"] []) (gN : mg "is_number" = some (.ref fN)) : FnOk P w K mg base CX0 (k + 2) f fd ["value", "count"] (spNums K) := by
  refine F.ok scAreNums (fun vs H Q E h => ?_) (fun cdv A outer s H vs Q E hr h => ?_)
  · obtain ⟨a, ns, c, rfl, _⟩ := h
    rfl
  · obtain ⟨a, ns, c, rfl, hS, hc, h1, q⟩ := h
    refine ⟨_, pss_cons (ps_if (PW.pt (pw_or (pt_not (pt_val (pe_callB call_isi (by rfl) ms (by decide +kernel) (pa_cons (pv 0) (pa_cons (pe_bltn (v := .ty "tuple") (by rfl) mt (by decide +kernel) rfl) pa_nil)))))
        (pw_or1 (pt_cmpR op_ne (pe_callB call_len_seq (by rfl) ml PySem.boot_len (pa_cons (pv 0) pa_nil)) (pv 1) (nomark _))))) (pss_one (ps_ret pe_bl)) pss_nil)
      (pss_one (ps_ret (pe_callB (cr_all rfl) (by rfl) ma (by decide +kernel) (pa_cons (pe_lc (own := [("item", 2)]) (g := gName 2) (by rfl) scAreNums.nd (pi_tup (pv 0))
        (blkOk_by (own := [("item", 2)]) (N := ["value", "count", "item"]) (sc := defScope sAreNums) (by decide +kernel)) (fun _ _ _ _ _ => pg_name (i := 2) scAreNums.nd rfl (Or.inl rfl)) (fun _ _ _ _ _ => pts_nil)
        (fun _ _ _ _ _ => pe_call GN hr (by rfl) gN kN bN .nil pass0 (pa_cons (pv 2) pa_nil))) pa_nil)))), ?_⟩
    refine ⟨_, rfl, _, _, _, _, true, rfl, .ty _, tyT hS, kit_ty (by decide +kernel), true, rfl, iteF ?_⟩
    refine ⟨_, rfl, a, _, rfl, .inr hS, _, rfl, rfl, _, rfl, iteNS (by rw [List.length_map, hc]) ?_⟩
    refine ⟨_, rfl, a, rfl, ⟨_, hS⟩, fun D nD => ?_⟩
    refine lc_tup (K := K) (a := a) (xs := ns.map V.int) (fun i H2 => Same H H2 ∧ H2 D = some (.lst ((List.replicate i true).map V.bl))) ⟨same_new nD, upd_same⟩ (fun i H2 _ ⟨sm, _⟩ => Same.sqT sm hS) ?_ ?_
    · rintro i x H2 hx ⟨sm, hD⟩
      obtain ⟨u, hu, rfl⟩ := map_get hx
      refine ⟨rfl, _, rfl, u, rfl, _, hD, ?_, ?_, ?_⟩
      · rw [List.length_map, List.length_replicate]
        have := (List.getElem?_eq_some_iff.mp hu).1
        exact small1000 (by omega)
      · intro b o e
        rw [upd_ne (ne_of_none e nD)]
        exact sm b o e
      · rw [upd_same, List.replicate_succ', List.map_append]
        rfl
    · rintro H2 ⟨sm, hD⟩
      refine ⟨D, _, rfl, SqL.of hD, ?_⟩
      have e : (List.replicate (ns.map V.int).length true).all id = true := by simp
      rw [e]
      exact q H2 sm
theorem ok_sides {f fN : Addr} {fd fdN : FuncData} {k : Nat} (F : Fun K "are_sides" "are_sides" sAreSides f fd) (ms : mg "isinstance" = none) (mt : mg "tuple" = none) (ml : mg "len" = none) (mm : mg "min" = none) {t3 : Tok} (mD : mg "MAX_DIRECTIONS" = some (.int 3 t3))
    (GN : FnOk P w K mg base CX0 (k + 2) fN fdN ["value", "count"] (spNums K)) (kN : PySem.W.keepIn K (.ref fN) = true) (bN : Binds K fdN ["value", "count"] []) (gN : mg "are_numbers" = some (.ref fN)) : FnOk P w K mg base CX0 (k + 3) f fd ["value", "least"] (spSides K) := by
  refine F.ok scAreSides (fun vs H Q E h => ?_) (fun cdv A outer s H vs Q E hr h => ?_)
  · obtain ⟨a, ns, rfl, _⟩ := h
    rfl
  · obtain ⟨a, ns, rfl, hS, h1, h3, hp, q⟩ := h
    refine ⟨_, pss_cons (ps_if (PW.pt (pw_or (pt_not (pt_val (pe_callB call_isi (by rfl) ms (by decide +kernel) (pa_cons (pv 0) (pa_cons (pe_bltn (v := .ty "tuple") (by rfl) mt (by decide +kernel) rfl) pa_nil)))))
        (pw_or1 (pt_not (pt_chain op_le op_le pe_int (pe_callB call_len_seq (by rfl) ml PySem.boot_len (pa_cons (pv 0) pa_nil)) (pe_glob (v := .int 3) (by rfl) mD ⟨_, rfl⟩)))))) (pss_one (ps_ret pe_bl)) pss_nil)
      (pss_one (ps_ret (pe_and (pe_call GN hr (by rfl) gN kN bN .nil pass0 (pa_cons (pv 0) (pa_cons (pe_callB call_len_seq (by rfl) ml PySem.boot_len (pa_cons (pv 0) pa_nil)) pa_nil)))
        (pe_one (pe_cmpR op_ge (pe_callB (cr_minT rfl (hu_of hr)) (by rfl) mm (by decide +kernel) (pa_cons (pv 0) pa_nil)) (pv 1) (nomark _)))))), ?_⟩
    refine ⟨_, rfl, _, _, _, _, true, rfl, .ty _, tyT hS, kit_ty (by decide +kernel), true, rfl, iteF ?_⟩
    have hl : (ns.map V.int).length = ns.length := List.length_map ..
    refine ⟨_, rfl, a, _, rfl, .inr hS, _, _, rfl, rfl, true, ?_, iteT ?_⟩
    · exact congrArg V.bl (decide_eq_true (by rw [hl]; omega))
    · refine ⟨_, _, rfl, rfl, true, congrArg V.bl (decide_eq_true (by rw [hl]; omega)), iteF ?_⟩
      refine ⟨_, rfl, _, rfl, a, _, rfl, .inr hS, a, ns, _, rfl, hS, (by rw [hl]), by omega, fun H1 sm => ⟨true, rfl, iteT ?_⟩⟩
      refine ⟨_, rfl, a, ns, rfl, Same.sqT sm hS, by omega, fun m hm => ⟨_, rfl, _, _, rfl, rfl, ?_⟩⟩
      have e : decide ((1 : Int) ≤ m) = true := decide_eq_true (hp m hm)
      show Q (V.bl (decide ((1 : Int) ≤ m))) H1
      rw [e]
      exact q H1 sm
theorem ok_chkplace {f fN : Addr} {fd fdN : FuncData} {k : Nat} (F : Fun K "check_place" "check_place" sChkPlace f fd)
    (GN : FnOk P w K mg base CX0 (k + 2) fN fdN ["value", "count"] (spNums K)) (kN : PySem.W.keepIn K (.ref fN) = true) (bN : Binds K fdN ["value", "count"] []) (gN : mg "are_numbers" = some (.ref fN)) : FnOk P w K mg base CX0 (k + 3) f fd ["place", "directions"] (spChkPlace K) := by
  refine F.ok scChkPlace (fun vs H Q E h => ?_) (fun cdv A outer s H vs Q E hr h => ?_)
  · obtain ⟨a, ns, c, rfl, _⟩ := h
    rfl
  · obtain ⟨a, ns, c, rfl, hS, h1, h3, q⟩ := h
    refine ⟨_, pss_one (ps_if (pt_not (pt_val (pe_call GN hr (by rfl) gN kN bN .nil pass0 (pa_cons (pv 0) (pa_cons (pv 1) pa_nil))))) pss_never pss_nil), ?_⟩
    exact ⟨_, rfl, _, rfl, a, ns, c, rfl, hS, h1, h3, fun H1 sm => ⟨true, rfl, iteF (q H1 sm)⟩⟩
theorem ok_chkdiv {f fN fM : Addr} {fd fdN fdM : FuncData} {k : Nat} (F : Fun K "check_divisors" "check_divisors" sChkDiv f fd) {t3 : Tok} (mC : mg "MAX_CLASSES" = some (.int 12 t3))
    (GN : FnOk P w K mg base CX0 (k + 3) fN fdN ["value", "least"] (spSides K)) (kN : PySem.W.keepIn K (.ref fN) = true) (bN : Binds K fdN ["value", "least"] []) (gN : mg "are_sides" = some (.ref fN))
    (GM : FnOk P w K mg base CX0 (k + 1) fM fdM ["numbers"] (spCount K)) (kM : PySem.W.keepIn K (.ref fM) = true) (bM : Binds K fdM ["numbers"] []) (gM : mg "product" = some (.ref fM)) : FnOk P w K mg base CX0 (k + 4) f fd ["divisors"] (spChkDiv K) := by
  refine F.ok scChkDiv (fun vs H Q E h => ?_) (fun cdv A outer s H vs Q E hr h => ?_)
  · obtain ⟨a, ns, rfl, _⟩ := h
    rfl
  · obtain ⟨a, ns, rfl, hS, h1, h3, D, q⟩ := h
    have hr1 : Room (k + 1) _ := hr.mono (by omega)
    refine ⟨_, pss_cons (ps_if (pt_not (pt_val (pe_call GN hr (by rfl) gN kN bN .nil pass0 (pa_cons (pv 0) (pa_cons pe_int pa_nil))))) pss_never pss_nil)
      (pss_one (ps_if (pt_cmpR op_gt (pe_call GM hr1 (by rfl) gM kM bM .nil pass0 (pa_cons (pv 0) pa_nil)) (pe_glob (v := .int 12) (by rfl) mC ⟨_, rfl⟩) (nomark _)) pss_never pss_nil)), ?_⟩
    refine ⟨_, rfl, a, ns, rfl, hS, h1, h3, D.one, fun H1 sm => ⟨true, rfl, iteF ?_⟩⟩
    refine ⟨_, rfl, a, ns, rfl, Same.sqT sm hS, D, _, _, rfl, rfl, false, ?_, iteF (q H1 sm)⟩
    exact congrArg V.bl (decide_eq_false (by have := D.most; omega))
theorem ok_classcount {f fN fM : Addr} {fd fdN fdM : FuncData} {k : Nat} (F : Fun K "class_count" "class_count" sClassCount f fd)
    (GN : FnOk P w K mg base CX0 (k + 4) fN fdN ["divisors"] (spChkDiv K)) (kN : PySem.W.keepIn K (.ref fN) = true) (bN : Binds K fdN ["divisors"] []) (gN : mg "check_divisors" = some (.ref fN))
    (GM : FnOk P w K mg base CX0 (k + 1) fM fdM ["numbers"] (spCount K)) (kM : PySem.W.keepIn K (.ref fM) = true) (bM : Binds K fdM ["numbers"] []) (gM : mg "product" = some (.ref fM)) : FnOk P w K mg base CX0 (k + 5) f fd ["divisors"] (spClassCount K) := by
  refine F.ok scClassCount (fun vs H Q E h => ?_) (fun cdv A outer s H vs Q E hr h => ?_)
  · obtain ⟨a, ns, rfl, _⟩ := h
    rfl
  · obtain ⟨a, ns, rfl, hS, h1, h3, D, q⟩ := h
    have hr1 : Room (k + 1) _ := hr.mono (by omega)
    refine ⟨_, pss_cons (ps_expr (pe_call GN hr (by rfl) gN kN bN .nil pass0 (pa_cons (pv 0) pa_nil))) (pss_one (ps_ret (pe_call GM hr1 (by rfl) gM kM bM .nil pass0 (pa_cons (pv 0) pa_nil)))), ?_⟩
    exact ⟨_, rfl, a, ns, rfl, hS, h1, h3, D, fun H1 sm => ⟨_, rfl, a, ns, rfl, Same.sqT sm hS, D, q H1 sm⟩⟩
theorem ok_classat {f : Addr} {fd : FuncData} {k : Nat} (F : Fun K "class_at" "class_at" sClassAt f fd) (mz : mg "zip" = none) : FnOk P w K mg base CX0 (k + 1) f fd ["divisors", "place"] (spClassAt K) := by
  refine F.ok scClassAt (fun vs H Q E h => ?_) (fun cdv A outer s H vs Q E hr h => ?_)
  · obtain ⟨a, c, ds, ps, rfl, _⟩ := h
    rfl
  · obtain ⟨a, c, ds, ps, rfl, hA, hB, hl, D, q⟩ := h
    refine ⟨_, pss_cons (ps_set (i := 2) scClassAt.nd rfl (.inl rfl) pe_int)
      (pss_cons (ps_for PassesOwn.never rfl (RZ.pi_zipA (by rfl) mz (pa_cons (pv 0) (pa_cons (pv 1) pa_nil))) (pg_tup rfl (pgs_cons (pg_name (i := 3) scClassAt.nd rfl (.inl rfl)) (pgs_cons (pg_name (i := 4) scClassAt.nd rfl (.inl rfl)) pgs_nil)))
        (pss_one (ps_set (i := 2) scClassAt.nd rfl (.inl rfl) (pe_op op_add (pe_op op_mul (pv 2) (pv 3)) (pe_op op_mod (pv 4) (pv 3))))))
      (pss_one (ps_ret (pv 2)))), ?_⟩
    have hle : (ds.map V.int).length = (ps.map V.int).length := by rw [List.length_map, List.length_map, hl]
    refine ⟨_, rfl, _, rfl, a, c, _, _, rfl, .inr ⟨hA, hB, ?_⟩⟩
    refine for_it (walk_zipT hle) (fun i σ H2 => ∃ v3 v4 : Option V, σ = [some (.ref a), some (.ref c), some (.int (clsF ((ds.zip ps).take i) 0)), v3, v4] ∧ Same H H2) ⟨none, none, rfl, Same.refl _⟩ (fun i σ H2 _ ⟨_, _, _, sm⟩ => ⟨Same.sqT sm hA, Same.sqT sm hB⟩) ?_ ?_
    · rintro i x σ H2 H3 hi ⟨v3, v4, rfl, sm⟩ ⟨T, x1, x2, rfl, nT, rfl, f1, f2⟩
      obtain ⟨u, hu, rfl⟩ := map_get f1
      obtain ⟨v, hv, rfl⟩ := map_get f2
      have bd := cls_bound hl D.one i
      have pt := D.part i
      have hu1 := D.one u (List.mem_of_getElem? hu)
      have gz : (ds.zip ps)[i]? = some (u, v) := by
        rw [List.getElem?_zip_eq_some]
        exact ⟨hu, hv⟩
      refine ⟨T, _, rfl, SqT.of upd_same, rfl, _, _, rfl, _, _, rfl, rfl, ?_⟩
      refine ⟨_, rfl, _, rfl, _, _, rfl, rfl, .inl ⟨by omega, by omega⟩, _, rfl, _, rfl, _, _, rfl, rfl, (by show (0 : Int) < u; omega), _, _, rfl, rfl, ?_⟩
      refine ⟨some (.int u), some (.int v), ?_, sm.trans (same_new nT)⟩
      rw [take_more gz]
      unfold clsF
      rw [List.foldl_append]
      rfl
    · rintro σ H2 ⟨v3, v4, rfl, sm⟩
      refine ⟨_, rfl, ?_⟩
      rw [List.take_of_length_le (by rw [List.length_zip, List.length_map]; omega)]
      exact q H2 sm
end
end Lk

namespace PySem
open PySem.AutoSeq1
theorem lk_extend_tuple (l : Addr) (items : Array Value) (n : Nat) (b : Addr) (items2 : Array Value) (n2 : Nat) (od : Option Addr) (sl : Array (Option Value)) (hs0 : ¬(!items.isEmpty && Builtin.List.listTooLong (items.size + items2.size)) = true) (hs1 : items.size ≤ sizeLine) (hs2 : items.size + items2.size ≤ sizeLine + 1) :
    Meets (Builtin.«list.extend» ⟨[.ref l, .ref b], []⟩) (fun _ R s => s.heap.get? l = some { cls := .type "list", dict := none, data := .seq items n, slots := #[] } ∧ s.heap.get? b = some { cls := .type "tuple", dict := od, data := .seq items2 n2, slots := sl } ∧
      R (.ok (.ret Value.none)) { s with heap := s.heap.update l (Obj.mapSeq fun x => x ++ items2), toks := s.toks }) :=
  .of_wp fun prog w A R s h => by
    obtain ⟨hp, g, d, tk, os⟩ := s
    obtain ⟨hl, hb, h⟩ := h
    have f1 := idx_int
    have f2 := sub_tuple_tuple
    have f3 := sub_list_list
    have f4 := sub_tuple_list
    have f5 := sub_list_tuple
    have hz' : (items ++ items2).size ≤ sizeLine + 1 := by
      rw [Array.size_append]
      exact hs2
    wp_walk using (wpAny_updateSeq hl rfl (hz := hs1) (_hz' := hz')), wpAny_loadPart' hl, wpAny_loadPart' hb
    exact ⟨_, rfl, h⟩
end PySem
namespace Lk
open PySem L2
def rExtT (K : PySem.W.Frag) : V → List V → Hp → VK → Prop := fun x vs H Q => ∃ l b xs zs, x = .ref l ∧ vs = [.ref b] ∧ H l = some (.lst xs) ∧ SqT K H b zs ∧ xs.length + zs.length ≤ sizeLine ∧ Q .non (upd H l (.lst (xs ++ zs)))
theorem mt_extT {X : Cx} : MtM X "list.extend" (rExtT X.K) := by
  intro pins s σ H x vs v us Q I rx rv h
  obtain ⟨l, b, xs, zs, rfl, rfl, hH, hB, hz, q⟩ := h
  cases rx
  obtain ⟨u, rfl, ru⟩ := rv.one
  cases ru
  obtain ⟨z, its, n, r, hl, e⟩ := I.lstM hH
  obtain ⟨its2, r2, ⟨o, e2, hcl, n2, hdt⟩, z2⟩ := I.tuple hB
  obtain ⟨oc, od, dt, sl⟩ := o
  simp only at hcl hdt
  subst hcl hdt
  have q1 := r.length
  have q2 := r2.length
  have hsz : its.toArray.size + its2.toArray.size ≤ sizeLine := by
    rw [List.size_toArray, List.size_toArray]
    omega
  have hlong : ¬ (!its.toArray.isEmpty && Builtin.List.listTooLong (its.toArray.size + its2.toArray.size)) = true := by
    rw [notLongL hsz, Bool.and_false]
    exact Bool.false_ne_true
  refine call_meets F.slot_list_extend ⟨_, e, rfl⟩ F.entry_list_extend (F.args_list_extend_2 _ _) (lk_extend_tuple l its.toArray n b its2.toArray n2 od sl hlong (by rw [List.size_toArray]; omega) (by omega)) ⟨e, e2, ?_⟩
  refine ⟨.non, _, I.lset (its' := its ++ its2) hH e (by simp) (r.append r2) ?_, rfl, q⟩
  rw [List.length_append]
  omega
end Lk

namespace Lk
open PySem L2
/-! ### trees -/
mutual
inductive Tr where
  | pl
  | key (row hs : List Int) (t : Tr)
  | fork (gs : Gs)
inductive Gs where
  | nil
  | cons (cs : List Int) (t : Tr) (r : Gs)
end
mutual
def Tr.size : Tr → Nat
  | .pl => 1
  | .key _ _ t => t.size + 1
  | .fork gs => gs.size + 1
def Gs.size : Gs → Nat
  | .nil => 0
  | .cons _ t r => t.size + r.size
end
mutual
def Tr.dep : Tr → Nat
  | .pl => 1
  | .key _ _ t => t.dep + 1
  | .fork gs => gs.dep + 1
def Gs.dep : Gs → Nat
  | .nil => 0
  | .cons _ t r => max t.dep r.dep
end
def Gs.classes : Gs → List Int
  | .nil => []
  | .cons cs _ r => cs ++ r.classes
def Gs.trees : Gs → List Tr
  | .nil => []
  | .cons _ t r => t :: r.trees
def Gs.heads : Gs → List (List Int)
  | .nil => []
  | .cons cs _ r => cs :: r.heads
def rng0 (n : Nat) : List Int := (List.range n).map fun i => ((i : Nat) : Int)
mutual
def Tr.wf (d n : Nat) : Tr → Prop
  | .pl => True
  | .key row hs t => row.length = d ∧ hs.length = n ∧ (∀ z ∈ row, -(2 ^ 64) < z ∧ z < 2 ^ 64) ∧ t.wf d n
  | .fork gs => gs.classes.Perm (rng0 n) ∧ gs.wf d n
def Gs.wf (d n : Nat) : Gs → Prop
  | .nil => True
  | .cons cs t r => (cs ≠ [] ∧ cs.Pairwise (· < ·)) ∧ t.wf d n ∧ r.wf d n
end
mutual
def TrAt (K : PySem.W.Frag) (H : Hp) : Tr → V → Prop
  | .pl, v => ∃ a, v = .ref a ∧ SqT K H a [.str "places"]
  | .key row hs t, v => ∃ a ra ha tv, v = .ref a ∧ SqT K H a [.str "key", .ref ra, .ref ha, tv] ∧ SqT K H ra (row.map V.int) ∧ SqT K H ha (hs.map V.int) ∧ TrAt K H t tv
  | .fork gs, v => ∃ a ga vs, v = .ref a ∧ SqT K H a [.str "fork", .ref ga] ∧ SqT K H ga vs ∧ GsAt K H gs vs
def GsAt (K : PySem.W.Frag) (H : Hp) : Gs → List V → Prop
  | .nil, vs => vs = []
  | .cons cs t r, vs => ∃ pa ca tv vr, vs = .ref pa :: vr ∧ SqT K H pa [.ref ca, tv] ∧ SqT K H ca (cs.map V.int) ∧ TrAt K H t tv ∧ GsAt K H r vr
end
def Tups (K : PySem.W.Frag) (H H' : Hp) : Prop := ∀ a xs, SqT K H a xs → SqT K H' a xs
theorem Same.tups {K : PySem.W.Frag} {H H' : Hp} (e : Same H H') : Tups K H H' := fun _ _ h => Same.sqT e h
theorem But.tups {K : PySem.W.Frag} {b l : Addr} {H H' : Hp} (B : BagAt H b l) (e : But b H H') : Tups K H H' := fun _ _ h => e.sqT B h
mutual
theorem TrAt.mono {K : PySem.W.Frag} {H H' : Hp} (e : Tups K H H') : ∀ {t : Tr} {v : V}, TrAt K H t v → TrAt K H' t v
  | .pl, v, h => by
    simp only [TrAt] at h ⊢
    obtain ⟨a, h1, h2⟩ := h
    exact ⟨a, h1, e _ _ h2⟩
  | .key row hs t, v, h => by
    simp only [TrAt] at h ⊢
    obtain ⟨a, ra, ha, tv, h1, h2, h3, h4, h5⟩ := h
    exact ⟨a, ra, ha, tv, h1, e _ _ h2, e _ _ h3, e _ _ h4, TrAt.mono e h5⟩
  | .fork gs, v, h => by
    simp only [TrAt] at h ⊢
    obtain ⟨a, ga, vs, h1, h2, h3, h4⟩ := h
    exact ⟨a, ga, vs, h1, e _ _ h2, e _ _ h3, GsAt.mono e h4⟩
theorem GsAt.mono {K : PySem.W.Frag} {H H' : Hp} (e : Tups K H H') : ∀ {g : Gs} {vs : List V}, GsAt K H g vs → GsAt K H' g vs
  | .nil, vs, h => by
    simp only [GsAt] at h ⊢
    exact h
  | .cons cs t r, vs, h => by
    simp only [GsAt] at h ⊢
    obtain ⟨pa, ca, tv, vr, h1, h2, h3, h4, h5⟩ := h
    exact ⟨pa, ca, tv, vr, h1, e _ _ h2, e _ _ h3, TrAt.mono e h4, GsAt.mono e h5⟩
end
/-! ### as data -/
mutual
def Tr.toD : Tr → PyData
  | .pl => .tuple [.str "places"]
  | .key row hs t => .tuple [.str "key", .tuple (row.map .int), .tuple (hs.map .int), t.toD]
  | .fork gs => .tuple [.str "fork", .tuple gs.toDs]
def Gs.toDs : Gs → List PyData
  | .nil => []
  | .cons cs t r => .tuple [.tuple (cs.map .int), t.toD] :: r.toDs
end
theorem dpInts {K : PySem.W.Frag} {H : Hp} : ∀ ns : List Int, DpAll K H (ns.map V.int) (ns.map PyData.int)
  | [] => .nil
  | n :: r => .cons (.int n) (dpInts r)
mutual
theorem TrAt.dp {K : PySem.W.Frag} {H : Hp} : ∀ {t : Tr} {v : V}, TrAt K H t v → Dp K H v t.toD
  | .pl, v, h => by
    simp only [TrAt] at h
    obtain ⟨a, rfl, h2⟩ := h
    exact .tup h2 (.cons (.str _) .nil)
  | .key row hs t, v, h => by
    simp only [TrAt] at h
    obtain ⟨a, ra, ha, tv, rfl, h2, h3, h4, h5⟩ := h
    exact .tup h2 (.cons (.str _) (.cons (.tup h3 (dpInts _)) (.cons (.tup h4 (dpInts _)) (.cons (TrAt.dp h5) .nil))))
  | .fork gs, v, h => by
    simp only [TrAt] at h
    obtain ⟨a, ga, vs, rfl, h2, h3, h4⟩ := h
    exact .tup h2 (.cons (.str _) (.cons (.tup h3 (GsAt.dp h4)) .nil))
theorem GsAt.dp {K : PySem.W.Frag} {H : Hp} : ∀ {g : Gs} {vs : List V}, GsAt K H g vs → DpAll K H vs g.toDs
  | .nil, vs, h => by
    simp only [GsAt] at h
    subst h
    exact .nil
  | .cons cs t r, vs, h => by
    simp only [GsAt] at h
    obtain ⟨pa, ca, tv, vr, rfl, h2, h3, h4, h5⟩ := h
    exact .cons (.tup h2 (.cons (.tup h3 (dpInts _)) (.cons (TrAt.dp h4) .nil))) (GsAt.dp h5)
end
theorem canInts : ∀ ns : List Int, PyData.canLayAll0 (ns.map PyData.int) = true
  | [] => rfl
  | _ :: r => by simp [PyData.canLayAll0, PyData.canLay0, canInts r]
theorem depInts : ∀ ns : List Int, PyData.depthAll (ns.map PyData.int) = 0
  | [] => rfl
  | _ :: r => by simp [PyData.depthAll, PyData.depth, depInts r]
theorem okP : PyData.strOk (Str.ofString "places") = true := by decide +kernel
theorem okK : PyData.strOk (Str.ofString "key") = true := by decide +kernel
theorem okF : PyData.strOk (Str.ofString "fork") = true := by decide +kernel
mutual
theorem Tr.can : ∀ t : Tr, t.toD.canLay0 = true
  | .pl => by simp [Tr.toD, PyData.canLay0, PyData.canLayAll0, okP]
  | .key row hs t => by simp [Tr.toD, PyData.canLay0, PyData.canLayAll0, canInts, Tr.can t, okK]
  | .fork gs => by simp [Tr.toD, PyData.canLay0, PyData.canLayAll0, Gs.can gs, okF]
theorem Gs.can : ∀ g : Gs, PyData.canLayAll0 g.toDs = true
  | .nil => by simp [Gs.toDs, PyData.canLayAll0]
  | .cons cs t r => by simp [Gs.toDs, PyData.canLay0, PyData.canLayAll0, canInts, Tr.can t, Gs.can r]
end
mutual
theorem Tr.deep : ∀ t : Tr, t.toD.depth ≤ 3 * t.dep ∧ 1 ≤ t.dep
  | .pl => by simp [Tr.toD, PyData.depth, PyData.depthAll, Tr.dep]
  | .key row hs t => by
    have h := Tr.deep t
    simp only [Tr.toD, PyData.depth, PyData.depthAll, Tr.dep, depInts]
    omega
  | .fork gs => by
    have h := Gs.deep gs
    simp only [Tr.toD, PyData.depth, PyData.depthAll, Tr.dep]
    omega
theorem Gs.deep : ∀ g : Gs, PyData.depthAll g.toDs ≤ 3 * g.dep + 1
  | .nil => by simp [Gs.toDs, PyData.depthAll]
  | .cons cs t r => by
    have h := Tr.deep t
    have h2 := Gs.deep r
    simp only [Gs.toDs, PyData.depth, PyData.depthAll, Gs.dep, depInts]
    omega
end
theorem Tr.shaped {t : Tr} (h : t.dep ≤ 20) : SeqAt.shaped t.toD = true := by
  have h2 := Tr.deep t
  unfold SeqAt.shaped
  rw [Tr.can t, decide_eq_true (by omega)]
  rfl
theorem eqv_pl : ∀ t : Tr, PyData.eqv t.toD (PyData.tuple [.str "places"]) = (match t with | .pl => true | _ => false)
  | .pl => by
    simp [Tr.toD, PyData.eqv, PyData.eqvAll]
  | .key _ _ _ => by simp [Tr.toD, PyData.eqv, PyData.eqvAll]
  | .fork _ => by simp [Tr.toD, PyData.eqv, PyData.eqvAll]
theorem eqv_ints : ∀ ns : List Int, PyData.eqvAll (ns.map PyData.int) (ns.map PyData.int) = true
  | [] => by simp [PyData.eqvAll]
  | n :: r => by simp [PyData.eqvAll, PyData.eqv, eqv_ints r]
theorem ints_sorted (n : Nat) : (rng0 n).Pairwise (· ≤ ·) := by
  unfold rng0
  rw [List.pairwise_map]
  exact List.Pairwise.imp (fun h => by omega) (List.pairwise_lt_range (n := n))
theorem rg_ints (n : Nat) : rgV 0 (n : Int) = (rng0 n).map V.int := by
  unfold rgV rng0
  rw [List.map_map]
  simp
/-- zip of two tuples of any lengths, walked -/
theorem walk_zipM {K : PySem.W.Frag} {a b : Addr} {xs ys : List V} {n : Nat} (e : n = min xs.length ys.length) :
    Walk (RZ.ItzT K a b) n (fun H => SqT K H a xs ∧ SqT K H b ys) (YPair (fun j => xs[j]?) (fun j => ys[j]?)) := by
  constructor
  · intro i H hi q
    have h1 : i < xs.length := by omega
    have h2 : i < ys.length := by omega
    exact ⟨xs, ys, xs[i], ys[i], q.1, q.2, List.getElem?_eq_getElem h1, List.getElem?_eq_getElem h2⟩
  · intro H q
    exact ⟨xs, ys, q.1, q.2, by omega⟩
  · rintro i H v H' hi q ⟨T, x, z, h1, h2, h3, h4, h5⟩
    exact ⟨T, x, z, h1, h2, h3, h4 xs q.1, h5 ys q.2⟩
theorem cut_one {xs : List V} (h : xs ≠ []) : cutV xs (some 1) none = xs.drop 1 ∧ ¬ (HT.sIx xs.length 0 (some 1) = 0 ∧ HT.sIx xs.length xs.length none = xs.length) := by
  have e : HT.sIx xs.length 0 (some 1) = 1 := by
    have e1 : HT.sIx xs.length 0 (some 1) = min 1 xs.length := HT.sIx_nat xs.length 0 1
    have : 0 < xs.length := List.length_pos_iff.mpr h
    omega
  refine ⟨?_, fun z => by rw [e] at z; exact absurd z.1 (by decide)⟩
  unfold cutV
  rw [e, HT.sIx_none]
  exact List.take_of_length_le (by rw [List.length_drop]; omega)
/-! ### promises -/
def spAsc (K : PySem.W.Frag) : Sp := fun vs H Q _ => ∃ (a : Addr) (ns : List Int), vs = [.ref a] ∧ SqT K H a (ns.map V.int) ∧ ns ≠ [] ∧ ns.length ≤ 100 ∧ ns.Pairwise (· < ·) ∧ ∀ H', Same H H' → Q (.bl true) H'
def spGroups (K : PySem.W.Frag) : Sp := fun vs H Q _ => ∃ (a : Addr) (ws : List V) (gs : Gs) (d n : Nat), vs = [.ref a, .int n] ∧ SqT K H a ws ∧ GsAt K H gs ws ∧ n ≤ 12 ∧ gs.classes.Perm (rng0 n) ∧ gs.wf d n ∧ ∀ H', Same H H' → Q (.bl true) H'
section
variable {P : Program} {w : World} {K : PySem.W.Frag} {mg : Str → Option Value} {base : Heap}
end
end Lk

namespace Lk
open PySem L2
theorem Gs.heads_len : ∀ g : Gs, g.heads.length = g.trees.length
  | .nil => rfl
  | .cons _ _ r => by simp [Gs.heads, Gs.trees, Gs.heads_len r]
theorem Gs.flat : ∀ g : Gs, g.classes = g.heads.flatten
  | .nil => rfl
  | .cons _ _ r => by simp [Gs.classes, Gs.heads, Gs.flat r]
theorem Gs.wf_heads {d n : Nat} : ∀ {g : Gs}, g.wf d n → ∀ cs ∈ g.heads, cs ≠ [] ∧ cs.Pairwise (· < ·)
  | .nil, _, _, h => by cases h
  | .cons c t r, w, cs, h => by
    simp only [Gs.wf] at w
    rcases List.mem_cons.mp h with e | e
    · rw [e]
      exact w.1
    · exact Gs.wf_heads w.2.2 cs e
theorem Gs.wf_trees {d n : Nat} : ∀ {g : Gs}, g.wf d n → ∀ t ∈ g.trees, t.wf d n
  | .nil, _, _, h => by cases h
  | .cons c t r, w, t', h => by
    simp only [Gs.wf] at w
    rcases List.mem_cons.mp h with e | e
    · rw [e]
      exact w.2.1
    · exact Gs.wf_trees w.2.2 t' e
theorem GsAt.len {K : PySem.W.Frag} {H : Hp} : ∀ {g : Gs} {ws : List V}, GsAt K H g ws → ws.length = g.heads.length
  | .nil, ws, h => by
    simp only [GsAt] at h
    rw [h]
    rfl
  | .cons c t r, ws, h => by
    simp only [GsAt] at h
    obtain ⟨pa, ca, tv, vr, rfl, h2, h3, h4, h5⟩ := h
    simp [Gs.heads, GsAt.len h5]
theorem GsAt.get {K : PySem.W.Frag} {H : Hp} : ∀ {g : Gs} {ws : List V} {i : Nat} {y : V}, GsAt K H g ws → ws[i]? = some y →
    ∃ pa ca tv cs t, y = .ref pa ∧ SqT K H pa [.ref ca, tv] ∧ SqT K H ca (cs.map V.int) ∧ TrAt K H t tv ∧ g.heads[i]? = some cs ∧ g.trees[i]? = some t
  | .nil, ws, i, y, h, e => by
    simp only [GsAt] at h
    rw [h] at e
    simp at e
  | .cons c t r, ws, 0, y, h, e => by
    simp only [GsAt] at h
    obtain ⟨pa, ca, tv, vr, rfl, h2, h3, h4, h5⟩ := h
    exact ⟨pa, ca, tv, c, t, (Option.some.inj e).symm, h2, h3, h4, rfl, rfl⟩
  | .cons c t r, ws, i + 1, y, h, e => by
    simp only [GsAt] at h
    obtain ⟨pa, ca, tv, vr, rfl, h2, h3, h4, h5⟩ := h
    exact GsAt.get (g := r) (ws := vr) (i := i) h5 (by simpa using e)
def TrsAt (K : PySem.W.Frag) (H : Hp) : List Tr → List V → Prop
  | [], ws => ws = []
  | t :: r, ws => ∃ v vr, ws = v :: vr ∧ TrAt K H t v ∧ TrsAt K H r vr
theorem TrsAt.mono {K : PySem.W.Frag} {H H' : Hp} (e : Tups K H H') : ∀ {ts : List Tr} {ws : List V}, TrsAt K H ts ws → TrsAt K H' ts ws
  | [], _, h => h
  | t :: r, _, ⟨v, vr, h1, h2, h3⟩ => ⟨v, vr, h1, TrAt.mono e h2, TrsAt.mono e h3⟩
theorem TrsAt.app {K : PySem.W.Frag} {H : Hp} : ∀ {ts : List Tr} {ws : List V} {t : Tr} {v : V}, TrsAt K H ts ws → TrAt K H t v → TrsAt K H (ts ++ [t]) (ws ++ [v])
  | [], _, t, v, h, q => by
    have h : _ = [] := h
    subst h
    exact ⟨v, [], rfl, q, rfl⟩
  | t :: r, _, t', v', ⟨v, vr, h1, h2, h3⟩, q => ⟨v, vr ++ [v'], by rw [h1]; rfl, h2, TrsAt.app h3 q⟩
def Tr.kids : Tr → List Tr
  | .pl => []
  | .key _ _ t => [t]
  | .fork gs => gs.trees
def Tr.isKey : Tr → Bool
  | .key _ _ _ => true
  | _ => false
def Tr.isFork : Tr → Bool
  | .fork _ => true
  | _ => false
theorem flat_take {α : Type} : ∀ (l : List (List α)) (i : Nat), (l.take i).flatten.length ≤ l.flatten.length
  | [], i => by simp
  | x :: r, 0 => by simp
  | x :: r, i + 1 => by
    have := flat_take r i
    simp only [List.take_succ_cons, List.flatten_cons, List.length_append]
    omega
theorem rng0_len (n : Nat) : (rng0 n).length = n := by simp [rng0]
/-! ### promises -/
def spIsKey (K : PySem.W.Frag) : Sp := fun vs H Q _ => ∃ (v : V) (t : Tr) (d n : Nat), vs = [v, .int d, .int n] ∧ TrAt K H t v ∧ t.wf d n ∧ d ≤ 3 ∧ n ≤ 12 ∧ ∀ H', Same H H' → Q (.bl t.isKey) H'
def spIsFork (K : PySem.W.Frag) : Sp := fun vs H Q _ => ∃ (v : V) (t : Tr) (d n : Nat), vs = [v, .int n] ∧ TrAt K H t v ∧ t.wf d n ∧ n ≤ 12 ∧ ∀ H', Same H H' → Q (.bl t.isFork) H'
def spInner (K : PySem.W.Frag) : Sp := fun vs H Q _ => ∃ (v : V) (t : Tr) (d n : Nat), vs = [v, .int d, .int n] ∧ TrAt K H t v ∧ t.wf d n ∧ d ≤ 3 ∧ n ≤ 12 ∧ t.dep ≤ 20 ∧
  ∀ H' p ws, Same H H' → H p = none → H' p = some (.lst ws) → TrsAt K H' t.kids ws → Q (.ref p) H'
section
variable {P : Program} {w : World} {K : PySem.W.Frag} {mg : Str → Option Value} {base : Heap}
end
end Lk

namespace Lk
open PySem L2
theorem TrsAt.get {K : PySem.W.Frag} {H : Hp} : ∀ {ts : List Tr} {ws : List V} {i : Nat} {y : V}, TrsAt K H ts ws → ws[i]? = some y → ∃ t, ts[i]? = some t ∧ TrAt K H t y
  | [], _, i, y, h, e => by
    have h : _ = [] := h
    rw [h] at e
    simp at e
  | t :: r, _, 0, y, ⟨v, vr, h1, h2, h3⟩, e => by
    rw [h1] at e
    have e2 : v = y := Option.some.inj e
    exact ⟨t, rfl, e2 ▸ h2⟩
  | t :: r, _, i + 1, y, ⟨v, vr, h1, h2, h3⟩, e => by
    rw [h1] at e
    exact TrsAt.get (ts := r) (ws := vr) (i := i) h3 (by simpa using e)
theorem TrsAt.len {K : PySem.W.Frag} {H : Hp} : ∀ {ts : List Tr} {ws : List V}, TrsAt K H ts ws → ws.length = ts.length
  | [], _, h => by
    have h : _ = [] := h
    rw [h]
    rfl
  | t :: r, _, ⟨v, vr, h1, h2, h3⟩ => by
    rw [h1, List.length_cons, List.length_cons, TrsAt.len h3]
/-- the stack, its top first -/
def WR (K : PySem.W.Frag) (H : Hp) : List (Tr × Nat) → List V → Prop
  | [], ws => ws = []
  | (t, d) :: r, ws => ∃ p v wr, ws = wr ++ [.ref p] ∧ SqT K H p [v, .int d] ∧ TrAt K H t v ∧ WR K H r wr
theorem WR.mono {K : PySem.W.Frag} {H H' : Hp} (e : Tups K H H') : ∀ {l : List (Tr × Nat)} {ws : List V}, WR K H l ws → WR K H' l ws
  | [], _, h => h
  | (t, d) :: r, _, ⟨p, v, wr, h1, h2, h3, h4⟩ => ⟨p, v, wr, h1, e _ _ h2, TrAt.mono e h3, WR.mono e h4⟩
theorem WR.len {K : PySem.W.Frag} {H : Hp} : ∀ {l : List (Tr × Nat)} {ws : List V}, WR K H l ws → ws.length = l.length
  | [], _, h => by
    have h : _ = [] := h
    rw [h]
    rfl
  | (t, d) :: r, _, ⟨p, v, wr, h1, h2, h3, h4⟩ => by rw [h1, List.length_append, WR.len h4]; rfl
def sizes (l : List (Tr × Nat)) : Nat := (l.map fun q => q.1.size).sum
theorem sizes_app (a b : List (Tr × Nat)) : sizes (a ++ b) = sizes a + sizes b := by simp [sizes]
theorem Gs.sizes_trees : ∀ g : Gs, (g.trees.map Tr.size).sum = g.size
  | .nil => by simp [Gs.trees, Gs.size]
  | .cons _ t r => by simp [Gs.trees, Gs.size, Gs.sizes_trees r]
theorem Tr.size_kids : ∀ t : Tr, t.size = 1 + (t.kids.map Tr.size).sum
  | .pl => by simp [Tr.size, Tr.kids]
  | .key _ _ t => by simp [Tr.size, Tr.kids]; omega
  | .fork g => by simp [Tr.size, Tr.kids, Gs.sizes_trees g]; omega
theorem Gs.dep_trees : ∀ (g : Gs) (t : Tr), t ∈ g.trees → t.dep ≤ g.dep
  | .nil, t, h => by cases h
  | .cons c u r, t, h => by
    simp only [Gs.dep]
    rcases List.mem_cons.mp h with e | e
    · rw [e]
      omega
    · have := Gs.dep_trees r t e
      omega
theorem Tr.kid_dep {t k : Tr} (h : k ∈ t.kids) : k.dep + 1 ≤ t.dep := by
  cases t with
  | pl => cases h
  | key _ _ t =>
    simp only [Tr.kids, List.mem_singleton] at h
    subst h
    simp [Tr.dep]
  | fork g =>
    have := Gs.dep_trees g k h
    simp only [Tr.dep]
    omega
theorem Tr.kid_wf {d n : Nat} {t k : Tr} (h : k ∈ t.kids) (w : t.wf d n) : k.wf d n := by
  cases t with
  | pl => cases h
  | key _ _ t =>
    simp only [Tr.kids, List.mem_singleton] at h
    subst h
    simp only [Tr.wf] at w
    exact w.2.2.2
  | fork g =>
    simp only [Tr.wf] at w
    exact Gs.wf_trees w.2 k h
theorem Tr.size_pos (t : Tr) : 1 ≤ t.size := by
  rw [Tr.size_kids]
  omega
theorem len_sizes : ∀ l : List (Tr × Nat), l.length ≤ sizes l
  | [] => by simp [sizes]
  | q :: r => by
    have h1 := len_sizes r
    have h2 := Tr.size_pos q.1
    simp only [sizes, List.map_cons, List.sum_cons, List.length_cons] at h1 ⊢
    omega
/-- a list at o grows: tuples stay -/
theorem tups_lst {K : PySem.W.Frag} {H : Hp} {o : Addr} {xs : List V} {u : HO} (h : H o = some (.lst xs)) : Tups K H (upd H o u) := fun b ys e => by
  rcases e with (e | ⟨x, e⟩) | e
  · exact .inl (.inl (by rw [upd_ne (ne_of e h (by intro z; cases z))]; exact e))
  · exact .inl (.inr ⟨x, by rw [upd_ne (ne_of e h (by intro z; cases z))]; exact e⟩)
  · exact .inr e
theorem Same.upd_out {H H' : Hp} {o : Addr} {u : HO} (sm : Same H H') (n : H o = none) : Same H (upd H' o u) := fun b x e => by
  rw [upd_ne (ne_of_none e n)]
  exact sm b x e
def spNodes (K : PySem.W.Frag) : Sp := fun vs H Q _ => ∃ (v : V) (a : Addr) (t : Tr) (ds : List Int) (n : Nat), vs = [v, .ref a, .int 200, .int 20] ∧ TrAt K H t v ∧ SqT K H a (ds.map V.int) ∧ Divs ds ∧ ds.length ≤ 3 ∧ prodL ds = (n : Int) ∧ t.wf ds.length n ∧ t.size ≤ 200 ∧ t.dep ≤ 20 ∧
  ∀ H', Same H H' → Q (.int t.size) H'
section
variable {P : Program} {w : World} {K : PySem.W.Frag} {mg : Str → Option Value} {base : Heap}
end
end Lk

namespace Lk
open PySem L2
/-! ### the numbers of a place along a tree -/
mutual
def pth : Tr → Int → List Int → List Int
  | .pl, _, _ => []
  | .key row hs t, c, x => (dotL row x + hs.getD c.toNat 0) :: pth t c x
  | .fork gs, c, x => pthG gs 0 c x
def pthG : Gs → Int → Int → List Int → List Int
  | .nil, _, _, _ => []
  | .cons cs t r, i, c, x => if c ∈ cs then i :: pth t c x else pthG r (i + 1) c x
end
theorem pthG_at : ∀ {g : Gs} {j : Nat} {cs : List Int} {t : Tr} (i c : Int) (x : List Int), g.heads[j]? = some cs → g.trees[j]? = some t → c ∈ cs → (∀ m cs', m < j → g.heads[m]? = some cs' → c ∉ cs') → pthG g i c x = (i + j) :: pth t c x
  | .nil, j, cs, t, i, c, x, h, _, _, _ => by simp [Gs.heads] at h
  | .cons c0 t0 r, 0, cs, t, i, c, x, h1, h2, h3, _ => by
    have e1 : c0 = cs := Option.some.inj h1
    have e2 : t0 = t := Option.some.inj h2
    subst e1 e2
    simp only [pthG]
    rw [if_pos h3]
    simp
  | .cons c0 t0 r, j + 1, cs, t, i, c, x, h1, h2, h3, h4 => by
    have h0 : c ∉ c0 := h4 0 c0 (by omega) rfl
    simp only [pthG]
    rw [if_neg h0, pthG_at (g := r) (j := j) (i + 1) c x (by simpa [Gs.heads] using h1) (by simpa [Gs.trees] using h2) h3 (fun m cs' hm hh => h4 (m + 1) cs' (by omega) (by simpa [Gs.heads] using hh))]
    congr 1
    omega
theorem first_of {c : Int} : ∀ {l : List (List Int)}, c ∈ l.flatten → ∃ (j : Nat) (cs : List Int), l[j]? = some cs ∧ c ∈ cs ∧ ∀ m cs', m < j → l[m]? = some cs' → c ∉ cs'
  | [], h => by simp at h
  | x :: r, h => by
    by_cases hx : c ∈ x
    · exact ⟨0, x, rfl, hx, fun m cs' hm => absurd hm (by omega)⟩
    · have h2 : c ∈ r.flatten := by
        rw [List.flatten_cons] at h
        rcases List.mem_append.mp h with e | e
        · exact absurd e hx
        · exact e
      obtain ⟨j, cs, a, b, d⟩ := first_of h2
      refine ⟨j + 1, cs, by simpa using a, b, fun m cs' hm hh => ?_⟩
      cases m with
      | zero =>
        have e : x = cs' := by simpa using hh
        exact e ▸ hx
      | succ m => exact d m cs' (by omega) (by simpa using hh)
theorem inV_ints (c : Int) : ∀ cs : List Int, inV (.int c) (cs.map V.int) = decide (c ∈ cs)
  | [] => by simp [inV]
  | x :: r => by
    have ih := inV_ints c r
    unfold inV at ih ⊢
    rw [List.map_cons, List.any_cons, ih]
    show ((x == c) || decide (c ∈ r)) = decide (c ∈ x :: r)
    by_cases e : c = x
    · subst e
      simp
    · have e' : ¬ x = c := fun z => e z.symm
      by_cases e2 : c ∈ r <;> simp [e, e', e2]
theorem mem_rng0 {c : Int} {n : Nat} (h0 : 0 ≤ c) (h1 : c < n) : c ∈ rng0 n := by
  unfold rng0
  exact List.mem_map.mpr ⟨c.toNat, List.mem_range.mpr (by omega), by omega⟩
def spGix (K : PySem.W.Frag) : Sp := fun vs H Q _ => ∃ (a : Addr) (ws : List V) (gs : Gs) (c : Int) (j : Nat) (cs : List Int), vs = [.ref a, .int c] ∧ SqT K H a ws ∧ GsAt K H gs ws ∧ ws.length ≤ 1000 ∧ gs.heads[j]? = some cs ∧ c ∈ cs ∧ (∀ m cs', m < j → gs.heads[m]? = some cs' → c ∉ cs') ∧
  ∀ H', Same H H' → Q (.int j) H'
def spTPath (K : PySem.W.Frag) : Sp := fun vs H Q _ => ∃ (v : V) (a c : Addr) (t : Tr) (ds ps : List Int) (n : Nat), vs = [v, .ref a, .ref c] ∧ TrAt K H t v ∧ SqT K H a (ds.map V.int) ∧ SqT K H c (ps.map V.int) ∧ ds.length = ps.length ∧ Divs ds ∧ ds.length ≤ 3 ∧ prodL ds = (n : Int) ∧ t.wf ds.length n ∧ t.dep ≤ 20 ∧
  ∀ H' p, Same H H' → H' p = some (.tup ((pth t (cls ds ps) ps).map V.int)) → Q (.ref p) H'
section
variable {P : Program} {w : World} {K : PySem.W.Frag} {mg : Str → Option Value} {base : Heap}
end
end Lk

namespace Lk
open PySem L2
def HdsAt (K : PySem.W.Frag) (H : Hp) : List (List Int) → List V → Prop
  | [], ws => ws = []
  | c :: r, ws => ∃ a wr, ws = .ref a :: wr ∧ SqT K H a (c.map V.int) ∧ HdsAt K H r wr
theorem HdsAt.mono {K : PySem.W.Frag} {H H' : Hp} (e : Tups K H H') : ∀ {l : List (List Int)} {ws : List V}, HdsAt K H l ws → HdsAt K H' l ws
  | [], _, h => h
  | c :: r, _, ⟨a, wr, h1, h2, h3⟩ => ⟨a, wr, h1, e _ _ h2, HdsAt.mono e h3⟩
theorem HdsAt.app {K : PySem.W.Frag} {H : Hp} {c : List Int} {a : Addr} : ∀ {l : List (List Int)} {ws : List V}, HdsAt K H l ws → SqT K H a (c.map V.int) → HdsAt K H (l ++ [c]) (ws ++ [.ref a])
  | [], _, h, q => by
    have h : _ = [] := h
    subst h
    exact ⟨a, [], rfl, q, rfl⟩
  | x :: r, _, ⟨a', wr, h1, h2, h3⟩, q => ⟨a', wr ++ [.ref a], by rw [h1]; rfl, h2, HdsAt.app h3 q⟩
theorem HdsAt.get {K : PySem.W.Frag} {H : Hp} : ∀ {l : List (List Int)} {ws : List V} {i : Nat} {y : V}, HdsAt K H l ws → ws[i]? = some y → ∃ c a, l[i]? = some c ∧ y = .ref a ∧ SqT K H a (c.map V.int)
  | [], _, i, y, h, e => by
    have h : _ = [] := h
    rw [h] at e
    simp at e
  | c :: r, _, 0, y, ⟨a, wr, h1, h2, h3⟩, e => by
    rw [h1] at e
    exact ⟨c, a, rfl, (Option.some.inj e).symm, h2⟩
  | c :: r, _, i + 1, y, ⟨a, wr, h1, h2, h3⟩, e => by
    rw [h1] at e
    exact HdsAt.get (l := r) (ws := wr) (i := i) h3 (by simpa using e)
theorem HdsAt.len {K : PySem.W.Frag} {H : Hp} : ∀ {l : List (List Int)} {ws : List V}, HdsAt K H l ws → ws.length = l.length
  | [], _, h => by
    have h : _ = [] := h
    rw [h]
    rfl
  | c :: r, _, ⟨a, wr, h1, h2, h3⟩ => by rw [h1, List.length_cons, List.length_cons, HdsAt.len h3]
/-! ### the parts of the classes by marks -/
def sel (marks : List Int) (n : Nat) (m : Int) : List Int := (rng0 n).filter fun i => decide (marks.getD i.toNat 9 = m)
theorem pm2 {x : Int} {a b c : List Int} : (a ++ (b ++ x :: c)).Perm (x :: (a ++ (b ++ c))) := (List.Perm.append_left a List.perm_middle).trans List.perm_middle
theorem pm3 {x : Int} {a b c d : List Int} : (a ++ (b ++ (c ++ x :: d))).Perm (x :: (a ++ (b ++ (c ++ d)))) := (List.Perm.append_left a pm2).trans List.perm_middle
theorem pm4 {x : Int} {a b c d e : List Int} : (a ++ (b ++ (c ++ (d ++ x :: e)))).Perm (x :: (a ++ (b ++ (c ++ (d ++ e))))) := (List.Perm.append_left a pm3).trans List.perm_middle
theorem five {f : Int → Int} : ∀ l : List Int, (∀ x ∈ l, 0 ≤ f x ∧ f x < 5) → (([1, 4, 0, 3, 2] : List Int).map fun m => l.filter fun i => decide (f i = m)).flatten.Perm l
  | [], _ => by simp
  | x :: r, h => by
    have ih := five (f := f) r fun y hy => h y (List.mem_cons_of_mem _ hy)
    have hx := h x List.mem_cons_self
    simp only [List.map_cons, List.map_nil, List.flatten_cons, List.flatten_nil, List.append_nil] at ih ⊢
    have hc : f x = 0 ∨ f x = 1 ∨ f x = 2 ∨ f x = 3 ∨ f x = 4 := by omega
    rcases hc with e | e | e | e | e
    · simp only [List.filter_cons, e]
      simp only [show ((0 : Int) = 1) = False by simp, show ((0 : Int) = 4) = False by simp, show ((0 : Int) = 3) = False by simp, show ((0 : Int) = 2) = False by simp, decide_false, decide_true, if_true, Bool.false_eq_true, if_false]
      refine List.Perm.trans ?_ (List.Perm.cons x ih)
      exact pm2
    · simp only [List.filter_cons, e]
      simp only [show ((1 : Int) = 0) = False by simp, show ((1 : Int) = 4) = False by simp, show ((1 : Int) = 3) = False by simp, show ((1 : Int) = 2) = False by simp, decide_false, decide_true, if_true, Bool.false_eq_true, if_false]
      exact List.Perm.cons x ih
    · simp only [List.filter_cons, e]
      simp only [show ((2 : Int) = 0) = False by simp, show ((2 : Int) = 4) = False by simp, show ((2 : Int) = 3) = False by simp, show ((2 : Int) = 1) = False by simp, decide_false, decide_true, if_true, Bool.false_eq_true, if_false]
      refine List.Perm.trans ?_ (List.Perm.cons x ih)
      exact pm4
    · simp only [List.filter_cons, e]
      simp only [show ((3 : Int) = 0) = False by simp, show ((3 : Int) = 4) = False by simp, show ((3 : Int) = 2) = False by simp, show ((3 : Int) = 1) = False by simp, decide_false, decide_true, if_true, Bool.false_eq_true, if_false]
      refine List.Perm.trans ?_ (List.Perm.cons x ih)
      exact pm3
    · simp only [List.filter_cons, e]
      simp only [show ((4 : Int) = 0) = False by simp, show ((4 : Int) = 3) = False by simp, show ((4 : Int) = 2) = False by simp, show ((4 : Int) = 1) = False by simp, decide_false, decide_true, if_true, Bool.false_eq_true, if_false]
      refine List.Perm.trans ?_ (List.Perm.cons x ih)
      exact List.perm_middle
theorem flat_ne : ∀ l : List (List Int), (l.filter fun c => decide (c ≠ [])).flatten = l.flatten
  | [] => rfl
  | c :: r => by
    have ih := flat_ne r
    cases c with
    | nil =>
      rw [List.filter_cons, decide_eq_false (by simp), if_neg (by decide), ih]
      rfl
    | cons x c =>
      rw [List.filter_cons, decide_eq_true (by simp), if_pos rfl, List.flatten_cons, List.flatten_cons, ih]
theorem rng0_lt (n : Nat) : (rng0 n).Pairwise (· < ·) := by
  unfold rng0
  rw [List.pairwise_map]
  exact List.Pairwise.imp (fun h => by omega) (List.pairwise_lt_range (n := n))
theorem rng0_get {n i : Nat} (h : i < n) : (rng0 n)[i]? = some (i : Int) := by
  unfold rng0
  rw [List.getElem?_map, List.getElem?_range h]
  rfl
theorem rng0_take {n i : Nat} (h : i ≤ n) : (rng0 n).take i = rng0 i := by
  unfold rng0
  rw [← List.map_take, List.take_range]
  congr 2
  omega
theorem rng0_succ (i : Nat) : rng0 (i + 1) = rng0 i ++ [(i : Int)] := by
  unfold rng0
  rw [List.range_succ, List.map_append]
  rfl
def scMark : Scope := { kind := .function, names := [(Str.ofString ".0", .local), (Str.ofString "_law_mark", .cell), (Str.ofString "tuple", .globalImplicit), (Str.ofString "range", .globalImplicit), (Str.ofString "_law_many", .cell), (Str.ofString "_law_marks", .cell)], isGenerator := false, isCoroutine := false }
def spParts (K : PySem.W.Frag) : Sp := fun vs H Q _ => ∃ (b l : Addr) (n : Nat) (m : Int), vs = [.ref b, .int n, .int m] ∧ BagAt H b l ∧ n ≤ 12 ∧ 1 ≤ m ∧ m ≤ 5 ∧
  ∀ (hds : List (List Int)) (H' : Hp) (p : Addr) (ws : List V), hds.flatten.Perm (rng0 n) → (∀ cs ∈ hds, cs ≠ [] ∧ cs.Pairwise (· < ·)) → hds.length ≤ 5 → H p = none → H' p = some (.lst ws) → HdsAt K H' hds ws → BagAt H' b l → But b H H' → Q (.ref p) H'
section
variable {P : Program} {w : World} {K : PySem.W.Frag} {mg : Str → Option Value} {base : Heap}
end
end Lk

namespace Lk
open PySem L2
def Gs.snoc : Gs → List Int → Tr → Gs
  | .nil, cs, t => .cons cs t .nil
  | .cons c u r, cs, t => .cons c u (r.snoc cs t)
theorem Gs.heads_snoc (cs : List Int) (t : Tr) : ∀ g : Gs, (g.snoc cs t).heads = g.heads ++ [cs]
  | .nil => rfl
  | .cons c u r => by simp [Gs.snoc, Gs.heads, Gs.heads_snoc cs t r]
theorem Gs.size_snoc (cs : List Int) (t : Tr) : ∀ g : Gs, (g.snoc cs t).size = g.size + t.size
  | .nil => by simp [Gs.snoc, Gs.size]
  | .cons c u r => by simp [Gs.snoc, Gs.size, Gs.size_snoc cs t r]; omega
theorem Gs.dep_snoc (cs : List Int) (t : Tr) : ∀ g : Gs, (g.snoc cs t).dep = max g.dep t.dep
  | .nil => by simp [Gs.snoc, Gs.dep]
  | .cons c u r => by simp only [Gs.snoc, Gs.dep, Gs.dep_snoc cs t r]; omega
theorem Gs.wf_snoc {d n : Nat} {cs : List Int} {t : Tr} (h : cs ≠ [] ∧ cs.Pairwise (· < ·)) (ht : t.wf d n) : ∀ {g : Gs}, g.wf d n → (g.snoc cs t).wf d n
  | .nil, _ => by
    simp only [Gs.snoc, Gs.wf]
    exact ⟨h, ht, trivial⟩
  | .cons c u r, w => by
    simp only [Gs.wf] at w
    simp only [Gs.snoc, Gs.wf]
    exact ⟨w.1, w.2.1, Gs.wf_snoc h ht w.2.2⟩
theorem GsAt.snoc {K : PySem.W.Frag} {H : Hp} {cs : List Int} {t : Tr} {pa ca : Addr} {tv : V} (h1 : SqT K H pa [.ref ca, tv]) (h2 : SqT K H ca (cs.map V.int)) (h3 : TrAt K H t tv) : ∀ {g : Gs} {ws : List V}, GsAt K H g ws → GsAt K H (g.snoc cs t) (ws ++ [.ref pa])
  | .nil, ws, h => by
    simp only [GsAt] at h
    subst h
    simp only [Gs.snoc, GsAt]
    exact ⟨pa, ca, tv, [], rfl, h1, h2, h3, rfl⟩
  | .cons c u r, ws, h => by
    simp only [GsAt] at h
    obtain ⟨pa', ca', tv', vr, rfl, a1, a2, a3, a4⟩ := h
    simp only [Gs.snoc, GsAt]
    exact ⟨pa', ca', tv', vr ++ [.ref pa], rfl, a1, a2, a3, GsAt.snoc h1 h2 h3 a4⟩
def szB : Nat → Nat
  | 0 => 1
  | n + 1 => 1 + 5 * szB n
theorem szB_pos : ∀ n, 1 ≤ szB n
  | 0 => Nat.le_refl _
  | n + 1 => by simp [szB]
def spTree (K : PySem.W.Frag) (m : Nat) : Sp := fun vs H Q _ => ∃ (b l a : Addr) (ds : List Int) (n : Nat), vs = [.ref b, .ref a, .int m] ∧ BagAt H b l ∧ SqT K H a (ds.map V.int) ∧ Divs ds ∧ ds.length ≤ 3 ∧ prodL ds = (n : Int) ∧
  ∀ (t : Tr) (v : V) (H' : Hp), t.wf ds.length n → t.dep ≤ m + 1 → t.size ≤ szB m → TrAt K H' t v → BagAt H' b l → But b H H' → Q v H'
def spScan (K : PySem.W.Frag) : Sp := fun vs H Q _ => ∃ (b l : Addr) (d : Int), vs = [.ref b, .int d] ∧ BagAt H b l ∧ 1 ≤ d ∧ d ≤ 3 ∧
  ∀ (ds : List Int) (n : Nat) (t : Tr) (a p : Addr) (v : V) (H' : Hp), (ds.length : Int) = d → Divs ds → prodL ds = (n : Int) → t.wf ds.length n → t.dep ≤ 4 → t.size ≤ 200 → SqT K H' a (ds.map V.int) → TrAt K H' t v → SqT K H' p [.ref a, v] → BagAt H' b l → But b H H' → Q (.ref p) H'
section
variable {P : Program} {w : World} {K : PySem.W.Frag} {mg : Str → Option Value} {base : Heap}
end
end Lk

namespace Lk
open PySem L2
/-! ### a scan -/
def sf (ct nt : Int) (a : Addr) (v : V) : List (Str × V) := putF "own_tree" v (putF "own_divisors" (.ref a) (putF "node_total" (.int nt) (putF "class_total" (.int ct) [])))
theorem putF_len (f : Str) (v : V) : ∀ fs : List (Str × V), (putF f v fs).length ≤ fs.length + 1
  | [] => by simp [putF]
  | (g, u) :: r => by
    have := putF_len f v r
    simp only [putF]
    split <;> simp <;> omega
theorem sf_div (ct nt : Int) (a : Addr) (v : V) : (sf ct nt a v).lookup ("own_divisors" : Str) = some (.ref a) := by
  unfold sf
  rw [lookup_putF, if_neg (by decide +kernel), lookup_putF, if_pos rfl]
theorem sf_tree (ct nt : Int) (a : Addr) (v : V) : (sf ct nt a v).lookup ("own_tree" : Str) = some v := by
  unfold sf
  rw [lookup_putF, if_pos rfl]
theorem sf_path (ct nt : Int) (a : Addr) (v : V) : (sf ct nt a v).lookup ("path" : Str) = none := by
  unfold sf
  rw [lookup_putF, if_neg (by decide +kernel), lookup_putF, if_neg (by decide +kernel), lookup_putF, if_neg (by decide +kernel), lookup_putF, if_neg (by decide +kernel)]
  rfl
/-- a Scan of divisors ds and tree t stands at p -/
structure ScanAt (K : PySem.W.Frag) (C : Addr) (H : Hp) (p : Addr) (ds : List Int) (n : Nat) (t : Tr) : Prop where
  ob : ∃ dx a v, H p = some (.ins C dx (sf (n : Int) (t.size : Int) a v)) ∧ SqT K H a (ds.map V.int) ∧ TrAt K H t v
  dv : Divs ds
  l1 : 1 ≤ ds.length
  l3 : ds.length ≤ 3
  pr : prodL ds = (n : Int)
  wf : t.wf ds.length n
  dp : t.dep ≤ 20
  sz : t.size ≤ 200
theorem ScanAt.same {K : PySem.W.Frag} {C : Addr} {H H' : Hp} {p : Addr} {ds : List Int} {n : Nat} {t : Tr} (S : ScanAt K C H p ds n t) (e : Same H H') : ScanAt K C H' p ds n t := by
  obtain ⟨⟨dx, a, v, h1, h2, h3⟩, r1, r2, r3, r4, r5, r6, r7⟩ := S
  exact ⟨⟨dx, a, v, e _ _ h1, Same.sqT e h2, TrAt.mono (Same.tups e) h3⟩, r1, r2, r3, r4, r5, r6, r7⟩
theorem ScanAt.but {K : PySem.W.Frag} {C b l : Addr} {H H' : Hp} {p : Addr} {ds : List Int} {n : Nat} {t : Tr} (S : ScanAt K C H p ds n t) (B : BagAt H b l) (e : But b H H') : ScanAt K C H' p ds n t := by
  obtain ⟨⟨dx, a, v, h1, h2, h3⟩, r1, r2, r3, r4, r5, r6, r7⟩ := S
  obtain ⟨ys, hb⟩ := B.lst
  exact ⟨⟨dx, a, v, e _ _ (ne_of h1 hb (by intro z; cases z)) h1, e.sqT B h2, TrAt.mono (But.tups B e) h3⟩, r1, r2, r3, r4, r5, r6, r7⟩
def full (ds : List Int) (t : Tr) (x : List Int) : List Int := pth t (cls ds x) x ++ x
structure Txt (K : PySem.W.Frag) (mg : Str → Option Value) (C : Addr) : Prop where
  cl : Cls K C
  n1 : NoAttr K C "class_total"
  n2 : NoAttr K C "node_total"
  n3 : NoAttr K C "own_divisors"
  n4 : NoAttr K C "own_tree"
  mgC : mg "Scan" = some (.ref C)
  rd : ClX.CRead K C (.type "type")
  c1 : ∃ u, ClX.CVal K C (.type "type") "MAX_NODES" (.int 200) u
  c2 : ∃ u, ClX.CVal K C (.type "type") "MAX_DEPTH" (.int 20) u
def spInit (K : PySem.W.Frag) (C : Addr) : Sp := fun vs H Q _ => ∃ (p dx a : Addr) (v : V) (ds : List Int) (n : Nat) (t : Tr), vs = [.ref p, .ref a, v] ∧ H p = some (.ins C dx []) ∧ SqT K H a (ds.map V.int) ∧ TrAt K H t v ∧ Divs ds ∧ 1 ≤ ds.length ∧ ds.length ≤ 3 ∧ prodL ds = (n : Int) ∧ t.wf ds.length n ∧ t.size ≤ 200 ∧ t.dep ≤ 20 ∧
  ∀ H' : Hp, ScanAt K C H' p ds n t → (∀ b o, H b = some o → b ≠ p → H' b = some o) → Q .non H'
def spSPath (K : PySem.W.Frag) (C : Addr) : Sp := fun vs H Q _ => ∃ (p c : Addr) (ds : List Int) (n : Nat) (t : Tr) (x : List Int), vs = [.ref p, .ref c] ∧ ScanAt K C H p ds n t ∧ SqT K H c (x.map V.int) ∧ x.length = ds.length ∧
  ∀ (H' : Hp) (q : Addr), Same H H' → SqT K H' q ((full ds t x).map V.int) → Q (.ref q) H'
def spCall (K : PySem.W.Frag) (C : Addr) : Sp := fun vs H Q _ => ∃ (p c d : Addr) (ds : List Int) (n : Nat) (t : Tr) (x y : List Int), vs = [.ref p, .ref c, .ref d] ∧ ScanAt K C H p ds n t ∧ SqT K H c (x.map V.int) ∧ SqT K H d (y.map V.int) ∧ x.length = ds.length ∧ y.length = ds.length ∧
  ∀ H' : Hp, Same H H' → Q (.bl (HT.lexLt (full ds t x) (full ds t y))) H'
theorem pth_len : ∀ (m : Nat) (t : Tr), t.dep ≤ m → ∀ (c : Int) (x : List Int), (pth t c x).length ≤ m := by
  have hG : ∀ (m : Nat) (g : Gs), (∀ t ∈ g.trees, ∀ (c : Int) (x : List Int), (pth t c x).length ≤ m) → ∀ (i c : Int) (x : List Int), (pthG g i c x).length ≤ m + 1 := by
    intro m g
    match g with
    | .nil => intro _ i c x; simp [pthG]
    | .cons cs t r =>
      intro h i c x
      simp only [pthG]
      split
      · have := h t List.mem_cons_self c x
        simp only [List.length_cons]
        omega
      · exact (by
          have aux : ∀ (g : Gs), (∀ t ∈ g.trees, ∀ (c : Int) (x : List Int), (pth t c x).length ≤ m) → ∀ (i c : Int) (x : List Int), (pthG g i c x).length ≤ m + 1 := by
            intro g
            induction g using Gs.rec (motive_1 := fun _ => True) with
            | pl => trivial
            | key _ _ _ _ => trivial
            | fork _ _ => trivial
            | nil => intro _ i c x; simp [pthG]
            | cons cs t r _ ih =>
              intro h i c x
              simp only [pthG]
              split
              · have := h t List.mem_cons_self c x
                simp only [List.length_cons]
                omega
              · exact ih (fun t ht => h t (List.mem_cons_of_mem _ ht)) (i + 1) c x
          exact aux r (fun t ht => h t (List.mem_cons_of_mem _ ht)) (i + 1) c x)
  intro m
  induction m with
  | zero =>
    intro t h
    have := (Tr.deep t).2
    omega
  | succ m ih =>
    intro t h c x
    cases t with
    | pl => simp [pth]
    | key row hs t =>
      simp only [Tr.dep] at h
      have := ih t (by omega) c x
      simp only [pth, List.length_cons]
      omega
    | fork g =>
      simp only [Tr.dep] at h
      simp only [pth]
      exact hG m g (fun t ht c x => ih t (by have := Gs.dep_trees g t ht; omega) c x) 0 c x
section
variable {P : Program} {w : World} {K : PySem.W.Frag} {mg : Str → Option Value} {base : Heap}
end
end Lk

namespace Lk
open PySem L2
abbrev lx := HT.lexLt
abbrev plus (x f : List Int) : List Int := List.zipWith (· + ·) x f
theorem lx_irr : ∀ x : List Int, lx x x = false
  | [] => rfl
  | a :: r => by
    show (if a = a then lx r r else decide (a < a)) = false
    rw [if_pos rfl]
    exact lx_irr r
theorem lx_trans : ∀ {x y z : List Int}, lx x y = true → lx y z = true → lx x z = true
  | [], [], _, h, _ => by cases h
  | [], _ :: _, [], _, h => by cases h
  | [], _ :: _, _ :: _, _, _ => rfl
  | _ :: _, [], _, h, _ => by cases h
  | _ :: _, _ :: _, [], _, h => by cases h
  | a :: x, b :: y, c :: z, h1, h2 => by
    have h1 : (if a = b then lx x y else decide (a < b)) = true := h1
    have h2 : (if b = c then lx y z else decide (b < c)) = true := h2
    show (if a = c then lx x z else decide (a < c)) = true
    by_cases e1 : a = b
    · rw [if_pos e1] at h1
      by_cases e2 : b = c
      · rw [if_pos e2] at h2
        rw [if_pos (e1.trans e2)]
        exact lx_trans h1 h2
      · rw [if_neg e2] at h2
        have := of_decide_eq_true h2
        rw [if_neg (by omega)]
        exact decide_eq_true (by omega)
    · rw [if_neg e1] at h1
      have a1 := of_decide_eq_true h1
      by_cases e2 : b = c
      · rw [if_neg (by omega)]
        exact decide_eq_true (by omega)
      · rw [if_neg e2] at h2
        have a2 := of_decide_eq_true h2
        rw [if_neg (by omega)]
        exact decide_eq_true (by omega)
theorem lx_total : ∀ {x y : List Int}, x ≠ y → lx x y = true ∨ lx y x = true
  | [], [], h => absurd rfl h
  | [], _ :: _, _ => .inl rfl
  | _ :: _, [], _ => .inr rfl
  | a :: x, b :: y, h => by
    show (if a = b then lx x y else decide (a < b)) = true ∨ (if b = a then lx y x else decide (b < a)) = true
    by_cases e : a = b
    · subst e
      rw [if_pos rfl, if_pos rfl]
      exact lx_total fun z => h (by rw [z])
    · rw [if_neg e, if_neg fun z => e z.symm]
      by_cases l : a < b
      · exact .inl (decide_eq_true l)
      · exact .inr (decide_eq_true (by omega))
theorem lx_shift : ∀ {x y f : List Int}, x.length = f.length → y.length = f.length → lx (plus x f) (plus y f) = lx x y
  | [], [], [], _, _ => rfl
  | a :: x, b :: y, c :: f, h1, h2 => by
    have ih := lx_shift (x := x) (y := y) (f := f) (by simpa using h1) (by simpa using h2)
    show (if a + c = b + c then lx (plus x f) (plus y f) else decide (a + c < b + c)) = (if a = b then lx x y else decide (a < b))
    rw [ih]
    by_cases e : a = b
    · rw [if_pos e, if_pos (by omega)]
    · rw [if_neg e, if_neg (by omega)]
      by_cases l : a < b
      · rw [decide_eq_true l, decide_eq_true (by omega)]
      · rw [decide_eq_false l, decide_eq_false (by omega)]
  | [], _, _ :: _, h, _ => by cases h
  | _ :: _, _, [], h, _ => by cases h
  | _, [], _ :: _, _, h => by cases h
  | _, _ :: _, [], _, h => by cases h
theorem dot_plus : ∀ {r x f : List Int}, x.length = f.length → dotL r (plus x f) = dotL r x + dotL r f
  | [], _, _, _ => by simp [dotL]
  | a :: r, [], [], _ => by simp [dotL, plus]
  | a :: r, b :: x, c :: f, h => by
    have ih := dot_plus (r := r) (x := x) (f := f) (by simpa using h)
    unfold dotL plus at ih ⊢
    simp only [List.zipWith_cons_cons, List.sum_cons]
    rw [ih, Int.mul_add]
    omega
  | _ :: _, [], _ :: _, h => by cases h
  | _ :: _, _ :: _, [], h => by cases h
theorem pthG_head : ∀ {g : Gs} {c : Int} (i : Int), c ∈ g.classes → ∃ (j : Int) (t : Tr), i ≤ j ∧ ∀ x, pthG g i c x = j :: pth t c x
  | .nil, c, i, h => by simp [Gs.classes] at h
  | .cons cs t r, c, i, h => by
    by_cases hc : c ∈ cs
    · exact ⟨i, t, Int.le_refl _, fun x => by simp only [pthG]; rw [if_pos hc]⟩
    · simp only [Gs.classes] at h
      have h2 : c ∈ r.classes := by
        rcases List.mem_append.mp h with e | e
        · exact absurd e hc
        · exact e
      obtain ⟨j, t', hj, e⟩ := pthG_head (g := r) (i + 1) h2
      exact ⟨j, t', by omega, fun x => by simp only [pthG]; rw [if_neg hc]; exact e x⟩
mutual
theorem pth_shift {d n : Nat} {c1 c2 : Int} (b1 : 0 ≤ c1 ∧ c1 < n) (b2 : 0 ≤ c2 ∧ c2 < n) {x y f : List Int} (hx : x.length = f.length) (hy : y.length = f.length) :
    ∀ t : Tr, t.wf d n → lx (pth t c1 (plus x f) ++ plus x f) (pth t c2 (plus y f) ++ plus y f) = lx (pth t c1 x ++ x) (pth t c2 y ++ y)
  | .pl, _ => by
    simp only [pth, List.nil_append]
    exact lx_shift hx hy
  | .key row hs t, w => by
    simp only [Tr.wf] at w
    have ih : HT.lexLt (pth t c1 (plus x f) ++ plus x f) (pth t c2 (plus y f) ++ plus y f) = HT.lexLt (pth t c1 x ++ x) (pth t c2 y ++ y) := pth_shift b1 b2 hx hy t w.2.2.2
    simp only [pth, List.cons_append]
    rw [dot_plus hx, dot_plus hy]
    show (if dotL row x + dotL row f + hs.getD c1.toNat 0 = dotL row y + dotL row f + hs.getD c2.toNat 0 then _ else decide (dotL row x + dotL row f + hs.getD c1.toNat 0 < dotL row y + dotL row f + hs.getD c2.toNat 0)) = (if dotL row x + hs.getD c1.toNat 0 = dotL row y + hs.getD c2.toNat 0 then _ else decide (dotL row x + hs.getD c1.toNat 0 < dotL row y + hs.getD c2.toNat 0))
    rw [ih]
    by_cases e : dotL row x + hs.getD c1.toNat 0 = dotL row y + hs.getD c2.toNat 0
    · rw [if_pos e, if_pos (by omega)]
    · rw [if_neg e, if_neg (by omega)]
      by_cases l : dotL row x + hs.getD c1.toNat 0 < dotL row y + hs.getD c2.toNat 0
      · rw [decide_eq_true l, decide_eq_true (by omega)]
      · rw [decide_eq_false l, decide_eq_false (by omega)]
  | .fork g, w => by
    simp only [Tr.wf] at w
    simp only [pth]
    exact pthG_shift b1 b2 hx hy g 0 (w.1.mem_iff.mpr (mem_rng0 b1.1 b1.2)) (w.1.mem_iff.mpr (mem_rng0 b2.1 b2.2)) w.2
theorem pthG_shift {d n : Nat} {c1 c2 : Int} (b1 : 0 ≤ c1 ∧ c1 < n) (b2 : 0 ≤ c2 ∧ c2 < n) {x y f : List Int} (hx : x.length = f.length) (hy : y.length = f.length) :
    ∀ (g : Gs) (i : Int), c1 ∈ g.classes → c2 ∈ g.classes → g.wf d n → lx (pthG g i c1 (plus x f) ++ plus x f) (pthG g i c2 (plus y f) ++ plus y f) = lx (pthG g i c1 x ++ x) (pthG g i c2 y ++ y)
  | .nil, i, h, _, _ => by simp [Gs.classes] at h
  | .cons cs t r, i, h1, h2, w => by
    simp only [Gs.wf] at w
    simp only [Gs.classes] at h1 h2
    simp only [pthG]
    by_cases m1 : c1 ∈ cs
    · by_cases m2 : c2 ∈ cs
      · rw [if_pos m1, if_pos m2, if_pos m1, if_pos m2]
        have ih := pth_shift b1 b2 hx hy t w.2.1
        simp only [List.cons_append]
        show (if i = i then _ else _) = (if i = i then _ else _)
        rw [if_pos rfl, if_pos rfl]
        exact ih
      · have h2' : c2 ∈ r.classes := by
          rcases List.mem_append.mp h2 with e | e
          · exact absurd e m2
          · exact e
        obtain ⟨j, t', hj, e⟩ := pthG_head (i + 1) h2'
        rw [if_pos m1, if_neg m2, if_pos m1, if_neg m2, e, e]
        simp only [List.cons_append]
        show (if i = j then _ else decide (i < j)) = (if i = j then _ else decide (i < j))
        rw [if_neg (by omega), if_neg (by omega)]
    · have h1' : c1 ∈ r.classes := by
        rcases List.mem_append.mp h1 with e | e
        · exact absurd e m1
        · exact e
      by_cases m2 : c2 ∈ cs
      · obtain ⟨j, t', hj, e⟩ := pthG_head (i + 1) h1'
        rw [if_neg m1, if_pos m2, if_neg m1, if_pos m2, e, e]
        simp only [List.cons_append]
        show (if j = i then _ else decide (j < i)) = (if j = i then _ else decide (j < i))
        rw [if_neg (by omega), if_neg (by omega)]
      · have h2' : c2 ∈ r.classes := by
          rcases List.mem_append.mp h2 with e | e
          · exact absurd e m2
          · exact e
        rw [if_neg m1, if_neg m2, if_neg m1, if_neg m2]
        exact pthG_shift b1 b2 hx hy r (i + 1) h1' h2' w.2.2
end
/-- far: each number a multiple of its divisor -/
def Far : List Int → List Int → Prop
  | [], [] => True
  | d :: ds, f :: fs => (∃ m, f = m * d) ∧ Far ds fs
  | _, _ => False
theorem Far.len : ∀ {ds fs : List Int}, Far ds fs → fs.length = ds.length
  | [], [], _ => rfl
  | _ :: _, _ :: _, h => by simp [Far.len h.2]
  | [], _ :: _, h => h.elim
  | _ :: _, [], h => h.elim
theorem Far.app {d m : Int} : ∀ {ds fs : List Int}, Far ds fs → Far (ds ++ [d]) (fs ++ [m * d])
  | [], [], _ => ⟨⟨m, rfl⟩, trivial⟩
  | _ :: _, _ :: _, h => ⟨h.1, Far.app h.2⟩
  | [], _ :: _, h => h.elim
  | _ :: _, [], h => h.elim
theorem cls_far : ∀ {ds x f : List Int}, Far ds f → x.length = ds.length → ∀ n, clsF (ds.zip (plus x f)) n = clsF (ds.zip x) n
  | [], _, _, _, _, n => by simp
  | d :: ds, [], _, _, h, n => by cases h
  | d :: ds, a :: x, [], h, _, n => h.elim
  | d :: ds, a :: x, c :: f, ⟨⟨m, hm⟩, h⟩, hl, n => by
    show clsF (ds.zip (plus x f)) (n * d + (a + c) % d) = clsF (ds.zip x) (n * d + a % d)
    rw [cls_far h (by simpa using hl), hm, Int.add_mul_emod_self_right]
theorem plus_len {x f : List Int} (h : x.length = f.length) : (plus x f).length = f.length := by
  unfold plus
  rw [List.length_zipWith, h]
  exact Nat.min_self _
theorem full_shift {ds : List Int} {n : Nat} {t : Tr} {x y f : List Int} (D : Divs ds) (hn : prodL ds = (n : Int)) (w : t.wf ds.length n) (F : Far ds f) (hx : x.length = ds.length) (hy : y.length = ds.length) :
    lx (full ds t (plus x f)) (full ds t (plus y f)) = lx (full ds t x) (full ds t y) := by
  have lf := F.len
  have bd : ∀ z : List Int, z.length = ds.length → 0 ≤ cls ds z ∧ cls ds z < n := fun z hz => by
    have b := cls_bound hz.symm D.one (ds.zip z).length
    rw [List.take_length, List.take_of_length_le (by rw [List.length_zip]; omega), hn] at b
    exact b
  unfold full
  have e1 : cls ds (plus x f) = cls ds x := cls_far F hx 0
  have e2 : cls ds (plus y f) = cls ds y := cls_far F hy 0
  rw [e1, e2]
  exact pth_shift (bd x hx) (bd y hy) (by omega) (by omega) t w
theorem full_ne {ds : List Int} {t : Tr} {x y : List Int} (hx : x.length = ds.length) (hy : y.length = ds.length) (h : x ≠ y) : full ds t x ≠ full ds t y := fun e => by
  unfold full at e
  exact h (List.append_inj_right' e (by omega))
theorem eqv_tup : ∀ xs ys : List Int, PyData.eqvAll (xs.map PyData.int) (ys.map PyData.int) = decide (xs = ys)
  | [], [] => by simp [PyData.eqvAll]
  | [], _ :: _ => by simp [PyData.eqvAll]
  | _ :: _, [] => by simp [PyData.eqvAll]
  | a :: r, b :: t => by
    simp only [List.map_cons, PyData.eqvAll, PyData.eqv, eqv_tup r t]
    by_cases h : a = b <;> by_cases h' : r = t <;> simp [h, h']
theorem shT (ns : List Int) : SeqAt.shaped (.tuple (ns.map PyData.int)) = true := by
  unfold SeqAt.shaped
  simp [PyData.canLay0, PyData.depth, canInts, depInts]
end Lk

namespace Lk
open PySem L2 PySem.Spec PyProof.Rows
/-! ### a tuple times 0, 1 or more -/
theorem tuple_mul_none (l : Addr) (items : Array Value) (n : Nat) (dd : Option Addr) (sl : Array (Option Value)) (u : Tok) (c1 : (items.isEmpty || (0 : Int) == 1) = false) :
    Meets (Builtin.«tuple.__mul__» ⟨[.ref l, .int 0 u], []⟩) (fun _ R s => s.heap.get? l = some { cls := .type "tuple", dict := dd, data := .seq items n, slots := sl } ∧
      R (.ok (.ret (Value.ref s.heap.objs.size))) { s with heap := s.heap.push { cls := Value.type "tuple", data := Data.seq #[] }, toks := s.toks }) :=
  .of_wp fun prog w A R s h => by
    obtain ⟨hp, g, d, tk, os⟩ := s
    obtain ⟨hl, h⟩ := h
    have f1 := AutoSeq1.idx_int
    wp_walk using wpAny_loadPart' hl
    repeat (first
      | (refine wpAny_ite_false (decide_eq_false (by rw [c1]; exact Bool.false_ne_true)) ?_; wp_walk using wpAny_loadPart' hl)
      | (refine wpAny_ite_false (decide_eq_false (by decide)) ?_; wp_walk using wpAny_loadPart' hl)
      | (refine wpAny_ite_true (decide_eq_true (by simp)) ?_; wp_walk using wpAny_loadPart' hl))
    exact ⟨_, rfl, h⟩
theorem tuple_mul_one (l : Addr) (items : Array Value) (n : Nat) (dd : Option Addr) (sl : Array (Option Value)) (u : Tok) (c1 : (items.isEmpty || (1 : Int) == 1) = true) :
    Meets (Builtin.«tuple.__mul__» ⟨[.ref l, .int 1 u], []⟩) (fun _ R s => s.heap.get? l = some { cls := .type "tuple", dict := dd, data := .seq items n, slots := sl } ∧
      R (.ok (.ret (Value.ref l))) s) :=
  .of_wp fun prog w A R s h => by
    obtain ⟨hp, g, d, tk, os⟩ := s
    obtain ⟨hl, h⟩ := h
    have f1 := AutoSeq1.idx_int
    wp_walk using wpAny_loadPart' hl
    repeat (first
      | (refine wpAny_ite_false (decide_eq_false (by decide)) ?_; wp_walk using wpAny_loadPart' hl)
      | (refine wpAny_ite_true (decide_eq_true (by rw [c1])) ?_; wp_walk using wpAny_loadPart' hl))
    exact ⟨_, rfl, h⟩
/-- a tuple of one item, times k -/
def rRepO (K : PySem.W.Frag) : R2 := fun x y H Q => ∃ (l : Addr) (k : Int) (a : V), x = .ref l ∧ y = .int k ∧ SqT K H l [a] ∧ 0 ≤ k ∧ k ≤ 1000 ∧ (k = 1 → Q (.ref l) H) ∧ ∀ p, H p = none → Q (.ref p) (upd H p (.tup (List.replicate k.toNat a)))
section
variable {X : Cx}
theorem rep_flat (a : V) : ∀ m : Nat, (List.replicate m [a]).flatten = List.replicate m a
  | 0 => rfl
  | m + 1 => by rw [List.replicate_succ, List.flatten_cons, rep_flat a m, List.replicate_succ]; rfl
theorem op_repO : OpR X (binaryOp .Mult) (rRepO X.K) := by
  intro pins s σ H x y v u Q I rx ry h
  obtain ⟨l, k, a, rfl, rfl, hT, k0, k1, q1, q⟩ := h
  by_cases h2 : 2 ≤ k
  · refine op_repT pins s σ H _ _ v u Q I rx ry ⟨l, k, [a], rfl, rfl, hT, by simp, h2, k1, by simp, fun p np => ?_⟩
    rw [rep_flat]
    exact q p np
  cases rx
  obtain ⟨t, rfl⟩ := ry
  obtain ⟨its, r, ⟨⟨cls, dd, data, sl⟩, ho, hc, n, hd⟩, hs⟩ := I.tuple hT
  simp only at hc hd
  subst hc hd
  have hle : its.length = 1 := r.length.symm
  have hi : its.toArray.isEmpty = false := by
    cases its with
    | nil => cases hle
    | cons a b => rfl
  have hk : k = 0 ∨ k = 1 := by omega
  rcases hk with rfl | rfl
  · refine wpAny_binaryOp_repeat_ref (T := "tuple") (U := "int") (by decide) ⟨_, ho, rfl⟩ (fun s' => typeIs_int s' 0 t) noFill_tuple_mul F.fills_int_mul F.slot_int_rmul repeat_tuple F.slot_int_index.lookup
      (call_meets F.slot_int_rmul (typeIs_int s 0 t) F.entry_int_rmul (F.args_int_rmul_2 _ _) (int_rmul_tuple 0 t l its.toArray n dd sl)
        ⟨ho, rfl, ⟨_, ho, rfl⟩, call_meets F.slot_tuple_mul ⟨_, ho, rfl⟩ F.entry_tuple_mul (F.args_tuple_mul_2 _ _) (tuple_mul_none l its.toArray n dd sl t (by rw [hi]; rfl)) ⟨ho, ?_⟩⟩)
    refine ⟨.ref s.heap.objs.size, _, I.laid (t' := s.toks) (o := .tup []) (fun b ob q => Heap.get?_push_of_some _ q) (Nat.le_refl _) ?_, rfl, q _ (I.hok.fresh (Nat.le_refl _))⟩
    exact ⟨by rw [sizeLine_eq]; exact Nat.zero_le _, _, .nil, IsTup.new _ _⟩
  · refine wpAny_binaryOp_repeat_ref (T := "tuple") (U := "int") (by decide) ⟨_, ho, rfl⟩ (fun s' => typeIs_int s' 1 t) noFill_tuple_mul F.fills_int_mul F.slot_int_rmul repeat_tuple F.slot_int_index.lookup
      (call_meets F.slot_int_rmul (typeIs_int s 1 t) F.entry_int_rmul (F.args_int_rmul_2 _ _) (int_rmul_tuple 1 t l its.toArray n dd sl)
        ⟨ho, rfl, ⟨_, ho, rfl⟩, call_meets F.slot_tuple_mul ⟨_, ho, rfl⟩ F.entry_tuple_mul (F.args_tuple_mul_2 _ _) (tuple_mul_one l its.toArray n dd sl t (by rw [hi]; rfl)) ⟨ho, ?_⟩⟩)
    exact ⟨.ref l, H, I.tok _, rfl, q1 rfl⟩
end
/-! ### a tuple [::-1] -/
section
variable {prog : Program} {w : World} {A : Around} {E : Value → Shared → Prop} {s : Shared}
theorem applied_rev {sl : Addr} {vl vu vs : Value} {n : Nat} {Q : Int × Int × Nat → Shared → Prop} (hs : s.heap.IsSliceOf sl vl vu vs) (pl : IsPart vl none) (pu : IsPart vu none) (ps : IsPart vs (some (-1)))
    (h : Q ((n : Int) - 1, -1, n) s) : wpAny (model prog w) A (Builtin.Slice.sliceApplied (.ref sl) (pure (n : Int))) Q E s := by
  obtain ⟨os, hos, hcs, hds⟩ := id hs
  unfold Builtin.Slice.sliceApplied Builtin.Slice.sliceFields
  refine wpAny_bind (wpAny_bind (wpAny_field hos hds (x := vl) rfl (wpAny_bind (wpAny_field hos hds (x := vu) rfl (wpAny_bind (wpAny_field hos hds (x := vs) rfl (wpAny_pure ?_)))))))
  refine wpAny_bind (HT.slicePart_ ps ?_)
  show wpAny _ _ (if ((-1 : Int) == 0) = true then _ else _) _ _ s
  rw [if_neg (by decide)]
  refine wpAny_bind (HT.slicePart_ pl (wpAny_bind (HT.slicePart_ pu (wpAny_bind (wpAny_pure ?_)))))
  show wpAny _ _ (pure ((n : Int) - 1, (-1 : Int), Builtin.Slice.slicePlaces ((n : Int) - 1) (-1) (-1))) _ _ s
  have e : Builtin.Slice.slicePlaces ((n : Int) - 1) (-1) (-1) = n := by
    unfold Builtin.Slice.slicePlaces
    rw [if_neg (by decide)]
    by_cases z : (n : Int) - 1 > -1
    · rw [if_pos z, show (- -1 : Int) = 1 by decide, Int.ediv_one]
      omega
    · rw [if_neg z]
      omega
  rw [e]
  exact wpAny_pure h
theorem fm_congr {α β : Type} {f g : α → Option β} : ∀ {l : List α}, (∀ k ∈ l, f k = g k) → l.filterMap f = l.filterMap g
  | [], _ => rfl
  | a :: r, h => by
    rw [List.filterMap_cons, List.filterMap_cons, h a List.mem_cons_self, fm_congr (l := r) fun k hk => h k (List.mem_cons_of_mem _ hk)]
theorem pick_rev (xs : Array Value) : ((List.range xs.size).filterMap fun (k : Nat) => xs[((xs.size : Int) - 1 + (k : Int) * -1).toNat]?).toArray = xs.toList.reverse.toArray := by
  have e : ∀ k ∈ List.range xs.size, xs[((xs.size : Int) - 1 + (k : Int) * -1).toNat]? = xs[xs.size - 1 - k]? := fun k hk => by
    have : k < xs.size := List.mem_range.mp hk
    have e2 : ((xs.size : Int) - 1 + (k : Int) * -1).toNat = xs.size - 1 - k := by omega
    rw [e2]
  rw [fm_congr e]
  have e3 : (fun (k : Nat) => xs[xs.size - 1 - k]?) = (fun (j : Nat) => xs[j]?) ∘ (fun k => xs.size - 1 - k) := rfl
  rw [e3, ← List.filterMap_map, PySem.W.krv_range, List.filterMap_reverse, PySem.W.krv_all]
theorem getItem_tuple_rev {t sl : Addr} {items : Array Value} {vl vu vs : Value} {Q : Value → Shared → Prop} (ht : IsTup s.heap t items) (hs : s.heap.IsSliceOf sl vl vu vs) (pl : IsPart vl none) (pu : IsPart vu none) (ps : IsPart vs (some (-1)))
    (h : Q (.ref s.heap.objs.size) { s with heap := s.heap.push { cls := .type "tuple", data := .seq items.toList.reverse.toArray } })
    (hsz : items.size ≤ sizeLine) : wpAny (model prog w) A (getItem (.ref t) (.ref sl)) Q E s := by
  obtain ⟨os, hos, hcs, hds⟩ := id hs
  have hTs : s.TypeIs (.ref sl) "slice" := ⟨os, hos, hcs⟩
  unfold getItem
  try with_reducible refine wpAny_holding ?_
  first | refine wpAny_bind (wpAny_pure ?_) | skip
  refine wpAny_bind (wpAny_sequenceKey ht.typeIs (by decide) ?_)
  refine wpAny_bind (wpAny_callSpecial?_slot (name := Str.ofString "__getitem__") ht.typeIs PyProof.Rows.slot_tuple_getitem
    (wpAny_call_entry PyProof.Rows.slot_tuple_getitem ht.typeIs entry_tuple_getitem ?_ (args_tuple_getitem _ _)))
  show wpAny _ _ (Builtin.Tuple.tupleItemsOf (.ref t) >>= _) _ _ s
  refine wpAny_bind (tupleItemsOf_ ht ?_)
  refine wpAny_bind (wpAny_typeOf hTs ?_)
  rw [if_pos (by decide)]
  refine wpAny_bind (applied_rev hs pl pu ps ?_)
  have hno : ¬ (((((items.size : Nat) : Int) - 1 == 0 && (-1 : Int) == 1 && items.size == items.size)) = true) := by
    intro z
    rw [Bool.and_eq_true, Bool.and_eq_true] at z
    exact absurd z.1.2 (by decide)
  show wpAny _ _ (if ((((items.size : Nat) : Int) - 1 == 0 && (-1 : Int) == 1 && items.size == items.size)) = true then _ else _) _ _ s
  rw [if_neg hno, pick_rev]
  have htake : sizeOk (.seq items.toList.reverse.toArray) := by
    show items.toList.reverse.toArray.size ≤ sizeLine
    rw [List.size_toArray, List.length_reverse, Array.length_toList]
    exact hsz
  first
    | exact wpAny_bind (m := Builtin.Tuple.tupleExact _) (wpAny_newObj_type (wpAny_pure ⟨_, rfl, wpAny_pure h⟩) htake)
    | exact wpAny_bind (m := Builtin.Tuple.tupleExact _) (wpAny_newObj_type (wpAny_bind (wpAny_pure (wpAny_pure ⟨_, rfl, wpAny_pure h⟩))) htake)
    | exact wpAny_bind (wpAny_bind (m := Builtin.Tuple.tupleExact _) (wpAny_newObj_type (wpAny_pure (wpAny_pure ⟨_, rfl, wpAny_pure h⟩)) htake))
    | exact wpAny_bind (wpAny_bind (m := Builtin.Tuple.tupleExact _) (wpAny_newObj_type (wpAny_pure ⟨_, rfl, wpAny_pure h⟩) htake))
end
section
variable {X : Cx}
def tRevT (K : PySem.W.Frag) (te : TE) : TE := fun σ H Q => te σ H fun x H1 => ∃ a xs, x = .ref a ∧ SqT K H1 a xs ∧ ∀ p, H1 p = none → Q (.ref p) (upd H1 p (.tup xs.reverse))
theorem pe_revT {e : Expr} {te : TE} {k : Nat} {p1 p2 p3 pos : Pos} (he : PE X e te) : PE X (.Subscript e (.Slice none none (some (.UnaryOp .USub (.Constant (.int 1) k p1) p2)) p3) pos) (tRevT X.K te) := by
  refine ⟨fun pins s σ H Q I h => ?_⟩
  refine Subscript_ (thn (he.run pins s σ H _ I h) fun v s1 ⟨x, H1, I1, r1, q1⟩ => ?_)
  obtain ⟨a, xs, ex, hx, q⟩ := q1
  subst ex
  cases r1
  have hmin : PO X (some (.UnaryOp .USub (.Constant (.int 1) k p1) p2)) (tPart (tUn (rU fun i => .int (-i)) (tC (.int 1)))) := po_some (pe_un un_neg pe_int)
  refine wpAny_Slice (thn (po_none.run pins s1 σ H1 (fun o H2 => o = none ∧ H2 = H1) I1 ⟨rfl, rfl⟩) fun vl s2 ⟨l, H2, I2, pl, el, e2⟩ => ?_)
  subst el e2
  refine thn (po_none.run pins s2 σ H2 (fun o H3 => o = none ∧ H3 = H2) I2 ⟨rfl, rfl⟩) fun vu s3 ⟨u, H3, I3, pu, eu, e3⟩ => ?_
  subst eu e3
  refine thn (hmin.run pins s3 σ H3 (fun o H4 => o = some (-1) ∧ H4 = H3) I3 ⟨1, rfl, -1, rfl, rfl, rfl⟩) fun vs s4 ⟨o, H4, I4, ps, eo, e4⟩ => ?_
  subst eo e4
  have I5 : Inv X pins σ H4 { s4 with heap := s4.heap.push { cls := .type "slice", data := .fields #[vl, vu, vs] } } := I4.kept (t' := s4.toks) fun b ob q => Heap.get?_push_of_some _ q
  obtain ⟨its, r, ht, hz⟩ := I5.tuple hx
  have hlen := r.length
  show wpAny (model X.prog X.w) X.A (subscriptTail e (.Slice none none (some (.UnaryOp .USub (.Constant (.int 1) k p1) p2)) p3) (.ref a) (.ref s4.heap.objs.size)) (EP X pins σ Q) X.xe { s4 with heap := s4.heap.push { cls := .type "slice", data := .fields #[vl, vu, vs] } }
  refine tail_any (ops := [.ref a, .ref s4.heap.objs.size]) ht.typeIs (PyProof.Rows.slot_tuple_getitem.lookup) ?_ (by with_unfolding_all rfl)
  refine getItem_tuple_rev ht (Heap.IsSliceOf.new _ vl vu vs) pl pu ps ?_ (by rw [List.size_toArray]; omega)
  refine ⟨.ref _, _, I5.laid (t' := s4.toks) (o := .tup xs.reverse) (fun b ob q => Heap.get?_push_of_some _ q) (Nat.le_refl _) ?_, rfl, q _ (I5.hok.fresh (Nat.le_refl _))⟩
  exact ⟨by rw [List.length_reverse]; exact hz, _, r.reverse, IsTup.new _ _⟩
end
/-! ### o.m(k = e) -/
def tMethK (C : Addr) (m : Str) (sp : Sp) (gV : List V → List V → List V) (E : XK) (ta : TE) (tk : TA) : TE := fun σ H Q => ta σ H fun x H1 => ∃ a dx fs, x = .ref a ∧ H1 a = some (.ins C dx fs) ∧ fs.lookup m = none ∧
  tk σ H1 fun zs H2 => sp (gV [x] zs) H2 Q E
section
variable {X : Cx} {CX : CXT} {k : Nat} {f C : Addr} {fd : FuncData} {ps ks : List Str} {sp : Sp} {E : XK} {m : Str} {pos apos : Pos} {o : Expr} {kws : List Keyword} {ta : TE} {tk : TA} {g : List Value → List Value → List Value} {gV : List V → List V → List V}
theorem pe_methK {pl : Sem Bool} (he : PE X o ta) (c : Cls X.K C) (hm : Meth X.K C m f) (F : FnOk X.prog X.w X.K X.mg X.base CX k f fd ps sp) (hr : Room k X.A) (hb : KBinds X.K fd ps ks g gV) (hx : Passes CX X E) (hkw : PK X kws tk)
    (hall : (backToKw pos (keywordEach kws X.env)).all (·.1.isSome) = true := by rfl) (hks : (backToKw pos (keywordEach kws X.env)).filterMap (·.1) = ks := by rfl)
    (hpl : ((backTo pos (starEach [] X.env)).any (·.1) || (backToKw pos (keywordEach kws X.env)).any (·.1.isNone)) = false := by rfl)
    (ht : eval (.Call (.Attribute o m apos) [] kws pos) X.env = (do
      let ov ← eval o X.env
      standAt apos.atName
      let (f, first) ← holding [ov] (getMethod ov m pl)
      callWith pos f first (backTo pos (starEach [] X.env)) (backToKw pos (keywordEach kws X.env))) := by rfl) :
    PE X (.Call (.Attribute o m apos) [] kws pos) (tMethK C m sp gV E ta tk) := by
  refine ⟨fun pins s σ H Q I h => ?_⟩
  refine PySem.W.methodCall_KW (pl := pl) (thn (he.run pins s σ H _ I h) fun u s1 ⟨x, H1, I1, rx, a, dx, fs, ex, ea, l, q⟩ => ?_) ht
  subst ex
  obtain rfl : u = Value.ref a := rx
  refine getmeth_ok I1 ea c hm l ?_
  refine PySem.W.callWith_KW0 (first := [.ref a]) (h₀ := X.base) I.ok.mod.kin hm.kp hall ?_ hpl
  refine thn (hkw.run pos pins s1 σ H1 _ I1 q) fun ws s2 ⟨zs, H2, I2, rz, q2⟩ => ⟨I2.kIn, ?_⟩
  rw [hks]
  exact run_fnk (us := [.ref a]) (vs := [.ref a]) F hr hb hx I2 (.cons rfl .nil) rz q2
end
end Lk

namespace Lk
open PySem L2
theorem tyL {K : PySem.W.Frag} {H : Hp} {a : Addr} {xs : List V} (h : SqL K H a xs) : TyX K H (.ref a) (.type "list") := by
  rcases h with (h | ⟨o, h⟩) | ⟨o, its, n, hk, hc, _⟩
  · exact .base (.lst h)
  · exact .base (.frz h)
  · exact .kList hk hc
def scal : V → Bool
  | .non => true
  | .bl _ => true
  | .int _ => true
  | .str _ => true
  | _ => false
/-- found and due are alike, their parts m deep -/
def DD (K : PySem.W.Frag) (H : Hp) : Nat → V → V → Prop
  | 0, u, v => scal u = true ∧ u = v
  | m + 1, u, v => (scal u = true ∧ u = v) ∨ ∃ (a b : Addr) (xs ys : List V), u = .ref a ∧ v = .ref b ∧ ((SqT K H a xs ∧ SqT K H b ys) ∨ (SqL K H a xs ∧ SqL K H b ys)) ∧ xs.length = ys.length ∧ xs.length ≤ 1000 ∧ ∀ (i : Nat) (x y : V), xs[i]? = some x → ys[i]? = some y → DD K H m x y
theorem Same.sqL {K : PySem.W.Frag} {H H' : Hp} {a : Addr} {xs : List V} (e : Same H H') (h : SqL K H a xs) : SqL K H' a xs := L2.Same.seq e h
theorem DD.same {K : PySem.W.Frag} {H H' : Hp} (e : Same H H') : ∀ {m : Nat} {u v : V}, DD K H m u v → DD K H' m u v
  | 0, _, _, h => h
  | m + 1, u, v, h => by
    rcases h with h | ⟨a, b, xs, ys, rfl, rfl, hs, hl, h1, hr⟩
    · exact .inl h
    · refine .inr ⟨a, b, xs, ys, rfl, rfl, ?_, hl, h1, fun i x y f1 f2 => DD.same e (hr i x y f1 f2)⟩
      rcases hs with ⟨p, q⟩ | ⟨p, q⟩
      · exact .inl ⟨Same.sqT e p, Same.sqT e q⟩
      · exact .inr ⟨Same.sqL e p, Same.sqL e q⟩
theorem DD.up {K : PySem.W.Frag} {H : Hp} : ∀ {m : Nat} {u v : V}, DD K H m u v → DD K H (m + 1) u v
  | 0, u, v, h => .inl h
  | m + 1, u, v, h => by
    rcases h with h | ⟨a, b, xs, ys, e1, e2, hs, hl, h1, hr⟩
    · exact .inl h
    · exact .inr ⟨a, b, xs, ys, e1, e2, hs, hl, h1, fun i x y f1 f2 => DD.up (hr i x y f1 f2)⟩
def spSame (K : PySem.W.Frag) (m : Nat) : Sp := fun vs H Q _ => ∃ u v, vs = [u, v] ∧ DD K H m u v ∧ ∀ H', Same H H' → Q (.bl true) H'
section
variable {P : Program} {w : World} {K : PySem.W.Frag} {mg : Str → Option Value} {base : Heap}
theorem ok_same {f : Addr} {fd : FuncData} {k : Nat} (F : Fun K "_law_same" "_law_same" sLSame f fd) (ms : mg "isinstance" = none) (m1 : mg "list" = none) (m2 : mg "tuple" = none) (m3 : mg "dict" = none) (m4 : mg "bool" = none) (m5 : mg "int" = none) (m6 : mg "str" = none)
    (ml : mg "len" = none) (ma : mg "all" = none) (mz : mg "zip" = none) (gF : mg "_law_same" = some (.ref f)) (bF : Binds K fd ["_law_found", "_law_due"] []) :
    ∀ m : Nat, FnOk P w K mg base CX0 (k + 1 + m) f fd ["_law_found", "_law_due"] (spSame K m) := by
  intro m
  induction m with
  | zero =>
    refine F.ok scLSame (fun vs H Q E h => ?_) (fun cdv A outer s H vs Q E hr h => ?_)
    · obtain ⟨u, v, rfl, _⟩ := h
      rfl
    obtain ⟨u, v, rfl, hd, q⟩ := h
    refine ⟨_, pss_cons (ps_if (PW.pt (pw_or (pt_val (pe_callB call_isi (by rfl) ms (by decide +kernel) (pa_cons (pv 1) (pa_cons (pe_bltn (v := .ty "list") (by rfl) m1 (by decide +kernel) rfl) pa_nil)))) (pw_or1 (pt_val (pe_callB call_isi (by rfl) ms (by decide +kernel) (pa_cons (pv 1) (pa_cons (pe_bltn (v := .ty "tuple") (by rfl) m2 (by decide +kernel) rfl) pa_nil))))))) pss_never pss_nil)
      (pss_cons (ps_if (pt_val (pe_callB call_isi (by rfl) ms (by decide +kernel) (pa_cons (pv 1) (pa_cons (pe_bltn (v := .ty "dict") (by rfl) m3 (by decide +kernel) rfl) pa_nil)))) pss_never pss_nil)
      (pss_cons (ps_if (PW.pt (pw_or (pt_cmpR op_isN (pv 1) pe_non (nomark _)) (pw_or1 (pt_cmpR op_isN (pv 0) pe_non (nomark _))))) (pss_one (ps_ret (pe_and (pe_cmpR op_isN (pv 1) pe_non (nomark _)) (pe_one (pe_cmpR op_isN (pv 0) pe_non (nomark _)))))) pss_nil)
      (pss_cons (ps_if (PW.pt (pw_or (pt_cmpR op_ne (pe_callB call_isi (by rfl) ms (by decide +kernel) (pa_cons (pv 0) (pa_cons (pe_bltn (v := .ty "bool") (by rfl) m4 (by decide +kernel) rfl) pa_nil))) (pe_callB call_isi (by rfl) ms (by decide +kernel) (pa_cons (pv 1) (pa_cons (pe_bltn (v := .ty "bool") (by rfl) m4 (by decide +kernel) rfl) pa_nil))) (nomark _)) (pw_or1 (pt_cmpR op_ne (pe_callB call_isi (by rfl) ms (by decide +kernel) (pa_cons (pv 0) (pa_cons (pe_bltn (v := .ty "int") (by rfl) m5 (by decide +kernel) rfl) pa_nil))) (pe_callB call_isi (by rfl) ms (by decide +kernel) (pa_cons (pv 1) (pa_cons (pe_bltn (v := .ty "int") (by rfl) m5 (by decide +kernel) rfl) pa_nil))) (nomark _))))) (pss_one (ps_ret pe_bl)) pss_nil)
      (pss_one (ps_ret (pe_and (pe_cmpR op_eq (pe_callB call_isi (by rfl) ms (by decide +kernel) (pa_cons (pv 0) (pa_cons (pe_bltn (v := .ty "str") (by rfl) m6 (by decide +kernel) rfl) pa_nil))) (pe_callB call_isi (by rfl) ms (by decide +kernel) (pa_cons (pv 1) (pa_cons (pe_bltn (v := .ty "str") (by rfl) m6 (by decide +kernel) rfl) pa_nil))) (nomark _)) (pe_one (pe_cmpR op_eq (pv 0) (pv 1) (nomark _))))))))), ?_⟩
    obtain ⟨hs, rfl⟩ := hd
    have qq := q H (Same.refl _)
    cases u with
    | non =>
      refine ⟨_, rfl, _, _, _, _, false, rfl, .ty _, .base .non, kit_ty (by decide +kernel), false, rfl, iteF ?_⟩
      refine ⟨_, rfl, _, _, _, _, false, rfl, .ty _, .base .non, kit_ty (by decide +kernel), false, rfl, iteF ?_⟩
      refine ⟨_, rfl, _, _, _, _, false, rfl, .ty _, .base .non, kit_ty (by decide +kernel), false, rfl, iteF ?_⟩
      exact ⟨_, rfl, rfl, true, rfl, iteT ⟨_, rfl, rfl, true, rfl, iteT ⟨_, rfl, rfl, qq⟩⟩⟩
    | bl x =>
      refine ⟨_, rfl, _, _, _, _, false, rfl, .ty _, .base (.bl x), kit_ty (by decide +kernel), false, rfl, iteF ?_⟩
      refine ⟨_, rfl, _, _, _, _, false, rfl, .ty _, .base (.bl x), kit_ty (by decide +kernel), false, rfl, iteF ?_⟩
      refine ⟨_, rfl, _, _, _, _, false, rfl, .ty _, .base (.bl x), kit_ty (by decide +kernel), false, rfl, iteF ?_⟩
      refine ⟨_, rfl, rfl, false, rfl, iteF ⟨_, rfl, rfl, false, rfl, iteF ?_⟩⟩
      refine ⟨_, rfl, _, _, _, _, true, rfl, .ty _, .base (.bl x), kit_ty (by decide +kernel), _, rfl, _, _, _, _, true, rfl, .ty _, .base (.bl x), kit_ty (by decide +kernel), rfl, false, rfl, iteF ?_⟩
      refine ⟨_, rfl, _, _, _, _, true, rfl, .ty _, .base (.bl x), kit_ty (by decide +kernel), _, rfl, _, _, _, _, true, rfl, .ty _, .base (.bl x), kit_ty (by decide +kernel), rfl, false, rfl, iteF ?_⟩
      refine ⟨_, rfl, _, _, _, _, false, rfl, .ty _, .base (.bl x), kit_ty (by decide +kernel), _, rfl, _, _, _, _, false, rfl, .ty _, .base (.bl x), kit_ty (by decide +kernel), rfl, true, rfl, iteT ?_⟩
      refine ⟨_, rfl, _, rfl, rfl, ?_⟩
      rw [decide_eq_true rfl]
      exact qq
    | int x =>
      refine ⟨_, rfl, _, _, _, _, false, rfl, .ty _, .base (.int x), kit_ty (by decide +kernel), false, rfl, iteF ?_⟩
      refine ⟨_, rfl, _, _, _, _, false, rfl, .ty _, .base (.int x), kit_ty (by decide +kernel), false, rfl, iteF ?_⟩
      refine ⟨_, rfl, _, _, _, _, false, rfl, .ty _, .base (.int x), kit_ty (by decide +kernel), false, rfl, iteF ?_⟩
      refine ⟨_, rfl, rfl, false, rfl, iteF ⟨_, rfl, rfl, false, rfl, iteF ?_⟩⟩
      refine ⟨_, rfl, _, _, _, _, false, rfl, .ty _, .base (.int x), kit_ty (by decide +kernel), _, rfl, _, _, _, _, false, rfl, .ty _, .base (.int x), kit_ty (by decide +kernel), rfl, false, rfl, iteF ?_⟩
      refine ⟨_, rfl, _, _, _, _, true, rfl, .ty _, .base (.int x), kit_ty (by decide +kernel), _, rfl, _, _, _, _, true, rfl, .ty _, .base (.int x), kit_ty (by decide +kernel), rfl, false, rfl, iteF ?_⟩
      refine ⟨_, rfl, _, _, _, _, false, rfl, .ty _, .base (.int x), kit_ty (by decide +kernel), _, rfl, _, _, _, _, false, rfl, .ty _, .base (.int x), kit_ty (by decide +kernel), rfl, true, rfl, iteT ?_⟩
      refine ⟨_, rfl, _, rfl, rfl, ?_⟩
      rw [decide_eq_true rfl]
      exact qq
    | str x =>
      refine ⟨_, rfl, _, _, _, _, false, rfl, .ty _, .base (.str x), kit_ty (by decide +kernel), false, rfl, iteF ?_⟩
      refine ⟨_, rfl, _, _, _, _, false, rfl, .ty _, .base (.str x), kit_ty (by decide +kernel), false, rfl, iteF ?_⟩
      refine ⟨_, rfl, _, _, _, _, false, rfl, .ty _, .base (.str x), kit_ty (by decide +kernel), false, rfl, iteF ?_⟩
      refine ⟨_, rfl, rfl, false, rfl, iteF ⟨_, rfl, rfl, false, rfl, iteF ?_⟩⟩
      refine ⟨_, rfl, _, _, _, _, false, rfl, .ty _, .base (.str x), kit_ty (by decide +kernel), _, rfl, _, _, _, _, false, rfl, .ty _, .base (.str x), kit_ty (by decide +kernel), rfl, false, rfl, iteF ?_⟩
      refine ⟨_, rfl, _, _, _, _, false, rfl, .ty _, .base (.str x), kit_ty (by decide +kernel), _, rfl, _, _, _, _, false, rfl, .ty _, .base (.str x), kit_ty (by decide +kernel), rfl, false, rfl, iteF ?_⟩
      refine ⟨_, rfl, _, _, _, _, true, rfl, .ty _, .base (.str x), kit_ty (by decide +kernel), _, rfl, _, _, _, _, true, rfl, .ty _, .base (.str x), kit_ty (by decide +kernel), rfl, true, rfl, iteT ?_⟩
      refine ⟨_, rfl, _, rfl, rfl, ?_⟩
      rw [decide_eq_true rfl]
      exact qq
    | _ => cases hs
  | succ m GT =>
    refine F.ok scLSame (fun vs H Q E h => ?_) (fun cdv A outer s H vs Q E hr h => ?_)
    · obtain ⟨u, v, rfl, _⟩ := h
      rfl
    obtain ⟨u, v, rfl, hd, q⟩ := h
    have hr' : Room (k + 1 + m) _ := hr
    refine ⟨_, pss_cons (ps_if (PW.pt (pw_or (pt_val (pe_callB call_isi (by rfl) ms (by decide +kernel) (pa_cons (pv 1) (pa_cons (pe_bltn (v := .ty "list") (by rfl) m1 (by decide +kernel) rfl) pa_nil)))) (pw_or1 (pt_val (pe_callB call_isi (by rfl) ms (by decide +kernel) (pa_cons (pv 1) (pa_cons (pe_bltn (v := .ty "tuple") (by rfl) m2 (by decide +kernel) rfl) pa_nil)))))))
        (pss_cons (ps_if (PW.pt (pw_or (pt_cmpR op_ne (pe_callB call_isi (by rfl) ms (by decide +kernel) (pa_cons (pv 0) (pa_cons (pe_bltn (v := .ty "list") (by rfl) m1 (by decide +kernel) rfl) pa_nil))) (pe_callB call_isi (by rfl) ms (by decide +kernel) (pa_cons (pv 1) (pa_cons (pe_bltn (v := .ty "list") (by rfl) m1 (by decide +kernel) rfl) pa_nil))) (nomark _)) (pw_or1 (pt_cmpR op_ne (pe_callB call_isi (by rfl) ms (by decide +kernel) (pa_cons (pv 0) (pa_cons (pe_bltn (v := .ty "tuple") (by rfl) m2 (by decide +kernel) rfl) pa_nil))) (pe_callB call_isi (by rfl) ms (by decide +kernel) (pa_cons (pv 1) (pa_cons (pe_bltn (v := .ty "tuple") (by rfl) m2 (by decide +kernel) rfl) pa_nil))) (nomark _))))) (pss_one (ps_ret pe_bl)) pss_nil)
        (pss_one (ps_ret (pe_and (pe_cmpR op_eq (pe_callB call_len_seq (by rfl) ml PySem.boot_len (pa_cons (pv 0) pa_nil)) (pe_callB call_len_seq (by rfl) ml PySem.boot_len (pa_cons (pv 1) pa_nil)) (nomark _))
          (pe_one (pe_callB (cr_all rfl) (by rfl) ma (by decide +kernel) (pa_cons (pe_lc (own := [("_law_one", 2), ("_law_other", 3)]) (g := gTup K 2 (gCons (gName 2) (gCons (gName 3) gNil))) (by rfl) scLSame.nd (RZ.pi_zipA (by rfl) mz (pa_cons (pv 0) (pa_cons (pv 1) pa_nil)))
            (blkOk_by (own := [("_law_one", 2), ("_law_other", 3)]) (N := ["_law_found", "_law_due", "_law_one", "_law_other", "_law_key"]) (sc := defScope sLSame) (by decide +kernel))
            (fun _ _ _ _ _ => pg_tup rfl (pgs_cons (pg_name (i := 2) scLSame.nd rfl (.inl rfl)) (pgs_cons (pg_name (i := 3) scLSame.nd rfl (.inl rfl)) pgs_nil))) (fun _ _ _ _ _ => pts_nil)
            (fun _ _ _ _ _ => pe_call GT hr' (by rfl) gF F.kp bF .nil pass0 (pa_cons (pv 2) (pa_cons (pv 3) pa_nil)))) pa_nil))))))) pss_nil)
      (pss_cons (ps_if (pt_val (pe_callB call_isi (by rfl) ms (by decide +kernel) (pa_cons (pv 1) (pa_cons (pe_bltn (v := .ty "dict") (by rfl) m3 (by decide +kernel) rfl) pa_nil)))) pss_never pss_nil)
      (pss_cons (ps_if (PW.pt (pw_or (pt_cmpR op_isN (pv 1) pe_non (nomark _)) (pw_or1 (pt_cmpR op_isN (pv 0) pe_non (nomark _))))) (pss_one (ps_ret (pe_and (pe_cmpR op_isN (pv 1) pe_non (nomark _)) (pe_one (pe_cmpR op_isN (pv 0) pe_non (nomark _)))))) pss_nil)
      (pss_cons (ps_if (PW.pt (pw_or (pt_cmpR op_ne (pe_callB call_isi (by rfl) ms (by decide +kernel) (pa_cons (pv 0) (pa_cons (pe_bltn (v := .ty "bool") (by rfl) m4 (by decide +kernel) rfl) pa_nil))) (pe_callB call_isi (by rfl) ms (by decide +kernel) (pa_cons (pv 1) (pa_cons (pe_bltn (v := .ty "bool") (by rfl) m4 (by decide +kernel) rfl) pa_nil))) (nomark _)) (pw_or1 (pt_cmpR op_ne (pe_callB call_isi (by rfl) ms (by decide +kernel) (pa_cons (pv 0) (pa_cons (pe_bltn (v := .ty "int") (by rfl) m5 (by decide +kernel) rfl) pa_nil))) (pe_callB call_isi (by rfl) ms (by decide +kernel) (pa_cons (pv 1) (pa_cons (pe_bltn (v := .ty "int") (by rfl) m5 (by decide +kernel) rfl) pa_nil))) (nomark _))))) (pss_one (ps_ret pe_bl)) pss_nil)
      (pss_one (ps_ret (pe_and (pe_cmpR op_eq (pe_callB call_isi (by rfl) ms (by decide +kernel) (pa_cons (pv 0) (pa_cons (pe_bltn (v := .ty "str") (by rfl) m6 (by decide +kernel) rfl) pa_nil))) (pe_callB call_isi (by rfl) ms (by decide +kernel) (pa_cons (pv 1) (pa_cons (pe_bltn (v := .ty "str") (by rfl) m6 (by decide +kernel) rfl) pa_nil))) (nomark _)) (pe_one (pe_cmpR op_eq (pv 0) (pv 1) (nomark _))))))))), ?_⟩
    rcases hd with ⟨hs, rfl⟩ | ⟨a, b, xs, ys, rfl, rfl, hS, hl, h1, hr2⟩
    · have qq := q H (Same.refl _)
      cases u with
      | non =>
        refine ⟨_, rfl, _, _, _, _, false, rfl, .ty _, .base .non, kit_ty (by decide +kernel), false, rfl, iteF ?_⟩
        refine ⟨_, rfl, _, _, _, _, false, rfl, .ty _, .base .non, kit_ty (by decide +kernel), false, rfl, iteF ?_⟩
        refine ⟨_, rfl, _, _, _, _, false, rfl, .ty _, .base .non, kit_ty (by decide +kernel), false, rfl, iteF ?_⟩
        exact ⟨_, rfl, rfl, true, rfl, iteT ⟨_, rfl, rfl, true, rfl, iteT ⟨_, rfl, rfl, qq⟩⟩⟩
      | bl x =>
        refine ⟨_, rfl, _, _, _, _, false, rfl, .ty _, .base (.bl x), kit_ty (by decide +kernel), false, rfl, iteF ?_⟩
        refine ⟨_, rfl, _, _, _, _, false, rfl, .ty _, .base (.bl x), kit_ty (by decide +kernel), false, rfl, iteF ?_⟩
        refine ⟨_, rfl, _, _, _, _, false, rfl, .ty _, .base (.bl x), kit_ty (by decide +kernel), false, rfl, iteF ?_⟩
        refine ⟨_, rfl, rfl, false, rfl, iteF ⟨_, rfl, rfl, false, rfl, iteF ?_⟩⟩
        refine ⟨_, rfl, _, _, _, _, true, rfl, .ty _, .base (.bl x), kit_ty (by decide +kernel), _, rfl, _, _, _, _, true, rfl, .ty _, .base (.bl x), kit_ty (by decide +kernel), rfl, false, rfl, iteF ?_⟩
        refine ⟨_, rfl, _, _, _, _, true, rfl, .ty _, .base (.bl x), kit_ty (by decide +kernel), _, rfl, _, _, _, _, true, rfl, .ty _, .base (.bl x), kit_ty (by decide +kernel), rfl, false, rfl, iteF ?_⟩
        refine ⟨_, rfl, _, _, _, _, false, rfl, .ty _, .base (.bl x), kit_ty (by decide +kernel), _, rfl, _, _, _, _, false, rfl, .ty _, .base (.bl x), kit_ty (by decide +kernel), rfl, true, rfl, iteT ?_⟩
        refine ⟨_, rfl, _, rfl, rfl, ?_⟩
        rw [decide_eq_true rfl]
        exact qq
      | int x =>
        refine ⟨_, rfl, _, _, _, _, false, rfl, .ty _, .base (.int x), kit_ty (by decide +kernel), false, rfl, iteF ?_⟩
        refine ⟨_, rfl, _, _, _, _, false, rfl, .ty _, .base (.int x), kit_ty (by decide +kernel), false, rfl, iteF ?_⟩
        refine ⟨_, rfl, _, _, _, _, false, rfl, .ty _, .base (.int x), kit_ty (by decide +kernel), false, rfl, iteF ?_⟩
        refine ⟨_, rfl, rfl, false, rfl, iteF ⟨_, rfl, rfl, false, rfl, iteF ?_⟩⟩
        refine ⟨_, rfl, _, _, _, _, false, rfl, .ty _, .base (.int x), kit_ty (by decide +kernel), _, rfl, _, _, _, _, false, rfl, .ty _, .base (.int x), kit_ty (by decide +kernel), rfl, false, rfl, iteF ?_⟩
        refine ⟨_, rfl, _, _, _, _, true, rfl, .ty _, .base (.int x), kit_ty (by decide +kernel), _, rfl, _, _, _, _, true, rfl, .ty _, .base (.int x), kit_ty (by decide +kernel), rfl, false, rfl, iteF ?_⟩
        refine ⟨_, rfl, _, _, _, _, false, rfl, .ty _, .base (.int x), kit_ty (by decide +kernel), _, rfl, _, _, _, _, false, rfl, .ty _, .base (.int x), kit_ty (by decide +kernel), rfl, true, rfl, iteT ?_⟩
        refine ⟨_, rfl, _, rfl, rfl, ?_⟩
        rw [decide_eq_true rfl]
        exact qq
      | str x =>
        refine ⟨_, rfl, _, _, _, _, false, rfl, .ty _, .base (.str x), kit_ty (by decide +kernel), false, rfl, iteF ?_⟩
        refine ⟨_, rfl, _, _, _, _, false, rfl, .ty _, .base (.str x), kit_ty (by decide +kernel), false, rfl, iteF ?_⟩
        refine ⟨_, rfl, _, _, _, _, false, rfl, .ty _, .base (.str x), kit_ty (by decide +kernel), false, rfl, iteF ?_⟩
        refine ⟨_, rfl, rfl, false, rfl, iteF ⟨_, rfl, rfl, false, rfl, iteF ?_⟩⟩
        refine ⟨_, rfl, _, _, _, _, false, rfl, .ty _, .base (.str x), kit_ty (by decide +kernel), _, rfl, _, _, _, _, false, rfl, .ty _, .base (.str x), kit_ty (by decide +kernel), rfl, false, rfl, iteF ?_⟩
        refine ⟨_, rfl, _, _, _, _, false, rfl, .ty _, .base (.str x), kit_ty (by decide +kernel), _, rfl, _, _, _, _, false, rfl, .ty _, .base (.str x), kit_ty (by decide +kernel), rfl, false, rfl, iteF ?_⟩
        refine ⟨_, rfl, _, _, _, _, true, rfl, .ty _, .base (.str x), kit_ty (by decide +kernel), _, rfl, _, _, _, _, true, rfl, .ty _, .base (.str x), kit_ty (by decide +kernel), rfl, true, rfl, iteT ?_⟩
        refine ⟨_, rfl, _, rfl, rfl, ?_⟩
        rw [decide_eq_true rfl]
        exact qq
      | _ => cases hs
    -- the parts
    have lens : ∀ {D : Addr} {H2 : Hp} {i : Nat} {n : Nat}, i < n → n = xs.length → (((List.replicate i true).map V.bl)).length < sizeLine := fun {D H2 i n} hi hn => by
      rw [List.length_map, List.length_replicate]
      exact small1000 (by omega)
    have step : ∀ {D T : Addr} {H2 : Hp} {i : Nat} {x y : V}, H D = none → xs[i]? = some x → ys[i]? = some y → Same H H2 → H2 D = some (.lst ((List.replicate i true).map V.bl)) → H2 T = none →
        spSame K m [x, y] (upd H2 T (.tup [x, y])) (fun v H3 => ∃ acc, H3 D = some (.lst acc) ∧ acc.length < sizeLine ∧ Same H (upd H3 D (.lst (acc ++ [v]))) ∧ (upd H3 D (.lst (acc ++ [v]))) D = some (.lst ((List.replicate (i + 1) true).map V.bl))) E0 := fun {D T H2 i x y} nD fx fy sm hD nT => by
      refine ⟨x, y, rfl, DD.same (sm.trans (same_new nT)) (hr2 i x y fx fy), fun H3 s3 => ?_⟩
      have hi : i < xs.length := (List.getElem?_eq_some_iff.mp fx).1
      have hD2 : (upd H2 T (.tup [x, y])) D = some (.lst ((List.replicate i true).map V.bl)) := by
        rw [upd_ne (ne_of_none hD nT)]
        exact hD
      refine ⟨_, s3 _ _ hD2, ?_, ?_, ?_⟩
      · rw [List.length_map, List.length_replicate]
        exact small1000 (by omega)
      · intro c o e
        rw [upd_ne (ne_of_none e nD)]
        exact s3 _ _ ((same_new nT) _ _ (sm _ _ e))
      · rw [upd_same, List.replicate_succ', List.map_append]
        rfl
    have fin : ∀ {D : Addr} {H2 : Hp} {n : Nat}, Same H H2 → H2 D = some (.lst ((List.replicate n true).map V.bl)) → ∃ (a : Addr) (bs : List Bool), [V.ref D] = [V.ref a] ∧ SqL K H2 a (bs.map V.bl) ∧ Q (.bl (bs.all id)) H2 := fun {D H2 n} sm hD => by
      refine ⟨D, List.replicate n true, rfl, SqL.of hD, ?_⟩
      have e : (List.replicate n true).all id = true := by simp
      rw [e]
      exact q H2 sm
    rcases hS with ⟨hA, hB⟩ | ⟨hA, hB⟩
    · refine ⟨_, rfl, _, _, _, _, false, rfl, .ty _, tyT hB, kit_ty (by decide +kernel), false, rfl, iteF ?_⟩
      refine ⟨_, rfl, _, _, _, _, true, rfl, .ty _, tyT hB, kit_ty (by decide +kernel), true, rfl, iteT ?_⟩
      refine ⟨_, rfl, _, _, _, _, false, rfl, .ty _, tyT hA, kit_ty (by decide +kernel), _, rfl, _, _, _, _, false, rfl, .ty _, tyT hB, kit_ty (by decide +kernel), rfl, false, rfl, iteF ?_⟩
      refine ⟨_, rfl, _, _, _, _, true, rfl, .ty _, tyT hA, kit_ty (by decide +kernel), _, rfl, _, _, _, _, true, rfl, .ty _, tyT hB, kit_ty (by decide +kernel), rfl, false, rfl, iteF ?_⟩
      refine ⟨_, rfl, a, _, rfl, .inr hA, _, rfl, b, _, rfl, .inr hB, rfl, true, congrArg V.bl (decide_eq_true (by rw [hl])), iteT ?_⟩
      refine ⟨_, rfl, _, rfl, a, b, xs, ys, rfl, .inr ⟨hA, hB, fun D nD => ?_⟩⟩
      refine lc_it (walk_zipT hl) (fun i H2 => Same H H2 ∧ H2 D = some (.lst ((List.replicate i true).map V.bl))) ⟨same_new nD, upd_same⟩ (fun i H2 _ ⟨sm, _⟩ => ⟨Same.sqT sm hA, Same.sqT sm hB⟩) ?_ ?_
      · rintro i x H2 H3 hi ⟨sm, hD⟩ ⟨T, x1, x2, rfl, nT, rfl, f1, f2⟩
        refine ⟨T, _, rfl, SqT.of upd_same, rfl, _, _, rfl, _, _, rfl, rfl, rfl, _, rfl, _, rfl, step nD f1 f2 sm hD nT⟩
      · rintro H2 ⟨sm, hD⟩
        exact fin sm hD
    · refine ⟨_, rfl, _, _, _, _, true, rfl, .ty _, tyL hB, kit_ty (by decide +kernel), true, rfl, iteT ?_⟩
      refine ⟨_, rfl, _, _, _, _, true, rfl, .ty _, tyL hA, kit_ty (by decide +kernel), _, rfl, _, _, _, _, true, rfl, .ty _, tyL hB, kit_ty (by decide +kernel), rfl, false, rfl, iteF ?_⟩
      refine ⟨_, rfl, _, _, _, _, false, rfl, .ty _, tyL hA, kit_ty (by decide +kernel), _, rfl, _, _, _, _, false, rfl, .ty _, tyL hB, kit_ty (by decide +kernel), rfl, false, rfl, iteF ?_⟩
      refine ⟨_, rfl, a, _, rfl, .inl hA, _, rfl, b, _, rfl, .inl hB, rfl, true, congrArg V.bl (decide_eq_true (by rw [hl])), iteT ?_⟩
      refine ⟨_, rfl, _, rfl, a, b, xs, ys, rfl, .inl ⟨hA, hB, fun D nD => ?_⟩⟩
      refine lc_it (walk_zip (n := xs.length) (by omega)) (fun i H2 => Same H H2 ∧ H2 D = some (.lst ((List.replicate i true).map V.bl))) ⟨same_new nD, upd_same⟩ (fun i H2 _ ⟨sm, _⟩ => ⟨Same.sqL sm hA, Same.sqL sm hB⟩) ?_ ?_
      · rintro i x H2 H3 hi ⟨sm, hD⟩ ⟨T, x1, x2, rfl, nT, rfl, f1, f2⟩
        refine ⟨T, _, rfl, SqT.of upd_same, rfl, _, _, rfl, _, _, rfl, rfl, rfl, _, rfl, _, rfl, step nD f1 f2 sm hD nT⟩
      · rintro H2 ⟨sm, hD⟩
        exact fin sm hD
end
end Lk

/-! defs of a class whose text says super(): their closure holds the class's own cell -/
namespace Lx
open PySem L2
/-- the context of such a def's body: as any def's, the cell of the class beside -/
def cxK (CX : CXT) (P : Program) (w : World) (K : PySem.W.Frag) (mg : Str → Option Value) (base : Heap) (N : List Str) (qual : Str) (scope : Scope) (f : Addr) (cd : Value) (cc : Addr) (A : Around) (outer : List Env) (s : Shared) (H : Hp) (E : XK) : Cx :=
  { cxOf CX P w K mg base N qual scope f cd A outer s H E with
    A := A.deeper (PySem.W.ksEnv qual scope s.heap.objs.size f cd cc)
    env := PySem.W.ksEnv qual scope s.heap.objs.size f cd cc
    stack := PySem.W.ksEnv qual scope s.heap.objs.size f cd cc :: outer
    fn := fun _ => false
    xe := fun e s' => wpAny (model P w) (A.deeper (PySem.W.ksEnv qual scope s.heap.objs.size f cd cc)) (leaving (PySem.W.ksEnv qual scope s.heap.objs.size f cd cc) e) (fun _ s'' => CX outer H s E e s'') (fun e' s'' => CX outer H s E e' s'') s' }
structure KScope (N : List Str) (sc : Scope) : Prop where
  kind : sc.kind = .function
  co : sc.isCoroutine = false
  gen : sc.isGenerator = false
  nd : N.Nodup
  par : ∀ x ∈ N, sc.names.lookup x = some .local
  cell : ∀ y ∈ sc.names, y.2 ≠ .cell
  free : ∀ y ∈ sc.names, y.2 = .free → y.1 = "__class__"
theorem look_zip : ∀ {ps : List Str} {us : List Value} {i : Nat} {y : Str} {u : Value}, ps.Nodup → ps[i]? = some y → us[i]? = some u → (ps.zip us).reverse.lookup y = some u := by
  have key : ∀ {l : List (Str × Value)} {y : Str} {u : Value}, (l.map (·.1)).Nodup → (y, u) ∈ l → l.lookup y = some u := by
    intro l y u
    induction l with
    | nil => intro _ h; cases h
    | cons q r ih =>
      intro nd h
      obtain ⟨z, v⟩ := q
      rw [List.map_cons, List.nodup_cons] at nd
      rcases List.mem_cons.mp h with e | e
      · cases e
        simp [List.lookup]
      · have ne : y ≠ z := fun ez => nd.1 (by rw [← ez]; exact List.mem_map.mpr ⟨(y, u), e, rfl⟩)
        have nb : (y == z) = false := by simpa using ne
        simp only [List.lookup, nb]
        exact ih nd.2 e
  intro ps us i y u nd h1 h2
  refine key ?_ ?_
  · rw [List.map_reverse]
    refine (List.reverse_perm _).nodup_iff.mpr (nd.sublist ?_)
    have : (ps.zip us).map (·.1) = ps.take us.length := by
      clear h1 h2 nd
      induction ps generalizing us with
      | nil => simp
      | cons p r ih =>
        cases us with
        | nil => simp
        | cons v t => simp [ih]
    rw [this]
    exact List.take_sublist _ _
  · rw [List.mem_reverse]
    have : (ps.zip us)[i]? = some (y, u) := by
      rw [List.getElem?_zip_eq_some]
      exact ⟨h1, h2⟩
    exact List.mem_of_getElem? this
section
variable {CX : CXT} {P : Program} {w : World} {K : PySem.W.Frag} {mg : Str → Option Value} {base : Heap} {N : List Str} {qual : Str} {scope : Scope} {f cc D : Addr} {cd : Value} {A : Around} {outer : List Env} {s : Shared} {H : Hp} {E : XK} {us : List Value} {vs : List V}
theorem inv_startK (S : KScope N scope) (hd : A.handled = none) (e0 : Env0 P w K mg base A outer s H) (hl : vs.length = N.length) (r : Vals vs us) {cl : Value} {cld : Option Addr} {csl : Array (Option Value)} {cv : Option Value}
    (hcell : K.lookup cc = some ⟨cl, cld, .cell cv, csl⟩) {h1 : Heap} {tk : Nat} (hns : h1.Ns s.heap.objs.size (fun x => (N.zip us).reverse.lookup x)) (hk : ∀ b o, s.heap.get? b = some o → h1.get? b = some o) :
    Inv (cxK CX P w K mg base N qual scope f cd cc A outer s H E) [] (L2.start N vs) H { s with heap := h1, toks := tk } := by
  have hb := e0.bs cc _ (e0.mod.kin _ _ hcell)
  have noA : ∀ b : Addr, b ∉ (cxK CX P w K mg base N qual scope f cd cc A outer s H E).ex := fun b z => absurd (show b ∈ ([] : List Addr) from z) (by simp)
  have one : ∀ {y : Str} {c : Addr}, (cxK CX P w K mg base N qual scope f cd cc A outer s H E).env.cells.lookup y = some c → y = "__class__" ∧ c = cc := fun {y c} e => by
    have e : List.lookup y [(("__class__" : Str), cc)] = some c := e
    by_cases hy : y = "__class__"
    · subst hy
      simp [List.lookup] at e
      exact ⟨rfl, e.symm⟩
    · have nb : (y == ("__class__" : Str)) = false := by simpa using hy
      simp [List.lookup, nb] at e
  refine ⟨⟨e0.mod, S.kind, rfl, rfl, Nat.le_refl _, fun y z c a b => (one a).1.trans (one b).1.symm, fun y hy => ?_, fun y c z _ => Bool.noConfusion (show false = true from z), fun _ => hd, Around.frames_deeper e0.frames, .inr ⟨rfl, rfl⟩, fun b z => absurd z (noA b), e0.bs, e0.bsz, fun b _ _ => noA b, fun b z => absurd z (noA b), e0.funs, e0.frf⟩,
    rfl, e0.bare, Un.kept hk, ⟨_, hns, fun i y v a1 a2 a3 => ?_⟩, fun y c e => ?_, e0.hok.fresh (Nat.le_refl _), fun y c e => ?_, fun p hp => absurd (show p ∈ ([] : List (Addr × Obj)) from hp) (by simp), e0.hok.kept hk, ?_⟩
  · have hy : scope.names.lookup y = some .cell ∨ scope.names.lookup y = some .free := hy
    rcases hy with hy | hy
    · exact absurd rfl (S.cell _ (PySem.mem_of_lookup hy))
    · have := S.free _ (PySem.mem_of_lookup hy) rfl
      have e : y = "__class__" := this
      subst e
      exact ⟨cc, by simp [cxK, List.lookup]⟩
  · have hi : i < vs.length := by
      have : i < N.length := (List.getElem?_eq_some_iff.mp a1).1
      omega
    have ha : vs[i]? = some v := by
      unfold L2.start at a2
      rw [List.getElem?_append_left (by simpa using hi), List.getElem?_map] at a2
      cases e : vs[i]? with
      | none => rw [e] at a2; cases a2
      | some x => rw [e] at a2; cases a2; rfl
    obtain ⟨u, hu, rv⟩ := r.get ha
    have a1' : N[i]? = some y := a1
    exact ⟨u, rv, .inl ⟨S.par y (List.mem_of_getElem? a1'), look_zip S.nd a1' hu⟩⟩
  · rw [(one e).2]
    exact ⟨cv, _, hk _ _ hb.1, rfl⟩
  · rw [(one e).2]
    exact hb.2
  · unfold L2.start
    show _ = N.length
    rw [List.length_append, List.length_map, List.length_replicate]
    omega
/-- THE RULE for such a def -/
theorem fn_ofK {k : Nat} {name : Str} {params : Arguments} {body : List Stmt} {dV kV doc pm ct oc : Value} {an od : Option Addr} {osl : Array (Option Value)} {sp : Sp} {cl : Value} {cld : Option Addr} {csl : Array (Option Value)} {cv : Option Value}
    (lk : K.lookup f = some ⟨oc, od, .func (PySem.W.ksFn name qual params body scope dV kV doc pm an cd ct cc), osl⟩) (hcd : PySem.W.codeIn K cd qual = true) (hcell : K.lookup cc = some ⟨cl, cld, .cell cv, csl⟩) (S : KScope N scope)
    (len : ∀ vs H Q E, sp vs H Q E → vs.length = N.length)
    (hbody : ∀ (A : Around) (outer : List Env) (s s1 : Shared) (H : Hp) (vs : List V) (Q : VK) (E : XK), Room k (A.deeper (PySem.W.ksEnv qual scope s.heap.objs.size f cd cc)) → sp vs H Q E → Inv (cxK CX P w K mg base N qual scope f cd cc A outer s H E) [] (L2.start N vs) H s1 →
      wpAt (model P w) (A.deeper (PySem.W.ksEnv qual scope s.heap.objs.size f cd cc)) (.func body (PySem.W.ksEnv qual scope s.heap.objs.size f cd cc)) (execs body (PySem.W.ksEnv qual scope s.heap.objs.size f cd cc))
        (SP (cxK CX P w K mg base N qual scope f cd cc A outer s H E) [] { nx := fun _ H' => Q .non H', rt := Q }) (cxK CX P w K mg base N qual scope f cd cc A outer s H E).xe s1) :
    FnOk P w K mg base CX (k + 1) f (PySem.W.ksFn name qual params body scope dV kV doc pm an cd ct cc) N sp := by
  refine ⟨len, fun A outer s H args us vs Q E hr e0 hb r hsp => ?_⟩
  have hl := len _ _ _ _ hsp
  have KX : K.In s.heap := e0.mod.kin.keeps fun b o e => (e0.bs b o e).1
  have lim : s.heap.NoLimit := e0.mod.nolimit.keeps fun b o e => (e0.bs b o e).1
  refine ks_codeAny_call_defAt (fd := PySem.W.ksFn name qual params body scope dV kV doc pm an cd ct cc) (body := body) (binds := N.zip us) hr.depth (KX _ _ lk) rfl lim (PySem.W.codeRec_of KX hcd) rfl hb S.cell (fun y hy => S.par _ (List.of_mem_zip hy).1) (fun h₀ hns hk => ?_) S.co S.gen S.kind
  have I : Inv (cxK CX P w K mg base N qual scope f cd cc A outer s H E) [] (L2.start N vs) H { s with heap := h₀, toks := s.toks + (N.zip us).length } := inv_startK S hr.hd e0 hl r hcell hns hk
  refine ks_wpAt_mono (hbody A outer s _ H vs Q E (hr.deeper _) hsp I) (fun fl s' hs => ?_) fun e s' hs => hs
  have fin : ∀ {σ' : L2.St} {H' : Hp} {v : V} {u : Value}, Inv (cxK CX P w K mg base N qual scope f cd cc A outer s H E) [] σ' H' s' → RelV v u → Q v H' → CE outer P w H s Q u s' :=
    fun {σ' H' v u} J rv q => ⟨v, H', J.os, J.bare, J.base, J.hok, rv, q⟩
  cases fl with
  | ret u =>
    obtain ⟨v, σ', H', J, rv, q⟩ := hs
    exact fin J rv q
  | next =>
    obtain ⟨σ', H', J, q⟩ := hs
    exact fin (v := V.non) (u := Value.none) J rfl q
  | brk =>
    obtain ⟨_, _, _, q⟩ := hs
    exact False.elim q
  | cont =>
    obtain ⟨_, _, _, q⟩ := hs
    exact False.elim q
end
end Lx

namespace Lx
open PySem L2
/-- what super() asks in the body of a def of the class at D, self in the first slot -/
structure SupF (X : Cx) (f cc cda D : Addr) : Prop where
  fu : X.env.func = some f
  co : X.env.code = .ref cda
  ce : X.env.cells.lookup ("__class__" : Str) = some cc
  ks : X.env.kindOf ("super" : Str) = some .globalImplicit
  kc : X.env.kindOf ("__class__" : Str) = some .free
  sl : X.env.kindOf ("self" : Str) = some .local
  n0 : X.N[0]? = some ("self" : Str)
  lf : ∃ oc od fd osl ar, X.K.lookup f = some ⟨oc, od, .func fd, osl⟩ ∧ (fd.params.posonlyargs ++ fd.params.args).head? = some ar ∧ ar.arg = ("self" : Str)
  lc : ∃ ccl cdd vs ccs file tf, X.K.lookup cda = some ⟨ccl, cdd, .fields vs, ccs⟩ ∧ vs[2]? = some (.str file tf) ∧ ((X.prog.main.file : Str) == file) = true
  ll : ∃ cl cld csl, X.K.lookup cc = some ⟨cl, cld, .cell (some (.ref D)), csl⟩
  lD : ∃ cdD, PySem.W.clsIn X.K D = some cdD
  ms : X.mg "super" = none
  tp : (X.prog.main.scope.names.lookup ("super" : Str)).isSome = false
  op : PySem.W.nsIn X.K cStatics "thirdparty.any" = some none
section
variable {X : Cx} {pins : List (Addr × Obj)} {σ : L2.St} {H : Hp} {s : Shared} {E : Value → Shared → Prop} {f cc cda D a C : Addr} {d : Option Addr}
theorem cls_obj {K : PySem.W.Frag} {h : Heap} {cd : ClassData} (Y : K.In h) (e : PySem.W.clsIn K D = some cd) : ∃ oD, h.get? D = some oD ∧ oD.data = .cls cd := by
  unfold PySem.W.clsIn at e
  split at e
  · rename_i c d' cd' sl ho
    cases e
    exact ⟨_, Y _ _ ho, rfl⟩
  · cases e
theorem exo_ne {cd : ClassData} (I : Inv X pins σ H s) (ea : H a = some (exo a C d)) (e : PySem.W.clsIn X.K C = some cd) : a ≠ C := fun z => by
  obtain ⟨t1, ho⟩ := exo_at I.hok ea
  obtain ⟨oD, h1, h2⟩ := cls_obj I.kIn e
  rw [← z, ho] at h1
  have e1 := Option.some.inj h1
  rw [← e1] at h2
  cases h2
/-- super() -/
theorem sup_base (S : SupF X f cc cda D) (I : Inv X pins σ H s) (h0 : σ[0]? = some (some (.ref a))) (ea : H a = some (exo a C d)) (hsub : PySem.W.mroIn X.K C (.ref D) = some true) {body : List Stmt} {p0 p1 : Pos} {whole : Sem Value} {Q : Value → Shared → Prop}
    (h : ∀ so s', Inv X ((so, PySem.W.ks_superObj D a C) :: pins) σ H s' → Q (.ref so) s') :
    wpAt (model X.prog X.w) X.A (.func body X.env) (attributeBase (.Call (.Name "super" p0) [] [] p1) "__init__" X.env whole) Q E s := by
  obtain ⟨oc, od, fd, osl, ar, lf, hp, har⟩ := S.lf
  obtain ⟨ccl, cdd, vs, ccs, file, tf, lc, hvs, hfile⟩ := S.lc
  obtain ⟨cl, cld, csl, ll⟩ := S.ll
  obtain ⟨cdD, lD⟩ := S.lD
  obtain ⟨oD, hD1, hD2⟩ := cls_obj I.kIn lD
  obtain ⟨t1, ho⟩ := exo_at I.hok ea
  obtain ⟨mb, b1, b2⟩ := I.mod.blt
  obtain ⟨m, hn, hl⟩ := I.loc
  obtain ⟨u, ru, lo⟩ := hl 0 "self" (.ref a) S.n0 h0 (.inl S.sl)
  obtain rfl : u = Value.ref a := ru
  have hm : m "self" = some (.ref a) := by
    rcases lo with ⟨_, e⟩ | ⟨z, _⟩
    · exact e
    · rw [S.sl] at z
      rcases z with z | z <;> cases z
  refine ks_wpAt_super_base (env := X.env) (f := f) (cc := cda) (ar := ar) (file := file) (tf := tf) S.ks S.kc (by decide) S.fu (I.kIn _ _ lf) rfl hp S.co (I.kIn _ _ lc) rfl hvs hfile S.tp ?_
  refine PySem.W.ks_loadName_global I.ok.kind S.ks (Calls.loadGlobal_builtin (by rw [I.ok.glob]; exact I.mod.glob.keeps I.bk) S.ms (by rw [I.ok.blt]; exact b1.keeps I.bk) ((b2 _ (by decide)).trans (by decide +kernel)) ⟨rfl, ?_⟩)
  refine wpAny_loadName_free I.ok.kind S.kc S.ce ⟨_, I.kIn _ _ ll, rfl⟩ ?_
  rw [har]
  refine wpAny_loadName_local I.ok.kind S.sl hn hm ?_
  refine ks_wpAny_isType_cls hD1 hD2 ⟨rfl, ?_⟩
  obtain ⟨hh, g, dr, t, os⟩ := s
  refine ks_wpAny_call_super hD1 hD2 ho rfl (fun c e => by cases e) (PySem.W.looks_mroIn I.kIn hsub) fun h' e k => ?_
  exact h _ _ (ClX.pin_new (t' := t) I k (Nat.le_refl _) e (fun v z => by cases z))
theorem exo_inst (I : Inv X pins σ H s) (ea : H a = some (exo a C none)) : ∃ ox, PySem.W.InstAt s.heap a ox C none := by
  obtain ⟨t1, ho⟩ := exo_at I.hok ea
  exact ⟨_, ho, rfl, rfl, trivial⟩
/-- super().__init__, the built-in one -/
theorem sup_methB (S : SupF X f cc cda D) {so : Addr} (I : Inv X ((so, PySem.W.ks_superObj D a C) :: pins) σ H s) (ea : H a = some (exo a C none)) (hm : PySem.W.ks_superIn X.K C D "__init__" = some (some (.builtin "ValueError.__init__"))) (hB : PySem.W.subIn X.K (.ref C) (.type "ValueError") = some true) {pl : Sem Bool} {Q : Value × List Value → Shared → Prop}
    (h : ∀ u s', Inv X ((u, PySem.W.kxs_mw "ValueError.__init__" a) :: pins) σ H s' → Q (.ref u, []) s') : wpAny (model X.prog X.w) X.A (getMethod (.ref so) "__init__" pl) Q E s := by
  have hso : s.heap.get? so = some (PySem.W.ks_superObj D a C) := ClX.pin_at I
  have I0 := ClX.unpin I
  obtain ⟨ox, J⟩ := exo_inst I0 ea
  have hI : PySem.W.Looks (model X.prog X.w) s.heap (isInstance (.ref a) (.type "ValueError")) true := J.type.andThen (PySem.W.looks_subIn I.kIn hB)
  obtain ⟨hh, g, dr, t, os⟩ := s
  cases hc : PySem.W.clsIn X.K C with
  | none => unfold PySem.W.ks_superIn at hm; rw [hc] at hm; cases hm
  | some cd =>
    unfold PySem.W.ks_superIn at hm
    rw [hc] at hm
    refine PySem.W.kxs_getMethod PySem.W.kxs_ValueError hso (PySem.W.looks_opaque I.kIn S.op) (l₀ := cd.mro) ?_ rfl I.kIn hm hI (exo_ne I0 ea hc) (by decide) ?_
    · exact fun A Q E s k q => wpAny_bind ((PySem.W.looks_clsIn I.kIn hc) A _ E s k (wpAny_pure q))
    · exact h _ _ (ClX.pin_new (t' := t + 1) I0 (fun b o e => Heap.get?_push_of_some _ e) (Nat.le_refl _) (Heap.get?_push_at rfl rfl) (fun v z => by cases z))
/-- super().__init__, a def of a class of the text -/
theorem sup_methF (S : SupF X f cc cda D) {so f2 : Addr} (I : Inv X ((so, PySem.W.ks_superObj D a C) :: pins) σ H s) (ea : H a = some (exo a C none)) (hm : PySem.W.ks_superIn X.K C D "__init__" = some (some (.ref f2))) (ht : PySem.W.typeIn X.K (.ref f2) = some (.type "function")) {pl : Sem Bool} {Q : Value × List Value → Shared → Prop}
    (h : ∀ u s', Inv X ((u, PySem.W.methodObj (.ref f2) (.ref a)) :: pins) σ H s' → Q (.ref u, []) s') : wpAny (model X.prog X.w) X.A (getMethod (.ref so) "__init__" pl) Q E s := by
  have hso : s.heap.get? so = some (PySem.W.ks_superObj D a C) := ClX.pin_at I
  have I0 := ClX.unpin I
  have KX := I.kIn
  obtain ⟨hh, g, dr, t, os⟩ := s
  cases hc : PySem.W.clsIn X.K C with
  | none => unfold PySem.W.ks_superIn at hm; rw [hc] at hm; cases hm
  | some cd =>
    unfold PySem.W.ks_superIn at hm
    rw [hc] at hm
    obtain ⟨of, hof, hofc⟩ : ∃ of, hh.get? f2 = some of ∧ of.cls = .type "function" := by
      have ht' : (X.K.lookup f2).map (·.cls) = some (.type "function") := ht
      cases z : X.K.lookup f2 with
      | none => rw [z] at ht'; cases ht'
      | some of => rw [z] at ht'; exact ⟨of, KX _ _ z, Option.some.inj ht'⟩
    refine ks_wpAny_getMethod_super hso (PySem.W.looks_opaque KX S.op) (l₀ := cd.mro) ?_ rfl KX hm hof hofc (exo_ne I0 ea hc) (by decide) ?_
    · exact fun A Q E s k q => wpAny_bind ((PySem.W.looks_clsIn KX hc) A _ E s k (wpAny_pure q))
    · exact h _ _ (ClX.pin_new (t' := t + 1) I0 (fun b o e => Heap.get?_push_of_some _ e) (Nat.le_refl _) (Heap.get?_push_at rfl rfl) (fun v z => by cases z))
/-- the bound built-in __init__ is called: nothing of it is told -/
theorem bw_call {u : Addr} {rest : List Value} {Q : Value → Shared → Prop} (T : OexC X.K C) (I : Inv X ((u, PySem.W.kxs_mw "ValueError.__init__" a) :: pins) σ H s) (ea : H a = some (exo a C none)) (hz : rest.length ≤ sizeLine) (h : ∀ s', Inv X pins σ H s' → Q .none s') :
    wpAny (model X.prog X.w) X.A (call (.ref u) rest) Q E s := by
  have hu : s.heap.get? u = some (PySem.W.kxs_mw "ValueError.__init__" a) := ClX.pin_at I
  have I0 := ClX.unpin I
  obtain ⟨nm, q, N, bs, bm, sn, sub, ab, col, dd, k0, k1, k2, k3, k5, hC, hbm⟩ := T.cls
  obtain ⟨t1, ho⟩ := exo_at I0.hok ea
  have hC' := I.kIn _ _ hC
  obtain ⟨hp, g, dr, t, os⟩ := s
  refine wpAny_call (codeAny_of_tree ?_)
  show wpAny _ X.A.in1 (callAny (.ref u) ⟨rest, []⟩) _ _ _
  simp only [callAny]
  refine wpAny_bind (wpAny_load hu ?_)
  simp only [PySem.W.kxs_mw, show (Value.type "method-wrapper" == Value.type "method" || Value.type "method-wrapper" == Value.type "builtin_function_or_method" || Value.type "method-wrapper" == Value.type "method-wrapper") = true by decide, if_true]
  refine PySem.W.KFB.if_so (by decide) ?_
  refine wpAny_bind (PySem.W.check_bound_init F.excBase_ValueError.toExcCallFacts hC' ho rfl ?_)
  refine wpAny_bind (wpAny_pure (wpAny_pure ?_))
  refine ⟨plainId_quiet F.excBase_ValueError.init.plain _, codeAny_builtin F.excBase_ValueError.initEntry ?_⟩
  refine PySem.W.exc_init_tree (cls := .ref C) (t0 := t1) (dv := none) (c2 := .none) (c3 := .none) (b4 := .bool false) ho hz fun h' k hx _ => ?_
  have J := I0.write (t' := t) (x := a) (e := a) (o := exo a C none) (by rw [ea]; exact True.intro) (.inl rfl) k ⟨_, hx⟩ (exo_ok hx)
  have eu : upd H a (exo a C none) = H := by
    funext b
    by_cases hb : b = a
    · rw [hb, upd_same, ea]
    · rw [upd_ne hb]
  rw [eu] at J
  exact h _ J
/-- super().__init__(e, ..) as a statement: the built-in __init__ -/
theorem sup_initB {body : List Stmt} {p0 p1 p2 p3 p4 : Pos} {e : Expr} {es : List Expr} {ta : TA} (S : SupF X f cc cda D) (T : OexC X.K C) (I : Inv X pins σ H s) (h0 : σ[0]? = some (some (.ref a))) (ea : H a = some (exo a C none)) (hsub : PySem.W.mroIn X.K C (.ref D) = some true)
    (hm : PySem.W.ks_superIn X.K C D "__init__" = some (some (.builtin "ValueError.__init__"))) (hB : PySem.W.subIn X.K (.ref C) (.type "ValueError") = some true) (ha : PA X (e :: es) ta) {R : Hp → Prop} (h : ta σ H fun vs H1 => vs.length ≤ 1000 ∧ H1 a = some (exo a C none) ∧ R H1)
    {Q : Flow → Shared → Prop} (hq : ∀ H1 s', Inv X pins σ H1 s' → R H1 → Q .next s') (hi : interactive X.env = false) (he : starEach (e :: es) X.env = (false, eval e X.env) :: starEach es X.env) (hpl : (backTo p3 (starEach es X.env)).any (·.1) = false)
    (pl : Sem Bool)
    (hev2 : eval (.Call (.Attribute (.Call (.Name "super" p0) [] [] p1) "__init__" p2) (e :: es) [] p3) X.env = (do
      let ov ← attributeBase (.Call (.Name "super" p0) [] [] p1) "__init__" X.env (eval (.Call (.Name "super" p0) [] [] p1) X.env)
      standAt p2.atName
      let (f, first) ← holding [ov] (getMethod ov "__init__" pl)
      callWith p3 f first (backTo p3 (starEach (e :: es) X.env)) []))
    (hs : swapsWith (.Call (.Attribute (.Call (.Name "super" p0) [] [] p1) "__init__" p2) (e :: es) [] p3) none p4.line X.env = pure false) :
    wpAt (model X.prog X.w) X.A (.func body X.env) (exec (.Expr (.Call (.Attribute (.Call (.Name "super" p0) [] [] p1) "__init__" p2) (e :: es) [] p3) p4) X.env) Q X.xe s := by
  refine ks_wpAt_Expr_any (ks_wpAt_MethodCall (pl := pl) ?_ hev2) hi hs
  refine sup_base S I h0 ea hsub fun so s1 I1 => ?_
  refine sup_methB S I1 ea hm hB fun u s2 I2 => ?_
  show wpAny _ _ (callWith p3 (.ref u) [] (backTo p3 (starEach (e :: es) X.env)) []) _ _ _
  rw [he]
  refine PySem.W.kxs_callWith (i := "ValueError.__init__") (x := a) (by show (false || (backTo p3 (starEach es X.env)).any (·.1)) = false; rw [hpl]; rfl) ?_
  have hrun := ha.run p3 ((u, PySem.W.kxs_mw "ValueError.__init__" a) :: pins) s2 σ H _ I2 h
  rw [he] at hrun
  refine Calls.evalArgs_plain (thn hrun fun us s3 ⟨vs, H1, I3, r, hl, ea1, hR⟩ => ⟨ClX.pin_at I3, ?_⟩)
  have hlen : us.length ≤ sizeLine := by
    rw [← Paired.length r, sizeLine_eq]
    omega
  exact bw_call T I3 ea1 hlen fun s4 I4 => hq H1 s4 I4 hR
/-- .. : a def of a class of the text -/
theorem sup_initF {body : List Stmt} {p0 p1 p2 p3 p4 : Pos} {e : Expr} {es : List Expr} {ta : TA} {CX : CXT} {k : Nat} {f2 : Addr} {fd2 : FuncData} {ps : List Str} {sp : Sp} (S : SupF X f cc cda D) (I : Inv X pins σ H s) (h0 : σ[0]? = some (some (.ref a))) (ea : H a = some (exo a C none)) (hsub : PySem.W.mroIn X.K C (.ref D) = some true)
    (hm : PySem.W.ks_superIn X.K C D "__init__" = some (some (.ref f2))) (ht : PySem.W.typeIn X.K (.ref f2) = some (.type "function")) (hfi : PySem.W.fnIn X.K f2 = true) (F2 : FnOk X.prog X.w X.K X.mg X.base CX k f2 fd2 ps sp) (hr : Room k X.A) (hb : Binds X.K fd2 ps []) (hx : Passes CX X (fun _ _ _ => False))
    (ha : PA X (e :: es) ta) {R : Hp → Prop} (h : ta σ H fun vs H1 => sp (.ref a :: vs) H1 (fun _ H2 => R H2) (fun _ _ _ => False))
    {Q : Flow → Shared → Prop} (hq : ∀ H1 s', Inv X pins σ H1 s' → R H1 → Q .next s') (hi : interactive X.env = false) (he : starEach (e :: es) X.env = (false, eval e X.env) :: starEach es X.env) (hpl : (backTo p3 (starEach es X.env)).any (·.1) = false) (pl : Sem Bool)
    (hev2 : eval (.Call (.Attribute (.Call (.Name "super" p0) [] [] p1) "__init__" p2) (e :: es) [] p3) X.env = (do
      let ov ← attributeBase (.Call (.Name "super" p0) [] [] p1) "__init__" X.env (eval (.Call (.Name "super" p0) [] [] p1) X.env)
      standAt p2.atName
      let (f, first) ← holding [ov] (getMethod ov "__init__" pl)
      callWith p3 f first (backTo p3 (starEach (e :: es) X.env)) []))
    (hs : swapsWith (.Call (.Attribute (.Call (.Name "super" p0) [] [] p1) "__init__" p2) (e :: es) [] p3) none p4.line X.env = pure false) :
    wpAt (model X.prog X.w) X.A (.func body X.env) (exec (.Expr (.Call (.Attribute (.Call (.Name "super" p0) [] [] p1) "__init__" p2) (e :: es) [] p3) p4) X.env) Q X.xe s := by
  refine ks_wpAt_Expr_any (ks_wpAt_MethodCall (pl := pl) ?_ hev2) hi hs
  refine sup_base S I h0 ea hsub fun so s1 I1 => ?_
  refine sup_methF S I1 ea hm ht fun u s2 I2 => ?_
  show wpAny _ _ (callWith p3 (.ref u) [] (backTo p3 (starEach (e :: es) X.env)) []) _ _ _
  rw [he]
  have hrun := ha.run p3 ((u, PySem.W.methodObj (.ref f2) (.ref a)) :: pins) s2 σ H _ I2 h
  rw [he] at hrun
  refine PySem.W.callWith_of (by show ((false || (backTo p3 (starEach es X.env)).any (·.1)) || false) = false; rw [hpl]; rfl) (PySem.W.keeps_M hfi) (Calls.evalArgs_plain (thn hrun fun us s3 ⟨vs, H1, I3, r, q⟩ => ⟨⟨ClX.pin_at I3, I3.kIn⟩, ?_⟩))
  have I4 := ClX.unpin I3
  have r2 : Vals (.ref a :: vs) (.ref a :: us) := .cons rfl r
  have hl : (Value.ref a :: us).length = ps.length := by
    rw [← r2.length]
    exact F2.len _ _ _ _ q
  refine wpAny_call (PySem.W.method_call (ClX.pin_at I3) (codeAny_mono (F2.run X.A X.stack s3 H1 ⟨.ref a :: us, []⟩ (.ref a :: us) (.ref a :: vs) _ _ hr I4.env0 (by
    have := hb s3 (.ref a :: us) I4.kIn (by simpa using hl)
    simpa using this) r2 q) fun rr s4 hq4 => ?_))
  cases rr with
  | error er => exact hx pins σ H1 s3 er s4 I4 hq4
  | ok fl =>
    cases fl with
    | ret u =>
      obtain ⟨v, H2, J, rv, hR⟩ := I4.after hq4
      exact hq H2 s4 J hR
    | next => exact False.elim hq4
    | brk => exact False.elim hq4
    | cont => exact False.elim hq4
end
end Lx

namespace Lx
open PySem L2 Lk
theorem kSE : KScope ["self", "tag", "why"] (defScope sSE) := ⟨rfl, rfl, rfl, by decide +kernel, by decide +kernel, by decide +kernel, by decide +kernel⟩
theorem kIP : KScope ["self", "given"] (defScope sIP) := ⟨rfl, rfl, rfl, by decide +kernel, by decide +kernel, by decide +kernel, by decide +kernel⟩
theorem kID : KScope ["self"] (defScope sID) := ⟨rfl, rfl, rfl, by decide +kernel, by decide +kernel, by decide +kernel, by decide +kernel⟩
theorem kTM : KScope ["self", "limit"] (defScope sTM) := ⟨rfl, rfl, rfl, by decide +kernel, by decide +kernel, by decide +kernel, by decide +kernel⟩
/-- what the written part tells of an __init__ that says super() -/
structure InitF (P : Program) (K : PySem.W.Frag) (mg : Str → Option Value) (qual : Str) (st : Stmt) (D f cc cda : Addr) (fd : FuncData) : Prop where
  ex : ∃ oc od kV doc pm an ct osl, fd = PySem.W.ksFn "__init__" qual (defArgs st) (defBody st) (defScope st) .none kV doc pm an (.ref cda) ct cc ∧ K.lookup f = some ⟨oc, od, .func fd, osl⟩
  cd : PySem.W.codeIn K (.ref cda) qual = true
  lc : ∃ ccl cdd vs ccs file tf, K.lookup cda = some ⟨ccl, cdd, .fields vs, ccs⟩ ∧ vs[2]? = some (.str file tf) ∧ ((P.main.file : Str) == file) = true
  ll : ∃ cl cld csl, K.lookup cc = some ⟨cl, cld, .cell (some (.ref D)), csl⟩
  lD : ∃ cdD, PySem.W.clsIn K D = some cdD
  ms : mg "super" = none
  tp : (P.main.scope.names.lookup ("super" : Str)).isSome = false
  op : PySem.W.nsIn K cStatics "thirdparty.any" = some none
def spSE (K : PySem.W.Frag) (D : Addr) : Sp := fun vs H Q _ => ∃ (a C : Addr) (tg wy : V), vs = [.ref a, tg, wy] ∧ OexC K C ∧ H a = some (exo a C none) ∧ PySem.W.mroIn K C (.ref D) = some true ∧ PySem.W.ks_superIn K C D "__init__" = some (some (.builtin "ValueError.__init__")) ∧ PySem.W.subIn K (.ref C) (.type "ValueError") = some true ∧ PySem.W.findIn K (.ref C) "tag" = some none ∧
  ∀ dx, H dx = none → dx ≠ a → Q .non (upd (upd H dx (exd dx [("tag", tg)])) a (exo a C (some dx)))
section
variable {P : Program} {w : World} {K : PySem.W.Frag} {mg : Str → Option Value} {base : Heap}
theorem ok_se {D f cc cda : Addr} {fd : FuncData} {k : Nat} (F : InitF P K mg "ScanError.__init__" sSE D f cc cda fd) : FnOk P w K mg base CX0 (k + 1) f fd ["self", "tag", "why"] (spSE K D) := by
  obtain ⟨oc, od, kV, doc, pm, an, ct, osl, rfl, lk⟩ := F.ex
  obtain ⟨cl, cld, csl, ll⟩ := F.ll
  refine fn_ofK (N := ["self", "tag", "why"]) lk F.cd ll kSE (fun vs H Q E h => ?_) (fun A outer s s1 H vs Q E hr h I => ?_)
  · obtain ⟨a, C, tg, wy, rfl, _⟩ := h
    rfl
  · obtain ⟨a, C, tg, wy, rfl, T, ea, hsub, hm, hB, hno, q⟩ := h
    have S : SupF (cxK CX0 P w K mg base ["self", "tag", "why"] "ScanError.__init__" (defScope sSE) f (.ref cda) cc A outer s H E) f cc cda D :=
      ⟨rfl, rfl, rfl, rfl, rfl, rfl, rfl, ⟨_, _, _, _, _, lk, rfl, rfl⟩, F.lc, F.ll, F.lD, F.ms, F.tp, F.op⟩
    refine ks_wpAt_execs_cons ?_
    refine sup_initB (X := cxK CX0 P w K mg base ["self", "tag", "why"] "ScanError.__init__" (defScope sSE) f (.ref cda) cc A outer s H E) S T I rfl ea hsub hm hB (pa_cons (pv 2) pa_nil) (R := fun H1 => H1 = H) ⟨_, rfl, (by show 1 ≤ 1000; decide), ea, rfl⟩ (fun H1 s2 I2 e => ?_) rfl rfl rfl _ rfl rfl
    subst e
    refine wpAt_of_wpAny ((pss_one (ps_ost (X := cxK CX0 P w K mg base ["self", "tag", "why"] "ScanError.__init__" (defScope sSE) f (.ref cda) cc A outer s H1 E) (pv 0) (pv 1))).run [] s2 _ H1 _ I2 ?_)
    exact ⟨_, rfl, _, rfl, a, C, rfl, T, hno, .inl ⟨ea, fun dx n ne => q dx n ne⟩⟩
/-- the class at C, over the class at D whose __init__ keeps spSE; fs: what its own __init__ puts beside the tag -/
structure ErrC (K : PySem.W.Frag) (C D fS : Addr) : Prop where
  ox : OexC K C
  s1 : PySem.W.mroIn K C (.ref C) = some true
  s2 : PySem.W.mroIn K C (.ref D) = some true
  m1 : PySem.W.ks_superIn K C C "__init__" = some (some (.ref fS))
  m2 : PySem.W.ks_superIn K C D "__init__" = some (some (.builtin "ValueError.__init__"))
  ve : PySem.W.subIn K (.ref C) (.type "ValueError") = some true
  nt : PySem.W.findIn K (.ref C) "tag" = some none
  tS : PySem.W.typeIn K (.ref fS) = some (.type "function")
  fS : PySem.W.fnIn K fS = true
def spE1 (K : PySem.W.Frag) (C : Addr) (tg fn : Str) : Sp := fun vs H Q _ => ∃ (a : Addr) (v : V), vs = [.ref a, v] ∧ H a = some (exo a C none) ∧
  ∀ dx, H dx = none → dx ≠ a → Q .non (upd (upd (upd H dx (exd dx [("tag", .str tg)])) a (exo a C (some dx))) dx (exd dx [(fn, v), ("tag", .str tg)]))
def spE0 (K : PySem.W.Frag) (C : Addr) (tg : Str) : Sp := fun vs H Q _ => ∃ (a : Addr), vs = [.ref a] ∧ H a = some (exo a C none) ∧
  ∀ dx, H dx = none → dx ≠ a → Q .non (upd (upd H dx (exd dx [("tag", .str tg)])) a (exo a C (some dx)))
theorem ok_ip {C D f cc cda fS : Addr} {fd fdS : FuncData} {k : Nat} (F : InitF P K mg "InvalidPlace.__init__" sIP C f cc cda fd) (T : ErrC K C D fS) (hno : PySem.W.findIn K (.ref C) "given" = some none)
    (GS : FnOk P w K mg base CX0 (k + 1) fS fdS ["self", "tag", "why"] (spSE K D)) (bS : Binds K fdS ["self", "tag", "why"] []) : FnOk P w K mg base CX0 (k + 2) f fd ["self", "given"] (spE1 K C "InvalidPlace" "given") := by
  obtain ⟨oc, od, kV, doc, pm, an, ct, osl, rfl, lk⟩ := F.ex
  obtain ⟨cl, cld, csl, ll⟩ := F.ll
  refine fn_ofK (N := ["self", "given"]) lk F.cd ll kIP (fun vs H Q E h => ?_) (fun A outer s s1 H vs Q E hr h I => ?_)
  · obtain ⟨a, v, rfl, _⟩ := h
    rfl
  · obtain ⟨a, v, rfl, ea, q⟩ := h
    have S : SupF (cxK CX0 P w K mg base ["self", "given"] "InvalidPlace.__init__" (defScope sIP) f (.ref cda) cc A outer s H E) f cc cda C :=
      ⟨rfl, rfl, rfl, rfl, rfl, rfl, rfl, ⟨_, _, _, _, _, lk, rfl, rfl⟩, F.lc, F.ll, F.lD, F.ms, F.tp, F.op⟩
    refine ks_wpAt_execs_cons ?_
    refine sup_initF (X := cxK CX0 P w K mg base ["self", "given"] "InvalidPlace.__init__" (defScope sIP) f (.ref cda) cc A outer s H E) S I rfl ea T.s1 T.m1 T.tS T.fS GS hr bS pass0 (pa_cons pe_str (pa_cons pe_str pa_nil)) (R := fun H1 => ∃ dx, H dx = none ∧ dx ≠ a ∧ H1 = upd (upd H dx (exd dx [("tag", .str "InvalidPlace")])) a (exo a C (some dx)))
      ⟨a, C, _, _, rfl, T.ox, ea, T.s2, T.m2, T.ve, T.nt, fun dx n ne => ⟨dx, n, ne, rfl⟩⟩ (fun H1 s2 I2 e => ?_) rfl rfl rfl _ rfl rfl
    obtain ⟨dx, n, ne, rfl⟩ := e
    refine wpAt_of_wpAny ((pss_one (ps_ost (X := cxK CX0 P w K mg base ["self", "given"] "InvalidPlace.__init__" (defScope sIP) f (.ref cda) cc A outer s H E) (pv 0) (pv 1))).run [] s2 _ _ _ I2 ?_)
    refine ⟨_, rfl, _, rfl, a, C, rfl, T.ox, hno, .inr ⟨dx, _, upd_same, ?_, (by show 1 ≤ 900; decide), q dx n ne⟩⟩
    rw [upd_ne ne, upd_same]
theorem ok_tm {C D f cc cda fS : Addr} {fd fdS : FuncData} {k : Nat} (F : InitF P K mg "TooManyClasses.__init__" sTM C f cc cda fd) (T : ErrC K C D fS) (hno : PySem.W.findIn K (.ref C) "limit" = some none)
    (GS : FnOk P w K mg base CX0 (k + 1) fS fdS ["self", "tag", "why"] (spSE K D)) (bS : Binds K fdS ["self", "tag", "why"] []) : FnOk P w K mg base CX0 (k + 2) f fd ["self", "limit"] (spE1 K C "TooManyClasses" "limit") := by
  obtain ⟨oc, od, kV, doc, pm, an, ct, osl, rfl, lk⟩ := F.ex
  obtain ⟨cl, cld, csl, ll⟩ := F.ll
  refine fn_ofK (N := ["self", "limit"]) lk F.cd ll kTM (fun vs H Q E h => ?_) (fun A outer s s1 H vs Q E hr h I => ?_)
  · obtain ⟨a, v, rfl, _⟩ := h
    rfl
  · obtain ⟨a, v, rfl, ea, q⟩ := h
    have S : SupF (cxK CX0 P w K mg base ["self", "limit"] "TooManyClasses.__init__" (defScope sTM) f (.ref cda) cc A outer s H E) f cc cda C :=
      ⟨rfl, rfl, rfl, rfl, rfl, rfl, rfl, ⟨_, _, _, _, _, lk, rfl, rfl⟩, F.lc, F.ll, F.lD, F.ms, F.tp, F.op⟩
    refine ks_wpAt_execs_cons ?_
    refine sup_initF (X := cxK CX0 P w K mg base ["self", "limit"] "TooManyClasses.__init__" (defScope sTM) f (.ref cda) cc A outer s H E) S I rfl ea T.s1 T.m1 T.tS T.fS GS hr bS pass0 (pa_cons pe_str (pa_cons pe_str pa_nil)) (R := fun H1 => ∃ dx, H dx = none ∧ dx ≠ a ∧ H1 = upd (upd H dx (exd dx [("tag", .str "TooManyClasses")])) a (exo a C (some dx)))
      ⟨a, C, _, _, rfl, T.ox, ea, T.s2, T.m2, T.ve, T.nt, fun dx n ne => ⟨dx, n, ne, rfl⟩⟩ (fun H1 s2 I2 e => ?_) rfl rfl rfl _ rfl rfl
    obtain ⟨dx, n, ne, rfl⟩ := e
    refine wpAt_of_wpAny ((pss_one (ps_ost (X := cxK CX0 P w K mg base ["self", "limit"] "TooManyClasses.__init__" (defScope sTM) f (.ref cda) cc A outer s H E) (pv 0) (pv 1))).run [] s2 _ _ _ I2 ?_)
    refine ⟨_, rfl, _, rfl, a, C, rfl, T.ox, hno, .inr ⟨dx, _, upd_same, ?_, (by show 1 ≤ 900; decide), q dx n ne⟩⟩
    rw [upd_ne ne, upd_same]
theorem ok_id {C D f cc cda fS : Addr} {fd fdS : FuncData} {k : Nat} (F : InitF P K mg "InvalidDivisors.__init__" sID C f cc cda fd) (T : ErrC K C D fS)
    (GS : FnOk P w K mg base CX0 (k + 1) fS fdS ["self", "tag", "why"] (spSE K D)) (bS : Binds K fdS ["self", "tag", "why"] []) : FnOk P w K mg base CX0 (k + 2) f fd ["self"] (spE0 K C "InvalidDivisors") := by
  obtain ⟨oc, od, kV, doc, pm, an, ct, osl, rfl, lk⟩ := F.ex
  obtain ⟨cl, cld, csl, ll⟩ := F.ll
  refine fn_ofK (N := ["self"]) lk F.cd ll kID (fun vs H Q E h => ?_) (fun A outer s s1 H vs Q E hr h I => ?_)
  · obtain ⟨a, rfl, _⟩ := h
    rfl
  · obtain ⟨a, rfl, ea, q⟩ := h
    have S : SupF (cxK CX0 P w K mg base ["self"] "InvalidDivisors.__init__" (defScope sID) f (.ref cda) cc A outer s H E) f cc cda C :=
      ⟨rfl, rfl, rfl, rfl, rfl, rfl, rfl, ⟨_, _, _, _, _, lk, rfl, rfl⟩, F.lc, F.ll, F.lD, F.ms, F.tp, F.op⟩
    refine ks_wpAt_execs_cons ?_
    refine sup_initF (X := cxK CX0 P w K mg base ["self"] "InvalidDivisors.__init__" (defScope sID) f (.ref cda) cc A outer s H E) S I rfl ea T.s1 T.m1 T.tS T.fS GS hr bS pass0 (pa_cons pe_str (pa_cons pe_str pa_nil)) (R := fun H1 => ∃ dx, H dx = none ∧ dx ≠ a ∧ H1 = upd (upd H dx (exd dx [("tag", .str "InvalidDivisors")])) a (exo a C (some dx)))
      ⟨a, C, _, _, rfl, T.ox, ea, T.s2, T.m2, T.ve, T.nt, fun dx n ne => ⟨dx, n, ne, rfl⟩⟩ (fun H1 s2 I2 e => ?_) rfl rfl rfl _ rfl rfl
    obtain ⟨dx, n, ne, rfl⟩ := e
    exact wpAt_of_wpAny ((pss_nil (X := cxK CX0 P w K mg base ["self"] "InvalidDivisors.__init__" (defScope sID) f (.ref cda) cc A outer s H E)).run [] s2 _ _ _ I2 (q dx n ne))
end
/-! ### C(): an own error without arguments -/
def tMkO0 (C : Addr) (sp : Sp) : L2.St → Hp → XK → Prop := fun σ H Q => ∀ a, H a = none → sp [.ref a] (upd H a (exo a C none))
  (fun v H2 => v = .non ∧ ∃ (d : Addr) (fs : List (Str × V)), H2 a = some (exo a C (some d)) ∧ H2 d = some (exd d fs) ∧ H d = none ∧ Q (.ref C) (some d) (upd (del H2 a) d (.xd fs))) (fun _ _ _ => False)
theorem pmk_oex0 {X : Cx} {CX : CXT} {x : Str} {C fI : Addr} {k : Nat} {fd : FuncData} {ps : List Str} {sp : Sp} {p pos : Pos} (T : OexC X.K C) (iC : PySem.W.findIn X.K (.ref C) "__init__" = some (some (.ref fI))) (tI : PySem.W.typeIn X.K (.ref fI) = some (.type "function"))
    (F1 : FnOk X.prog X.w X.K X.mg X.base CX k fI fd ps sp) (hr : Room (k + 1) X.A) (hb : Binds X.K fd ps []) (hx : Passes CX X (fun _ _ _ => False)) (hg : Gl X x) (hm : X.mg x = some (.ref C)) (hdb : (x == ("__debug__" : Str)) = false := by decide) :
    PMk X (.Call (.Name x p) [] [] pos) (tMkO0 C sp) := by
  intro pins s σ H Q I h
  obtain ⟨nm, q, N, bs, bm, sn, sub, ab, col, dd, k0, k1, k2, k3, k5, hC, hbm⟩ := T.cls
  refine wpAny_Call_Name_kw (ld_glob I hg hm ?_ hdb)
  refine PySem.W.callWith_K0 I.kIn T.kC ?_
  show wpAny _ _ (call (.ref C) []) _ _ _
  obtain ⟨hp, g, dr, tk, os⟩ := s
  have hsz : hp.objs.size ≤ hp.objs.size + 1 := Nat.le_succ _
  have hn : H (hp.objs.size + 1) = none := I.hok.fresh hsz
  have hq := h (hp.objs.size + 1) hn
  have kk : ∀ b o, hp.get? b = some o → ((hp.push (PySem.W.kdv_tup [])).push (PySem.HandSPX.excO C hp.objs.size)).get? b = some o := fun b o e => Heap.get?_push_of_some _ (Heap.get?_push_of_some _ e)
  have hget : ((hp.push (PySem.W.kdv_tup [])).push (PySem.HandSPX.excO C hp.objs.size)).get? (hp.objs.size + 1) = some (PySem.HandSPX.excO C hp.objs.size) := by heap_get
  have I2 : Inv X pins σ (upd H (hp.objs.size + 1) (exo (hp.objs.size + 1) C none)) ⟨(hp.push (PySem.W.kdv_tup [])).push (PySem.HandSPX.excO C hp.objs.size), g, dr, tk, os⟩ :=
    I.laid (t' := tk) (a := hp.objs.size + 1) (o := exo (hp.objs.size + 1) C none) kk hsz (exo_ok hget)
  have r2 : Vals [V.ref (hp.objs.size + 1)] [Value.ref (hp.objs.size + 1)] := .cons rfl .nil
  have hl : ([Value.ref (hp.objs.size + 1)] ++ ([] : List Value)).length = ps.length := (F1.len _ _ _ _ hq)
  refine wpAny_call (PySem.HandSPX.call_own F.excBase_ValueError (fun Y => PySem.HandSPX.refsVE_contains Y bm hbm) (I.kIn _ _ hC) (PySem.W.looks_findIn I.kIn iC) (fun self => PySem.W.bind_fn I.kIn self tI) (Nat.zero_le _)
    (codeAny_mono (F1.run _ X.stack _ _ ⟨[Value.ref (hp.objs.size + 1)], []⟩ [Value.ref (hp.objs.size + 1)] _ _ (fun _ _ _ => False) (hr.make C [] []) (I2.env0.make C [] []) (hb _ [Value.ref (hp.objs.size + 1)] I2.kIn hl) r2 hq) fun r s' hq' => ?_))
  cases r with
  | error er => exact hx pins σ _ _ er s' I2 hq'
  | ok fl =>
    cases fl with
    | ret u =>
      obtain ⟨v, H2, os2, bare2, un2, hok2, rv, ev, d, fs, ea, ed, hd1, q2⟩ := hq'
      subst ev
      obtain ⟨h2, g2, d2, t2, os'⟩ := s'
      exact ⟨rv, mk_end (raises_own T.exC T.tyC) I hsz kk un2 hok2 os2 bare2 ea ed hd1 q2⟩
    | next => exact False.elim hq'
    | brk => exact False.elim hq'
    | cont => exact False.elim hq'
end Lx

namespace Lx
open PySem L2 PySem.Spec PyProof.Rows
/-! ### try .. except X as n .. except ..: the first clause takes it -/
section
variable {X : Cx} {x n : Str} {c : Value} {i : Nat} {body suite : List Stmt} {b0 : Stmt} {hds : List ExceptHandler} {np pos pos' : Pos} {tb : WX → TS} {ts : Addr → Value → Option Addr → TS}
theorem ps_try_first (stk : X.stack = X.env :: X.outer) (frm : X.env.frame = some X.env.locals) (ndN : X.N.Nodup) (atI : X.N[i]? = some n) (lcl : X.env.kindOf n = some .local) (nam : Names X x c)
    (hbd : ∀ (W : WX) (pn : List (Addr × Obj)) (xe : Value → Shared → Prop), Takes (X.tr pn xe) W → PassesOwn (model X.prog X.w) X.A X.env xe → PSs (X.tr pn xe) body (tb W))
    (hst : ∀ (a : Addr) (oe : Obj) (cls : Value) (d : Option Addr) (pn : List (Addr × Obj)), Zc cls d oe → (∃ vs, oe.data = .fields vs) → PSs (X.suite a ((a, oe) :: pn)) (b0 :: suite) (ts a cls d)) :
    PS X (.Try body (.ExceptHandler (some (.Name x np)) (some n) (b0 :: suite) pos' :: hds) [] [] pos) (fun D σ H => tb (wAs X.K c i ts (fun _ _ _ _ => False) D) D σ H) := by
  refine ⟨fun pins s σ H D I0 rd => ?_⟩
  have okX := I0.ok
  have frs0 : X.A.frames = some (X.env :: X.outer) := by rw [okX.frames, stk]
  have locn : Loc X.env.scope n := .inl lcl
  refine wpAny_Try_except ?_
  refine wpAny_mono ((hbd (wAs X.K c i ts (fun _ _ _ _ => False) D) (X.pn ++ pins) (fun e t1 => wpAny (model X.prog X.w) X.A (noteFrame e X.env) (fun _ t2 => wpAny (model X.prog X.w) X.A (setFlight e none) (fun _ t3 =>
    wpAny (model X.prog X.w) X.A (handleBy e X.env (.ExceptHandler (some (.Name x np)) (some n) (b0 :: suite) pos' :: hds)) (SP X pins D) X.xe t3) X.xe t2) X.xe t1) (fun u s' fl => ?_) PassesOwn.looking).run [] s σ H D (I0.toTry _) rd) (fun fl t1 done => ?_) (fun e t1 raised => raised)
  · obtain ⟨a, B, sI, pins', σ', H', cls, d, rfl, Jt, nob, up0, sky, fra, osE, agr, b, ex1, yes, no⟩ := fl
    have J0 : Inv X pins σ' H' sI := Jt.ofTry okX
    have sky1 : Sky B (X.env :: X.outer) a (Zc cls d) X.env.locals s'.heap := by rw [← stk]; exact sky
    show wpAny (model X.prog X.w) X.A (noteFrame (.ref a) X.env) _ _ _
    refine Sky.land Zc.steady frs0 frm sky1 fun g3 fly3 up3 => ?_
    have J3 : Inv X pins σ' H' { s' with heap := g3 } := J0.landed nob fly3.1 (up0.trans up3) osE agr
    obtain ⟨ob3, vs3, at3, zc3, dat3⟩ := fly3.there
    have offF : a ∉ frs (X.env :: X.outer) := fun inF => by
      obtain ⟨_, o1, e1, nof⟩ := (fly3.2.2.1).mem inF
      rw [at3] at e1
      cases e1
      exact nof _ dat3
    have offL : a ≠ X.env.locals := fun z => offF (List.mem_filterMap.mpr ⟨X.env, List.mem_cons_self, by rw [frm, z]⟩)
    have offS : a ∉ X.fs := fun inF => by
      obtain ⟨ev, he, eq⟩ := List.mem_filterMap.mp inF
      exact offF (List.mem_filterMap.mpr ⟨ev, List.mem_cons_of_mem _ he, eq⟩)
    have St3 := J3.suite at3 dat3 fra offL offS
    refine wpAny_handleBy_cons (codeAny_handlers_test ?_) (by intro q; cases q)
    have tyL : PySem.W.Looks (model X.prog X.w) g3 (typeOf (.ref a)) cls := fun A Q E s k q => wpAny_typeOf_ref (k _ _ at3) (by rw [zc3.1]; exact q)
    have mtL := PySem.W.exm_one (M := model X.prog X.w) (J3.kIn) tyL ex1
    have ask : ∀ {Q : Value → Shared → Prop} {E : Value → Shared → Prop}, Q c { s' with heap := g3 } → wpAny (model X.prog X.w) (X.A.mark (some (.ref a))) (eval (.Name x np) X.env) Q E { s' with heap := g3 } := fun {Q E} q => by
      obtain ⟨hgl, hdb, hmg | ⟨hmg, hbv, hnn⟩⟩ := nam
      · exact ld_glob (X := X.suite a ((a, ob3) :: (X.pn ++ pins))) St3 hgl hmg q hdb
      · exact ld_blt (X := X.suite a ((a, ob3) :: (X.pn ++ pins))) St3 hgl hmg hbv q hnn hdb
    refine ask (mtL.here ?_)
    cases b with
    | false => exact (no rfl).elim
    | true =>
      refine codeAny_handlers_suite_as ?_
      refine HandSPX.lands_againZ fly3 fun g4 fly4 up4 => ?_
      have J4 : Inv X pins σ' H' { s' with heap := g4 } := J0.landed nob fly4.1 ((up0.trans up3).trans up4) osE agr
      obtain ⟨ob4, vs4, at4, zc4, dat4⟩ := fly4.there
      have St4 := J4.suite at4 dat4 fra offL offS
      refine store_ok (X := X.suite a ((a, ob4) :: (X.pn ++ pins))) (v := .ref a) St4 ndN atI locn rfl (fun t5 St5 => ?_) (.inr lcl)
      refine wpAny_mono ((hst a ob4 cls d (X.pn ++ pins) zc4 ⟨_, dat4⟩).run [] t5 _ H' _ St5 (yes rfl a fra)) (fun fl t6 done => ?_) (fun _ _ z => False.elim z)
      have fin : ∀ {σ6 : L2.St} {H6 : Hp} {Q : Shared → Prop}, Inv (X.suite a ((a, ob4) :: (X.pn ++ pins))) [] σ6 H6 t6 → (∀ t7, Inv X pins (σ6.set i none) H6 t7 → Q t7) →
          wpAny (model X.prog X.w) X.A (do bindName X.env n .none; unbindBehindTheSuite X.env n pos') (fun _ t7 => Q t7) X.xe t6 := fun {σ6 H6 Q} St6 hq => gone_ok (St6.unsuite okX) ndN atI lcl hq
      cases fl with
      | next =>
        obtain ⟨σ6, H6, St6, w6⟩ := done
        exact fin St6 fun t7 J7 => ⟨_, _, J7, w6⟩
      | brk =>
        obtain ⟨σ6, H6, St6, w6⟩ := done
        exact fin St6 fun t7 J7 => ⟨_, _, J7, w6⟩
      | cont =>
        obtain ⟨σ6, H6, St6, w6⟩ := done
        exact fin St6 fun t7 J7 => ⟨_, _, J7, w6⟩
      | ret u =>
        obtain ⟨v6, σ6, H6, St6, r6, w6⟩ := done
        exact fin St6 fun t7 J7 => ⟨_, _, _, J7, r6, w6⟩
  · cases fl with
    | next =>
      obtain ⟨σ', H', Jt, w1⟩ := done
      exact wpAny_execs_nil ⟨σ', H', Jt.ofTry okX, w1⟩
    | brk =>
      obtain ⟨σ', H', Jt, w1⟩ := done
      exact ⟨σ', H', Jt.ofTry okX, w1⟩
    | cont =>
      obtain ⟨σ', H', Jt, w1⟩ := done
      exact ⟨σ', H', Jt.ofTry okX, w1⟩
    | ret u =>
      obtain ⟨v, σ', H', Jt, r1, w1⟩ := done
      exact ⟨v, σ', H', Jt.ofTry okX, r1, w1⟩
end
end Lx

namespace Lx
open PySem L2 PySem.Spec PyProof.Rows Lk
/-! ### a field of the handled error -/
/-- what must be known of an error's class to read its fields -/
structure RdC (K : PySem.W.Frag) (C : Addr) : Prop where
  xf : XfC K C
  no : ∀ n ∈ ([("tag" : Str), "given", "limit", "index", "name", "first", "line"] : List Str), PySem.W.findIn K (.ref C) n = some none
def tXa (K : PySem.W.Frag) (a : Addr) (cls : Value) (d : Option Addr) (n : Str) (te : TE) : TE := fun σ H Q => ∃ C, RdC K C ∧ tXf a cls d C n te σ H Q
theorem pe_xa {X : Cx} {a : Addr} {oe : Obj} {cls : Value} {d : Option Addr} {e : Expr} {te : TE} {pos : Pos} {n : Str} (hp : (a, oe) ∈ X.pn) (hz : Zc cls d oe) (hf : ∃ vs, oe.data = .fields vs) (he : PE X e te) (hn : n ∈ ([("tag" : Str), "given", "limit", "index", "name", "first", "line"] : List Str))
    (hb : attributeBase e n X.env (eval e X.env) = eval e X.env := by rfl) : PE X (.Attribute e n pos) (tXa X.K a cls d n te) := by
  refine ⟨fun pins s σ H Q I h => ?_⟩
  obtain ⟨C, T, h⟩ := h
  refine attr_of hb (thn (he.run pins s σ H _ I h) fun u t1 hh => ?_)
  obtain ⟨x, H1, I1, rx, rfl, rfl, dd, fs, v, rfl, ea, lk, q⟩ := hh
  obtain rfl : u = Value.ref a := rx
  obtain ⟨vs, hd⟩ := hf
  have pin := (I1.pin (a, oe) (List.mem_append_left _ hp)).1
  obtain ⟨mA, hns, hr⟩ := (show ObjOk X.prog X.w H1 t1.heap dd (.xd fs) from I1.hok dd _ ea)
  obtain ⟨od, ho, hl⟩ := lookIn_ns hns
  obtain ⟨u, hu, ru⟩ := RelO.some_of (v := v) (o := mA n) (by rw [← lk]; exact hr n)
  have J : PySem.W.InstAt t1.heap a oe C (some od) := ⟨pin, hz.1, by unfold PySem.W.notCls; rw [hd] <;> rfl, by rw [hz.2]; exact ho⟩
  exact HandSPX.exc_get I1.kIn J T.xf.ga T.xf.gg T.xf.exC (PySem.W.findObj_own T.xf.hdC (T.no n hn) rfl (by rw [hl, hu])) (handed_of ru) ⟨v, H1, I1.tok _, ru, q⟩
/-! ### a def called with the handled error -/
section
variable {CX : CXT} {P : Program} {w : World} {K : PySem.W.Frag} {mg : Str → Option Value} {base : Heap} {k : Nat} {f : Addr} {name qual : Str} {params : Arguments} {body : List Stmt} {scope : Scope} {dV kV doc pm cdv ct oc : Value} {an od : Option Addr} {osl : Array (Option Value)} {N ps : List Str}
theorem run_pin (lk : K.lookup f = some ⟨oc, od, .func (PySem.W.fnOf name qual params body scope dV kV doc pm an cdv ct), osl⟩) (hcd : PySem.W.codeIn K cdv qual = true) (S : FnScope N ps scope) {A : Around} {outer : List Env} {s : Shared} {H : Hp} {args : Args} {us : List Value} {vs : List V} {Q : VK} {E : XK} {p : Addr × Obj}
    (hr : L2H.RoomH (k + 1) A) (hpin : L2H.PinOk outer H s p) (e0 : Env0 P w K mg base A outer s H) (hb : BindsTo s (PySem.W.fnOf name qual params body scope dV kV doc pm an cdv ct) args (ps.zip us)) (r : Vals vs us) (hl : vs.length = ps.length)
    (hbody : L2H.RoomH k (A.deeper (envOfC qual scope s.heap.objs.size f cdv)) → ∃ t, PSs (L2H.cxH CX P w K mg base N qual scope f cdv A outer s H E p) body t ∧ t { nx := fun _ H' => Q .non H', rt := Q } (L2.start N vs) H) :
    codeAny (model P w) A (.call (.ref f) args) (CR CX outer P w H s Q E) s := by
  have Kh : K.In s.heap := e0.mod.kin.keeps fun b o e => (e0.bs b o e).1
  have limH : s.heap.NoLimit := e0.mod.nolimit.keeps fun b o e => (e0.bs b o e).1
  have kinds : ∀ y ∈ ps.zip us, scope.names.lookup y.1 = some .local ∨ (scope.names.lookup y.1 = some .cell ∧ ((cellsFrom (s.heap.objs.size + 1) scope.names []).lookup y.1).isSome = true) := fun ⟨n, v⟩ hy =>
    (S.par n (List.of_mem_zip hy).1).elim .inl fun q => .inr ⟨q, PySem.W.cellsFrom_some _ _ _ (.inl q)⟩
  refine codeAny_call_function hr.depth (Kh _ _ lk) rfl S.co S.gen rfl (PySem.W.codeRec_of Kh hcd) (hb _ _ _ _ ?_)
  refine wpAny_newFunctionEnv_cells S.kind kinds fun env he t1 x => ?_
  subst he
  refine ⟨limH.keeps x.toInCall.keep, codeAny_func ?_⟩
  obtain ⟨t, ht, hq⟩ := hbody (hr.deeper _)
  have I : Inv (L2H.cxH CX P w K mg base N qual scope f cdv A outer s H E p) [] (L2.start N vs) H t1 := L2H.inv_startH S hpin e0 hl r x
  refine wpAny_mono (ht.run [] t1 (L2.start N vs) H _ I hq) (fun fl t2 hs => ?_) fun e t2 hs => hs
  cases fl with
  | ret u =>
    obtain ⟨v, σ', H', J, rv, q⟩ := hs
    exact ⟨v, H', J.os, J.bare, J.base, J.hok, rv, q⟩
  | next =>
    obtain ⟨σ', H', J, q⟩ := hs
    exact ⟨.non, H', J.os, J.bare, J.base, J.hok, rfl, q⟩
  | brk =>
    obtain ⟨_, _, _, q⟩ := hs
    exact q.elim
  | cont =>
    obtain ⟨_, _, _, q⟩ := hs
    exact q.elim
end
/-! ### the field that belongs to a tag -/
def txts (l : List Str) : List V := l.map V.str
def G1 : List Str := ["InvalidPlace", "InvalidBox", "InvalidCount"]
def G2 : List Str := ["TooManyClasses", "TooManyCells", "TooLong", "CapacityExceeded", "InvalidLimit"]
def G3 : List Str := ["InvalidLooks", "InvalidWords", "InvalidRule", "InvalidValues"]
def G4 : List Str := ["InvalidName", "DuplicateName", "InUse", "NotGiven", "Broken", "UnknownName"]
def FieldIs (tg : Str) (fs : List (Str × V)) (fv : V) : Prop :=
  if inV (.str tg) (txts G1) = true then fs.lookup ("given" : Str) = some fv else if inV (.str tg) (txts G2) = true then fs.lookup ("limit" : Str) = some fv else if inV (.str tg) (txts G3) = true then fs.lookup ("index" : Str) = some fv
  else if inV (.str tg) (txts G4) = true then fs.lookup ("name" : Str) = some fv else if tg = "InvalidCommand" then fs.lookup ("first" : Str) = some fv else if tg = "ParseError" then fs.lookup ("line" : Str) = some fv else fv = .non
theorem txts_flat (l : List Str) : (txts l).all flatV = true := by
  rw [List.all_eq_true]
  intro y hy
  obtain ⟨z, _, rfl⟩ := List.mem_map.mp hy
  rfl
section
variable {P : Program} {w : World} {K : PySem.W.Frag} {mg : Str → Option Value} {base : Heap}
theorem field_body {A : Around} {outer : List Env} {s : Shared} {H : Hp} {Q : VK} {a C dd : Addr} {oe : Obj} {f : Addr} {cdv : Value} {fs : List (Str × V)} {tg : Str} {fv : V} (hz : Zc (.ref C) (some dd) oe) (hf : ∃ vs, oe.data = .fields vs) (T : RdC K C) (hd : H dd = some (.xd fs)) (ht : fs.lookup ("tag" : Str) = some (.str tg)) (hv : FieldIs tg fs fv)
    (q : ∀ H', (∀ b o, H b = some o → H' b = some o) → Q fv H') :
    ∃ t, PSs (L2H.cxH CX0 P w K mg base ["_law_e"] "_law_field" (defScope sField) f cdv A outer s H E0 (a, oe)) (defBody sField) t ∧ t { nx := fun _ H' => Q .non H', rt := Q } (L2.start ["_law_e"] [.ref a]) H := by
  have hp : (a, oe) ∈ (L2H.cxH CX0 P w K mg base ["_law_e"] "_law_field" (defScope sField) f cdv A outer s H E0 (a, oe)).pn := List.mem_cons_self
  refine ⟨_, pss_cons (ps_if (pt_cmpR op_in_seq (pe_xa (n := "tag") hp hz hf (pv 0) (by simp)) (pe_lst (pa_cons pe_str (pa_cons pe_str (pa_cons pe_str pa_nil)))) (by rfl)) (pss_one (ps_ret (pe_xa (n := "given") hp hz hf (pv 0) (by simp)))) pss_nil)
    (pss_cons (ps_if (pt_cmpR op_in_seq (pe_xa (n := "tag") hp hz hf (pv 0) (by simp)) (pe_lst (pa_cons pe_str (pa_cons pe_str (pa_cons pe_str (pa_cons pe_str (pa_cons pe_str pa_nil)))))) (by rfl)) (pss_one (ps_ret (pe_xa (n := "limit") hp hz hf (pv 0) (by simp)))) pss_nil)
    (pss_cons (ps_if (pt_cmpR op_in_seq (pe_xa (n := "tag") hp hz hf (pv 0) (by simp)) (pe_lst (pa_cons pe_str (pa_cons pe_str (pa_cons pe_str (pa_cons pe_str pa_nil))))) (by rfl)) (pss_one (ps_ret (pe_xa (n := "index") hp hz hf (pv 0) (by simp)))) pss_nil)
    (pss_cons (ps_if (pt_cmpR op_in_seq (pe_xa (n := "tag") hp hz hf (pv 0) (by simp)) (pe_lst (pa_cons pe_str (pa_cons pe_str (pa_cons pe_str (pa_cons pe_str (pa_cons pe_str (pa_cons pe_str pa_nil))))))) (by rfl)) (pss_one (ps_ret (pe_xa (n := "name") hp hz hf (pv 0) (by simp)))) pss_nil)
    (pss_cons (ps_if (pt_cmpR op_eq (pe_xa (n := "tag") hp hz hf (pv 0) (by simp)) pe_str (nomark _)) (pss_one (ps_ret (pe_xa (n := "first") hp hz hf (pv 0) (by simp)))) pss_nil)
    (pss_one (ps_ret (pe_ifExp (pt_cmpR op_eq (pe_xa (n := "tag") hp hz hf (pv 0) (by simp)) pe_str (nomark _)) (pe_xa (n := "line") hp hz hf (pv 0) (by simp)) pe_non))))))), ?_⟩
  unfold FieldIs at hv
  have nx : ∀ {H1 : Hp} {L : Addr} {o : HO}, (∀ b o, H b = some o → H1 b = some o) → H1 L = none → (∀ b u, H b = some u → (upd H1 L o) b = some u) := fun {H1 L o} sm nL b u e => by
    rw [upd_ne (ne_of_none (sm _ _ e) nL)]
    exact sm _ _ e
  refine ⟨C, T, _, rfl, rfl, rfl, dd, fs, _, rfl, hd, ht, (by show 3 ≤ sizeLine; decide), fun L1 n1 => ?_⟩
  have s1 := nx (o := .lst (txts G1)) (fun b o e => e) n1
  refine ⟨L1, txts G1, rfl, .inl (SqL.of upd_same), rfl, txts_flat _, _, rfl, ite2 (fun z => ?_) (fun z => ?_)⟩
  · rw [if_pos (show inV (.str tg) (txts G1) = true from z)] at hv
    exact ⟨C, T, _, rfl, rfl, rfl, dd, fs, _, rfl, s1 _ _ hd, hv, q _ s1⟩
  rw [if_neg (show ¬ inV (.str tg) (txts G1) = true from z)] at hv
  refine ⟨C, T, _, rfl, rfl, rfl, dd, fs, _, rfl, s1 _ _ hd, ht, (by show 5 ≤ sizeLine; decide), fun L2 n2 => ?_⟩
  have s2 := nx (o := .lst (txts G2)) s1 n2
  refine ⟨L2, txts G2, rfl, .inl (SqL.of upd_same), rfl, txts_flat _, _, rfl, ite2 (fun z => ?_) (fun z => ?_)⟩
  · rw [if_pos (show inV (.str tg) (txts G2) = true from z)] at hv
    exact ⟨C, T, _, rfl, rfl, rfl, dd, fs, _, rfl, s2 _ _ hd, hv, q _ s2⟩
  rw [if_neg (show ¬ inV (.str tg) (txts G2) = true from z)] at hv
  refine ⟨C, T, _, rfl, rfl, rfl, dd, fs, _, rfl, s2 _ _ hd, ht, (by show 4 ≤ sizeLine; decide), fun L3 n3 => ?_⟩
  have s3 := nx (o := .lst (txts G3)) s2 n3
  refine ⟨L3, txts G3, rfl, .inl (SqL.of upd_same), rfl, txts_flat _, _, rfl, ite2 (fun z => ?_) (fun z => ?_)⟩
  · rw [if_pos (show inV (.str tg) (txts G3) = true from z)] at hv
    exact ⟨C, T, _, rfl, rfl, rfl, dd, fs, _, rfl, s3 _ _ hd, hv, q _ s3⟩
  rw [if_neg (show ¬ inV (.str tg) (txts G3) = true from z)] at hv
  refine ⟨C, T, _, rfl, rfl, rfl, dd, fs, _, rfl, s3 _ _ hd, ht, (by show 6 ≤ sizeLine; decide), fun L4 n4 => ?_⟩
  have s4 := nx (o := .lst (txts G4)) s3 n4
  refine ⟨L4, txts G4, rfl, .inl (SqL.of upd_same), rfl, txts_flat _, _, rfl, ite2 (fun z => ?_) (fun z => ?_)⟩
  · rw [if_pos (show inV (.str tg) (txts G4) = true from z)] at hv
    exact ⟨C, T, _, rfl, rfl, rfl, dd, fs, _, rfl, s4 _ _ hd, hv, q _ s4⟩
  rw [if_neg (show ¬ inV (.str tg) (txts G4) = true from z)] at hv
  refine ⟨C, T, _, rfl, rfl, rfl, dd, fs, _, rfl, s4 _ _ hd, ht, rfl, _, rfl, ite2 (fun z => ?_) (fun z => ?_)⟩
  · have e : tg = "InvalidCommand" := V.str.inj (of_decide_eq_true z)
    rw [if_pos e] at hv
    exact ⟨C, T, _, rfl, rfl, rfl, dd, fs, _, rfl, s4 _ _ hd, hv, q _ s4⟩
  have e : ¬ tg = "InvalidCommand" := fun y => z (decide_eq_true (by rw [y]))
  rw [if_neg e] at hv
  refine ⟨C, T, _, rfl, rfl, rfl, dd, fs, _, rfl, s4 _ _ hd, ht, rfl, _, rfl, ite2 (fun z => ?_) (fun z => ?_)⟩
  · have e : tg = "ParseError" := V.str.inj (of_decide_eq_true z)
    rw [if_pos e] at hv
    exact ⟨C, T, _, rfl, rfl, rfl, dd, fs, _, rfl, s4 _ _ hd, hv, q _ s4⟩
  have e : ¬ tg = "ParseError" := fun y => z (decide_eq_true (by rw [y]))
  rw [if_neg e] at hv
  rw [hv] at q
  exact q _ s4
end
end Lx

namespace Lx
open PySem L2 PySem.Spec PyProof.Rows LamX Lk
/-- _law_field(e), e the error that the suite holds -/
def tFld (K : PySem.W.Frag) (a : Addr) (cls : Value) (d : Option Addr) (te : TE) : TE := fun σ H Q => te σ H fun x H1 => x = .ref a ∧ ∃ (C dd : Addr) (fs : List (Str × V)) (tg : Str) (fv : V), cls = .ref C ∧ d = some dd ∧ RdC K C ∧ H1 dd = some (.xd fs) ∧ fs.lookup ("tag" : Str) = some (.str tg) ∧ FieldIs tg fs fv ∧
  ∀ H', (∀ b o, H1 b = some o → H' b = some o) → Q fv H'
/-- what the top has written of _law_field -/
structure FieldT (K : PySem.W.Frag) (mg : Str → Option Value) (fF : Addr) : Prop where
  mg_ : mg "_law_field" = some (.ref fF)
  kp : PySem.W.keepIn K (.ref fF) = true
  lk : ∃ oc od kV doc pm an cdv ct osl, K.lookup fF = some ⟨oc, od, .func (PySem.W.fnOf "_law_field" "_law_field" (defArgs sField) (defBody sField) (defScope sField) .none kV doc pm an cdv ct), osl⟩ ∧ PySem.W.codeIn K cdv "_law_field" = true
theorem pe_field {X : Cx} {a fF : Addr} {oe : Obj} {cls : Value} {d : Option Addr} {k : Nat} {e : Expr} {te : TE} {p pos : Pos} (F : FieldT X.K X.mg fF) (hp : (a, oe) ∈ X.pn) (hz : Zc cls d oe) (hf : ∃ vs, oe.data = .fields vs) (hr : L2H.RoomH (k + 1) X.A) (hg : Gl X "_law_field") (he : PE X e te)
    (hs : starEach (e :: []) X.env = (false, eval e X.env) :: starEach [] X.env := by rfl) (hpl : (backTo pos (starEach [] X.env)).any (·.1) = false := by rfl) : PE X (.Call (.Name "_law_field" p) [e] [] pos) (tFld X.K a cls d te) := by
  obtain ⟨oc, od, kV, doc, pm, an, cdv, ct, osl, lk, hcd⟩ := F.lk
  refine ⟨fun pins s σ H Q I h => ?_⟩
  refine wpAny_Call_Name_kw (ld_glob I hg F.mg_ ?_)
  refine PySem.W.callWith_K (h₀ := X.base) I.ok.mod.kin F.kp ?_ hs hpl
  have h' : tCons te tNil σ H (fun vs H1 => match vs with | [x] => x = .ref a ∧ ∃ (C dd : Addr) (fs : List (Str × V)) (tg : Str) (fv : V), cls = .ref C ∧ d = some dd ∧ RdC X.K C ∧ H1 dd = some (.xd fs) ∧ fs.lookup ("tag" : Str) = some (.str tg) ∧ FieldIs tg fs fv ∧ ∀ H', (∀ b o, H1 b = some o → H' b = some o) → Q fv H' | _ => False) := h
  refine thn ((pa_cons he pa_nil hs).run pos pins s σ H _ I h') fun us t1 hh => ?_
  · obtain ⟨vs, H1, I1, r, hm⟩ := hh
    obtain ⟨x, rfl⟩ : ∃ x, vs = [x] := by
      match vs, hm with
      | [x], _ => exact ⟨x, rfl⟩
    obtain ⟨rfl, C, dd, fs, tg, fv, rfl, rfl, T, hd, ht, hv, q⟩ := hm
    refine ⟨I1.kIn, ?_⟩
    have P1 := I1.pin (a, oe) (List.mem_append_left _ hp)
    have hpin : L2H.PinOk X.stack H1 t1 (a, oe) := ⟨P1.1, P1.2.1, fun hm => (List.mem_cons.mp (I1.stkSub a hm)).elim P1.2.2.1 P1.2.2.2.1, P1.2.2.2.2⟩
    obtain ⟨u, rfl, ru⟩ := vals1 r
    obtain rfl : u = Value.ref a := ru
    show wpAny _ _ (call (.ref fF) [.ref a]) _ _ _
    refine wpAny_call (codeAny_mono (run_pin (CX := CX0) (E := E0) (ps := ["_law_e"]) (us := [.ref a]) (vs := [.ref a]) lk hcd scField hr hpin I1.env0 (.of_eq rfl) (.cons rfl .nil) rfl (fun _ => field_body hz hf T hd ht hv q)) fun rr t2 hq => ?_)
    cases rr with
    | error er => exact (show False from hq).elim
    | ok fl =>
      cases fl with
      | ret u => exact I1.after hq
      | next => exact False.elim hq
      | brk => exact False.elim hq
      | cont => exact False.elim hq
end Lx

namespace Lx
open PySem L2 PySem.Spec PyProof.Rows LamX Lk
/-- what _law_try makes of an error of the class at C -/
def Caught (K : PySem.W.Frag) (CS : Addr) (Q : VK) (cls : Value) (d : Option Addr) (H : Hp) : Prop :=
  PySem.W.exmOne K cls (.ref CS) = some true ∧ ∃ (C dd : Addr) (fs : List (Str × V)) (tg : Str) (fv : V), cls = .ref C ∧ d = some dd ∧ RdC K C ∧ H dd = some (.xd fs) ∧ fs.lookup ("tag" : Str) = some (.str tg) ∧ FieldIs tg fs fv ∧
    ∀ (H' : Hp) (T : Addr), (∀ b o, H b = some o → H' b = some o) → H' T = none → Q (.ref T) (upd H' T (.tup [.str tg, fv]))
def TTry (K : PySem.W.Frag) (CS : Addr) : (XK → Hp → VK → Prop) → Hp → VK → Prop := fun tl H Q =>
  tl (Caught K CS Q) H (fun v H1 => 2 ≤ sizeLine ∧ ∀ T, H1 T = none → Q (.ref T) (upd H1 T (.tup [.str "value", v])))
theorem takes_len {X : Cx} {W : WX} (t : Takes X W) : Takes X (fun c d σ H => σ.length = X.N.length → W c d σ H) := fun u s' ⟨a, B, sI, pins, σ, H, cls, d, e, I, nb, up, sky, na, os, ag, w⟩ =>
  t u s' ⟨a, B, sI, pins, σ, H, cls, d, e, I, nb, up, sky, na, os, ag, w I.len⟩
theorem set_at {α : Type} (l : List α) (i : Nat) (x : α) (h : i < l.length) : (l.set i x)[i]? = some x := by
  rw [List.getElem?_set_self h]
theorem try_gives {X : Cx} {g CS fF : Addr} {cdg : Value} {q : Str} {k : Nat} (F : FieldT X.K X.mg fF) (hme : X.mg "ScanError" = some (.ref CS)) (hr : ∀ s : Shared, Room (k + 1) (X.A.deeper (envOfC "_law_try" (defScope sTry) s.heap.objs.size g cdg))) :
    GivesTo X ["_law_ask", "_law_e"] "_law_try" (defScope sTry) g cdg (defBody sTry) "_law_ask" q (TTry X.K CS) := by
  intro f c' s H Q tl act hc h
  refine ⟨_, pss_one (ps_try_first (X := (cxOf C8.CX0 X.prog X.w X.K X.mg X.base ["_law_ask", "_law_e"] "_law_try" (defScope sTry) g cdg X.A X.stack s H C8.E0).nox) (c := .ref CS) (i := 1)
      (tb := fun W D σ H => ∃ Ech : XK, (∀ cls d σ' H', Ech cls d H' → σ'.length = 2 → W cls d σ' H') ∧ σ[0]? = some (some (.ref f)) ∧ H c' = some (CodeO c' q) ∧ tl Ech H (fun v H1 => 2 ≤ sizeLine ∧ ∀ T, H1 T = none → D.rt (.ref T) (upd H1 T (.tup [.str "value", v]))))
      (ts := fun a cls d => tRet (tTup (tCons (tXa X.K a cls d "tag" (tVar 1)) (tCons (tFld X.K a cls d (tVar 1)) tNil))))
      rfl rfl scTry.nd rfl rfl ⟨rfl, by decide, .inl hme⟩ (fun W pn xe tk _ => ?_) (fun a oe cls d pn hz hf => ?_)), ?_⟩
  · refine ⟨fun pins s' σ H' D I h' => ?_⟩
    obtain ⟨Ech, hW, h1, h2, h3⟩ := h'
    exact (pss_one (ps_ret (pe_tup (pa_cons pe_str (pa_cons (act _ pn xe Ech _ _ (takes_len tk) hW) pa_nil))))).run pins s' σ H' D I ⟨h1, h2, h3⟩
  · exact pss_one (ps_ret (pe_tup (pa_cons (pe_xa (n := "tag") List.mem_cons_self hz hf (pv 1) (by simp)) (pa_cons (pe_field (k := k) F List.mem_cons_self hz hf ⟨(hr s).dp, (hr s).un⟩ rfl (pv 1)) pa_nil))))
  · refine ⟨Caught X.K CS Q, fun cls d σ' H' hq hl => ?_, rfl, hc, h⟩
    obtain ⟨e1, C, dd, fs, tg, fv, rfl, rfl, T, hd, ht, hv, q2⟩ := hq
    refine ⟨true, e1, fun _ a na => ?_, fun z => by cases z⟩
    have g1 : (σ'.set 1 (some (V.ref a)))[1]? = some (some (V.ref a)) := set_at _ _ _ (by omega)
    exact ⟨C, T, _, g1, rfl, rfl, dd, fs, _, rfl, hd, ht, _, g1, rfl, C, dd, fs, tg, fv, rfl, rfl, T, hd, ht, hv, fun H2 k2 => ⟨(by show 2 ≤ sizeLine; decide), fun p np => q2 H2 p k2 np⟩⟩
end Lx

namespace Lk
open PySem L2
def isI : V → Bool
  | .int _ => true
  | _ => false
/-- an item of an odd value -/
def ItD (K : PySem.W.Frag) (H : Hp) (v : V) : Prop := scal v = true ∨ ∃ (c : Addr) (ys : List V), v = .ref c ∧ SqT K H c ys ∧ ys.length ≤ 4 ∧ ∀ y ∈ ys, scal y = true
/-- an odd value: none, or the items of a tuple -/
def OD (K : PySem.W.Frag) (H : Hp) (v : V) : Option (List V) → Prop
  | none => scal v = true
  | some xs => ∃ a : Addr, v = .ref a ∧ SqT K H a xs ∧ xs.length ≤ 12 ∧ ∀ x ∈ xs, ItD K H x
def plB (o : Option (List V)) (c : Int) : Bool := match o with
  | none => false
  | some xs => decide ((xs.length : Int) = c) && xs.all isI
def uI : V → Int
  | .int i => i
  | _ => 0
def itsI (o : Option (List V)) : List Int := match o with
  | none => []
  | some xs => xs.map uI
/-- its ints are not too great -/
def OB (o : Option (List V)) : Prop := ∀ z ∈ itsI o, -(2 ^ 64) < z ∧ z < 2 ^ 64
theorem ob_none : OB none := fun z hz => by cases hz
theorem ItD.mono {K : PySem.W.Frag} {H H' : Hp} (e : Tups K H H') {v : V} (h : ItD K H v) : ItD K H' v := by
  rcases h with h | ⟨c, ys, h1, h2, h3, h4⟩
  · exact .inl h
  · exact .inr ⟨c, ys, h1, e _ _ h2, h3, h4⟩
theorem OD.mono {K : PySem.W.Frag} {H H' : Hp} (e : Tups K H H') {v : V} : ∀ {o : Option (List V)}, OD K H v o → OD K H' v o
  | none, h => h
  | some xs, ⟨a, h1, h2, h3, h4⟩ => ⟨a, h1, e _ _ h2, h3, fun x hx => (h4 x hx).mono e⟩
theorem OD.dd {K : PySem.W.Frag} {H : Hp} {v : V} : ∀ {o : Option (List V)}, OD K H v o → DD K H 2 v v
  | none, h => .inl ⟨h, rfl⟩
  | some xs, ⟨a, h1, h2, h3, h4⟩ => by
    refine .inr ⟨a, a, xs, xs, h1, h1, .inl ⟨h2, h2⟩, rfl, by omega, fun i x y f1 f2 => ?_⟩
    rw [f1] at f2
    cases f2
    rcases h4 x (List.mem_of_getElem? f1) with h | ⟨c, ys, e1, e2, e3, e4⟩
    · exact .inl ⟨h, rfl⟩
    · refine .inr ⟨c, c, ys, ys, e1, e1, .inl ⟨e2, e2⟩, rfl, by omega, fun i x y f1 f2 => ?_⟩
      rw [f1] at f2
      cases f2
      exact ⟨e4 x (List.mem_of_getElem? f1), rfl⟩
def spIsNumO (K : PySem.W.Frag) : Sp := fun vs H Q _ => ∃ v, vs = [v] ∧ ItD K H v ∧ Q (.bl (isI v)) H
def spNumsO (K : PySem.W.Frag) : Sp := fun vs H Q _ => ∃ v c o, vs = [v, .int c] ∧ OD K H v o ∧ ∀ H', Same H H' → Q (.bl (plB o c)) H'
/-- isinstance(v, int) and not isinstance(v, bool), v in slot i -/
theorem num_reads {K : PySem.W.Frag} {i : Nat} {v : V} {σ : L2.St} {H : Hp} {Q : VK} (hv : σ[i]? = some (some v)) (hI : ItD K H v) (q : Q (.bl (isI v)) H) :
    (tAndV (tCB (rIsi K) (tCons (tVar i) (tCons (tC (.ty "int")) tNil))) (tNotV (tCB (rIsi K) (tCons (tVar i) (tCons (tC (.ty "bool")) tNil))))) σ H Q := by
  rcases hI with hs | ⟨c, ys, rfl, h2, _⟩
  · cases v with
    | non => exact ⟨_, hv, _, _, _, _, false, rfl, .ty _, .base .non, kit_ty (by decide +kernel), false, rfl, iteF q⟩
    | bl x => exact ⟨_, hv, _, _, _, _, true, rfl, .ty _, .base (.bl x), kit_ty (by decide +kernel), true, rfl, iteT ⟨_, hv, _, _, _, _, true, rfl, .ty _, .base (.bl x), kit_ty (by decide +kernel), true, rfl, q⟩⟩
    | int x => exact ⟨_, hv, _, _, _, _, true, rfl, .ty _, .base (.int x), kit_ty (by decide +kernel), true, rfl, iteT ⟨_, hv, _, _, _, _, false, rfl, .ty _, .base (.int x), kit_ty (by decide +kernel), false, rfl, q⟩⟩
    | str x => exact ⟨_, hv, _, _, _, _, false, rfl, .ty _, .base (.str x), kit_ty (by decide +kernel), false, rfl, iteF q⟩
    | _ => cases hs
  · exact ⟨_, hv, _, _, _, _, false, rfl, .ty _, tyT h2, kit_ty (by decide +kernel), false, rfl, iteF q⟩
section
variable {P : Program} {w : World} {K : PySem.W.Frag} {mg : Str → Option Value} {base : Heap}
theorem ok_isnumO {f : Addr} {fd : FuncData} {k : Nat} (F : Fun K "is_number" "is_number" sIsNum f fd) (mi : mg "int" = none) (mb : mg "bool" = none) (ms : mg "isinstance" = none) : FnOk P w K mg base CX0 (k + 1) f fd ["value"] (spIsNumO K) := by
  refine F.ok scIsNum (fun vs H Q E h => ?_) (fun cdv A outer s H vs Q E hr h => ?_)
  · obtain ⟨i, rfl, _⟩ := h
    rfl
  · obtain ⟨v, rfl, hI, q⟩ := h
    refine ⟨_, pss_one (ps_ret (pe_and (pe_callB call_isi (by rfl) ms (by decide +kernel) (pa_cons (pv 0) (pa_cons (pe_bltn (v := .ty "int") (by rfl) mi (by decide +kernel) rfl) pa_nil))) (pe_one (pe_not (pe_callB call_isi (by rfl) ms (by decide +kernel) (pa_cons (pv 0) (pa_cons (pe_bltn (v := .ty "bool") (by rfl) mb (by decide +kernel) rfl) pa_nil))))))), ?_⟩
    exact num_reads (i := 0) rfl hI q
theorem all_isI {xs : List V} (h : ∀ x ∈ xs, isI x = true) : xs.all isI = true := List.all_eq_true.mpr h
theorem ok_numsO {f fN : Addr} {fd fdN : FuncData} {k : Nat} (F : Fun K "are_numbers" "are_numbers" sAreNums f fd) (ms : mg "isinstance" = none) (mt : mg "tuple" = none) (ml : mg "len" = none) (ma : mg "all" = none)
    (GN : FnOk P w K mg base CX0 (k + 1) fN fdN ["value"] (spIsNumO K)) (kN : PySem.W.keepIn K (.ref fN) = true) (bN : Binds K fdN ["value"] []) (gN : mg "is_number" = some (.ref fN)) : FnOk P w K mg base CX0 (k + 2) f fd ["value", "count"] (spNumsO K) := by
  refine F.ok scAreNums (fun vs H Q E h => ?_) (fun cdv A outer s H vs Q E hr h => ?_)
  · obtain ⟨v, c, o, rfl, _⟩ := h
    rfl
  · obtain ⟨v, c, o, rfl, hO, q⟩ := h
    refine ⟨_, pss_cons (ps_if (PW.pt (pw_or (pt_not (pt_val (pe_callB call_isi (by rfl) ms (by decide +kernel) (pa_cons (pv 0) (pa_cons (pe_bltn (v := .ty "tuple") (by rfl) mt (by decide +kernel) rfl) pa_nil)))))
        (pw_or1 (pt_cmpR op_ne (pe_callB call_len_seq (by rfl) ml PySem.boot_len (pa_cons (pv 0) pa_nil)) (pv 1) (nomark _))))) (pss_one (ps_ret pe_bl)) pss_nil)
      (pss_one (ps_ret (pe_callB (cr_all rfl) (by rfl) ma (by decide +kernel) (pa_cons (pe_lc (own := [("item", 2)]) (g := gName 2) (by rfl) scAreNums.nd (pi_tup (pv 0))
        (blkOk_by (own := [("item", 2)]) (N := ["value", "count", "item"]) (sc := defScope sAreNums) (by decide +kernel)) (fun _ _ _ _ _ => pg_name (i := 2) scAreNums.nd rfl (Or.inl rfl)) (fun _ _ _ _ _ => pts_nil)
        (fun _ _ _ _ _ => pe_call GN hr (by rfl) gN kN bN .nil pass0 (pa_cons (pv 2) pa_nil))) pa_nil)))), ?_⟩
    cases o with
    | none =>
      have hs : scal v = true := hO
      have qq := q H (Same.refl _)
      cases v with
      | non => exact ⟨_, rfl, _, _, _, _, false, rfl, .ty _, .base .non, kit_ty (by decide +kernel), false, rfl, iteT qq⟩
      | bl x => exact ⟨_, rfl, _, _, _, _, false, rfl, .ty _, .base (.bl x), kit_ty (by decide +kernel), false, rfl, iteT qq⟩
      | int x => exact ⟨_, rfl, _, _, _, _, false, rfl, .ty _, .base (.int x), kit_ty (by decide +kernel), false, rfl, iteT qq⟩
      | str x => exact ⟨_, rfl, _, _, _, _, false, rfl, .ty _, .base (.str x), kit_ty (by decide +kernel), false, rfl, iteT qq⟩
      | _ => cases hs
    | some xs =>
    obtain ⟨a, rfl, hS, h3, h4⟩ := hO
    refine ⟨_, rfl, _, _, _, _, true, rfl, .ty _, tyT hS, kit_ty (by decide +kernel), true, rfl, iteF ?_⟩
    refine ⟨_, rfl, a, _, rfl, .inr hS, _, rfl, rfl, _, rfl, ite2 (fun e => ?_) (fun e => ?_)⟩
    · have hne : ¬ ((xs.length : Int) = c) := fun z => by
        rw [z] at e
        exact absurd e (by simp)
      have qq := q H (Same.refl _)
      have eb : plB (some xs) c = false := by
        show (decide ((xs.length : Int) = c) && xs.all isI) = false
        rw [decide_eq_false hne]
        rfl
      rw [eb] at qq
      exact qq
    have heq : (xs.length : Int) = c := by
      refine Decidable.byContradiction fun z => e ?_
      show (!decide (V.int (xs.length : Int) = V.int c)) = true
      rw [decide_eq_false (fun y => z (V.int.inj y))]
      rfl
    refine ⟨_, rfl, a, rfl, ⟨_, hS⟩, fun D nD => ?_⟩
    refine lc_tup (K := K) (a := a) (xs := xs) (fun i H2 => Same H H2 ∧ H2 D = some (.lst (((xs.take i).map isI).map V.bl))) ⟨same_new nD, upd_same⟩ (fun i H2 _ ⟨sm, _⟩ => Same.sqT sm hS) ?_ ?_
    rotate_left
    · rintro H2 ⟨sm, hD⟩
      rw [List.take_length] at hD
      refine ⟨D, _, rfl, SqL.of hD, ?_⟩
      have eb : (xs.map isI).all id = plB (some xs) c := by
        show _ = (decide ((xs.length : Int) = c) && xs.all isI)
        rw [decide_eq_true heq, List.all_map]
        rfl
      rw [eb]
      exact q H2 sm
    · rintro i x H2 hx ⟨sm, hD⟩
      have hi : i < xs.length := (List.getElem?_eq_some_iff.mp hx).1
      refine ⟨rfl, _, rfl, x, rfl, (h4 x (List.mem_of_getElem? hx)).mono (Same.tups sm), _, hD, ?_, ?_, ?_⟩
      · rw [List.length_map, List.length_map]
        exact small1000 (Nat.le_trans (List.length_take_le _ _) (by omega))
      · intro b o e
        rw [upd_ne (ne_of_none e nD)]
        exact sm b o e
      · rw [upd_same, take_more hx, List.map_append, List.map_append]
        rfl
theorem ok_isplace {f : Addr} {fd : FuncData} {k : Nat} (F : Fun K "_law_is_place" "_law_is_place" sIsPlace f fd) (ms : mg "isinstance" = none) (mt : mg "tuple" = none) (ml : mg "len" = none) (ma : mg "all" = none) (mi : mg "int" = none) (mb : mg "bool" = none) :
    FnOk P w K mg base CX0 (k + 1) f fd ["_law_value", "_law_directions"] (spNumsO K) := by
  refine F.ok scIsPlace (fun vs H Q E h => ?_) (fun cdv A outer s H vs Q E hr h => ?_)
  · obtain ⟨v, c, o, rfl, _⟩ := h
    rfl
  · obtain ⟨v, c, o, rfl, hO, q⟩ := h
    refine ⟨_, pss_cons (ps_if (PW.pt (pw_or (pt_not (pt_val (pe_callB call_isi (by rfl) ms (by decide +kernel) (pa_cons (pv 0) (pa_cons (pe_bltn (v := .ty "tuple") (by rfl) mt (by decide +kernel) rfl) pa_nil)))))
        (pw_or1 (pt_cmpR op_ne (pe_callB call_len_seq (by rfl) ml PySem.boot_len (pa_cons (pv 0) pa_nil)) (pv 1) (nomark _))))) (pss_one (ps_ret pe_bl)) pss_nil)
      (pss_one (ps_ret (pe_callB (cr_all rfl) (by rfl) ma (by decide +kernel) (pa_cons (pe_lc (own := [("_law_one", 2)]) (g := gName 2) (te := tAndV (tCB (rIsi K) (tCons (tVar 2) (tCons (tC (.ty "int")) tNil))) (tNotV (tCB (rIsi K) (tCons (tVar 2) (tCons (tC (.ty "bool")) tNil))))) (by rfl) scIsPlace.nd (pi_tup (pv 0))
        (blkOk_by (own := [("_law_one", 2)]) (N := ["_law_value", "_law_directions", "_law_one"]) (sc := defScope sIsPlace) (by decide +kernel)) (fun _ _ _ _ _ => pg_name (i := 2) scIsPlace.nd rfl (Or.inl rfl)) (fun _ _ _ _ _ => pts_nil)
        (fun _ _ _ _ _ => pe_and (pe_callB call_isi (by rfl) ms (by decide +kernel) (pa_cons (pv 2) (pa_cons (pe_bltn (v := .ty "int") (by rfl) mi (by decide +kernel) rfl) pa_nil))) (pe_one (pe_not (pe_callB call_isi (by rfl) ms (by decide +kernel) (pa_cons (pv 2) (pa_cons (pe_bltn (v := .ty "bool") (by rfl) mb (by decide +kernel) rfl) pa_nil))))))) pa_nil)))), ?_⟩
    cases o with
    | none =>
      have hs : scal v = true := hO
      have qq := q H (Same.refl _)
      cases v with
      | non => exact ⟨_, rfl, _, _, _, _, false, rfl, .ty _, .base .non, kit_ty (by decide +kernel), false, rfl, iteT qq⟩
      | bl x => exact ⟨_, rfl, _, _, _, _, false, rfl, .ty _, .base (.bl x), kit_ty (by decide +kernel), false, rfl, iteT qq⟩
      | int x => exact ⟨_, rfl, _, _, _, _, false, rfl, .ty _, .base (.int x), kit_ty (by decide +kernel), false, rfl, iteT qq⟩
      | str x => exact ⟨_, rfl, _, _, _, _, false, rfl, .ty _, .base (.str x), kit_ty (by decide +kernel), false, rfl, iteT qq⟩
      | _ => cases hs
    | some xs =>
    obtain ⟨a, rfl, hS, h3, h4⟩ := hO
    refine ⟨_, rfl, _, _, _, _, true, rfl, .ty _, tyT hS, kit_ty (by decide +kernel), true, rfl, iteF ?_⟩
    refine ⟨_, rfl, a, _, rfl, .inr hS, _, rfl, rfl, _, rfl, ite2 (fun e => ?_) (fun e => ?_)⟩
    · have hne : ¬ ((xs.length : Int) = c) := fun z => by
        rw [z] at e
        exact absurd e (by simp)
      have qq := q H (Same.refl _)
      have eb : plB (some xs) c = false := by
        show (decide ((xs.length : Int) = c) && xs.all isI) = false
        rw [decide_eq_false hne]
        rfl
      rw [eb] at qq
      exact qq
    have heq : (xs.length : Int) = c := by
      refine Decidable.byContradiction fun z => e ?_
      show (!decide (V.int (xs.length : Int) = V.int c)) = true
      rw [decide_eq_false (fun y => z (V.int.inj y))]
      rfl
    refine ⟨_, rfl, a, rfl, ⟨_, hS⟩, fun D nD => ?_⟩
    refine lc_tup (K := K) (a := a) (xs := xs) (fun i H2 => Same H H2 ∧ H2 D = some (.lst (((xs.take i).map isI).map V.bl))) ⟨same_new nD, upd_same⟩ (fun i H2 _ ⟨sm, _⟩ => Same.sqT sm hS) ?_ ?_
    rotate_left
    · rintro H2 ⟨sm, hD⟩
      rw [List.take_length] at hD
      refine ⟨D, _, rfl, SqL.of hD, ?_⟩
      have eb : (xs.map isI).all id = plB (some xs) c := by
        show _ = (decide ((xs.length : Int) = c) && xs.all isI)
        rw [decide_eq_true heq, List.all_map]
        rfl
      rw [eb]
      exact q H2 sm
    · rintro i x H2 hx ⟨sm, hD⟩
      have hi : i < xs.length := (List.getElem?_eq_some_iff.mp hx).1
      refine ⟨rfl, num_reads (i := 2) rfl ((h4 x (List.mem_of_getElem? hx)).mono (Same.tups sm)) ⟨_, hD, ?_, ?_, ?_⟩⟩
      · rw [List.length_map, List.length_map]
        exact small1000 (Nat.le_trans (List.length_take_le _ _) (by omega))
      · intro b o e
        rw [upd_ne (ne_of_none e nD)]
        exact sm b o e
      · rw [upd_same, take_more hx, List.map_append, List.map_append]
        rfl
end
end Lk

namespace Lk
open PySem L2
theorem BagAt.same {H H' : Hp} {b l : Addr} (B : BagAt H b l) (e : Same H H') : BagAt H' b l := by
  obtain ⟨x1, x2, x3, x4, Z⟩ := B
  exact ⟨x1, x2, x3, x4, e _ _ Z.ob, e _ _ Z.ls, Z.i0, Z.i1, Z.g0, Z.s0, Z.s1⟩
theorem itd_all {K : PySem.W.Frag} {H : Hp} {xs : List V} (h : xs.all scal = true) : ∀ x ∈ xs, ItD K H x := fun x hx => .inl (List.all_eq_true.mp h x hx)
def spOdd (K : PySem.W.Frag) : Sp := fun vs H Q _ => ∃ (b l : Addr), vs = [.ref b] ∧ BagAt H b l ∧ ∀ (v : V) (o : Option (List V)) (H' : Hp), OD K H' v o → OB o → BagAt H' b l → But b H H' → Q v H'
section
variable {P : Program} {w : World} {K : PySem.W.Frag} {mg : Str → Option Value} {base : Heap}
theorem ok_odd {f fO : Addr} {fd fdO : FuncData} {k : Nat} (F : Fun K "_law_odd" "_law_odd" sOdd f fd) (GO : FnOk P w K mg base CX0 (k + 2) fO fdO ["_law_bag_here", "_law_things"] (spOf K))
    (kO : PySem.W.keepIn K (.ref fO) = true) (bO : Binds K fdO ["_law_bag_here", "_law_things"] []) (gO : mg "_law_of" = some (.ref fO)) : FnOk P w K mg base CX0 (k + 3) f fd ["_law_bag_here"] (spOdd K) := by
  refine F.ok scOdd (fun vs H Q E h => ?_) (fun cdv A outer s H vs Q E hr h => ?_)
  · obtain ⟨b, l, rfl, _⟩ := h
    rfl
  · obtain ⟨b, l, rfl, B, q⟩ := h
    refine ⟨_, pss_one (ps_ret (pe_call GO hr (by rfl) gO kO bO .nil pass0 (pa_cons (pv 0) (pa_cons (pe_lst (pa_cons pe_non (pa_cons pe_str (pa_cons pe_str (pa_cons pe_int (pa_cons pe_bl (pa_cons (pe_tup pa_nil) (pa_cons (pe_tup (pa_cons pe_non pa_nil)) (pa_cons (pe_tup (pa_cons pe_int (pa_cons pe_int (pa_cons pe_int (pa_cons pe_int pa_nil))))) (pa_cons (pe_tup (pa_cons pe_str pa_nil)) (pa_cons (pe_tup (pa_cons pe_bl pa_nil)) (pa_cons (pe_tup (pa_cons pe_int (pa_cons pe_bl pa_nil))) (pa_cons (pe_tup (pa_cons pe_int (pa_cons pe_non pa_nil))) (pa_cons (pe_tup (pa_cons pe_int (pa_cons pe_str pa_nil))) (pa_cons (pe_tup (pa_cons (pe_tup (pa_cons pe_int pa_nil)) pa_nil)) (pa_cons (pe_tup (pa_cons pe_int (pa_cons (pe_tup (pa_cons pe_int pa_nil)) (pa_cons pe_int pa_nil)))) pa_nil)))))))))))))))) pa_nil)))), ?_⟩
    refine ⟨_, rfl, ?_⟩
    refine ⟨(by show 0 ≤ sizeLine; decide), fun p1 n1 => ?_⟩
    have s1 := same_new (o := .tup []) n1
    refine ⟨(by show 1 ≤ sizeLine; decide), fun p2 n2 => ?_⟩
    have s2 := same_new (o := .tup [.non]) n2
    refine ⟨(by show 4 ≤ sizeLine; decide), fun p3 n3 => ?_⟩
    have s3 := same_new (o := .tup [(.int 1), (.int 2), (.int 3), (.int 4)]) n3
    refine ⟨(by show 1 ≤ sizeLine; decide), fun p4 n4 => ?_⟩
    have s4 := same_new (o := .tup [(.str "1")]) n4
    refine ⟨(by show 1 ≤ sizeLine; decide), fun p5 n5 => ?_⟩
    have s5 := same_new (o := .tup [(.bl true)]) n5
    refine ⟨(by show 2 ≤ sizeLine; decide), fun p6 n6 => ?_⟩
    have s6 := same_new (o := .tup [(.int 0), (.bl true)]) n6
    refine ⟨(by show 2 ≤ sizeLine; decide), fun p7 n7 => ?_⟩
    have s7 := same_new (o := .tup [(.int 1), .non]) n7
    refine ⟨(by show 2 ≤ sizeLine; decide), fun p8 n8 => ?_⟩
    have s8 := same_new (o := .tup [(.int 0), (.str "a")]) n8
    refine ⟨(by show 1 ≤ sizeLine; decide), fun p9 n9 => ?_⟩
    have s9 := same_new (o := .tup [(.int 1)]) n9
    refine ⟨(by show 1 ≤ sizeLine; decide), fun p10 n10 => ?_⟩
    have s10 := same_new (o := .tup [.ref p9]) n10
    refine ⟨(by show 1 ≤ sizeLine; decide), fun p11 n11 => ?_⟩
    have s11 := same_new (o := .tup [(.int 2)]) n11
    refine ⟨(by show 3 ≤ sizeLine; decide), fun p12 n12 => ?_⟩
    have s12 := same_new (o := .tup [(.int 1), .ref p11, (.int 3)]) n12
    refine ⟨(by show 15 ≤ sizeLine; decide), fun L nL => ?_⟩
    have sL := same_new (o := .lst [.non, (.str ""), (.str "ab"), (.int 3), (.bl true), .ref p1, .ref p2, .ref p3, .ref p4, .ref p5, .ref p6, .ref p7, .ref p8, .ref p10, .ref p12]) nL
    have b12 := sL
    have b11 := s12.trans b12
    have b10 := s11.trans b11
    have b9 := s10.trans b10
    have b8 := s9.trans b9
    have b7 := s8.trans b8
    have b6 := s7.trans b7
    have b5 := s6.trans b6
    have b4 := s5.trans b5
    have b3 := s4.trans b4
    have b2 := s3.trans b3
    have b1 := s2.trans b2
    have b0 := s1.trans b1
    have c1 := s1
    have c2 := c1.trans s2
    have c3 := c2.trans s3
    have c4 := c3.trans s4
    have c5 := c4.trans s5
    have c6 := c5.trans s6
    have c7 := c6.trans s7
    have c8 := c7.trans s8
    have c9 := c8.trans s9
    have c10 := c9.trans s10
    have c11 := c10.trans s11
    have c12 := c11.trans s12
    have sAll := c12
    have BL := BagAt.same B b0
    refine ⟨b, l, L, _, rfl, BL, (BagAt.same B (sAll)).nb nL, SqL.of upd_same, (by show 0 < 15; decide), (by show 15 < 1000; decide), fun v H' hv B' bt => ?_⟩
    have bb : But b H H' := (But.same b0).trans bt
    have t1 : SqT K H' p1 [] := bt.sqT BL (Same.sqT b1 (SqT.of upd_same))
    have t2 : SqT K H' p2 [.non] := bt.sqT BL (Same.sqT b2 (SqT.of upd_same))
    have t3 : SqT K H' p3 [(.int 1), (.int 2), (.int 3), (.int 4)] := bt.sqT BL (Same.sqT b3 (SqT.of upd_same))
    have t4 : SqT K H' p4 [(.str "1")] := bt.sqT BL (Same.sqT b4 (SqT.of upd_same))
    have t5 : SqT K H' p5 [(.bl true)] := bt.sqT BL (Same.sqT b5 (SqT.of upd_same))
    have t6 : SqT K H' p6 [(.int 0), (.bl true)] := bt.sqT BL (Same.sqT b6 (SqT.of upd_same))
    have t7 : SqT K H' p7 [(.int 1), .non] := bt.sqT BL (Same.sqT b7 (SqT.of upd_same))
    have t8 : SqT K H' p8 [(.int 0), (.str "a")] := bt.sqT BL (Same.sqT b8 (SqT.of upd_same))
    have t9 : SqT K H' p9 [(.int 1)] := bt.sqT BL (Same.sqT b9 (SqT.of upd_same))
    have t10 : SqT K H' p10 [.ref p9] := bt.sqT BL (Same.sqT b10 (SqT.of upd_same))
    have t11 : SqT K H' p11 [(.int 2)] := bt.sqT BL (Same.sqT b11 (SqT.of upd_same))
    have t12 : SqT K H' p12 [(.int 1), .ref p11, (.int 3)] := bt.sqT BL (Same.sqT b12 (SqT.of upd_same))
    rcases List.mem_cons.mp hv with e | hv
    · subst e
      exact q _ none H' rfl ob_none B' bb
    rcases List.mem_cons.mp hv with e | hv
    · subst e
      exact q _ none H' rfl ob_none B' bb
    rcases List.mem_cons.mp hv with e | hv
    · subst e
      exact q _ none H' rfl ob_none B' bb
    rcases List.mem_cons.mp hv with e | hv
    · subst e
      exact q _ none H' rfl ob_none B' bb
    rcases List.mem_cons.mp hv with e | hv
    · subst e
      exact q _ none H' rfl ob_none B' bb
    rcases List.mem_cons.mp hv with e | hv
    · subst e
      exact q _ (some _) H' ⟨_, rfl, t1, (by show 0 ≤ 12; decide), itd_all rfl⟩ (fun z hz => by simp [itsI, uI] at hz <;> omega) B' bb
    rcases List.mem_cons.mp hv with e | hv
    · subst e
      exact q _ (some _) H' ⟨_, rfl, t2, (by show 1 ≤ 12; decide), itd_all rfl⟩ (fun z hz => by simp [itsI, uI] at hz <;> omega) B' bb
    rcases List.mem_cons.mp hv with e | hv
    · subst e
      exact q _ (some _) H' ⟨_, rfl, t3, (by show 4 ≤ 12; decide), itd_all rfl⟩ (fun z hz => by simp [itsI, uI] at hz <;> omega) B' bb
    rcases List.mem_cons.mp hv with e | hv
    · subst e
      exact q _ (some _) H' ⟨_, rfl, t4, (by show 1 ≤ 12; decide), itd_all rfl⟩ (fun z hz => by simp [itsI, uI] at hz <;> omega) B' bb
    rcases List.mem_cons.mp hv with e | hv
    · subst e
      exact q _ (some _) H' ⟨_, rfl, t5, (by show 1 ≤ 12; decide), itd_all rfl⟩ (fun z hz => by simp [itsI, uI] at hz <;> omega) B' bb
    rcases List.mem_cons.mp hv with e | hv
    · subst e
      exact q _ (some _) H' ⟨_, rfl, t6, (by show 2 ≤ 12; decide), itd_all rfl⟩ (fun z hz => by simp [itsI, uI] at hz <;> omega) B' bb
    rcases List.mem_cons.mp hv with e | hv
    · subst e
      exact q _ (some _) H' ⟨_, rfl, t7, (by show 2 ≤ 12; decide), itd_all rfl⟩ (fun z hz => by simp [itsI, uI] at hz <;> omega) B' bb
    rcases List.mem_cons.mp hv with e | hv
    · subst e
      exact q _ (some _) H' ⟨_, rfl, t8, (by show 2 ≤ 12; decide), itd_all rfl⟩ (fun z hz => by simp [itsI, uI] at hz <;> omega) B' bb
    rcases List.mem_cons.mp hv with e | hv
    · subst e
      exact q _ (some _) H' ⟨_, rfl, t10, (by show 1 ≤ 12; decide), fun x hx => by
        rw [List.mem_singleton.mp hx]; exact .inr ⟨_, _, rfl, t9, (by show 1 ≤ 4; decide), by simp [scal]⟩⟩ (fun z hz => by simp [itsI, uI] at hz <;> omega) B' bb
    have e := List.mem_singleton.mp hv
    subst e
    exact q _ (some _) H' ⟨_, rfl, t12, (by show 3 ≤ 12; decide), fun x hx => by
      rcases List.mem_cons.mp hx with e | hx
      · rw [e]; exact .inl rfl
      rcases List.mem_cons.mp hx with e | hx
      · rw [e]; exact .inr ⟨_, _, rfl, t11, (by show 1 ≤ 4; decide), by simp [scal]⟩
      rw [List.mem_singleton.mp hx]; exact .inl rfl⟩ (fun z hz => by simp [itsI, uI] at hz <;> omega) B' bb
end
end Lk

namespace Lk
open PySem L2 Lx
/-- an error that says its place: its class C and its __init__ -/
structure RaiseC (K : PySem.W.Frag) (mg : Str → Option Value) (x : Str) (C D fS fI : Addr) : Prop where
  er : ErrC K C D fS
  iC : PySem.W.findIn K (.ref C) "__init__" = some (some (.ref fI))
  tI : PySem.W.typeIn K (.ref fI) = some (.type "function")
  at_ : mg x = some (.ref C)
def xflds (fn : Str) (v : V) (tg : Str) : List (Str × V) := [(fn, v), ("tag", .str tg)]
/-- what is there behind the making of the error -/
theorem made_ext {H : Hp} {a dx C : Addr} {o1 o2 o3 o4 o5 : HO} (na : H a = none) (nd : H dx = none) :
    ∀ b u, H b = some u → (upd (del (upd (upd (upd (upd H a o1) dx o2) a o3) dx o4) a) dx o5) b = some u := fun b u e => by
  have hb : b ≠ a := ne_of_none e na
  have hd : b ≠ dx := ne_of_none e nd
  rw [upd_ne hd, del_ne hb, upd_ne hd, upd_ne hb, upd_ne hd, upd_ne hb]
  exact e
def spChkX (K : PySem.W.Frag) (C : Addr) : Sp := fun vs H _ E => ∃ v c o, vs = [v, .int c] ∧ OD K H v o ∧ plB o c = false ∧ ∀ (d : Addr) (H' : Hp), (∀ b u, H b = some u → H' b = some u) → H' d = some (.xd (xflds "given" v "InvalidPlace")) → E (.ref C) (some d) H'
section
variable {P : Program} {w : World} {K : PySem.W.Frag} {mg : Str → Option Value} {base : Heap}
theorem ok_chkX {f fN fI C D fS : Addr} {fd fdN fdI : FuncData} {k : Nat} (F : Fun K "check_place" "check_place" sChkPlace f fd) (R : RaiseC K mg "InvalidPlace" C D fS fI)
    (GI : FnOk P w K mg base CX0 (k + 2) fI fdI ["self", "given"] (spE1 K C "InvalidPlace" "given")) (bI : Binds K fdI ["self", "given"] [])
    (GN : FnOk P w K mg base CX0 (k + 2) fN fdN ["value", "count"] (spNumsO K)) (kN : PySem.W.keepIn K (.ref fN) = true) (bN : Binds K fdN ["value", "count"] []) (gN : mg "are_numbers" = some (.ref fN)) : FnOk P w K mg base (L2.CX P w) (k + 4) f fd ["place", "directions"] (spChkX K C) := by
  refine F.okX scChkPlace (fun vs H Q E h => ?_) (fun cdv A outer s H vs Q E hr h => ?_)
  · obtain ⟨v, c, o, rfl, _⟩ := h
    rfl
  · obtain ⟨v, c, o, rfl, hO, hp, q⟩ := h
    have hr2 : Room (k + 2) _ := hr.mono (by omega)
    refine ⟨_, pss_one (ps_if (pt_not (pt_val (pe_call GN hr2 (by rfl) gN kN bN .nil pass0 (pa_cons (pv 0) (pa_cons (pv 1) pa_nil)))))
      (pss_one (ps_raise rfl (takes_of rfl rfl rfl rfl) (pmk_oex R.er.ox R.iC R.tI GI hr bI .nil pass0 (by rfl) R.at_ (pa_cons (pv 0) pa_nil)))) pss_nil), ?_⟩
    refine ⟨_, rfl, _, rfl, v, c, o, rfl, hO, fun H1 sm => ⟨_, rfl, ?_⟩⟩
    rw [hp]
    refine iteT ⟨_, rfl, (by show 1 ≤ 1000; decide), fun a na => ⟨a, v, rfl, upd_same, fun dx nd ne => ⟨rfl, dx, _, ?_, upd_same, ?_, ?_⟩⟩⟩
    · rw [upd_ne (Ne.symm ne), upd_same]
    · rw [← nd, upd_ne ne]
    · have nd' : H1 dx = none := by rw [← nd, upd_ne ne]
      exact q dx _ (fun b u e => made_ext (C := C) na nd' b u (sm b u e)) upd_same
end
end Lk

namespace Lk
open PySem L2
/-! ### readings told by what comes out -/
section
variable {K : PySem.W.Frag} {H : Hp} {Q : VK}
theorem cat_reads {a b : Addr} {xs ys : List V} (ha : SqT K H a xs) (hb : SqT K H b ys) (hl : xs.length + ys.length ≤ 1000) (q : ∀ H' p, Same H H' → SqT K H' p (xs ++ ys) → Q (.ref p) H') : rCatA K (.ref a) (.ref b) H Q := by
  refine ⟨a, b, xs, ys, rfl, rfl, ha, hb, Nat.le_of_lt (small1000 hl), fun e => ?_, fun _ e => ?_, fun _ _ p np => ?_⟩
  · refine q H b (Same.refl _) ?_
    rw [e]
    exact hb
  · refine q H a (Same.refl _) ?_
    rw [e, List.append_nil]
    exact ha
  · exact q _ p (same_new np) (SqT.of upd_same)
theorem rep_reads {l : Addr} {k : Int} {a : V} (hl : SqT K H l [a]) (k0 : 0 ≤ k) (k1 : k ≤ 1000) (q : ∀ H' p, Same H H' → SqT K H' p (List.replicate k.toNat a) → Q (.ref p) H') : rRepO K (.ref l) (.int k) H Q := by
  refine ⟨l, k, a, rfl, rfl, hl, k0, k1, fun e => ?_, fun p np => ?_⟩
  · refine q H l (Same.refl _) ?_
    rw [e]
    exact hl
  · exact q _ p (same_new np) (SqT.of upd_same)
theorem cut_reads {a : Addr} {xs : List V} {lo hi : Option Int} (ha : SqT K H a xs) (q : ∀ H' p, Same H H' → SqT K H' p (cutV xs lo hi) → Q (.ref p) H') : rSlA K (.ref a) lo hi H Q := by
  refine ⟨a, xs, rfl, ha, fun e => ?_, fun _ p np => ?_⟩
  · refine q H a (Same.refl _) ?_
    have e2 : cutV xs lo hi = xs := by
      unfold cutV
      rw [e.1, e.2]
      simp
    rw [e2]
    exact ha
  · exact q _ p (same_new np) (SqT.of upd_same)
end
/-! ### mathematics -/
def restsR : List Int → Int → List Int
  | [], _ => []
  | s :: r, n => (n % s) :: restsR r (n / s)
def quoR : List Int → Int → Int
  | [], n => n
  | s :: r, n => quoR r (n / s)
theorem restsR_app (s : Int) : ∀ (l : List Int) (n : Int), restsR (l ++ [s]) n = restsR l n ++ [quoR l n % s]
  | [], n => rfl
  | x :: r, n => by
    show (n % x) :: restsR (r ++ [s]) (n / x) = (n % x) :: (restsR r (n / x) ++ [quoR r (n / x) % s])
    rw [restsR_app s r]
theorem quoR_app (s : Int) : ∀ (l : List Int) (n : Int), quoR (l ++ [s]) n = quoR l n / s
  | [], n => rfl
  | x :: r, n => quoR_app s r (n / x)
theorem restsR_len : ∀ (l : List Int) (n : Int), (restsR l n).length = l.length
  | [], _ => rfl
  | x :: r, n => by simp [restsR, restsR_len r]
def pAt (ds : List Int) (c : Int) : List Int := (restsR ds.reverse c).reverse
theorem pAt_len (ds : List Int) (c : Int) : (pAt ds c).length = ds.length := by simp [pAt, restsR_len]
def idRow (d i : Nat) : List Int := List.replicate i 0 ++ [1] ++ List.replicate (d - i - 1) 0
def idM (d : Nat) : List (List Int) := (List.range d).map (idRow d)
def colM (m : List (List Int)) (j : Nat) : List Int := m.map fun r => r.getD j 0
def rowM (row : List Int) (m : List (List Int)) : List Int := (List.range m.length).map fun j => dotL row (colM m j)
def B64 (r : List Int) : Prop := ∀ z ∈ r, -(2 ^ 64) < z ∧ z < 2 ^ 64
/-! ### promises -/
def spPlaceAt (K : PySem.W.Frag) : Sp := fun vs H Q _ => ∃ (a : Addr) (ds : List Int) (c : Int), vs = [.ref a, .int c] ∧ SqT K H a (ds.map V.int) ∧ Divs ds ∧ ds.length ≤ 3 ∧ ∀ H' p, Same H H' → SqT K H' p ((pAt ds c).map V.int) → Q (.ref p) H'
def spIdent (K : PySem.W.Frag) : Sp := fun vs H Q _ => ∃ d : Nat, vs = [.int d] ∧ d ≤ 3 ∧ ∀ H' p ws, Same H H' → SqT K H' p ws → HdsAt K H' (idM d) ws → Q (.ref p) H'
def spTimes (K : PySem.W.Frag) : Sp := fun vs H Q _ => ∃ (m c : Addr) (mat : List (List Int)) (ws : List V) (x : List Int), vs = [.ref m, .ref c] ∧ SqT K H m ws ∧ HdsAt K H mat ws ∧ SqT K H c (x.map V.int) ∧ (∀ r ∈ mat, r.length = x.length ∧ B64 r) ∧ x.length ≤ 3 ∧ mat.length ≤ 3 ∧
  ∀ H' p, Same H H' → SqT K H' p ((mat.map fun r => dotL r x).map V.int) → Q (.ref p) H'
def spColumn (K : PySem.W.Frag) : Sp := fun vs H Q _ => ∃ (m : Addr) (j : Nat) (mat : List (List Int)) (ws : List V), vs = [.ref m, .int j] ∧ SqT K H m ws ∧ HdsAt K H mat ws ∧ (∀ r ∈ mat, j < r.length) ∧ mat.length ≤ 3 ∧
  ∀ H' p, Same H H' → SqT K H' p ((colM mat j).map V.int) → Q (.ref p) H'
def spRowTimes (K : PySem.W.Frag) : Sp := fun vs H Q _ => ∃ (a m : Addr) (row : List Int) (mat : List (List Int)) (ws : List V), vs = [.ref a, .ref m] ∧ SqT K H a (row.map V.int) ∧ SqT K H m ws ∧ HdsAt K H mat ws ∧ (∀ r ∈ mat, r.length = mat.length) ∧ mat.length ≤ 3 ∧ row.length = mat.length ∧ B64 row ∧
  ∀ H' p, Same H H' → SqT K H' p ((rowM row mat).map V.int) → Q (.ref p) H'
section
variable {P : Program} {w : World} {K : PySem.W.Frag} {mg : Str → Option Value} {base : Heap}
theorem ok_placeat {f : Addr} {fd : FuncData} {k : Nat} (F : Fun K "place_at" "place_at" sPlaceAt f fd) (mt : mg "tuple" = none) : FnOk P w K mg base CX0 (k + 1) f fd ["sides", "number"] (spPlaceAt K) := by
  refine F.ok scPlaceAt (fun vs H Q E h => ?_) (fun cdv A outer s H vs Q E hr h => ?_)
  · obtain ⟨a, ds, c, rfl, _⟩ := h
    rfl
  · obtain ⟨a, ds, c, rfl, hA, hD, h3, q⟩ := h
    refine ⟨_, pss_cons (ps_set (i := 2) scPlaceAt.nd rfl (.inl rfl) (pe_lst pa_nil))
      (pss_cons (ps_for PassesOwn.never rfl (pi_tup (pe_revT (pv 0))) (pg_name (i := 3) scPlaceAt.nd rfl (.inl rfl))
        (pss_cons (ps_expr (pe_bm PySem.F.plainAttrs_list PySem.F.slot_list_append PySem.F.type_list_append mt_append (pv 2) (pa_cons (pe_op op_mod (pv 1) (pv 3)) pa_nil)))
        (pss_one (ps_set (i := 1) scPlaceAt.nd rfl (.inl rfl) (pe_op op_fdiv (pv 1) (pv 3))))))
      (pss_one (ps_ret (pe_callTy call_tuple_of (by rfl) mt (by decide +kernel) (pa_cons (pe_revL (pv 2)) pa_nil))))), ?_⟩
    refine ⟨Nat.zero_le _, fun o no => ?_⟩
    have s0 := same_new (o := .lst []) no
    refine ⟨_, rfl, a, _, rfl, Same.sqT s0 hA, fun r nr => ?_⟩
    have s1 := s0.trans (same_new (o := .tup (ds.map V.int).reverse) nr)
    have noR : o ≠ r := ne_of_none upd_same nr
    have er : (ds.map V.int).reverse = ds.reverse.map V.int := by rw [List.map_reverse]
    have hR : SqT K (upd (upd H o (.lst [])) r (.tup (ds.map V.int).reverse)) r (ds.reverse.map V.int) := by
      rw [← er]
      exact SqT.of upd_same
    refine ⟨r, rfl, ⟨_, hR⟩, for_tup (K := K) (a := r) (xs := ds.reverse.map V.int) (fun i σ H2 => ∃ v3 : Option V, σ = [some (.ref a), some (.int (quoR (ds.reverse.take i) c)), some (.ref o), v3] ∧ Same H H2 ∧ SqT K H2 r (ds.reverse.map V.int) ∧ H2 o = some (.lst ((restsR (ds.reverse.take i) c).map V.int)))
      ⟨none, rfl, s1, hR, by rw [upd_ne noR]; exact upd_same⟩ (fun i σ H2 _ ⟨_, _, _, h, _⟩ => h) ?_ ?_⟩
    · rintro i y σ H2 hi ⟨v3, rfl, sm, hR2, ho⟩
      obtain ⟨u, hu, rfl⟩ := map_get hi
      have hm : u ∈ ds := List.mem_reverse.mp (List.mem_of_getElem? hu)
      have u1 := hD.one u hm
      have hi3 : i < ds.reverse.length := (List.getElem?_eq_some_iff.mp hu).1
      rw [List.length_reverse] at hi3
      have u12 : u ≤ 12 := by
        obtain ⟨j, hj⟩ := List.mem_iff_getElem?.mp hm
        have p1 := hD.part (j + 1)
        have p2 := hD.part j
        rw [take_more hj, prodL_app] at p1
        have : 1 * u ≤ prodL (ds.take j) * u := Int.mul_le_mul_of_nonneg_right p2.1 (by omega)
        omega
      refine ⟨_, rfl, .inl ⟨rfl, _, SqL.of ho⟩, _, rfl, _, rfl, _, _, rfl, rfl, (by show (0 : Int) < u; omega), o, _, _, rfl, rfl, ho, ?_, ?_⟩
      · rw [List.length_map, restsR_len]
        exact small1000 (Nat.le_trans (List.length_take_le _ _) (by omega))
      refine ⟨_, rfl, _, rfl, _, u, rfl, rfl, ⟨by omega, by omega⟩, some (.int u), ?_, Same.upd_out sm no, ?_, ?_⟩
      · rw [take_more hu, quoR_app]
        rfl
      · exact tups_lst ho _ _ hR2
      · rw [upd_same, take_more hu, restsR_app, List.map_append]
        rfl
    · rintro σ H2 ⟨v3, rfl, sm, hR2, ho⟩
      rw [List.length_map, List.take_length] at ho
      refine ⟨_, rfl, o, _, rfl, SqL.of ho, fun l nl => ?_⟩
      have s3 := sm.trans (same_new (o := .lst ((restsR ds.reverse c).map V.int).reverse) nl)
      refine ⟨l, _, rfl, .inl ⟨SqL.of upd_same, fun p np => ?_⟩⟩
      refine q _ p (s3.trans (same_new np)) ?_
      unfold pAt
      rw [List.map_reverse]
      exact SqT.of upd_same
end
end Lk

namespace Lk
open PySem L2
def mulM (m : List (List Int)) (x : List Int) : List Int := m.map fun r => dotL r x
def srcM (ds : List Int) (mat : List (List Int)) (x nds : List Int) (n : Nat) : List Int := (List.range n).map fun (j : Nat) => cls ds (plus (mulM mat (pAt nds (j : Int))) x)
def movC (srcs cs : List Int) : List Int := (rng0 srcs.length).filter fun j => decide (srcs.getD j.toNat 0 ∈ cs)
mutual
def mvT (srcs : List Int) (mat : List (List Int)) (e : Tr) : Tr → Tr
  | .pl => e
  | .key row hs t => .key (rowM row mat) (srcs.map fun c => hs.getD c.toNat 0) (mvT srcs mat e t)
  | .fork gs => .fork (mvG srcs mat e gs)
def mvG (srcs : List Int) (mat : List (List Int)) (e : Tr) : Gs → Gs
  | .nil => .nil
  | .cons cs t r => .cons (movC srcs cs) (mvT srcs mat e t) (mvG srcs mat e r)
end
theorem Gs.trees_snoc (cs : List Int) (t : Tr) : ∀ g : Gs, (g.snoc cs t).trees = g.trees ++ [t]
  | .nil => rfl
  | .cons c u r => by simp [Gs.snoc, Gs.trees, Gs.trees_snoc cs t r]
theorem Gs.ext_ : ∀ {g h : Gs}, g.heads = h.heads → g.trees = h.trees → g = h
  | .nil, .nil, _, _ => rfl
  | .nil, .cons _ _ _, h, _ => by cases h
  | .cons _ _ _, .nil, h, _ => by cases h
  | .cons c t r, .cons c' t' r', h1, h2 => by
    simp only [Gs.heads, List.cons.injEq] at h1
    simp only [Gs.trees, List.cons.injEq] at h2
    rw [h1.1, h2.1, Gs.ext_ h1.2 h2.2]
theorem mvG_heads (srcs : List Int) (mat : List (List Int)) (e : Tr) : ∀ g : Gs, (mvG srcs mat e g).heads = g.heads.map (movC srcs)
  | .nil => by simp [mvG, Gs.heads]
  | .cons c t r => by simp [mvG, Gs.heads, mvG_heads srcs mat e r]
theorem mvG_trees (srcs : List Int) (mat : List (List Int)) (e : Tr) : ∀ g : Gs, (mvG srcs mat e g).trees = g.trees.map (mvT srcs mat e)
  | .nil => by simp [mvG, Gs.trees]
  | .cons c t r => by simp [mvG, Gs.trees, mvG_trees srcs mat e r]
/-- a square matrix of d directions -/
structure Mat (mat : List (List Int)) (d : Nat) : Prop where
  ln : mat.length = d
  rw_ : ∀ r ∈ mat, r.length = d ∧ B64 r
def spSources (K : PySem.W.Frag) : Sp := fun vs H Q _ => ∃ (a m c e : Addr) (ds : List Int) (mat : List (List Int)) (ws : List V) (x nds : List Int) (d n : Nat), vs = [.ref a, .ref m, .ref c, .ref e] ∧ SqT K H a (ds.map V.int) ∧ SqT K H m ws ∧ HdsAt K H mat ws ∧ SqT K H c (x.map V.int) ∧ SqT K H e (nds.map V.int) ∧
  Divs ds ∧ Divs nds ∧ ds.length = d ∧ nds.length = d ∧ Mat mat d ∧ x.length = d ∧ d ≤ 3 ∧ prodL nds = (n : Int) ∧ ∀ H' p, Same H H' → H' p = some (.lst ((srcM ds mat x nds n).map V.int)) → Q (.ref p) H'
def spMovedC (K : PySem.W.Frag) : Sp := fun vs H Q _ => ∃ (a l : Addr) (cs srcs : List Int), vs = [.ref a, .ref l] ∧ SqT K H a (cs.map V.int) ∧ SqL K H l (srcs.map V.int) ∧ srcs.length ≤ 1000 ∧ ∀ H' p, Same H H' → SqT K H' p ((movC srcs cs).map V.int) → Q (.ref p) H'
def spMoved (K : PySem.W.Frag) (m : Nat) : Sp := fun vs H Q _ => ∃ (v ev : V) (mA sA : Addr) (t e : Tr) (mat : List (List Int)) (ws : List V) (srcs : List Int) (d n : Nat), vs = [v, .ref mA, .ref sA, ev] ∧ TrAt K H t v ∧ SqT K H mA ws ∧ HdsAt K H mat ws ∧ SqL K H sA (srcs.map V.int) ∧ TrAt K H e ev ∧
  t.wf d n ∧ t.dep ≤ m ∧ Mat mat d ∧ d ≤ 3 ∧ n ≤ 12 ∧ (∀ c ∈ srcs, 0 ≤ c ∧ c < n) ∧ srcs.length ≤ 1000 ∧ ∀ H' u, Same H H' → TrAt K H' (mvT srcs mat e t) u → Q u H'
section
variable {P : Program} {w : World} {K : PySem.W.Frag} {mg : Str → Option Value} {base : Heap}
end
end Lk

namespace Lk
open PySem L2
/-! ### the identity -/
theorem small_d {d : Nat} (h1 : 1 ≤ d) (h3 : d ≤ 3) : d = 1 ∨ d = 2 ∨ d = 3 := by omega
theorem idM1 : idM 1 = [[1]] := by decide
theorem idM2 : idM 2 = [[1, 0], [0, 1]] := by decide
theorem idM3 : idM 3 = [[1, 0, 0], [0, 1, 0], [0, 0, 1]] := by decide
theorem mul_id {d : Nat} (h1 : 1 ≤ d) (h3 : d ≤ 3) {x : List Int} (h : x.length = d) : mulM (idM d) x = x := by
  rcases small_d h1 h3 with rfl | rfl | rfl
  · match x, h with
    | [a], _ => simp [idM1, mulM, dotL]
  · match x, h with
    | [a, b], _ => simp [idM2, mulM, dotL]
  · match x, h with
    | [a, b, c], _ => simp [idM3, mulM, dotL]
theorem row_id {d : Nat} (h1 : 1 ≤ d) (h3 : d ≤ 3) {x : List Int} (h : x.length = d) : rowM x (idM d) = x := by
  rcases small_d h1 h3 with rfl | rfl | rfl
  · match x, h with
    | [a], _ => simp [idM1, rowM, colM, dotL, List.range, List.range.loop]
  · match x, h with
    | [a, b], _ => simp [idM2, rowM, colM, dotL, List.range, List.range.loop]
  · match x, h with
    | [a, b, c], _ => simp [idM3, rowM, colM, dotL, List.range, List.range.loop]
theorem idM_mat {d : Nat} (h1 : 1 ≤ d) (h3 : d ≤ 3) : Mat (idM d) d := by
  rcases small_d h1 h3 with rfl | rfl | rfl
  · refine ⟨rfl, fun r hr => ?_⟩
    rw [idM1] at hr
    simp at hr
    subst hr
    exact ⟨rfl, by intro z hz; simp at hz; omega⟩
  · refine ⟨rfl, fun r hr => ?_⟩
    rw [idM2] at hr
    simp at hr
    rcases hr with rfl | rfl <;> exact ⟨rfl, by intro z hz; simp at hz; omega⟩
  · refine ⟨rfl, fun r hr => ?_⟩
    rw [idM3] at hr
    simp at hr
    rcases hr with rfl | rfl | rfl <;> exact ⟨rfl, by intro z hz; simp at hz; omega⟩
/-! ### classes and their rests -/
def clsR : List (Int × Int) → Int
  | [] => 0
  | (d, s) :: r => clsR r * d + s % d
theorem clsF_rev : ∀ l : List (Int × Int), clsF l.reverse 0 = clsR l
  | [] => rfl
  | (d, s) :: r => by
    have ih := clsF_rev r
    unfold clsF at ih ⊢
    rw [List.reverse_cons, List.foldl_append, ih]
    rfl
theorem cls_R (ds z : List Int) : cls ds z = clsR (ds.zip z).reverse := by
  rw [← clsF_rev, List.reverse_reverse]
  rfl
theorem rests_cls : ∀ l : List (Int × Int), (∀ q ∈ l, 1 ≤ q.1) → restsR (l.map (·.1)) (clsR l) = l.map fun q => q.2 % q.1
  | [], _ => rfl
  | (d, s) :: r, h => by
    have hd : 1 ≤ d := h (d, s) List.mem_cons_self
    have ih := rests_cls r fun q hq => h q (List.mem_cons_of_mem _ hq)
    have e1 : (clsR r * d + s % d) % d = s % d := by
      rw [Int.add_comm, Int.add_mul_emod_self_right, Int.emod_emod_of_dvd _ (Int.dvd_refl d)]
    have e2 : (clsR r * d + s % d) / d = clsR r := by
      rw [Int.add_comm, Int.add_mul_ediv_right _ _ (by omega), Int.ediv_eq_zero_of_lt (Int.emod_nonneg _ (by omega)) (Int.emod_lt_of_pos _ (by omega)), Int.zero_add]
    show ((clsR r * d + s % d) % d) :: restsR (r.map (·.1)) ((clsR r * d + s % d) / d) = (s % d) :: r.map fun q => q.2 % q.1
    rw [e1, e2, ih]
def rst (ds z : List Int) : List Int := (ds.zip z).map fun q => q.2 % q.1
theorem pAt_cls {ds z : List Int} (hl : ds.length = z.length) (h : ∀ d ∈ ds, 1 ≤ d) : pAt ds (cls ds z) = rst ds z := by
  have e : ds.reverse = (ds.zip z).reverse.map (·.1) := by
    rw [List.map_reverse, zip_fst _ _ hl]
  unfold pAt
  rw [e, cls_R, rests_cls _ (fun q hq => h _ (by
    have : q.1 ∈ (ds.zip z).map (·.1) := List.mem_map.mpr ⟨q, List.mem_reverse.mp hq, rfl⟩
    rw [zip_fst _ _ hl] at this
    exact this)), List.map_reverse, List.reverse_reverse]
  rfl
theorem cls_rst : ∀ {ds z p : List Int}, ds.length = z.length → ds.length = p.length → ∀ n, clsF (ds.zip (plus (rst ds z) p)) n = clsF (ds.zip (plus z p)) n
  | [], _, _, _, _, n => by simp
  | d :: ds, [], _, h, _, n => by cases h
  | d :: ds, s :: z, [], _, h, n => by cases h
  | d :: ds, s :: z, a :: p, h1, h2, n => by
    show clsF (ds.zip (plus (rst ds z) p)) (n * d + (s % d + a) % d) = clsF (ds.zip (plus z p)) (n * d + (s + a) % d)
    rw [cls_rst (by simpa using h1) (by simpa using h2), Int.emod_add_emod]
theorem src_cls {ds z p : List Int} (D : Divs ds) (hz : ds.length = z.length) (hp : ds.length = p.length) : cls ds (plus (pAt ds (cls ds z)) p) = cls ds (plus z p) := by
  rw [pAt_cls hz D.one]
  exact cls_rst hz hp 0
theorem cls_back : ∀ (rs : List Int) (c : Int), (∀ d ∈ rs, 1 ≤ d) → 0 ≤ c → c < prodL rs → clsR (rs.zip (restsR rs c)) = c
  | [], c, _, h0, h1 => by
    have : c < 1 := h1
    show (0 : Int) = c
    omega
  | d :: r, c, h, h0, h1 => by
    have hd : 1 ≤ d := h d List.mem_cons_self
    have h1' : c < d * prodL r := h1
    have q0 : 0 ≤ c / d := Int.ediv_nonneg h0 (by omega)
    have q1 : c / d < prodL r := Int.ediv_lt_of_lt_mul (by omega) (by rw [Int.mul_comm]; exact h1')
    have ih := cls_back r (c / d) (fun x hx => h x (List.mem_cons_of_mem _ hx)) q0 q1
    show clsR (r.zip (restsR r (c / d))) * d + (c % d) % d = c
    rw [ih, Int.emod_emod_of_dvd _ (Int.dvd_refl d), Int.mul_comm]
    exact Int.mul_ediv_add_emod c d
theorem cls_pAt {ds : List Int} {c : Int} (D : Divs ds) (h0 : 0 ≤ c) (h1 : c < prodL ds) : cls ds (pAt ds c) = c := by
  have e : (ds.zip (pAt ds c)).reverse = ds.reverse.zip (restsR ds.reverse c) := by
    unfold pAt
    have := List.reverse_zipWith (f := Prod.mk) (l := ds) (l' := (restsR ds.reverse c).reverse) (by simp [restsR_len])
    rw [List.reverse_reverse] at this
    exact this
  rw [cls_R, e]
  refine cls_back _ c (fun d hd => D.one d (List.mem_reverse.mp hd)) h0 ?_
  rw [prodL_perm (List.reverse_perm ds)]
  exact h1
theorem sub_plus : ∀ {a p : List Int}, a.length = p.length → plus (List.zipWith (· - ·) a p) p = a
  | [], [], _ => rfl
  | x :: a, y :: p, h => by
    show (x - y + y) :: plus (List.zipWith (· - ·) a p) p = x :: a
    rw [sub_plus (by simpa using h), Int.sub_add_cancel]
  | [], _ :: _, h => by cases h
  | _ :: _, [], h => by cases h
theorem cls_in {ds z : List Int} {n : Nat} (D : Divs ds) (hn : prodL ds = (n : Int)) (hz : ds.length = z.length) : 0 ≤ cls ds z ∧ cls ds z < n := by
  have b := cls_bound hz D.one (ds.zip z).length
  rw [List.take_length, List.take_of_length_le (by rw [List.length_zip]; omega), hn] at b
  exact b
/-! ### what the sources must be -/
structure Srcs (srcs : List Int) (n : Nat) : Prop where
  ran : ∀ c ∈ srcs, 0 ≤ c ∧ c < n
  all_ : ∀ c : Int, 0 ≤ c → c < n → ∃ j : Nat, j < srcs.length ∧ srcs.getD j 0 = c
theorem srcM_get {ds p : List Int} {mat : List (List Int)} {nds : List Int} {n j : Nat} (h : j < n) : (srcM ds mat p nds n).getD j 0 = cls ds (plus (mulM mat (pAt nds (j : Int))) p) := by
  unfold srcM
  rw [List.getD_eq_getElem?_getD, List.getElem?_map, List.getElem?_range h]
  rfl
theorem srcM_len {ds p : List Int} {mat : List (List Int)} {nds : List Int} {n : Nat} : (srcM ds mat p nds n).length = n := by
  unfold srcM
  rw [List.length_map, List.length_range]
theorem shift_src {ds p z : List Int} {n : Nat} (D : Divs ds) (hn : prodL ds = (n : Int)) (h1 : 1 ≤ ds.length) (h3 : ds.length ≤ 3) (hz : ds.length = z.length) (hp : ds.length = p.length) :
    (srcM ds (idM ds.length) p ds n).getD (cls ds z).toNat 0 = cls ds (plus z p) := by
  have b := cls_in D hn hz
  rw [srcM_get (by omega), show (((cls ds z).toNat : Nat) : Int) = cls ds z by omega, mul_id h1 h3 (by rw [pAt_len])]
  exact src_cls D hz hp
theorem shift_srcs {ds p : List Int} {n : Nat} (D : Divs ds) (hn : prodL ds = (n : Int)) (h1 : 1 ≤ ds.length) (h3 : ds.length ≤ 3) (hp : ds.length = p.length) : Srcs (srcM ds (idM ds.length) p ds n) n := by
  constructor
  · intro c hc
    unfold srcM at hc
    obtain ⟨j, hj, rfl⟩ := List.mem_map.mp hc
    refine cls_in D hn ?_
    rw [mul_id h1 h3 (by rw [pAt_len]), plus_len (by rw [pAt_len]; exact hp)]
    exact hp
  · intro c c0 c1
    have la : (pAt ds c).length = p.length := by rw [pAt_len]; exact hp
    have hz : ds.length = (List.zipWith (· - ·) (pAt ds c) p).length := by
      rw [List.length_zipWith, la]
      omega
    have b := cls_in (n := n) D hn hz
    refine ⟨(cls ds (List.zipWith (· - ·) (pAt ds c) p)).toNat, by rw [srcM_len]; omega, ?_⟩
    rw [shift_src D hn h1 h3 hz hp, sub_plus la]
    exact cls_pAt D c0 (by rw [hn]; exact c1)
/-! ### the moved tree is one -/
theorem filter_two {α : Type} {p q : α → Bool} (h : ∀ x, ¬ (p x = true ∧ q x = true)) : ∀ l : List α, (l.filter p ++ l.filter q).Perm (l.filter fun x => p x || q x)
  | [] => by simp
  | x :: r => by
    have ih := filter_two h r
    have hx := h x
    cases hp : p x with
    | true =>
      have hq : q x = false := by
        cases z : q x with
        | false => rfl
        | true => exact absurd ⟨hp, z⟩ hx
      simp only [List.filter_cons, hp, hq, Bool.or_false, if_true, Bool.false_eq_true, if_false, List.cons_append]
      exact List.Perm.cons x ih
    | false =>
      cases hq : q x with
      | true =>
        simp only [List.filter_cons, hp, hq, Bool.or_true, if_true, Bool.false_eq_true, if_false]
        exact List.perm_middle.trans (List.Perm.cons x ih)
      | false =>
        simp only [List.filter_cons, hp, hq, Bool.or_self, Bool.false_eq_true, if_false]
        exact ih
theorem parts_perm {f : Int → Int} (l : List Int) : ∀ hs : List (List Int), hs.flatten.Nodup → ((hs.map fun cs => l.filter fun j => decide (f j ∈ cs)).flatten).Perm (l.filter fun j => decide (f j ∈ hs.flatten))
  | [], _ => by simp
  | cs :: r, nd => by
    rw [List.flatten_cons, List.nodup_append] at nd
    have ih := parts_perm (f := f) l r nd.2.1
    rw [List.map_cons, List.flatten_cons]
    refine (List.Perm.append_left _ ih).trans ?_
    refine (filter_two (fun x hx => ?_) l).trans ?_
    · exact nd.2.2 _ (of_decide_eq_true hx.1) _ (of_decide_eq_true hx.2) rfl
    · have e : (fun x => decide (f x ∈ cs) || decide (f x ∈ r.flatten)) = fun j => decide (f j ∈ (cs :: r).flatten) := by
        funext x
        rw [List.flatten_cons]
        by_cases a : f x ∈ cs <;> by_cases b : f x ∈ r.flatten <;> simp [a, b]
      rw [e]
theorem rng0_nodup (n : Nat) : (rng0 n).Nodup := (rng0_lt n).imp fun h => by omega
theorem mem_rng {c : Int} {n : Nat} : c ∈ rng0 n ↔ 0 ≤ c ∧ c < n := by
  constructor
  · intro h
    unfold rng0 at h
    obtain ⟨i, hi, rfl⟩ := List.mem_map.mp h
    have := List.mem_range.mp hi
    omega
  · exact fun h => mem_rng0 h.1 h.2
theorem mem_movC {srcs cs : List Int} {c : Int} (h0 : 0 ≤ c) (h1 : c < srcs.length) : c ∈ movC srcs cs ↔ srcs.getD c.toNat 0 ∈ cs := by
  unfold movC
  rw [List.mem_filter]
  constructor
  · exact fun h => of_decide_eq_true h.2
  · exact fun h => ⟨mem_rng0 h0 h1, decide_eq_true h⟩
theorem Srcs.at {srcs : List Int} {n : Nat} (S : Srcs srcs n) {j : Nat} (h : j < srcs.length) : 0 ≤ srcs.getD j 0 ∧ srcs.getD j 0 < n := by
  refine S.ran _ ?_
  rw [List.getD_eq_getElem?_getD, List.getElem?_eq_getElem h]
  exact List.getElem_mem h
mutual
theorem mvT_size (srcs : List Int) (mat : List (List Int)) : ∀ t : Tr, (mvT srcs mat .pl t).size = t.size
  | .pl => by simp [mvT]
  | .key _ _ t => by simp [mvT, Tr.size, mvT_size srcs mat t]
  | .fork gs => by simp [mvT, Tr.size, mvG_size srcs mat gs]
theorem mvG_size (srcs : List Int) (mat : List (List Int)) : ∀ g : Gs, (mvG srcs mat .pl g).size = g.size
  | .nil => by simp [mvG]
  | .cons _ t r => by simp [mvG, Gs.size, mvT_size srcs mat t, mvG_size srcs mat r]
end
mutual
theorem mvT_dep (srcs : List Int) (mat : List (List Int)) : ∀ t : Tr, (mvT srcs mat .pl t).dep = t.dep
  | .pl => by simp [mvT]
  | .key _ _ t => by simp [mvT, Tr.dep, mvT_dep srcs mat t]
  | .fork gs => by simp [mvT, Tr.dep, mvG_dep srcs mat gs]
theorem mvG_dep (srcs : List Int) (mat : List (List Int)) : ∀ g : Gs, (mvG srcs mat .pl g).dep = g.dep
  | .nil => by simp [mvG]
  | .cons _ t r => by simp [mvG, Gs.dep, mvT_dep srcs mat t, mvG_dep srcs mat r]
end
mutual
theorem mvT_wf {srcs : List Int} {d n : Nat} (S : Srcs srcs n) (h1 : 1 ≤ d) (h3 : d ≤ 3) : ∀ t : Tr, t.wf d n → (mvT srcs (idM d) .pl t).wf d srcs.length
  | .pl, _ => by simp [mvT, Tr.wf]
  | .key row hs t, w => by
    simp only [Tr.wf] at w
    simp only [mvT, Tr.wf]
    rw [row_id h1 h3 w.1]
    exact ⟨w.1, by rw [List.length_map], w.2.2.1, mvT_wf S h1 h3 t w.2.2.2⟩
  | .fork gs, w => by
    simp only [Tr.wf] at w
    simp only [mvT, Tr.wf]
    refine ⟨?_, mvG_wf S h1 h3 gs w.2 fun c hc => mem_rng.mp (w.1.mem_iff.mp hc)⟩
    rw [Gs.flat, mvG_heads]
    have nd : gs.heads.flatten.Nodup := by
      rw [← Gs.flat]
      exact w.1.nodup_iff.mpr (rng0_nodup n)
    refine (parts_perm (f := fun j => srcs.getD j.toNat 0) (rng0 srcs.length) gs.heads nd).trans ?_
    rw [List.filter_eq_self.mpr fun j hj => ?_]
    have hj' := mem_rng.mp hj
    have hs := S.at (j := j.toNat) (by omega)
    refine decide_eq_true ?_
    rw [← Gs.flat]
    exact w.1.mem_iff.mpr (mem_rng0 hs.1 hs.2)
theorem mvG_wf {srcs : List Int} {d n : Nat} (S : Srcs srcs n) (h1 : 1 ≤ d) (h3 : d ≤ 3) : ∀ g : Gs, g.wf d n → (∀ c ∈ g.classes, 0 ≤ c ∧ c < n) → (mvG srcs (idM d) .pl g).wf d srcs.length
  | .nil, _, _ => by simp [mvG, Gs.wf]
  | .cons cs t r, w, hc => by
    simp only [Gs.wf] at w
    simp only [mvG, Gs.wf]
    simp only [Gs.classes] at hc
    refine ⟨⟨fun e => ?_, ?_⟩, mvT_wf S h1 h3 t w.2.1, mvG_wf S h1 h3 r w.2.2 fun c h => hc c (List.mem_append_right _ h)⟩
    · obtain ⟨c, hcm⟩ := List.exists_mem_of_ne_nil cs w.1.1
      have hb := hc c (List.mem_append_left _ hcm)
      obtain ⟨j, hj, ej⟩ := S.all_ c hb.1 hb.2
      have : ((j : Nat) : Int) ∈ movC srcs cs := (mem_movC (by omega) (by omega)).mpr (by rw [Int.toNat_natCast, ej]; exact hcm)
      rw [e] at this
      cases this
    · unfold movC
      exact (rng0_lt _).filter _
end
/-! ### .. and orders as the first one does, moved -/
theorem mv_height {srcs hs : List Int} {c : Int} (h0 : 0 ≤ c) (h1 : c < srcs.length) : (srcs.map fun c => hs.getD c.toNat 0).getD c.toNat 0 = hs.getD (srcs.getD c.toNat 0).toNat 0 := by
  have hl : c.toNat < srcs.length := by omega
  rw [List.getD_eq_getElem?_getD, List.getElem?_map, List.getElem?_eq_getElem hl, List.getD_eq_getElem?_getD (l := srcs), List.getElem?_eq_getElem hl]
  rfl
theorem pthG_hd : ∀ (g : Gs) (i c : Int) (x : List Int), pthG g i c x = [] ∨ ∃ j l, i ≤ j ∧ pthG g i c x = j :: l
  | .nil, i, c, x => .inl (by simp [pthG])
  | .cons cs t r, i, c, x => by
    simp only [pthG]
    by_cases h : c ∈ cs
    · rw [if_pos h]
      exact .inr ⟨i, _, Int.le_refl _, rfl⟩
    · rw [if_neg h]
      rcases pthG_hd r (i + 1) c x with e | ⟨j, l, hj, e⟩
      · exact .inl e
      · exact .inr ⟨j, l, by omega, e⟩
section
variable {srcs p : List Int} {d n : Nat} {c1 c2 : Int} {x y : List Int}
mutual
theorem mv_lt (S : Srcs srcs n) (h1 : 1 ≤ d) (h3 : d ≤ 3) (b1 : 0 ≤ c1 ∧ c1 < srcs.length) (b2 : 0 ≤ c2 ∧ c2 < srcs.length) (hx : x.length = p.length) (hy : y.length = p.length) :
    ∀ t : Tr, t.wf d n → lx (pth (mvT srcs (idM d) .pl t) c1 x ++ x) (pth (mvT srcs (idM d) .pl t) c2 y ++ y) = lx (pth t (srcs.getD c1.toNat 0) (plus x p) ++ plus x p) (pth t (srcs.getD c2.toNat 0) (plus y p) ++ plus y p)
  | .pl, _ => by
    simp only [mvT, pth, List.nil_append]
    exact (lx_shift hx hy).symm
  | .key row hs t, w => by
    simp only [Tr.wf] at w
    have ih : HT.lexLt (pth (mvT srcs (idM d) .pl t) c1 x ++ x) (pth (mvT srcs (idM d) .pl t) c2 y ++ y) = HT.lexLt (pth t (srcs.getD c1.toNat 0) (plus x p) ++ plus x p) (pth t (srcs.getD c2.toNat 0) (plus y p) ++ plus y p) := mv_lt S h1 h3 b1 b2 hx hy t w.2.2.2
    simp only [mvT, pth, List.cons_append]
    rw [row_id h1 h3 w.1, dot_plus hx, dot_plus hy, mv_height b1.1 b1.2, mv_height b2.1 b2.2]
    generalize hs.getD (srcs.getD c1.toNat 0).toNat 0 = u1
    generalize hs.getD (srcs.getD c2.toNat 0).toNat 0 = u2
    show (if dotL row x + u1 = dotL row y + u2 then _ else decide (dotL row x + u1 < dotL row y + u2)) = (if dotL row x + dotL row p + u1 = dotL row y + dotL row p + u2 then _ else decide (dotL row x + dotL row p + u1 < dotL row y + dotL row p + u2))
    rw [ih]
    by_cases e : dotL row x + u1 = dotL row y + u2
    · rw [if_pos e, if_pos (by omega)]
    · rw [if_neg e, if_neg (by omega)]
      by_cases l : dotL row x + u1 < dotL row y + u2
      · rw [decide_eq_true l, decide_eq_true (by omega)]
      · rw [decide_eq_false l, decide_eq_false (by omega)]
  | .fork g, w => by
    simp only [Tr.wf] at w
    simp only [mvT, pth]
    have s1 := S.at (j := c1.toNat) (by omega)
    have s2 := S.at (j := c2.toNat) (by omega)
    exact mvG_lt S h1 h3 b1 b2 hx hy g 0 (w.1.mem_iff.mpr (mem_rng0 s1.1 s1.2)) (w.1.mem_iff.mpr (mem_rng0 s2.1 s2.2)) w.2
theorem mvG_lt (S : Srcs srcs n) (h1 : 1 ≤ d) (h3 : d ≤ 3) (b1 : 0 ≤ c1 ∧ c1 < srcs.length) (b2 : 0 ≤ c2 ∧ c2 < srcs.length) (hx : x.length = p.length) (hy : y.length = p.length) :
    ∀ (g : Gs) (i : Int), srcs.getD c1.toNat 0 ∈ g.classes → srcs.getD c2.toNat 0 ∈ g.classes → g.wf d n →
      lx (pthG (mvG srcs (idM d) .pl g) i c1 x ++ x) (pthG (mvG srcs (idM d) .pl g) i c2 y ++ y) = lx (pthG g i (srcs.getD c1.toNat 0) (plus x p) ++ plus x p) (pthG g i (srcs.getD c2.toNat 0) (plus y p) ++ plus y p)
  | .nil, i, h, _, _ => by simp [Gs.classes] at h
  | .cons cs t r, i, m1, m2, w => by
    simp only [Gs.wf] at w
    simp only [Gs.classes] at m1 m2
    simp only [mvG, pthG]
    have k1 := mem_movC (cs := cs) b1.1 b1.2
    have k2 := mem_movC (cs := cs) b2.1 b2.2
    have hdr : ∀ {c : Int} {z z' : List Int}, ¬ srcs.getD c.toNat 0 ∈ cs → srcs.getD c.toNat 0 ∈ cs ++ r.classes → 0 ≤ c ∧ c < srcs.length → (∃ j l, i + 1 ≤ j ∧ pthG (mvG srcs (idM d) .pl r) (i + 1) c z = j :: l) ∧ ∃ j l, i + 1 ≤ j ∧ pthG r (i + 1) (srcs.getD c.toNat 0) z' = j :: l := fun {c z z'} hn hm hb => by
      have hm' : srcs.getD c.toNat 0 ∈ r.classes := by
        rcases List.mem_append.mp hm with e | e
        · exact absurd e hn
        · exact e
      have hmv : c ∈ (mvG srcs (idM d) .pl r).classes := by
        rw [Gs.flat, mvG_heads]
        rw [Gs.flat] at hm'
        obtain ⟨q, hq, hqm⟩ := List.mem_flatten.mp hm'
        exact List.mem_flatten.mpr ⟨movC srcs q, List.mem_map.mpr ⟨q, hq, rfl⟩, (mem_movC hb.1 hb.2).mpr hqm⟩
      obtain ⟨j, t1, hj, e⟩ := pthG_head (i + 1) hmv
      obtain ⟨j', t2, hj', e'⟩ := pthG_head (i + 1) hm'
      exact ⟨⟨j, _, hj, e z⟩, ⟨j', _, hj', e' z'⟩⟩
    by_cases n1 : srcs.getD c1.toNat 0 ∈ cs
    · rw [if_pos (k1.mpr n1), if_pos n1]
      by_cases n2 : srcs.getD c2.toNat 0 ∈ cs
      · rw [if_pos (k2.mpr n2), if_pos n2]
        have ih := mv_lt S h1 h3 b1 b2 hx hy t w.2.1
        simp only [List.cons_append]
        show (if i = i then _ else _) = (if i = i then _ else _)
        rw [if_pos rfl, if_pos rfl]
        exact ih
      · rw [if_neg (fun z => n2 (k2.mp z)), if_neg n2]
        obtain ⟨⟨j, l, hj, e⟩, j', l', hj', e'⟩ := hdr (z := y) (z' := plus y p) n2 m2 b2
        rw [e, e']
        simp only [List.cons_append]
        show (if i = j then _ else decide (i < j)) = (if i = j' then _ else decide (i < j'))
        rw [if_neg (by omega), if_neg (by omega), decide_eq_true (by omega), decide_eq_true (by omega)]
    · rw [if_neg (fun z => n1 (k1.mp z)), if_neg n1]
      by_cases n2 : srcs.getD c2.toNat 0 ∈ cs
      · rw [if_pos (k2.mpr n2), if_pos n2]
        obtain ⟨⟨j, l, hj, e⟩, j', l', hj', e'⟩ := hdr (z := x) (z' := plus x p) n1 m1 b1
        rw [e, e']
        simp only [List.cons_append]
        show (if j = i then _ else decide (j < i)) = (if j' = i then _ else decide (j' < i))
        rw [if_neg (by omega), if_neg (by omega), decide_eq_false (by omega), decide_eq_false (by omega)]
      · rw [if_neg (fun z => n2 (k2.mp z)), if_neg n2]
        have m1' : srcs.getD c1.toNat 0 ∈ r.classes := (List.mem_append.mp m1).resolve_left n1
        have m2' : srcs.getD c2.toNat 0 ∈ r.classes := (List.mem_append.mp m2).resolve_left n2
        exact mvG_lt S h1 h3 b1 b2 hx hy r (i + 1) m1' m2' w.2.2
end
mutual
theorem mv_eq (S : Srcs srcs n) (h1 : 1 ≤ d) (h3 : d ≤ 3) (b1 : 0 ≤ c1 ∧ c1 < srcs.length) (b2 : 0 ≤ c2 ∧ c2 < srcs.length) (hx : x.length = p.length) (hy : y.length = p.length) :
    ∀ t : Tr, t.wf d n → (pth (mvT srcs (idM d) .pl t) c1 x = pth (mvT srcs (idM d) .pl t) c2 y ↔ pth t (srcs.getD c1.toNat 0) (plus x p) = pth t (srcs.getD c2.toNat 0) (plus y p))
  | .pl, _ => by simp [mvT, pth]
  | .key row hs t, w => by
    simp only [Tr.wf] at w
    have ih := mv_eq S h1 h3 b1 b2 hx hy t w.2.2.2
    simp only [mvT, pth, List.cons.injEq]
    rw [row_id h1 h3 w.1, dot_plus hx, dot_plus hy, mv_height b1.1 b1.2, mv_height b2.1 b2.2, ih]
    generalize hs.getD (srcs.getD c1.toNat 0).toNat 0 = u1
    generalize hs.getD (srcs.getD c2.toNat 0).toNat 0 = u2
    constructor
    · exact fun h => ⟨by omega, h.2⟩
    · exact fun h => ⟨by omega, h.2⟩
  | .fork g, w => by
    simp only [Tr.wf] at w
    simp only [mvT, pth]
    exact mvG_eq S h1 h3 b1 b2 hx hy g 0 w.2
theorem mvG_eq (S : Srcs srcs n) (h1 : 1 ≤ d) (h3 : d ≤ 3) (b1 : 0 ≤ c1 ∧ c1 < srcs.length) (b2 : 0 ≤ c2 ∧ c2 < srcs.length) (hx : x.length = p.length) (hy : y.length = p.length) :
    ∀ (g : Gs) (i : Int), g.wf d n → (pthG (mvG srcs (idM d) .pl g) i c1 x = pthG (mvG srcs (idM d) .pl g) i c2 y ↔ pthG g i (srcs.getD c1.toNat 0) (plus x p) = pthG g i (srcs.getD c2.toNat 0) (plus y p))
  | .nil, i, _ => by simp [mvG, pthG]
  | .cons cs t r, i, w => by
    simp only [Gs.wf] at w
    simp only [mvG, pthG]
    have k1 := mem_movC (cs := cs) b1.1 b1.2
    have k2 := mem_movC (cs := cs) b2.1 b2.2
    have no : ∀ {g : Gs} {c : Int} {z l : List Int}, ¬ (i :: l = pthG g (i + 1) c z) ∧ ¬ (pthG g (i + 1) c z = i :: l) := fun {g c z l} => by
      rcases pthG_hd g (i + 1) c z with e | ⟨j, l', hj, e⟩
      · rw [e]
        exact ⟨(fun h => by cases h), (fun h => by cases h)⟩
      · rw [e]
        refine ⟨fun h => ?_, fun h => ?_⟩ <;>
        · have := (List.cons.inj h).1
          omega
    by_cases n1 : srcs.getD c1.toNat 0 ∈ cs
    · rw [if_pos (k1.mpr n1), if_pos n1]
      by_cases n2 : srcs.getD c2.toNat 0 ∈ cs
      · rw [if_pos (k2.mpr n2), if_pos n2]
        have ih := mv_eq S h1 h3 b1 b2 hx hy t w.2.1
        simp only [List.cons.injEq, true_and]
        exact ih
      · rw [if_neg (fun z => n2 (k2.mp z)), if_neg n2]
        exact ⟨fun h => absurd h no.1, fun h => absurd h no.1⟩
    · rw [if_neg (fun z => n1 (k1.mp z)), if_neg n1]
      by_cases n2 : srcs.getD c2.toNat 0 ∈ cs
      · rw [if_pos (k2.mpr n2), if_pos n2]
        exact ⟨fun h => absurd h no.2, fun h => absurd h no.2⟩
      · rw [if_neg (fun z => n2 (k2.mp z)), if_neg n2]
        exact mvG_eq S h1 h3 b1 b2 hx hy r (i + 1) w.2.2
end
end
/-- the tree of the shifted scan -/
def shT_ (ds : List Int) (n : Nat) (p : List Int) (t : Tr) : Tr := mvT (srcM ds (idM ds.length) p ds n) (idM ds.length) .pl t
structure ScanOk (ds : List Int) (n : Nat) (t : Tr) : Prop where
  dv : Divs ds
  l1 : 1 ≤ ds.length
  l3 : ds.length ≤ 3
  pr : prodL ds = (n : Int)
  wf : t.wf ds.length n
  dp : t.dep ≤ 20
  sz : t.size ≤ 200
theorem shift_ok {ds : List Int} {n : Nat} {t : Tr} {p : List Int} (O : ScanOk ds n t) (hp : ds.length = p.length) : ScanOk ds n (shT_ ds n p t) := by
  refine ⟨O.dv, O.l1, O.l3, O.pr, ?_, ?_, ?_⟩
  · have := mvT_wf (shift_srcs O.dv O.pr O.l1 O.l3 hp) O.l1 O.l3 t O.wf
    rw [srcM_len] at this
    exact this
  · unfold shT_
    rw [mvT_dep]
    exact O.dp
  · unfold shT_
    rw [mvT_size]
    exact O.sz
theorem shift_lt {ds : List Int} {n : Nat} {t : Tr} {p x y : List Int} (O : ScanOk ds n t) (hp : ds.length = p.length) (hx : x.length = ds.length) (hy : y.length = ds.length) :
    lx (full ds (shT_ ds n p t) x) (full ds (shT_ ds n p t) y) = lx (full ds t (plus x p)) (full ds t (plus y p)) := by
  have c1 := cls_in O.dv O.pr hx.symm
  have c2 := cls_in O.dv O.pr hy.symm
  have e := mv_lt (p := p) (x := x) (y := y) (c1 := cls ds x) (c2 := cls ds y) (shift_srcs O.dv O.pr O.l1 O.l3 hp) O.l1 O.l3 (by rw [srcM_len]; exact c1) (by rw [srcM_len]; exact c2) (by omega) (by omega) t O.wf
  rw [shift_src O.dv O.pr O.l1 O.l3 hx.symm hp, shift_src O.dv O.pr O.l1 O.l3 hy.symm hp] at e
  exact e
theorem shift_tied {ds : List Int} {n : Nat} {t : Tr} {p x y : List Int} (O : ScanOk ds n t) (hp : ds.length = p.length) (hx : x.length = ds.length) (hy : y.length = ds.length) :
    (pth (shT_ ds n p t) (cls ds x) x = pth (shT_ ds n p t) (cls ds y) y) ↔ (pth t (cls ds (plus x p)) (plus x p) = pth t (cls ds (plus y p)) (plus y p)) := by
  have c1 := cls_in O.dv O.pr hx.symm
  have c2 := cls_in O.dv O.pr hy.symm
  have e := mv_eq (p := p) (x := x) (y := y) (c1 := cls ds x) (c2 := cls ds y) (shift_srcs O.dv O.pr O.l1 O.l3 hp) O.l1 O.l3 (by rw [srcM_len]; exact c1) (by rw [srcM_len]; exact c2) (by omega) (by omega) t O.wf
  rw [shift_src O.dv O.pr O.l1 O.l3 hx.symm hp, shift_src O.dv O.pr O.l1 O.l3 hy.symm hp] at e
  exact e
theorem plus_swap : ∀ (x p q : List Int), x.length = p.length → x.length = q.length → plus (plus x p) q = plus (plus x q) p
  | [], [], [], _, _ => rfl
  | a :: x, b :: p, c :: q, h1, h2 => by
    show (a + b + c) :: plus (plus x p) q = (a + c + b) :: plus (plus x q) p
    rw [plus_swap x p q (by simpa using h1) (by simpa using h2)]
    congr 1
    omega
  | [], _ :: _, _, h, _ => by cases h
  | [], [], _ :: _, _, h => by cases h
  | _ :: _, [], _, h, _ => by cases h
  | _ :: _, _ :: _, [], _, h => by cases h
end Lk

namespace Lk
open PySem L2 Lx
theorem sf_nodes (ct nt : Int) (a : Addr) (v : V) : (sf ct nt a v).lookup ("node_total" : Str) = some (.int nt) := by
  unfold sf
  rw [lookup_putF, if_neg (by decide +kernel), lookup_putF, if_neg (by decide +kernel), lookup_putF, if_pos rfl]
theorem sf_no (m : Str) (ct nt : Int) (a : Addr) (v : V) (h : ("own_tree" : Str) ≠ m ∧ ("own_divisors" : Str) ≠ m ∧ ("node_total" : Str) ≠ m ∧ ("class_total" : Str) ≠ m) : (sf ct nt a v).lookup m = none := by
  unfold sf
  rw [lookup_putF, if_neg (Ne.symm h.1), lookup_putF, if_neg (Ne.symm h.2.1), lookup_putF, if_neg (Ne.symm h.2.2.1), lookup_putF, if_neg (Ne.symm h.2.2.2)]
  rfl
theorem ScanAt.ok {K : PySem.W.Frag} {C : Addr} {H : Hp} {p : Addr} {ds : List Int} {n : Nat} {t : Tr} (S : ScanAt K C H p ds n t) : ScanOk ds n t := ⟨S.dv, S.l1, S.l3, S.pr, S.wf, S.dp, S.sz⟩
theorem cut_path {x : List Int} {q : List Int} (h1 : 1 ≤ x.length) : cutV ((q ++ x).map V.int) none (some (-(x.length : Int))) = q.map V.int := by
  unfold cutV
  have e : HT.sIx ((q ++ x).map V.int).length ((q ++ x).map V.int).length (some (-(x.length : Int))) = q.length := by
    show (if (-(x.length : Int)) < 0 then ((-(x.length : Int)) + (((q ++ x).map V.int).length : Int)).toNat else _) = _
    rw [if_pos (by omega), List.length_map, List.length_append]
    omega
  rw [e, HT.sIx_none, List.drop_zero, Nat.sub_zero, List.map_append, List.take_append_of_le_length (by rw [List.length_map]; exact Nat.le_refl _), List.take_of_length_le (by rw [List.length_map]; exact Nat.le_refl _)]
def spChanged (K : PySem.W.Frag) (C : Addr) : Sp := fun vs H Q _ => ∃ (p a m c : Addr) (ev : V) (ds : List Int) (n : Nat) (t e : Tr) (mat : List (List Int)) (ws : List V) (x nds : List Int) (n' : Nat), vs = [.ref p, .ref a, .ref m, .ref c, ev] ∧ ScanAt K C H p ds n t ∧ SqT K H a (nds.map V.int) ∧ SqT K H m ws ∧ HdsAt K H mat ws ∧
  SqT K H c (x.map V.int) ∧ TrAt K H e ev ∧ Divs nds ∧ nds.length = ds.length ∧ Mat mat ds.length ∧ x.length = ds.length ∧ prodL nds = (n' : Int) ∧ ∀ H' u, Same H H' → TrAt K H' (mvT (srcM ds mat x nds n') mat e t) u → Q u H'
def spShifted (K : PySem.W.Frag) (C : Addr) : Sp := fun vs H Q _ => ∃ (p c : Addr) (ds : List Int) (n : Nat) (t : Tr) (x : List Int), vs = [.ref p, .ref c] ∧ ScanAt K C H p ds n t ∧ SqT K H c (x.map V.int) ∧ x.length = ds.length ∧ ∀ (H' : Hp) (q : Addr), Same H H' → ScanAt K C H' q ds n (shT_ ds n x t) → Q (.ref q) H'
def spShiftX (K : PySem.W.Frag) (C CE : Addr) : Sp := fun vs H _ E => ∃ (p : Addr) (v : V) (o : Option (List V)) (ds : List Int) (n : Nat) (t : Tr), vs = [.ref p, v] ∧ ScanAt K C H p ds n t ∧ OD K H v o ∧ plB o (ds.length : Int) = false ∧
  ∀ (d : Addr) (H' : Hp), (∀ b u, H b = some u → H' b = some u) → H' d = some (.xd (xflds "given" v "InvalidPlace")) → E (.ref CE) (some d) H'
def spTied (K : PySem.W.Frag) (C : Addr) : Sp := fun vs H Q _ => ∃ (p c d : Addr) (ds : List Int) (n : Nat) (t : Tr) (x y : List Int), vs = [.ref p, .ref c, .ref d] ∧ ScanAt K C H p ds n t ∧ SqT K H c (x.map V.int) ∧ SqT K H d (y.map V.int) ∧ x.length = ds.length ∧ y.length = ds.length ∧
  ∀ H' : Hp, Same H H' → Q (.bl (decide (pth t (cls ds x) x = pth t (cls ds y) y))) H'
theorem eq_tups {K : PySem.W.Frag} {H : Hp} {a b : Addr} {xs ys : List Int} {Q : VK} (ha : SqT K H a (xs.map V.int)) (hb : SqT K H b (ys.map V.int)) (q : Q (.bl (decide (xs = ys))) H) : rEqD K (.ref a) (.ref b) H Q := by
  refine ⟨.tuple (xs.map .int), .tuple (ys.map .int), .tup ha (dpInts _), .tup hb (dpInts _), shT _, shT _, ?_⟩
  have e : PyData.eqv (.tuple (xs.map .int)) (.tuple (ys.map .int)) = decide (xs = ys) := by
    simp only [PyData.eqv]
    exact eqv_tup _ _
  rw [e]
  exact q
theorem ne_tups {K : PySem.W.Frag} {H : Hp} {a b : Addr} {xs ys : List Int} {Q : VK} (ha : SqT K H a (xs.map V.int)) (hb : SqT K H b (ys.map V.int)) (q : Q (.bl (!decide (xs = ys))) H) : rNeD K (.ref a) (.ref b) H Q := by
  refine ⟨.tuple (xs.map .int), .tuple (ys.map .int), .tup ha (dpInts _), .tup hb (dpInts _), shT _, shT _, ?_⟩
  have e : PyData.eqv (.tuple (xs.map .int)) (.tuple (ys.map .int)) = decide (xs = ys) := by
    simp only [PyData.eqv]
    exact eqv_tup _ _
  rw [e]
  exact q
section
variable {P : Program} {w : World} {K : PySem.W.Frag} {mg : Str → Option Value} {base : Heap}
end
end Lk

namespace Lk
open PySem L2
theorem first_filter {p : Int → Bool} {n j : Nat} (hj : j < n) (hp : p (j : Int) = true) (hno : ∀ m : Nat, m < j → p (m : Int) = false) : ((rng0 n).filter p)[0]? = some (j : Int) := by
  have e : rng0 n = rng0 j ++ (rng0 n).drop j := by
    have := List.take_append_drop j (rng0 n)
    rw [rng0_take (by omega)] at this
    exact this.symm
  have e2 : (rng0 n).drop j = (j : Int) :: (rng0 n).drop (j + 1) := by
    have hl : j < (rng0 n).length := by rw [rng0_len]; exact hj
    rw [List.drop_eq_getElem_cons hl]
    congr 1
    have := rng0_get hj
    rw [List.getElem?_eq_getElem hl] at this
    exact Option.some.inj this
  have e3 : (rng0 j).filter p = [] := by
    rw [List.filter_eq_nil_iff]
    intro a ha
    have hm := mem_rng.mp ha
    have := hno a.toNat (by omega)
    rw [show ((a.toNat : Nat) : Int) = a by omega] at this
    rw [this]
    decide
  rw [e, List.filter_append, e3, e2, List.filter_cons, if_pos hp]
  rfl
structure PairAt (K : PySem.W.Frag) (H : Hp) (q : Addr) (ds : List Int) (n : Nat) (t : Tr) : Prop where
  ob : ∃ (a : Addr) (v : V), SqT K H q [.ref a, v] ∧ SqT K H a (ds.map V.int) ∧ TrAt K H t v
  ok : ScanOk ds n t
theorem PairAt.mono {K : PySem.W.Frag} {H H' : Hp} {q : Addr} {ds : List Int} {n : Nat} {t : Tr} (S : PairAt K H q ds n t) (e : Tups K H H') : PairAt K H' q ds n t := by
  obtain ⟨⟨a, v, h1, h2, h3⟩, h4⟩ := S
  exact ⟨⟨a, v, e _ _ h1, e _ _ h2, TrAt.mono e h3⟩, h4⟩
def spLClass (K : PySem.W.Frag) : Sp := fun vs H Q _ => ∃ (a c : Addr) (ds ps : List Int), vs = [.ref a, .ref c] ∧ SqT K H a (ds.map V.int) ∧ SqT K H c (ps.map V.int) ∧ ds.length = ps.length ∧ Divs ds ∧ ds.length ≤ 3 ∧ ∀ H', Same H H' → Q (.int (cls ds ps)) H'
def spLPath (K : PySem.W.Frag) : Sp := fun vs H Q _ => ∃ (v : V) (a c : Addr) (t : Tr) (ds ps : List Int) (n : Nat), vs = [.ref a, v, .ref c] ∧ TrAt K H t v ∧ SqT K H a (ds.map V.int) ∧ SqT K H c (ps.map V.int) ∧ ps.length = ds.length ∧ ScanOk ds n t ∧
  ∀ H' p, Same H H' → SqT K H' p ((full ds t ps).map V.int) → Q (.ref p) H'
def spBefore (K : PySem.W.Frag) : Sp := fun vs H Q _ => ∃ (q c d : Addr) (ds : List Int) (n : Nat) (t : Tr) (x y : List Int), vs = [.ref q, .ref c, .ref d] ∧ PairAt K H q ds n t ∧ SqT K H c (x.map V.int) ∧ SqT K H d (y.map V.int) ∧ x.length = ds.length ∧ y.length = ds.length ∧
  ∀ H' : Hp, Same H H' → Q (.bl (HT.lexLt (full ds t x) (full ds t y))) H'
def spCut (K : PySem.W.Frag) : Sp := fun vs H Q _ => ∃ (q c : Addr) (ds : List Int) (n : Nat) (t : Tr) (x : List Int), vs = [.ref q, .ref c] ∧ PairAt K H q ds n t ∧ SqT K H c (x.map V.int) ∧ x.length = ds.length ∧
  ∀ H' p, Same H H' → SqT K H' p ((pth t (cls ds x) x).map V.int) → Q (.ref p) H'
def spLTied (K : PySem.W.Frag) : Sp := fun vs H Q _ => ∃ (q c d : Addr) (ds : List Int) (n : Nat) (t : Tr) (x y : List Int), vs = [.ref q, .ref c, .ref d] ∧ PairAt K H q ds n t ∧ SqT K H c (x.map V.int) ∧ SqT K H d (y.map V.int) ∧ x.length = ds.length ∧ y.length = ds.length ∧
  ∀ H' : Hp, Same H H' → Q (.bl (decide (pth t (cls ds x) x = pth t (cls ds y) y))) H'
section
variable {P : Program} {w : World} {K : PySem.W.Frag} {mg : Str → Option Value} {base : Heap}
theorem ok_lclass {f : Addr} {fd : FuncData} {k : Nat} (F : Fun K "_law_class" "_law_class" sLClass f fd) (mr : mg "range" = none) (ml : mg "len" = none) (mi : mg "int" = none) : FnOk P w K mg base CX0 (k + 1) f fd ["_law_divisors_here", "_law_place_here"] (spLClass K) := by
  refine F.ok scLClass (fun vs H Q E h => ?_) (fun cdv A outer s H vs Q E hr h => ?_)
  · obtain ⟨a, c, ds, ps, rfl, _⟩ := h
    rfl
  · obtain ⟨a, c, ds, ps, rfl, hA, hB, hl, D, h3, q⟩ := h
    refine ⟨_, pss_cons (ps_set (i := 2) scLClass.nd rfl (.inl rfl) pe_int)
      (pss_cons (ps_for PassesOwn.never rfl (pi_range1 (by rfl) mr (pa_cons (pe_callB call_len_seq (by rfl) ml PySem.boot_len (pa_cons (pv 0) pa_nil)) pa_nil)) (pg_name (i := 3) scLClass.nd rfl (.inl rfl))
        (pss_one (ps_set (i := 2) scLClass.nd rfl (.inl rfl) (pe_op op_add (pe_op op_mul (pv 2) (pe_ix ix_tup (pv 0) (pv 3) (fun _ _ => rfl))) (pe_op op_mod (pe_callTy call_int1 (by rfl) mi (by decide +kernel) (pa_cons (pe_ix ix_tup (pv 1) (pv 3) (fun _ _ => rfl)) pa_nil)) (pe_ix ix_tup (pv 0) (pv 3) (fun _ _ => rfl)))))))
      (pss_one (ps_ret (pv 2)))), ?_⟩
    have ld : ((ds.map V.int).length : Int) = (ds.length : Int) := by rw [List.length_map]
    refine ⟨_, rfl, a, _, rfl, .inr hA, ?_⟩
    rw [ld]
    refine ⟨_, rfl, by omega, by omega, for_range (lo := 0) (n := (ds.length : Int).toNat) (fun i σ H2 => ∃ v3 : Option V, σ = [some (.ref a), some (.ref c), some (.int (clsF ((ds.zip ps).take i) 0)), v3] ∧ Same H H2) ⟨none, rfl, Same.refl _⟩ ?_ ?_⟩
    · rintro i σ H2 hi ⟨v3, rfl, sm⟩
      have e0 : (0 : Int) + (i : Int) = (i : Int) := by omega
      have hi1 : i < ds.length := by omega
      have hi2 : i < ps.length := by omega
      have gu : (ds.map V.int)[i]? = some (.int ds[i]) := by rw [List.getElem?_map, List.getElem?_eq_getElem hi1]; rfl
      have gv : (ps.map V.int)[i]? = some (.int ps[i]) := by rw [List.getElem?_map, List.getElem?_eq_getElem hi2]; rfl
      have bd := cls_bound hl D.one i
      have pt := D.part i
      have hu1 := D.one ds[i] (List.getElem_mem hi1)
      have gz : (ds.zip ps)[i]? = some (ds[i], ps[i]) := by
        rw [List.getElem?_zip_eq_some]
        exact ⟨List.getElem?_eq_getElem hi1, List.getElem?_eq_getElem hi2⟩
      rw [e0]
      refine ⟨_, rfl, _, rfl, _, rfl, a, _, _, _, rfl, rfl, Same.sqT sm hA, atI_nat gu, _, _, rfl, rfl, .inl ⟨by omega, by omega⟩, ?_⟩
      refine ⟨_, rfl, _, rfl, c, _, _, _, rfl, rfl, Same.sqT sm hB, atI_nat gv, .inl ⟨_, rfl, ?_⟩⟩
      refine ⟨_, rfl, _, rfl, a, _, _, _, rfl, rfl, Same.sqT sm hA, atI_nat gu, _, _, rfl, rfl, (by show (0 : Int) < ds[i]; omega), _, _, rfl, rfl, ?_⟩
      refine ⟨some (.int (i : Int)), ?_, sm⟩
      rw [take_more gz]
      unfold clsF
      rw [List.foldl_append]
      rfl
    · rintro σ H2 ⟨v3, rfl, sm⟩
      refine ⟨_, rfl, ?_⟩
      rw [List.take_of_length_le (by rw [List.length_zip]; omega)]
      exact q H2 sm
end
end Lk

namespace Lk
open PySem L2 Lx LamX
/-! ### tables, over what the law does -/
theorem ExtN.tups {K : PySem.W.Frag} {H H' : Hp} (e : ExtN H H') : Tups K H H' := fun a xs h => by
  rcases h with (h | ⟨o, h⟩) | h
  · exact .inl (.inl (e _ _ h (fun ps z => by cases z)))
  · exact .inl (.inr ⟨o, e _ _ h (fun ps z => by cases z)⟩)
  · exact .inr h
theorem BagAt.extN {H H' : Hp} {b l : Addr} (B : BagAt H b l) (e : ExtN H H') : BagAt H' b l := by
  obtain ⟨x1, x2, x3, x4, Z⟩ := B
  exact ⟨x1, x2, x3, x4, e _ _ Z.ob (fun ps z => by cases z), e _ _ Z.ls (fun ps z => by cases z), Z.i0, Z.i1, Z.g0, Z.s0, Z.s1⟩
theorem ScanAt.extN {K : PySem.W.Frag} {C : Addr} {H H' : Hp} {p : Addr} {ds : List Int} {n : Nat} {t : Tr} (S : ScanAt K C H p ds n t) (e : ExtN H H') : ScanAt K C H' p ds n t := by
  obtain ⟨⟨dx, a, v, h1, h2, h3⟩, r1, r2, r3, r4, r5, r6, r7⟩ := S
  exact ⟨⟨dx, a, v, e _ _ h1 (fun ps z => by cases z), ExtN.tups e _ _ h2, TrAt.mono (ExtN.tups e) h3⟩, r1, r2, r3, r4, r5, r6, r7⟩
theorem Tabs.but {T : List (Addr × Str)} {H H' : Hp} {b l : Addr} (t : Tabs T H) (B : BagAt H b l) (e : But b H H') : Tabs T H' := fun p hp => by
  obtain ⟨ps, h1, h2, h3⟩ := t p hp
  obtain ⟨ys, hb⟩ := B.lst
  refine ⟨ps, e _ _ (ne_of h1 hb (by intro z; cases z)) h1, h2, fun pos cv hc => ?_⟩
  obtain ⟨c, e1, e2⟩ := h3 pos cv hc
  exact ⟨c, e1, e _ _ (ne_of e2 hb (by intro z; unfold CodeO at z; cases z)) e2⟩
/-! ### rules of the law's own -/
theorem pe_dead {X : Cx} {e : Expr} {te : TE} {f : Str} {pos : Pos} (he : PE X e te) (hab : attributeBase e f X.env (eval e X.env) = eval e X.env := by rfl) : PE X (.Attribute e f pos) (fun σ H _ => te σ H fun _ _ => False) := by
  refine ⟨fun pins s σ H Q I h => attr_of hab (thn (he.run pins s σ H _ I h) fun u s1 hh => ?_)⟩
  obtain ⟨x, H1, I1, rx, z⟩ := hh
  exact z.elim
def two {α : Type} : List α → List α → List α
  | [u], [w] => [u, w]
  | _, _ => []
theorem two_rel {vs zs : List V} {us ws : List Value} (r1 : Vals vs us) (r2 : Vals zs ws) : Vals (two vs zs) (two us ws) := by
  match r1, r2 with
  | .nil, _ => exact .nil
  | .cons a .nil, .nil => exact .nil
  | .cons a .nil, .cons b .nil => exact .cons a (.cons b .nil)
  | .cons a .nil, .cons b (.cons c r) => exact .nil
  | .cons a (.cons b r), _ => exact .nil
theorem dd_bools {K : PySem.W.Frag} {H : Hp} {a b : Addr} {bs : List Bool} (ha : SqL K H a (bs.map V.bl)) (hb : SqL K H b (bs.map V.bl)) (hl : bs.length ≤ 1000) : DD K H 1 (.ref a) (.ref b) := by
  refine .inr ⟨a, b, _, _, rfl, rfl, .inr ⟨ha, hb⟩, rfl, by rw [List.length_map]; exact hl, fun i x y f1 f2 => ?_⟩
  rw [f1] at f2
  cases f2
  obtain ⟨z, _, rfl⟩ := map_get f1
  exact ⟨rfl, rfl⟩
theorem dd_up3 {K : PySem.W.Frag} {H : Hp} {u v : V} (h : DD K H 1 u v) : DD K H 3 u v := h.up.up
theorem dd_sc {K : PySem.W.Frag} {H : Hp} {u : V} (h : scal u = true) : DD K H 3 u u := .inl ⟨h, rfl⟩
abbrev lamQ : Str := (PyProof.Rows.envOfC "law" (defScope sLaw) 0 0 .none).qual ++ "<lambda>"
def spLaw (K : PySem.W.Frag) (Pt : Addr) : Sp := fun vs H Q _ => ∃ (a : Addr) (ns : List Int), vs = [.ref a] ∧ SqL K H a (ns.map V.int) ∧ H Pt = some (.tbl #[]) ∧ ∀ H', Q (.bl true) H'
theorem callo {X : Cx} {K : PySem.W.Frag} {C x c d : Addr} {H : Hp} {ds : List Int} {n : Nat} {t : Tr} {xs ys : List Int} {Q : VK} {E : XK} (S : ScanAt K C H x ds n t) (hc : SqT K H c (xs.map V.int)) (hd : SqT K H d (ys.map V.int)) (h1 : xs.length = ds.length) (h2 : ys.length = ds.length)
    (h : ∀ H', Same H H' → Q (.bl (HT.lexLt (full ds t xs) (full ds t ys))) H') : StX.InsC X H x C ∧ spCall K C ([.ref x, .ref c, .ref d] ++ []) H Q E := by
  obtain ⟨⟨dx, a, v, g1, g2, g3⟩, _⟩ := id S
  exact ⟨.inr ⟨dx, _, g1⟩, x, c, d, ds, n, t, xs, ys, rfl, S, hc, hd, h1, h2, h⟩
/-- what the top has written of _law_try -/
structure TryT (K : PySem.W.Frag) (mg : Str → Option Value) (g : Addr) : Prop where
  at_ : mg "_law_try" = some (.ref g)
  kp : PySem.W.keepIn K (.ref g) = true
  lk : ∃ oc od kV doc pm an cdv ct osl, K.lookup g = some ⟨oc, od, .func (PySem.W.fnOf "_law_try" "_law_try" (defArgs sTry) (defBody sTry) (defScope sTry) .none kV doc pm an cdv ct), osl⟩ ∧ PySem.W.codeIn K cdv "_law_try" = true
/-- _law_try(lambda: body) in the law -/
theorem pe_tried {X : Cx} {g fF CS c Pt : Addr} {k : Nat} {params : Arguments} {body : Expr} {scope : Scope} {t : XK → TE} {p lpos pos : Pos} (R : TryT X.K X.mg g) (FT : FieldT X.K X.mg fF) (hS : X.mg "ScanError" = some (.ref CS)) (hg : Gl X "_law_try")
    (TB : TabB X.base X.mg c Pt) (hcode : X.env.code = .ref c) (hr : Room (k + 2) X.A) (hr2 : Room 2 X.A) (L : LamS X.env.scope scope) (hdef : defaultsOf params X.env = ([], []))
    (hbind : ∀ (q : Str) (cl : List (Str × Addr)) (pm cv ctv : Value), bindArgs (PySem.W.kla_fn "<lambda>" q params body scope cl pm cv ctv) ⟨[], []⟩ = pure [])
    (hbody : ∀ (A : Around) (outer : List Env) (s : Shared) (H : Hp) (E : XK) (f c' : Addr), Room k (A.deeper (lamEnv X scope s.heap.objs.size f c')) → PE (lamCx X A outer s H E scope f c') body (t E)) :
    PE X (.Call (.Name "_law_try" p) [.Lambda params body scope lpos] [] pos) (tLam [(Pt, X.env.qual ++ "<lambda>")] (TTry X.K CS) t) := by
  obtain ⟨oc, od, kV, doc, pm, an, cdv, ct, osl, lk, hcd⟩ := R.lk
  refine pe_lamcall (Ng := ["_law_ask", "_law_e"]) (a := "_law_ask") (k := k) hg R.at_ R.kp lk hcd ?_ scTry rfl (.inl rfl) (try_gives (k := 0) FT hS fun s => hr2.deeper _) TB hcode (List.mem_singleton.mpr rfl) (fun p hp _ => by rw [List.mem_singleton.mp hp]) hr L hdef hbind hbody
  exact Binds.all fun us hl => match us, hl with | [_], _ => rfl
end Lk

namespace Lx
open PySem L2 PySem.Spec PyProof.Rows LamX Lk
/-! ### [elt for x in iter], elt read where the state of the def is known -/
section
variable {X : Cx}
/-- one block: its loop, from the state s in which it is entered -/
theorem blk_loop {elt tg iter : Expr} {scope : Scope} {own : List (Str × Nat)} {pos : Pos} {g : TG} {te : TE} {pins : List (Addr × Obj)} {σ : L2.St} {H : Hp} {s : Shared} {Q : VK} {J : It} {fp : List Addr} {it D : Addr} {tn : Nat → Heap → Prop} {R : Result → Shared → Prop}
    (quiet : X.calm = true) (nd : X.N.Nodup) (I : Inv X pins σ H s) (ok : BlkOk X.N X.env.scope scope own) (T : Turn X.prog X.w X.K tg J fp it tn) (t0 : tn 0 s.heap) (fpo : ∀ b ∈ fp, FpOk X pins H b ∧ b < s.heap.objs.size) {ce : Env}
    (hce : ce = compEnvC scope (cellsFrom (s.heap.objs.size + 1) scope.names (cloFrom X.env.cells scope.names [])) s.heap.objs.size X.env)
    (aim : PG (X.blk s H scope ce fp) tg g) (each : PE (X.blk s H scope ce fp) elt te)
    (W : Nat → Nat → Hp → Prop) {m0 : Nat} (w0 : W 0 m0 H)
    (turn : ∀ i m H, W i m H → (J.stop i H ∧ Q (.ref D) H) ∨ (J.go i H ∧ ∃ Nx : Hp → Prop, (∀ H', Nx H' → ∃ m', m' < m ∧ W (i + 1) m' H') ∧ ∀ x H', J.yld i H x H' → g x (wipe σ (own.map (·.2))) H' fun σ2 H2 => wipe σ2 (own.map (·.2)) = wipe σ (own.map (·.2)) ∧
      te σ2 H2 fun y H4 => ∃ acc, H4 D = some (.lst acc) ∧ acc.length < sizeLine ∧ Nx (upd H4 D (.lst (acc ++ [y])))))
    (out : ∀ s' m H', Inv X pins σ H' s' → Q (.ref D) H' → s'.heap.Ns s.heap.objs.size m → FpOk X pins H' s.heap.objs.size → R (.ok .next) s') {s4 : Shared} (h4 : s4 = { s with heap := pushCells (s.heap.push { cls := .type "dict", data := .dict #[] }) scope.names }) :
    codeAny (model X.prog X.w) X.A (.compLoop (.ListComp elt [⟨tg, iter, [], 0⟩] scope pos) 0 (.ref it) (.ref D) ce) R s4 := by
  have start := block_start I ok nd fpo
  rw [← hce, ← h4] at start
  have t4 : tn 0 s4.heap := by
    rw [h4]
    exact T.keep _ _ _ t0 fun b _ o e => pushCells_keeps _ _ _ _ (Heap.get?_push_of_some _ e)
  have loc : ce.locals = s.heap.objs.size := by rw [hce]; rfl
  have held : ∀ {σ' : L2.St} {H' : Hp} {s' : Shared}, Inv (X.blk s H scope ce fp) [] σ' H' s' → (∀ b ∈ fp, H' b = none) → ∀ b ∈ fp, FpOk (X.blk s H scope ce fp) [] H' b := fun {σ' H' s'} B hn b hb => by
    have z := B.ok.exf b hb
    exact ⟨hn b hb, z.1, B.ok.exfs b hb, .inl hb, z.2, fun p hp => by cases hp⟩
  refine compLoop_any (fun n u => ∃ i G, Inv (X.blk s H scope ce fp) [] (wipe σ (own.map (·.2))) G u ∧ tn i u.heap ∧ (∀ b ∈ fp, G b = none) ∧ W i n G) ?_ m0 ⟨0, H, start, t4, fun b hb => (fpo b hb).1.1, w0⟩
  intro n u hu
  obtain ⟨i, G, B, tu, nf, wi⟩ := hu
  rcases turn i n G wi with ⟨hstop, hq⟩ | ⟨hgo, Nx, down, step⟩
  · refine thnF (T.done (X.blk s H scope ce fp) rfl rfl rfl quiet i [] u _ G (fun _ _ => False) B (held B nf) tu hstop) fun r v hv => ?_
    obtain ⟨rfl, B2⟩ := hv
    have back : Inv X pins σ G v := by
      refine I.call' (ch := fp) B2.os B2.base B2.hok B2.bare fun b hb => ?_
      obtain ⟨_, f1, _, f3, f4, f5⟩ := (fpo b hb).1
      exact ⟨f3, f1, f4, f5⟩
    have free : G s.heap.objs.size = none := loc ▸ B2.free
    obtain ⟨m, hm, _⟩ := B2.loc
    exact out v m G back hq (loc ▸ hm) (I.fpOk (Nat.le_refl _) free)
  · refine thnF (T.item (X.blk s H scope ce fp) rfl rfl rfl quiet i [] u _ G (fun _ _ => False) B (held B nf) tu hgo) fun r v hv => ?_
    obtain ⟨y, rfl, hy⟩ := hv
    refine thnF hy fun _ v2 hv2 => ?_
    obtain ⟨x, G2, B2, rx, yl, t2, n2⟩ := hv2
    refine thnF (aim.run _ v2 _ G2 x y _ (B2.pinned (held B2 n2) (T.obj _ _ t2)) rx (step x G2 yl)) fun _ v3 hv3 => ?_
    obtain ⟨σ3, G3, B3, same, q3⟩ := hv3
    refine wpAny_tests_nil ?_
    rw [if_pos rfl]
    refine thnF (each.run _ v3 σ3 G3 _ B3 q3) fun z v4 hv4 => ?_
    obtain ⟨zv, G4, B4, rz, acc, hD, hz, nx⟩ := hv4
    refine app_ok (X := X.blk s H scope ce fp) B4 hD hz rz fun v5 B5 => ?_
    obtain ⟨m', lt, w'⟩ := down _ nx
    have pin : ∀ b ∈ fp, ∀ o, v2.heap.get? b = some o → v5.heap.get? b = some o ∧ upd G4 D (.lst (acc ++ [zv])) b = none := fun b hb o e => by
      have z := B5.pin (b, o) (List.mem_append_right _ (List.mem_append_right _ (mem_pinsAt hb e)))
      exact ⟨z.1, z.2.1⟩
    refine ⟨m', lt, i + 1, _, (B5.unpinned (pins := [])).weak (by rw [← same, wipe_length]) fun j c e => ?_, T.keep _ _ _ t2 fun b hb o e => (pin b hb o e).1, fun b hb => ?_, w'⟩
    · rw [← same] at e
      exact (wipe_some e).1
    · obtain ⟨o, e, _⟩ := T.obj _ _ t2 b hb
      exact (pin b hb o e).2
def tLcI (wi : TI) (g : TG) (te : L2.St → TE) (vs : List Nat) : TE := fun σ H Q => wi σ H fun J H1 => ∀ D, H1 D = none → ∃ W : Nat → Nat → Hp → Prop, (∃ m, W 0 m (upd H1 D (.lst []))) ∧ ∀ i m H, W i m H →
  (J.stop i H ∧ Q (.ref D) H) ∨ (J.go i H ∧ ∃ Nx : Hp → Prop, (∀ H', Nx H' → ∃ m', m' < m ∧ W (i + 1) m' H') ∧ ∀ x H', J.yld i H x H' → g x (wipe σ vs) H' fun σ2 H2 => wipe σ2 vs = wipe σ vs ∧
    te σ σ2 H2 fun y H4 => ∃ acc, H4 D = some (.lst acc) ∧ acc.length < sizeLine ∧ Nx (upd H4 D (.lst (acc ++ [y]))))
theorem pe_lcI {elt tg iter : Expr} {scope : Scope} {own : List (Str × Nat)} {pos : Pos} {wi : TI} {g : TG} {te : L2.St → TE} (quiet : X.calm = true) (nd : X.N.Nodup) (walk : PI X tg iter wi) (ok : BlkOk X.N X.env.scope scope own)
    (aim : ∀ (s : Shared) (H : Hp) (C : Addr) (cl : List (Str × Addr)) (fp : List Addr), PG (X.blk s H scope (compEnvC scope cl C X.env) fp) tg g)
    (each : ∀ (pins : List (Addr × Obj)) (σ : L2.St) (s : Shared) (H : Hp) (C : Addr) (cl : List (Str × Addr)) (fp : List Addr), Inv X pins σ H s → (∀ b ∈ fp, FpOk X pins H b) → PE (X.blk s H scope (compEnvC scope cl C X.env) fp) elt (te σ))
    (fs : ∀ x, foldedSetIterable iter X.env x = pure x := by intro _; rfl) : PE X (.ListComp elt [⟨tg, iter, [], 0⟩] scope pos) (tLcI wi g te (own.map (·.2))) := by
  refine ⟨fun pins s σ H Q I h => ?_⟩
  rw [eval_ListComp]
  have caught : ∀ y ∈ scope.names, y.2 = .free → ∃ c, X.env.cells.lookup y.1 = some c := fun y hy e => (ok.free y hy e).elim (fun z => I.ok.has _ (.inl z)) fun z => I.ok.has _ (.inr z)
  refine wpAny_comprehension_free rfl fs (closure_ok caught) ok.kind (fun y hy e => by rw [ok.uniq y hy, e]) ?_
  refine thn (walk.run pins s σ H _ I h) fun v1 s1 h1 => thn h1 fun v2 s2 h2 => ?_
  obtain ⟨it, fp, tn, J, H2, rfl, I2, T, t2, f2, q⟩ := h2
  refine wpAny_newObj_type (newEnv_comp ?_) (by show 0 ≤ sizeLine; decide)
  obtain ⟨W, ⟨m0, w0⟩, turn⟩ := q _ (I2.hok.fresh (Nat.le_refl _))
  have I3 := I2.laid (a := s2.heap.objs.size) (o := .lst []) (h' := s2.heap.push { cls := .type "list", data := .seq ([] : List Value).toArray }) (t' := s2.toks) (fun b o e => Heap.get?_push_of_some _ e) (Nat.le_refl _) ⟨Nat.zero_le _, [], 0, .nil, Heap.get?_push_size _ rfl⟩
  have t3 : tn 0 (s2.heap.push { cls := .type "list", data := .seq ([] : List Value).toArray }) := T.keep _ _ _ t2 fun b _ o e => Heap.get?_push_of_some _ e
  have f3 : ∀ b ∈ fp, FpOk X pins (upd H2 s2.heap.objs.size (.lst [])) b ∧ b < (s2.heap.push { cls := .type "list", data := .seq ([] : List Value).toArray }).objs.size := fun b hb => by
    obtain ⟨o, e, _⟩ := T.obj _ _ t2 b hb
    have lt := Heap.lt_size e
    refine ⟨⟨?_, (f2 b hb).2⟩, by rw [Heap.size_push]; exact Nat.lt_succ_of_lt lt⟩
    rw [upd_ne (Nat.ne_of_lt lt)]
    exact (f2 b hb).1
  have go := blk_loop (iter := iter) (pos := pos) (R := compPost (model X.prog X.w) X.A X.xe none (EP X pins σ Q) (.ref s2.heap.objs.size) (s2.heap.push { cls := .type "list", data := .seq ([] : List Value).toArray }).objs.size) quiet nd I3 ok T t3 f3 rfl (aim _ _ _ _ _) (each _ _ _ _ _ _ _ I3 fun b hb => (f3 b hb).1) W w0 turn (fun s' m H' J' q' hm f => by
    refine ⟨m, hm, fun h'' sb => ?_⟩
    obtain ⟨f0, f1, f2, f3, f4, f5⟩ := f
    exact ⟨.ref _, H', J'.turned (t' := s'.toks) (fun b o hb e => (sb.2 b hb).trans e) f0 f1 f3 f4 f5, rfl, q'⟩) rfl
  exact codeAny_compStart_list go (T.self X.A 0 _ _ _ (T.keep _ _ _ t3 fun b _ o e => pushCells_keeps _ _ _ _ (Heap.get?_push_of_some _ e)) go)
end
end Lx

namespace Lx
open PySem L2 PySem.Spec PyProof.Rows LamX Lk
/-! ### lambdas that are kept in lists and called later -/
/-- a lambda without parameters, or with one that has a default -/
structure Lm where
  params : Arguments
  body : Expr
  scope : Scope
  dflt : Option Str
  t : XK → TE
/-- the cells of the def's frame hold what its slots say -/
structure CellsAt (X : Cx) (σ : L2.St) (H : Hp) (h : Heap) : Prop where
  inj : ∀ x y c, X.env.cells.lookup x = some c → X.env.cells.lookup y = some c → x = y
  has : ∀ x, (X.env.kindOf x = some .cell ∨ X.env.kindOf x = some .free) → ∃ c, X.env.cells.lookup x = some c
  len : σ.length = X.N.length
  val : ∀ (i : Nat) (x : Str) (v : V) (c : Addr), X.N[i]? = some x → σ[i]? = some (some v) → (X.env.scope.names.lookup x = some .cell ∨ X.env.scope.names.lookup x = some .free) → X.env.cells.lookup x = some c → ∃ u, RelV v u ∧ h.IsCell c (some u)
  any : ∀ x c, X.env.cells.lookup x = some c → ∃ v, h.IsCell c v
  out : ∀ x c, X.env.cells.lookup x = some c → H c = none
theorem CellsAt.of {X : Cx} {pins : List (Addr × Obj)} {σ : L2.St} {H : Hp} {s : Shared} (I : Inv X pins σ H s) : CellsAt X σ H s.heap := by
  refine ⟨I.ok.inj, I.ok.has, I.len, fun i x v c e1 e2 hk hc => ?_, I.cell, I.freeC⟩
  obtain ⟨m, _, hl⟩ := I.loc
  obtain ⟨u, r, q⟩ := hl i x v e1 e2 (hk.elim (fun z => .inr (.inl z)) fun z => .inr (.inr z))
  refine ⟨u, r, ?_⟩
  rcases q with ⟨k, _⟩ | ⟨_, c', e, z⟩
  · have k : X.env.scope.names.lookup x = some .local := k
    rcases hk with hk | hk <;> rw [hk] at k <;> cases k
  · rw [hc] at e
    cases e
    exact z
theorem CellsAt.un {X : Cx} {σ : L2.St} {H H' : Hp} {h h' : Heap} {fs ch : List Addr} (a : CellsAt X σ H h) (u : Un fs ch H H' h h') (hn : ∀ x c, X.env.cells.lookup x = some c → c ∉ ch) : CellsAt X σ H' h' := by
  have mv : ∀ {x : Str} {c : Addr} {v : Option Value}, X.env.cells.lookup x = some c → h.IsCell c v → h'.IsCell c v := fun {x c v} e hc => by
    obtain ⟨o, ho, hd⟩ := hc
    obtain ⟨sl, q⟩ := u.any ho (a.out _ _ e) (hn _ _ e)
    exact ⟨_, q, hd⟩
  refine ⟨a.inj, a.has, a.len, fun i x v c e1 e2 hk hc => ?_, fun x c e => ?_, fun x c e => ?_⟩
  · obtain ⟨w, r, z⟩ := a.val i x v c e1 e2 hk hc
    exact ⟨w, r, mv hc z⟩
  · obtain ⟨v, z⟩ := a.any x c e
    exact ⟨v, mv e z⟩
  · obtain ⟨v, o, ho, _⟩ := a.any x c e
    exact u.free _ _ ho (a.out _ _ e) (hn _ _ e)
/-- the lambda's names: captured ones, globals, and perhaps the one with the default -/
structure LmS (N : List Str) (sc scope : Scope) (d : Option Str) : Prop where
  kind : scope.kind = .function
  co : scope.isCoroutine = false
  gen : scope.isGenerator = false
  own : ∀ y ∈ scope.names, (y.2 = .local → y.1 ∉ N) ∧ y.2 ≠ .cell
  free : ∀ y ∈ scope.names, y.2 = .free → sc.names.lookup y.1 = some .cell ∨ sc.names.lookup y.1 = some .free
  loc : ∀ a, d = some a → scope.names.lookup a = some .local
def lmSB (N : List Str) (sc scope : Scope) (d : Option Str) : Bool :=
  (decide (scope.kind = .function) && !scope.isCoroutine && !scope.isGenerator) && ((scope.names.all fun y => (!decide (y.2 = .local) || !N.contains y.1) && (!decide (y.2 = .cell) && (!decide (y.2 = .free) || (decide (sc.names.lookup y.1 = some .cell) || decide (sc.names.lookup y.1 = some .free))))) &&
    match d with | none => true | some a => decide (scope.names.lookup a = some .local))
theorem lmS_by {N : List Str} {sc scope : Scope} {d : Option Str} (h : lmSB N sc scope d = true) : LmS N sc scope d := by
  unfold lmSB at h
  obtain ⟨h, h'⟩ := Bool.and_eq_true_iff.mp h
  obtain ⟨h4, h5⟩ := Bool.and_eq_true_iff.mp h'
  simp only [Bool.and_eq_true, Bool.or_eq_true, Bool.not_eq_true', decide_eq_true_eq, decide_eq_false_iff_not, List.all_eq_true] at h h4
  obtain ⟨⟨h1, h2⟩, h3⟩ := h
  refine ⟨h1, h2, h3, fun y hy => ⟨fun e hn => ?_, (h4 y hy).2.1⟩, fun y hy e => ?_, fun a e => ?_⟩
  · rcases (h4 y hy).1 with z | z
    · exact z e
    · rw [List.contains_iff_mem.mpr hn] at z
      cases z
  · rcases (h4 y hy).2.2 with z | z
    · exact absurd e z
    · exact z
  · subst e
    exact of_decide_eq_true h5
/-- the function object at f -/
def LamO (f : Addr) (fd : FuncData) : HO := .ext fun h => h.get? f = some { cls := .type "function", data := .func fd }
/-- fd is the lambda m, made in X -/
def LamIs (X : Cx) (m : Lm) (fd : FuncData) (c' : Addr) : Prop := ∃ dV doc pm ct, fd = PySem.W.kdv_fn "<lambda>" (X.env.qual ++ "<lambda>") m.params (.expr m.body) m.scope (cloFrom X.env.cells m.scope.names []) dV doc pm (.ref c') ct ∧ (m.dflt = none → dV = .none)
/-- its default, if it has one -/
def Dfl (H : Hp) (m : Lm) (fd : FuncData) : Prop := m.dflt = none ∨ ∃ dt n, fd.defaults = .ref dt ∧ H dt = some (.tup [.int n])
theorem Dfl.ext {H H' : Hp} {m : Lm} {fd : FuncData} (d : Dfl H m fd) (e : ∀ a xs, H a = some (.tup xs) → H' a = some (.tup xs)) : Dfl H' m fd := d.imp_right fun ⟨dt, n, h1, h2⟩ => ⟨dt, n, h1, e _ _ h2⟩
/-- what binding no argument gives -/
structure LmB (m : Lm) : Prop where
  none_ : m.dflt = none → ∀ (q : Str) (cl : List (Str × Addr)) (doc pm cd ct : Value), bindArgs (PySem.W.kdv_fn "<lambda>" q m.params (.expr m.body) m.scope cl .none doc pm cd ct) ⟨[], []⟩ = pure []
  some_ : ∀ a, m.dflt = some a → ∀ (q : Str) (cl : List (Str × Addr)) (dV doc pm cd ct : Value), ∃ k, bindArgs (PySem.W.kdv_fn "<lambda>" q m.params (.expr m.body) m.scope cl dV doc pm cd ct) ⟨[], []⟩ = seqItems? dV >>= k ∧ ∀ v, k (some #[v]) = pure [(a, v)]
section
variable {X : Cx} {pins : List (Addr × Obj)} {σ : L2.St} {H : Hp} {s : Shared}
/-- the function object is made: the code object is new, or found in the table -/
theorem lam_tail {T : List (Addr × Str)} {c P : Addr} {m : Lm} {pos : Pos} {line : Nat} {dV : Value} {E : Value → Shared → Prop} {Q : Value → Shared → Prop} (I : Inv X pins σ H s) (TB : TabB X.base X.mg c P) (code : X.env.code = .ref c)
    (inT : (P, X.env.qual ++ "<lambda>") ∈ T) (onlyT : ∀ p ∈ T, p.1 = P → p.2 = X.env.qual ++ "<lambda>") (tabs : Tabs T H) (caught : ∀ y ∈ m.scope.names, y.2 = .free → ∃ c, X.env.cells.lookup y.1 = some c) (hd : m.dflt = none → dV = .none)
    (h : ∀ (f c' : Addr) (fd : FuncData) (H1 : Hp) (s' : Shared), Inv X pins σ (upd H1 f (LamO f fd)) s' → ExtN H H1 → Tabs T H1 → H1 f = none → H1 c' = some (CodeO c' (X.env.qual ++ "<lambda>")) → LamIs X m fd c' → fd.defaults = dV → Q (.ref f) s') :
    wpAny (model X.prog X.w) X.A (makeTail "<lambda>" (X.env.qual ++ "<lambda>") m.params (.expr m.body) m.scope X.env dV .none none pos line) Q E s := by
  obtain ⟨ps, atP, tri, known⟩ := tabs _ inT
  have bl : s.heap.BuiltinsAt X.mg P := TB.bm.keeps I.bk
  have atP' : s.heap.get? P = some { cls := .none, data := .fields ps } := I.hok P _ atP
  cases hc : codeAmong pos ps.toList with
  | some cv =>
    obtain ⟨c', rfl, hco⟩ := known pos cv hc
    refine PySem.W.kdv_makeTailHit (mg := X.mg) (c := c) (P := P) (ps := ps) (closure_ok caught) I.ok.glob (I.mod.glob.keeps I.bk) code (TB.code.keeps I.bk) atP' tri hc bl fun ct doc h' tk grown size => ?_
    have I1 : Inv X pins σ H { s with heap := h', toks := tk } := I.kept grown
    exact h _ c' _ H _ (I1.laid (t' := tk) (o := LamO h'.objs.size _) (fun b u e => Heap.get?_push_of_some _ e) (Nat.le_refl _) ⟨Heap.get?_push_size _ rfl, ⟨_, Heap.get?_push_size _ rfl⟩, fun h1 h2 p st => st _ p⟩) (ExtN.refl H) tabs (I1.hok.fresh (Nat.le_refl _)) hco ⟨dV, doc, _, ct, rfl, hd⟩ rfl
  | none =>
    refine PySem.W.kdv_makeTail (mg := X.mg) (c := c) (P := P) (ps := ps) (closure_ok caught) I.ok.glob (I.mod.glob.keeps I.bk) code (TB.code.keeps I.bk) atP' tri hc TB.gP bl fun c' ct doc h' tk but ge lt rec_ tab => ?_
    obtain ⟨c2, oc, vs, t, e2, hoc, hdat, hv⟩ := rec_
    cases e2
    have newC : H c' = none := I.hok.fresh ge
    have I1 := inv_table (t' := tk) (more := #[rawInt pos.line, rawInt pos.col, .ref c']) I atP (fun b o hb e => but b o hb e) tab ge ⟨oc, vs, t, hoc, hdat, hv⟩
    have up : ExtN H (upd (upd H P (.tbl (ps ++ #[rawInt pos.line, rawInt pos.col, .ref c']))) c' (CodeO c' (X.env.qual ++ "<lambda>"))) := fun b o e n => by
      have n1 : b ≠ c' := ne_of_none e newC
      have n2 : b ≠ P := fun z => by
        rw [z, atP] at e
        exact n ps (Option.some.inj e).symm
      rw [upd_ne n1, upd_ne n2]
      exact e
    refine h _ c' _ _ _ (I1.laid (t' := tk) (o := LamO h'.objs.size _) (fun b u e => Heap.get?_push_of_some _ e) (Nat.le_refl _) ⟨Heap.get?_push_size _ rfl, ⟨_, Heap.get?_push_size _ rfl⟩, fun h1 h2 p st => st _ p⟩) up (fun p hp => ?_) (I1.hok.fresh (Nat.le_refl _)) upd_same ⟨dV, doc, _, ct, rfl, hd⟩ rfl
    have toL : (ps ++ #[rawInt pos.line, rawInt pos.col, .ref c']).toList = ps.toList ++ [rawInt pos.line, rawInt pos.col, .ref c'] := by simp
    by_cases hb : p.1 = P
    · rw [onlyT p hp hb, hb]
      refine ⟨_, by rw [upd_ne (ne_of_none atP newC), upd_same], by rw [toL]; exact PySem.TriplesOk_snoc _ _ _ _ tri, fun pp cv hcv => ?_⟩
      rw [toL] at hcv
      rcases among_app _ tri hcv with z | z
      · obtain ⟨c0, e1, e2⟩ := known pp cv z
        exact ⟨c0, e1, up _ _ e2 codeO_ne⟩
      · exact ⟨c', z, upd_same⟩
    · obtain ⟨qs, a1, a2, a3⟩ := tabs p hp
      refine ⟨qs, by rw [upd_ne (ne_of_none a1 newC), upd_ne hb]; exact a1, a2, fun pp cv hcv => ?_⟩
      obtain ⟨c0, e1, e2⟩ := a3 pp cv hcv
      exact ⟨c0, e1, up _ _ e2 codeO_ne⟩
end
end Lx

namespace Lx
open PySem L2 PySem.Spec PyProof.Rows LamX Lk
section
variable {X : Cx}
/-- a lambda as a value -/
def tLamV (X : Cx) (T : List (Addr × Str)) (m : Lm) : TE := fun σ H Q => Tabs T H ∧ ∀ (f c' : Addr) (fd : FuncData) (H1 : Hp), ExtN H H1 → Tabs T H1 → H1 f = none → H1 c' = some (CodeO c' (X.env.qual ++ "<lambda>")) → LamIs X m fd c' → Dfl H1 m fd → Q (.ref f) (upd H1 f (LamO f fd))
theorem LmS.caught {N : List Str} {scope : Scope} {d : Option Str} (L : LmS N X.env.scope scope d) (ok : X.Ok) : ∀ y ∈ scope.names, y.2 = .free → ∃ c, X.env.cells.lookup y.1 = some c := fun y hy e => (L.free y hy e).elim (fun z => ok.has _ (.inl z)) fun z => ok.has _ (.inr z)
theorem pe_lamV {T : List (Addr × Str)} {c P : Addr} {m : Lm} {pos : Pos} (TB : TabB X.base X.mg c P) (code : X.env.code = .ref c) (inT : (P, X.env.qual ++ "<lambda>") ∈ T) (onlyT : ∀ p ∈ T, p.1 = P → p.2 = X.env.qual ++ "<lambda>") (L : LmS X.N X.env.scope m.scope m.dflt)
    (hd : defaultsOf m.params X.env = ([], [])) (hn : m.dflt = none) : PE X (.Lambda m.params m.body m.scope pos) (tLamV X T m) := by
  refine ⟨fun pins s σ H Q I h => ?_⟩
  obtain ⟨tabs, h⟩ := h
  refine PySem.W.kla_eval hd ?_
  rw [makeFunction_eq]
  simp only [List.zip_nil_right, List.filterMap_nil, List.isEmpty_nil, if_true, pure_bind]
  exact lam_tail (m := m) I TB code inT onlyT tabs (L.caught I.ok) (fun _ => rfl) fun f c' fd H1 s' I1 up t1 n1 hc li _ => ⟨.ref f, _, I1, rfl, h f c' fd H1 up t1 n1 hc li (.inl hn)⟩
theorem pe_lamD {T : List (Addr × Str)} {c P : Addr} {m : Lm} {pos p0 : Pos} {n : Int} {kk : Nat} (TB : TabB X.base X.mg c P) (code : X.env.code = .ref c) (inT : (P, X.env.qual ++ "<lambda>") ∈ T) (onlyT : ∀ p ∈ T, p.1 = P → p.2 = X.env.qual ++ "<lambda>") (L : LmS X.N X.env.scope m.scope m.dflt)
    (hd : defaultsOf m.params X.env = ([eval (.Constant (.int n) kk p0) X.env], [])) (hs : m.dflt ≠ none) : PE X (.Lambda m.params m.body m.scope pos) (tLamV X T m) := by
  refine ⟨fun pins s σ H Q I h => ?_⟩
  obtain ⟨tabs, h⟩ := h
  rw [arm_eval_Lambda, hd]
  show wpAny _ _ (do let dv ← evalAll [eval (.Constant (.int n) kk p0) X.env]; let kdv ← holding dv (evalAllOpt []); makeFunction "<lambda>" (X.env.qual ++ "<lambda>") m.params (.expr m.body) m.scope X.env dv kdv [] pos pos.line) _ _ s
  refine wpAny_bind (wpAny_bind (thn ((pe_int (X := X) (i := n) (j := kk) (pos := p0)).run pins s σ H (fun v H1 => v = .int n ∧ H1 = H) I ⟨rfl, rfl⟩) fun u s1 h1 => ?_))
  obtain ⟨v, H1, I1, r, rfl, rfl⟩ := h1
  obtain ⟨t, rfl⟩ : ∃ t, u = Value.int n t := r
  refine wpAny_bind (wpAny_holding (wpAny_pure (wpAny_pure (wpAny_bind (wpAny_holding (wpAny_pure ?_))))))
  rw [makeFunction_eq]
  simp only [List.zip_nil_right, List.filterMap_nil, List.isEmpty_nil, if_true, pure_bind, List.isEmpty_cons, Bool.false_eq_true, if_false]
  refine wpAny_bind (wpAny_newTextTuple ?_)
  have fr : H1 s1.heap.objs.size = none := I1.hok.fresh (Nat.le_refl _)
  have I2 := I1.laid (a := s1.heap.objs.size) (o := .tup [.int n]) (h' := s1.heap.push { cls := .type "tuple", data := .seq [Value.int n t].toArray }) (t' := s1.toks) (fun b u e => Heap.get?_push_of_some _ e) (Nat.le_refl _) ⟨(by show 1 ≤ sizeLine; decide), [Value.int n t], .cons ⟨t, rfl⟩ .nil, IsTup.new _ _⟩
  have up0 : ExtN H1 (upd H1 s1.heap.objs.size (.tup [.int n])) := fun b o e _ => by
    rw [upd_ne (ne_of_none e fr)]
    exact e
  refine lam_tail (m := m) I2 TB code inT onlyT (tabs.ext fun b o e => by rw [upd_ne (ne_of_none e fr)]; exact e) (L.caught I.ok) (fun z => absurd z hs) fun f c' fd H2 s' I3 up t1 n1 hc li hdV => ⟨.ref f, _, I3, rfl, h f c' fd H2 (up0.trans up) t1 n1 hc li (.inr ⟨_, n, hdV, up _ _ upd_same (fun ps z => by cases z)⟩)⟩
/-- the lambda's body is entered -/
theorem lam_enter {A : Around} {outer : List Env} {E : XK} {m : Lm} {f c' : Addr} {h1 : Heap} {tk : Nat} {σ : L2.St} {G : Hp} {s1 : Shared} {binds : List (Str × Value)} (C : CellsAt X σ G s1.heap) (L : LmS X.N X.env.scope m.scope m.dflt) (e0 : Env0 X.prog X.w X.K X.mg X.base A outer s1 G) (hd : A.handled = none)
    (ns : h1.Ns s1.heap.objs.size fun y => binds.reverse.lookup y) (kp : ∀ b o, s1.heap.get? b = some o → h1.get? b = some o) :
    Inv (lamCx X A outer s1 G E m.scope f c') [] σ G { s1 with heap := h1, toks := tk } := by
  have back : ∀ {y c}, (cloFrom X.env.cells m.scope.names []).lookup y = some c → (m.scope.names.lookup y = some .free ∨ True) ∧ X.env.cells.lookup y = some c := fun {y c} e => by
    refine ⟨.inr trivial, ?_⟩
    rcases cloFrom_mem (PySem.mem_of_lookup e) with z | ⟨z1, z2⟩
    · cases z
    · obtain ⟨c1, hc⟩ := (L.free _ z1 rfl).elim (fun z => C.has _ (.inl z)) fun z => C.has _ (.inr z)
      have hc : X.env.cells.lookup y = some c1 := hc
      rw [show c = c1 by rw [z2, hc] <;> rfl]
      exact hc
  have forth : ∀ {y}, m.scope.names.lookup y = some .free → ∃ c, (cloFrom X.env.cells m.scope.names []).lookup y = some c := fun {y} hl => mem_lookup (cloFrom_has (cells := X.env.cells) (acc := []) (PySem.mem_of_lookup hl))
  have kc : ∀ {c : Addr} {v : Option Value}, s1.heap.IsCell c v → h1.IsCell c v := fun {c v} ⟨o, ho, hdat⟩ => ⟨o, kp _ _ ho, hdat⟩
  refine ⟨⟨e0.mod, L.kind, rfl, rfl, Nat.le_refl _, fun y z c e1 e2 => C.inj y z c (back e1).2 (back e2).2, fun y hy => ?_, fun y c z _ => (by cases (show false = true from z)), fun _ => hd, Around.frames_deeper e0.frames, .inr ⟨rfl, rfl⟩, fun b z => (by cases (show b ∈ ([] : List Addr) from z)), e0.bs, e0.bsz,
    fun b _ _ z => (by cases (show b ∈ ([] : List Addr) from z)), fun b z => (by cases (show b ∈ ([] : List Addr) from z)), e0.funs, e0.frf⟩, rfl, e0.bare, Un.kept kp, ⟨_, ns, fun i y v e1 e2 e3 => ?_⟩, fun y c e => ?_, e0.hok.fresh (Nat.le_refl _), fun y c e => C.out _ _ (back e).2, fun p hp => (by cases (show p ∈ ([] : List (Addr × Obj)) from hp)), e0.hok.kept kp, C.len⟩
  · rcases (show m.scope.names.lookup y = some .cell ∨ m.scope.names.lookup y = some .free from hy) with z | z
    · exact absurd rfl (L.own _ (PySem.mem_of_lookup z)).2
    · exact forth z
  · rcases (show Vis m.scope y from e3) with z | z | z
    · exact absurd (List.mem_of_getElem? e1) ((L.own _ (PySem.mem_of_lookup z)).1 rfl)
    · exact absurd rfl (L.own _ (PySem.mem_of_lookup z)).2
    · obtain ⟨c, hc⟩ := forth z
      obtain ⟨u, r, q⟩ := C.val i y v c e1 e2 (L.free _ (PySem.mem_of_lookup z) rfl) (back hc).2
      exact ⟨u, r, .inr ⟨.inr z, c, hc, kc q⟩⟩
  · obtain ⟨v, z⟩ := C.any y c (back e).2
    exact ⟨v, kc z⟩
/-- what is asked of a lambda's text -/
structure LmOk (X : Cx) (m : Lm) (k : Nat) : Prop where
  sc : LmS X.N X.env.scope m.scope m.dflt
  bd : LmB m
  run : ∀ (A : Around) (outer : List Env) (s : Shared) (H : Hp) (E : XK) (f c' : Addr), Room k (A.deeper (lamEnv X m.scope s.heap.objs.size f c')) → PE (lamCx X A outer s H E m.scope f c') m.body (m.t E)
/-- it is called -/
theorem lam_run {A : Around} {outer : List Env} {m : Lm} {fd : FuncData} {f c' : Addr} {σ : L2.St} {G : Hp} {s1 : Shared} {E : XK} {Q : VK} {k : Nat} (O : LmOk X m k) (C : CellsAt X σ G s1.heap) (e0 : Env0 X.prog X.w X.K X.mg X.base A outer s1 G) (hr : Room (k + 1) A) (lim : s1.heap.NoLimit)
    (hf : G f = some (LamO f fd)) (li : LamIs X m fd c') (hc : G c' = some (CodeO c' (X.env.qual ++ "<lambda>"))) (df : Dfl G m fd) (h : m.t E σ G Q) :
    codeAny (model X.prog X.w) A (.call (.ref f) ⟨[], []⟩) (CR (L2.CX X.prog X.w) outer X.prog X.w G s1 Q E) s1 := by
  obtain ⟨dV, doc, pm, ct, rfl, hdv⟩ := li
  have of1 := (e0.hok f _ hf).1
  obtain ⟨⟨oc, vs, t, hoc, hdc, hvc⟩, _, _⟩ := e0.hok c' _ hc
  obtain ⟨binds, hb, hl⟩ : ∃ binds, BindsTo s1 (PySem.W.kdv_fn "<lambda>" (X.env.qual ++ "<lambda>") m.params (.expr m.body) m.scope (cloFrom X.env.cells m.scope.names []) dV doc pm (.ref c') ct) ⟨[], []⟩ binds ∧ ∀ x ∈ binds, m.scope.names.lookup x.1 = some .local := by
    cases hm : m.dflt with
    | none =>
      rw [hdv hm]
      exact ⟨[], .of_eq (O.bd.none_ hm _ _ _ _ _ _), fun x hx => by cases hx⟩
    | some a =>
      rcases df with z | ⟨dt, n, e1, e2⟩
      · rw [hm] at z
        cases z
      · obtain ⟨kk, b1, b2⟩ := O.bd.some_ a hm (X.env.qual ++ "<lambda>") (cloFrom X.env.cells m.scope.names []) dV doc pm (.ref c') ct
        obtain ⟨_, its, rv, o, no, hcl, n2, ho⟩ := e0.hok dt _ e2
        cases rv with
        | cons r1 r2 =>
          cases r2
          refine ⟨[(a, _)], .of_defaults (T := dt) e1 no ho b1 (b2 _), fun x hx => ?_⟩
          rw [List.mem_singleton.mp hx]
          exact O.sc.loc a hm
  refine PySem.W.kla_callFunE hr.depth of1 rfl O.sc.co O.sc.gen rfl ⟨c', oc, vs, t, rfl, hoc, hdc, hvc⟩ (hb _ _ _ _ ?_)
  refine wpAny_newFunctionEnv (fun y hy => (O.sc.own y hy).2) hl (fun h1 ns sb => ⟨lim.fresh _ sb, ?_⟩) O.sc.kind
  have kp : ∀ b o, s1.heap.get? b = some o → h1.get? b = some o := fun b o e => sb.extBut b o (Nat.ne_of_lt (Heap.lt_size e)) (Heap.get?_push_of_some _ e)
  have J := lam_enter (E := E) (m := m) (f := f) (c' := c') (tk := s1.toks + binds.length) C O.sc e0 hr.hd ns kp
  refine PySem.W.kla_codeExpr (wpAny_mono ((O.run A outer s1 G E f c' (hr.deeper _)).run [] _ _ G Q J h) (fun v s' hq => ?_) fun e s' hq => hq)
  obtain ⟨x, G', J', rv, q⟩ := hq
  exact ⟨x, G', J'.os, J'.bare, J'.base, J'.hok, rv, q⟩
end
end Lx

namespace Lx
open PySem L2 PySem.Spec PyProof.Rows LamX Lk
/-- X in another place of the same frame -/
abbrev alike (X : Cx) (s0 : Shared) (H0 : Hp) (env : Env) (outer : List Env) (ex : List Addr) (fn : Str → Bool) (pn : List (Addr × Obj)) (xe : Value → Shared → Prop) : Cx := { X with s_0 := s0, H_0 := H0, env := env, outer := outer, ex := ex, fn := fn, pn := pn, xe := xe }
/-- _law_try(e), e a lambda that was made in X -/
def tKept (X : Cx) (CS : Addr) (ms : List Lm) (σ : L2.St) (te : TE) : TE := fun σ' H' Q => te σ' H' fun v H1 => ∃ (f c' : Addr) (fd : FuncData) (m : Lm), v = .ref f ∧ m ∈ ms ∧ H1 f = some (LamO f fd) ∧ LamIs X m fd c' ∧ H1 c' = some (CodeO c' (X.env.qual ++ "<lambda>")) ∧ Dfl H1 m fd ∧
  TTry X.K CS (fun E H2 Q2 => H2 f = some (LamO f fd) ∧ Dfl H2 m fd ∧ m.t E σ H2 Q2) H1 Q
section
variable {X : Cx} {s0 : Shared} {H0 : Hp} {env : Env} {outer : List Env} {ex : List Addr} {fn : Str → Bool} {pn : List (Addr × Obj)} {xe : Value → Shared → Prop}
theorem pe_kept {g fF CS : Addr} {k : Nat} {ms : List Lm} {σ : L2.St} {e : Expr} {te : TE} {p pos : Pos} (R : TryT X.K X.mg g) (FT : FieldT X.K X.mg fF) (hS : X.mg "ScanError" = some (.ref CS)) (hg : Gl (alike X s0 H0 env outer ex fn pn xe) "_law_try")
    (cells : ∀ pins' σ' H' s', Inv (alike X s0 H0 env outer ex fn pn xe) pins' σ' H' s' → CellsAt X σ H' s'.heap) (ok : ∀ m ∈ ms, LmOk X m k) (hr : Room (k + 2) X.A) (hr2 : Room 2 X.A) (he : PE (alike X s0 H0 env outer ex fn pn xe) e te)
    (hst : starEach [e] env = (false, eval e env) :: starEach [] env := by rfl) :
    PE (alike X s0 H0 env outer ex fn pn xe) (.Call (.Name "_law_try" p) [e] [] pos) (tKept X CS ms σ te) := by
  obtain ⟨oc, od, kV, doc, pm, an, cdv, ct, osl, lk, hcd⟩ := R.lk
  refine ⟨fun pins s σ' H Q I h => ?_⟩
  refine wpAny_Call_Name_kw (ld_glob I hg R.at_ ?_ (by decide))
  refine PySem.W.callWith_K (h₀ := X.base) I.ok.mod.kin R.kp ?_ hst (by rfl)
  rw [show starEach [e] (alike X s0 H0 env outer ex fn pn xe).env = (false, eval e env) :: starEach [] env from hst]
  refine Calls.spliced_cons (thn (he.run pins s σ' H _ I h) fun u s1 h1 => ?_)
  obtain ⟨v, H1, I1, rv, f, c', fd, m, rfl, hm, hf, li, hc, df, q⟩ := h1
  obtain rfl : u = Value.ref f := rv
  refine Calls.spliced_nil ⟨I1.kIn, ?_⟩
  have C := cells _ _ _ _ I1
  have rc : codeAny (model X.prog X.w) X.A (.call (.ref g) ⟨[.ref f], []⟩) (CR C8.CX0 X.stack X.prog X.w H1 s1 Q C8.E0) s1 := by
    refine run_ofS (N := ["_law_ask", "_law_e"]) (ps := ["_law_ask"]) (us := [.ref f]) (vs := [.ref f]) lk hcd scTry hr I1.env0 ((Binds.all fun us hl => match us, hl with | [_], _ => rfl) s1 [.ref f] I1.kIn rfl) (.cons rfl .nil) rfl fun hr' => ?_
    have G := try_gives (X := alike X s0 H0 env outer ex fn pn xe) (g := g) (cdg := cdv) (q := X.env.qual ++ "<lambda>") (k := 0) FT hS fun s => hr2.deeper _
    have act : ∀ (W : WX) (pn' : List (Addr × Obj)) (xe' : Value → Shared → Prop) (E : XK) (p1 p2 : Pos), Takes ((cxOf C8.CX0 X.prog X.w X.K X.mg X.base ["_law_ask", "_law_e"] "_law_try" (defScope sTry) g cdv X.A X.stack s1 H1 C8.E0).tr pn' xe') W → (∀ cls d σ' H', E cls d H' → W cls d σ' H') →
        PE ((cxOf C8.CX0 X.prog X.w X.K X.mg X.base ["_law_ask", "_law_e"] "_law_try" (defScope sTry) g cdv X.A X.stack s1 H1 C8.E0).tr pn' xe') (.Call (.Name "_law_ask" p1) [] [] p2) (fun σZ HZ Q => σZ[0]? = some (some (.ref f)) ∧ HZ c' = some (CodeO c' (X.env.qual ++ "<lambda>")) ∧ (HZ f = some (LamO f fd) ∧ Dfl HZ m fd ∧ m.t E σ HZ Q)) := by
      intro W pn' xe' E p1 p2 tk hW
      refine ⟨fun pz sz σz Hz Qz Iz hz => ?_⟩
      obtain ⟨z1, z2, z3, z4, z5⟩ := hz
      refine wpAny_Call_Name_kw (thn ((pe_var (pos := p1) (i := 0) rfl (.inl rfl) (by decide) (by decide)).run pz sz σz Hz (fun v G1 => v = .ref f ∧ G1 = Hz) Iz ⟨.ref f, z1, rfl, rfl⟩) fun u s2 h2 => ?_)
      obtain ⟨v, G1, I2, r2, rfl, rfl⟩ := h2
      obtain rfl : u = Value.ref f := r2
      have un : Un (frs X.stack) [] H1 G1 s1.heap s2.heap := I2.base
      have C2 := C.un un fun x c _ => by simp
      have call := lam_run (E := E) (Q := Qz) (ok m hm) C2 I2.env0 hr' I2.nolimit z3 li z2 z4 z5
      refine PySem.W.callWith_F0 ⟨_, _, _, _, (I2.hok f _ z3).1⟩ ?_
      have hx : Passes (L2.CX X.prog X.w) ((cxOf C8.CX0 X.prog X.w X.K X.mg X.base ["_law_ask", "_law_e"] "_law_try" (defScope sTry) g cdv X.A X.stack s1 H1 C8.E0).tr pn' xe') E := passes_call tk hW
      refine wpAny_call (codeAny_mono call fun r s' hq => ?_)
      cases r with
      | error e => exact hx pz σz G1 s2 e s' I2 hq
      | ok fl =>
        cases fl with
        | ret u => exact I2.after hq
        | next => exact False.elim hq
        | brk => exact False.elim hq
        | cont => exact False.elim hq
    obtain ⟨t', ht', hq'⟩ := G f c' s1 H1 Q (fun E H2 Q2 => H2 f = some (LamO f fd) ∧ Dfl H2 m fd ∧ m.t E σ H2 Q2) act hc q
    exact ⟨t', ht'.nox, hq'⟩
  refine wpAny_call (codeAny_mono rc fun r s2 hq => ?_)
  cases r with
  | error e => exact (show False from hq).elim
  | ok fl =>
    cases fl with
    | ret u => exact I1.after hq
    | next => exact False.elim hq
    | brk => exact False.elim hq
    | cont => exact False.elim hq
theorem cells_blk {pins : List (Addr × Obj)} {σ : L2.St} {H : Hp} {s : Shared} {scope : Scope} {ce : Env} {fp : List Addr} (I : Inv X pins σ H s) (hf : ∀ b ∈ fp, FpOk X pins H b) :
    ∀ (pins' : List (Addr × Obj)) (σ' : L2.St) (H' : Hp) (s' : Shared), Inv (X.blk s H scope ce fp) pins' σ' H' s' → CellsAt X σ H' s'.heap := fun _ _ _ _ B => (CellsAt.of I).un B.base fun x c e hc => (hf c hc).2.2.2.2.1 x c e rfl
theorem PE.of {e : Expr} {t t' : TE} (h : PE X e t') (w : ∀ σ H Q, t σ H Q → t' σ H Q) : PE X e t := ⟨fun pins s σ H Q I q => h.run pins s σ H Q I (w σ H Q q)⟩
theorem lcI_list {K : PySem.W.Frag} {a : Addr} {xs : List V} {g : TG} {te : TE} {vs : List Nat} {σ : L2.St} {H1 : Hp} {D : Addr} {Qd : Hp → Prop} (Pv : Nat → Hp → Prop) (h0 : Pv 0 (upd H1 D (.lst []))) (hl : ∀ i H, i ≤ xs.length → Pv i H → SqL K H a xs)
    (hs : ∀ i x H, xs[i]? = some x → Pv i H → g x (wipe σ vs) H fun σ2 H2 => wipe σ2 vs = wipe σ vs ∧ te σ2 H2 fun y H4 => ∃ acc, H4 D = some (.lst acc) ∧ acc.length < sizeLine ∧ Pv (i + 1) (upd H4 D (.lst (acc ++ [y])))) (hd : ∀ H, Pv xs.length H → Qd H) :
    ∃ W : Nat → Nat → Hp → Prop, (∃ m, W 0 m (upd H1 D (.lst []))) ∧ ∀ i m H, W i m H →
      ((Itl K a).stop i H ∧ Qd H) ∨ ((Itl K a).go i H ∧ ∃ Nx : Hp → Prop, (∀ H', Nx H' → ∃ m', m' < m ∧ W (i + 1) m' H') ∧ ∀ x H', (Itl K a).yld i H x H' → g x (wipe σ vs) H' fun σ2 H2 => wipe σ2 vs = wipe σ vs ∧
        te σ2 H2 fun y H4 => ∃ acc, H4 D = some (.lst acc) ∧ acc.length < sizeLine ∧ Nx (upd H4 D (.lst (acc ++ [y])))) :=
  lc_list (tt := tYes) Pv h0 hl hs hd
end
end Lx

namespace Lk
open PySem L2 Lx LamX
/-! ### the least of a tuple of ints, told -/
theorem min_props : ∀ (xs : List Int) (x : Int), PySem.W.minOf x xs ∈ x :: xs ∧ ∀ z ∈ x :: xs, PySem.W.minOf x xs ≤ z
  | [], x => ⟨List.mem_cons_self, fun z hz => by rw [List.mem_singleton.mp hz]; exact Int.le_refl _⟩
  | y :: r, x => by
    have st : PySem.W.minOf x (y :: r) = PySem.W.minOf (if y < x then y else x) r := by
      show PySem.W.minOf (if decide (y < x) = true then y else x) r = _
      by_cases h : y < x
      · rw [if_pos h, if_pos (decide_eq_true h)]
      · rw [if_neg h, if_neg (by rw [decide_eq_false h]; decide)]
    rw [st]
    obtain ⟨h1, h2⟩ := min_props r (if y < x then y else x)
    have h3 := h2 _ List.mem_cons_self
    by_cases h : y < x
    · rw [if_pos h] at h1 h2 h3 ⊢
      refine ⟨List.mem_cons_of_mem _ h1, fun z hz => ?_⟩
      rcases List.mem_cons.mp hz with e | e
      · rw [e]; omega
      · exact h2 z e
    · rw [if_neg h] at h1 h2 h3 ⊢
      refine ⟨?_, fun z hz => ?_⟩
      · rcases List.mem_cons.mp h1 with e | e
        · exact List.mem_cons.mpr (.inl e)
        · exact List.mem_cons_of_mem _ (List.mem_cons_of_mem _ e)
      · rcases List.mem_cons.mp hz with e | e
        · rw [e]; exact h3
        · rcases List.mem_cons.mp e with e | e
          · rw [e]; omega
          · exact h2 z (List.mem_cons_of_mem _ e)
def rMin2 (K : PySem.W.Frag) : List V → Hp → VK → Prop := fun vs H Q => ∃ (a : Addr) (ns : List Int), vs = [V.ref a] ∧ SqT K H a (ns.map V.int) ∧ 0 < ns.length ∧ ∀ m, m ∈ ns → (∀ z ∈ ns, m ≤ z) → Q (.int m) H
theorem cr_min2 {X : Cx} (quiet : X.calm = true) (hu : X.A.units + 1 < cLine) : CallR X (.builtin "min") (rMin2 X.K) := by
  intro pins s σ H vs us Q I r h
  obtain ⟨a, ns, rfl, hs, hne, q⟩ := h
  obtain ⟨its, rv, hl, _⟩ := I.tuple hs
  rw [Vals.ref1 r]
  cases ns with
  | nil => exact absurd hne (by decide)
  | cons x xs =>
    refine PySem.W.min_tuple_datum (α := Int) (x := x) (xs := xs) (I.ok.hd quiet) hl (by simpa using PySem.W.HoldAll.of_ints (h := s.heap) rv.ints) hu fun i v h' tk _ hv hk => ?_
    obtain ⟨as, rd⟩ := hv
    obtain ⟨p1, p2⟩ := min_props xs x
    generalize PySem.W.minOf x xs = m at rd p1 p2
    cases rd with
    | int n t => exact ⟨.int m, H, I.kept hk, ⟨t, rfl⟩, q m p1 p2⟩
/-! ### whether a value is sides -/
def sdB (o : Option (List V)) (c : Int) : Bool := match o with
  | none => false
  | some xs => (decide (1 ≤ xs.length) && decide (xs.length ≤ 3)) && (xs.all isI && xs.all fun x => decide (c ≤ uI x))
theorem sdB_some (xs : List V) (c : Int) : sdB (some xs) c = ((decide (1 ≤ xs.length) && decide (xs.length ≤ 3)) && (xs.all isI && xs.all fun x => decide (c ≤ uI x))) := rfl
theorem ints_isI : ∀ {xs : List V}, xs.all isI = true → xs = (xs.map uI).map V.int
  | [], _ => rfl
  | x :: r, h => by
    obtain ⟨h1, h2⟩ := Bool.and_eq_true_iff.mp (show (isI x && r.all isI) = true from h)
    have ih := ints_isI h2
    cases x with
    | int i =>
      show V.int i :: r = V.int i :: (r.map uI).map V.int
      rw [← ih]
    | _ => cases h1
theorem isI_ints (ns : List Int) : (ns.map V.int).all isI = true := by
  rw [List.all_map]
  exact List.all_eq_true.mpr fun _ _ => rfl
theorem uI_ints (ns : List Int) : (ns.map V.int).map uI = ns := by
  rw [List.map_map]
  exact List.map_id _
def spSidesO (K : PySem.W.Frag) : Sp := fun vs H Q _ => ∃ v c o, vs = [v, .int c] ∧ OD K H v o ∧ ∀ H', Same H H' → Q (.bl (sdB o c)) H'
def B64i (xs : List V) : Prop := ∀ i, V.int i ∈ xs → -(2 ^ 64) < i ∧ i < 2 ^ 64
def spProdB (K : PySem.W.Frag) : Sp := fun vs H Q _ => ∃ (a : Addr) (ns : List Int), vs = [.ref a] ∧ SqT K H a (ns.map V.int) ∧ (∀ z ∈ ns, -(2 ^ 64) < z ∧ z < 2 ^ 64) ∧ Q (.int (prodL ns)) H
section
variable {P : Program} {w : World} {K : PySem.W.Frag} {mg : Str → Option Value} {base : Heap}
theorem ok_prodB {f : Addr} {fd : FuncData} {k : Nat} (F : Fun K "product" "product" sProduct f fd) : FnOk P w K mg base CX0 (k + 1) f fd ["numbers"] (spProdB K) := by
  refine F.ok scProduct (fun vs H Q E h => ?_) (fun cdv A outer s H vs Q E hr h => ?_)
  · obtain ⟨a, ns, rfl, _⟩ := h
    rfl
  · obtain ⟨a, ns, rfl, hS, bd, q⟩ := h
    refine ⟨_, pss_cons (ps_set (i := 1) scProduct.nd rfl (.inl rfl) pe_int)
      (pss_cons (ps_for PassesOwn.never rfl (pi_tup (pv 0)) (pg_name (i := 2) scProduct.nd rfl (.inl rfl)) (pss_one (ps_set (i := 1) scProduct.nd rfl (.inl rfl) (pe_op op_mul (pv 1) (pv 2)))))
      (pss_one (ps_ret (pv 1)))), ?_⟩
    refine ⟨_, rfl, a, rfl, ⟨_, hS⟩, for_tup (K := K) (a := a) (xs := ns.map V.int) (fun i σ H2 => ∃ (v : Option V), σ = [some (.ref a), some (.int (prodL (ns.take i))), v] ∧ H2 = H)
      ⟨none, rfl, rfl⟩ (fun i σ H2 _ ⟨_, _, e⟩ => by rw [e]; exact hS) ?_ ?_⟩
    · rintro i y σ H2 hi ⟨v, rfl, rfl⟩
      obtain ⟨u, hu, rfl⟩ := map_get hi
      have b := bd u (List.mem_of_getElem? hu)
      refine ⟨_, rfl, _, rfl, _, _, rfl, rfl, .inr ⟨b.1, b.2⟩, some (.int u), ?_, rfl⟩
      rw [take_more hu, prodL_app]
      rfl
    · rintro σ H2 ⟨v, rfl, rfl⟩
      refine ⟨_, rfl, ?_⟩
      rw [List.length_map, List.take_length]
      exact q
theorem ok_sidesO {f fN : Addr} {fd fdN : FuncData} {k : Nat} (F : Fun K "are_sides" "are_sides" sAreSides f fd) (ms : mg "isinstance" = none) (mt : mg "tuple" = none) (ml : mg "len" = none) (mm : mg "min" = none) {t3 : Tok} (mD : mg "MAX_DIRECTIONS" = some (.int 3 t3))
    (GN : FnOk P w K mg base CX0 (k + 2) fN fdN ["value", "count"] (spNumsO K)) (kN : PySem.W.keepIn K (.ref fN) = true) (bN : Binds K fdN ["value", "count"] []) (gN : mg "are_numbers" = some (.ref fN)) : FnOk P w K mg base CX0 (k + 3) f fd ["value", "least"] (spSidesO K) := by
  refine F.ok scAreSides (fun vs H Q E h => ?_) (fun cdv A outer s H vs Q E hr h => ?_)
  · obtain ⟨v, c, o, rfl, _⟩ := h
    rfl
  · obtain ⟨v, c, o, rfl, hO, q⟩ := h
    refine ⟨_, pss_cons (ps_if (PW.pt (pw_or (pt_not (pt_val (pe_callB call_isi (by rfl) ms (by decide +kernel) (pa_cons (pv 0) (pa_cons (pe_bltn (v := .ty "tuple") (by rfl) mt (by decide +kernel) rfl) pa_nil)))))
        (pw_or1 (pt_not (pt_chain op_le op_le pe_int (pe_callB call_len_seq (by rfl) ml PySem.boot_len (pa_cons (pv 0) pa_nil)) (pe_glob (v := .int 3) (by rfl) mD ⟨_, rfl⟩)))))) (pss_one (ps_ret pe_bl)) pss_nil)
      (pss_one (ps_ret (pe_and (pe_call GN hr (by rfl) gN kN bN .nil pass0 (pa_cons (pv 0) (pa_cons (pe_callB call_len_seq (by rfl) ml PySem.boot_len (pa_cons (pv 0) pa_nil)) pa_nil)))
        (pe_one (pe_cmpR op_ge (pe_callB (cr_min2 rfl (hu_of hr)) (by rfl) mm (by decide +kernel) (pa_cons (pv 0) pa_nil)) (pv 1) (nomark _)))))), ?_⟩
    cases o with
    | none =>
      have hs : scal v = true := hO
      have qq := q H (Same.refl _)
      cases v with
      | non => exact ⟨_, rfl, _, _, _, _, false, rfl, .ty _, .base .non, kit_ty (by decide +kernel), false, rfl, iteT qq⟩
      | bl x => exact ⟨_, rfl, _, _, _, _, false, rfl, .ty _, .base (.bl x), kit_ty (by decide +kernel), false, rfl, iteT qq⟩
      | int x => exact ⟨_, rfl, _, _, _, _, false, rfl, .ty _, .base (.int x), kit_ty (by decide +kernel), false, rfl, iteT qq⟩
      | str x => exact ⟨_, rfl, _, _, _, _, false, rfl, .ty _, .base (.str x), kit_ty (by decide +kernel), false, rfl, iteT qq⟩
      | _ => cases hs
    | some xs =>
    obtain ⟨a, rfl, hS, h3, h4⟩ := id hO
    refine ⟨_, rfl, _, _, _, _, true, rfl, .ty _, tyT hS, kit_ty (by decide +kernel), true, rfl, iteF ?_⟩
    by_cases l1 : 1 ≤ xs.length
    rotate_left
    · refine ⟨_, rfl, a, _, rfl, .inr hS, _, _, rfl, rfl, false, congrArg V.bl (decide_eq_false (by omega)), iteF ?_⟩
      have e : sdB (some xs) c = false := by
        rw [sdB_some]
        rw [decide_eq_false l1]
        rfl
      have qq := q H (Same.refl _)
      rw [e] at qq
      exact ⟨false, rfl, iteT qq⟩
    refine ⟨_, rfl, a, _, rfl, .inr hS, _, _, rfl, rfl, true, congrArg V.bl (decide_eq_true (by omega)), iteT ?_⟩
    by_cases l3 : xs.length ≤ 3
    rotate_left
    · refine ⟨_, _, rfl, rfl, false, congrArg V.bl (decide_eq_false (by omega)), iteT ?_⟩
      have e : sdB (some xs) c = false := by
        rw [sdB_some]
        rw [decide_eq_false l3, Bool.and_false]
        rfl
      have qq := q H (Same.refl _)
      rw [e] at qq
      exact qq
    refine ⟨_, _, rfl, rfl, true, congrArg V.bl (decide_eq_true (by omega)), iteF ?_⟩
    refine ⟨_, rfl, _, rfl, a, _, rfl, .inr hS, .ref a, _, some xs, rfl, hO, fun H1 sm => ⟨_, rfl, ?_⟩⟩
    have e0 : plB (some xs) (xs.length : Int) = xs.all isI := by
      show (decide ((xs.length : Int) = xs.length) && xs.all isI) = _
      rw [decide_eq_true rfl]
      rfl
    rw [e0]
    have e1 : sdB (some xs) c = (xs.all isI && xs.all fun x => decide (c ≤ uI x)) := by
      rw [sdB_some]
      rw [decide_eq_true l1, decide_eq_true l3]
      rfl
    have qq := q H1 sm
    rw [e1] at qq
    cases hi : xs.all isI with
    | false =>
      rw [hi] at qq
      exact iteF qq
    | true =>
      rw [hi] at qq
      have ex := ints_isI hi
      rw [ex] at hS
      refine iteT ⟨_, rfl, a, xs.map uI, rfl, Same.sqT sm hS, by rw [List.length_map]; omega, fun m hm hle => ⟨_, rfl, _, _, rfl, rfl, ?_⟩⟩
      have e2 : (xs.all fun x => decide (c ≤ uI x)) = decide (c ≤ m) := by
        by_cases h : c ≤ m
        · rw [decide_eq_true h]
          refine List.all_eq_true.mpr fun x hx => decide_eq_true ?_
          have := hle (uI x) (List.mem_map.mpr ⟨x, hx, rfl⟩)
          omega
        · rw [decide_eq_false h]
          obtain ⟨x, hx, e⟩ := List.mem_map.mp hm
          refine Bool.eq_false_iff.mpr fun z => h ?_
          have := of_decide_eq_true (List.all_eq_true.mp z x hx)
          rw [e] at this
          exact this
      rw [e2] at qq
      exact qq
end
end Lk

namespace Lk
open PySem L2 Lx LamX
/-! ### which error divisors call for: 0 none, 1 InvalidDivisors, 2 TooManyClasses -/
def dvE (o : Option (List V)) : Nat := if sdB o 1 = true then (if 12 < prodL (itsI o) then 2 else 0) else 1
def DvK (C1 C2 : Addr) (o : Option (List V)) (H : Hp) (E : XK) : Prop := ∀ (d : Addr) (H' : Hp), (∀ b u, H b = some u → H' b = some u) →
  (dvE o = 1 → H' d = some (.xd [("tag", .str "InvalidDivisors")]) → E (.ref C1) (some d) H') ∧ (dvE o = 2 → H' d = some (.xd (xflds "limit" (.int 12) "TooManyClasses")) → E (.ref C2) (some d) H')
theorem DvK.same {C1 C2 : Addr} {o : Option (List V)} {H H1 : Hp} {E : XK} (k : DvK C1 C2 o H E) (s : Same H H1) : DvK C1 C2 o H1 E := fun d H' e => k d H' fun b u h => e b u (s b u h)
def PlK (CE : Addr) (v : V) (H : Hp) (E : XK) : Prop := ∀ (d : Addr) (H' : Hp), (∀ b u, H b = some u → H' b = some u) → H' d = some (.xd (xflds "given" v "InvalidPlace")) → E (.ref CE) (some d) H'
theorem PlK.same {CE : Addr} {v : V} {H H1 : Hp} {E : XK} (k : PlK CE v H E) (s : Same H H1) : PlK CE v H1 E := fun d H' e => k d H' fun b u h => e b u (s b u h)
theorem sdB_ints {o : Option (List V)} {c : Int} (h : sdB o c = true) : ∃ xs, o = some xs ∧ xs = (xs.map uI).map V.int ∧ 1 ≤ xs.length ∧ xs.length ≤ 3 ∧ ∀ z ∈ xs.map uI, c ≤ z := by
  cases o with
  | none => cases h
  | some xs =>
    rw [sdB_some] at h
    obtain ⟨h1, h2⟩ := Bool.and_eq_true_iff.mp h
    obtain ⟨h3, h4⟩ := Bool.and_eq_true_iff.mp h1
    obtain ⟨h5, h6⟩ := Bool.and_eq_true_iff.mp h2
    refine ⟨xs, rfl, ints_isI h5, of_decide_eq_true h3, of_decide_eq_true h4, fun z hz => ?_⟩
    obtain ⟨x, hx, e⟩ := List.mem_map.mp hz
    have := of_decide_eq_true (List.all_eq_true.mp h6 x hx)
    rw [← e]
    exact this
def spDivX (K : PySem.W.Frag) (C1 C2 : Addr) : Sp := fun vs H _ E => ∃ v o, vs = [v] ∧ OD K H v o ∧ (∀ z ∈ itsI o, -(2 ^ 64) < z ∧ z < 2 ^ 64) ∧ dvE o ≠ 0 ∧ DvK C1 C2 o H E
/-- class_of, refused: bad divisors, or a bad place -/
def spCofX (K : PySem.W.Frag) (C1 C2 CE : Addr) : Sp := fun vs H _ E => ∃ u v, vs = [u, v] ∧
  ((∃ o, OD K H u o ∧ (∀ z ∈ itsI o, -(2 ^ 64) < z ∧ z < 2 ^ 64) ∧ dvE o ≠ 0 ∧ DvK C1 C2 o H E) ∨
   (∃ (a : Addr) (ds : List Int) (o : Option (List V)), u = .ref a ∧ SqT K H a (ds.map V.int) ∧ 1 ≤ ds.length ∧ ds.length ≤ 3 ∧ Divs ds ∧ OD K H v o ∧ plB o (ds.length : Int) = false ∧ PlK CE v H E))
/-- rests_of, refused: bad divisors, or a number that is no class -/
def spRsX (K : PySem.W.Frag) (C1 C2 CE : Addr) : Sp := fun vs H _ E => ∃ (u : V) (c : Int), vs = [u, .int c] ∧
  ((∃ o, OD K H u o ∧ (∀ z ∈ itsI o, -(2 ^ 64) < z ∧ z < 2 ^ 64) ∧ dvE o ≠ 0 ∧ DvK C1 C2 o H E) ∨
   (∃ (a : Addr) (ds : List Int), u = .ref a ∧ SqT K H a (ds.map V.int) ∧ 1 ≤ ds.length ∧ ds.length ≤ 3 ∧ Divs ds ∧ ¬ (0 ≤ c ∧ c < prodL ds) ∧ PlK CE (.int c) H E))
def spRests (K : PySem.W.Frag) : Sp := fun vs H Q _ => ∃ (a : Addr) (ds : List Int) (c : Int), vs = [.ref a, .int c] ∧ SqT K H a (ds.map V.int) ∧ 1 ≤ ds.length ∧ ds.length ≤ 3 ∧ Divs ds ∧ 0 ≤ c ∧ c < prodL ds ∧ ∀ H' p, Same H H' → SqT K H' p ((pAt ds c).map V.int) → Q (.ref p) H'
def spClassOf (K : PySem.W.Frag) : Sp := fun vs H Q _ => ∃ (a c : Addr) (ds ps : List Int), vs = [.ref a, .ref c] ∧ SqT K H a (ds.map V.int) ∧ SqT K H c (ps.map V.int) ∧ ds.length = ps.length ∧ Divs ds ∧ 1 ≤ ds.length ∧ ds.length ≤ 3 ∧ ∀ H', Same H H' → Q (.int (cls ds ps)) H'
section
variable {P : Program} {w : World} {K : PySem.W.Frag} {mg : Str → Option Value} {base : Heap}
theorem ok_chkdivX {f fN fM f1 f2 C1 C2 D1 D2 fS1 fS2 : Addr} {fd fdN fdM fd1 fd2 : FuncData} {k : Nat} (F : Fun K "check_divisors" "check_divisors" sChkDiv f fd) {t3 : Tok} (mC : mg "MAX_CLASSES" = some (.int 12 t3))
    (R1 : RaiseC K mg "InvalidDivisors" C1 D1 fS1 f1) (G1 : FnOk P w K mg base CX0 (k + 2) f1 fd1 ["self"] (spE0 K C1 "InvalidDivisors")) (b1 : Binds K fd1 ["self"] [])
    (R2 : RaiseC K mg "TooManyClasses" C2 D2 fS2 f2) (G2 : FnOk P w K mg base CX0 (k + 2) f2 fd2 ["self", "limit"] (spE1 K C2 "TooManyClasses" "limit")) (b2 : Binds K fd2 ["self", "limit"] [])
    (GN : FnOk P w K mg base CX0 (k + 3) fN fdN ["value", "least"] (spSidesO K)) (kN : PySem.W.keepIn K (.ref fN) = true) (bN : Binds K fdN ["value", "least"] []) (gN : mg "are_sides" = some (.ref fN))
    (GM : FnOk P w K mg base CX0 (k + 1) fM fdM ["numbers"] (spProdB K)) (kM : PySem.W.keepIn K (.ref fM) = true) (bM : Binds K fdM ["numbers"] []) (gM : mg "product" = some (.ref fM)) : FnOk P w K mg base (L2.CX P w) (k + 4) f fd ["divisors"] (spDivX K C1 C2) := by
  refine F.okX scChkDiv (fun vs H Q E h => ?_) (fun cdv A outer s H vs Q E hr h => ?_)
  · obtain ⟨v, o, rfl, _⟩ := h
    rfl
  · obtain ⟨v, o, rfl, hO, bd, hne, q⟩ := h
    have hr1 : Room (k + 1) _ := hr.mono (by omega)
    refine ⟨_, pss_cons (ps_if (pt_not (pt_val (pe_call GN hr (by rfl) gN kN bN .nil pass0 (pa_cons (pv 0) (pa_cons pe_int pa_nil)))))
        (pss_one (ps_raise rfl (takes_of rfl rfl rfl rfl) (pmk_oex0 R1.er.ox R1.iC R1.tI G1 hr b1 pass0 (by rfl) R1.at_))) pss_nil)
      (pss_one (ps_if (pt_cmpR op_gt (pe_call GM hr1 (by rfl) gM kM bM .nil pass0 (pa_cons (pv 0) pa_nil)) (pe_glob (v := .int 12) (by rfl) mC ⟨_, rfl⟩) (nomark _))
        (pss_one (ps_raise rfl (takes_of rfl rfl rfl rfl) (pmk_oex R2.er.ox R2.iC R2.tI G2 hr b2 .nil pass0 (by rfl) R2.at_ (pa_cons (pe_glob (v := .int 12) (by rfl) mC ⟨_, rfl⟩) pa_nil)))) pss_nil)), ?_⟩
    refine ⟨_, rfl, v, 1, o, rfl, hO, fun H1 sm => ⟨_, rfl, ?_⟩⟩
    have q1 := q.same sm
    cases hs : sdB o 1 with
    | false =>
      have e : dvE o = 1 := by
        unfold dvE
        rw [hs]
        rfl
      refine iteT fun a na => ⟨a, rfl, upd_same, fun dx nd ne => ?_⟩
      have nd' : H1 dx = none := by rw [← nd, upd_ne ne]
      refine ⟨rfl, dx, _, upd_same, by rw [upd_ne ne, upd_same], nd', (q1 dx _ fun b u h => ?_).1 e upd_same⟩
      have hb : b ≠ a := ne_of_none h na
      have hd : b ≠ dx := ne_of_none h nd'
      rw [upd_ne hd, del_ne hb, upd_ne hb, upd_ne hd, upd_ne hb]
      exact h
    | true =>
      obtain ⟨xs, rfl, ex, l1, l3, hz⟩ := sdB_ints hs
      have e : dvE (some xs) = if 12 < prodL (xs.map uI) then 2 else 0 := by
        unfold dvE
        rw [hs]
        rfl
      have hp : 12 < prodL (xs.map uI) := by
        refine Decidable.byContradiction fun z => hne ?_
        rw [e, if_neg z]
      have e2 : dvE (some xs) = 2 := by rw [e, if_pos hp]
      obtain ⟨a, rfl, hS, _⟩ := id hO
      rw [ex] at hS
      refine iteF ⟨_, rfl, a, xs.map uI, rfl, Same.sqT sm hS, bd, _, _, rfl, rfl, true, congrArg V.bl (decide_eq_true hp), iteT ⟨(by show 1 ≤ 1000; decide), fun b nb => ⟨b, .int 12, rfl, upd_same, fun dx nd ne => ⟨rfl, dx, _, ?_, upd_same, ?_, ?_⟩⟩⟩⟩
      · rw [upd_ne (Ne.symm ne), upd_same]
      · rw [← nd, upd_ne ne]
      · have nd' : H1 dx = none := by rw [← nd, upd_ne ne]
        exact (q1 dx _ fun c u h => made_ext (C := C2) nb nd' c u h).2 e2 upd_same
theorem ok_ccX {f fN C1 C2 : Addr} {fd fdN : FuncData} {k : Nat} (F : Fun K "class_count" "class_count" sClassCount f fd)
    (GN : FnOk P w K mg base (L2.CX P w) (k + 4) fN fdN ["divisors"] (spDivX K C1 C2)) (kN : PySem.W.keepIn K (.ref fN) = true) (bN : Binds K fdN ["divisors"] []) (gN : mg "check_divisors" = some (.ref fN)) : FnOk P w K mg base (L2.CX P w) (k + 5) f fd ["divisors"] (spDivX K C1 C2) := by
  refine F.okX scClassCount (fun vs H Q E h => ?_) (fun cdv A outer s H vs Q E hr h => ?_)
  · obtain ⟨v, o, rfl, _⟩ := h
    rfl
  · obtain ⟨v, o, rfl, hO, bd, hne, q⟩ := h
    exact ⟨_, pss_cons (ps_expr (pe_call GN hr (by rfl) gN kN bN .nil (passes_call (E := E) (takes_of rfl rfl rfl rfl) (fun _ _ _ _ h => h)) (pa_cons (pv 0) pa_nil))) pss_never, _, rfl, v, o, rfl, hO, bd, hne, q⟩
theorem ok_classof {f fN fC fL : Addr} {fd fdN fdC fdL : FuncData} {k : Nat} (F : Fun K "class_of" "class_of" sClassOf f fd) (ml : mg "len" = none)
    (GN : FnOk P w K mg base CX0 (k + 4) fN fdN ["divisors"] (spChkDiv K)) (kN : PySem.W.keepIn K (.ref fN) = true) (bN : Binds K fdN ["divisors"] []) (gN : mg "check_divisors" = some (.ref fN))
    (GC : FnOk P w K mg base CX0 (k + 3) fC fdC ["place", "directions"] (spChkPlace K)) (kC : PySem.W.keepIn K (.ref fC) = true) (bC : Binds K fdC ["place", "directions"] []) (gC : mg "check_place" = some (.ref fC))
    (GL : FnOk P w K mg base CX0 (k + 1) fL fdL ["divisors", "place"] (spClassAt K)) (kL : PySem.W.keepIn K (.ref fL) = true) (bL : Binds K fdL ["divisors", "place"] []) (gL : mg "class_at" = some (.ref fL)) :
    FnOk P w K mg base CX0 (k + 5) f fd ["divisors", "place"] (spClassOf K) := by
  refine F.ok scClassOf (fun vs H Q E h => ?_) (fun cdv A outer s H vs Q E hr h => ?_)
  · obtain ⟨a, c, ds, ps, rfl, _⟩ := h
    rfl
  · obtain ⟨a, c, ds, ps, rfl, hA, hB, hl, D, h1, h3, q⟩ := h
    have hr1 : Room (k + 1) _ := hr.mono (by omega)
    have hr3 : Room (k + 3) _ := hr.mono (by omega)
    refine ⟨_, pss_cons (ps_expr (pe_call GN hr (by rfl) gN kN bN .nil pass0 (pa_cons (pv 0) pa_nil)))
      (pss_cons (ps_expr (pe_call GC hr3 (by rfl) gC kC bC .nil pass0 (pa_cons (pv 1) (pa_cons (pe_callB call_len_seq (by rfl) ml PySem.boot_len (pa_cons (pv 0) pa_nil)) pa_nil))))
      (pss_one (ps_ret (pe_call GL hr1 (by rfl) gL kL bL .nil pass0 (pa_cons (pv 0) (pa_cons (pv 1) pa_nil)))))), ?_⟩
    refine ⟨_, rfl, a, ds, rfl, hA, h1, h3, D, fun H1 sm => ?_⟩
    refine ⟨_, rfl, _, rfl, a, _, rfl, .inr (Same.sqT sm hA), c, ps, _, rfl, Same.sqT sm hB, by rw [List.length_map, hl], by omega, fun H2 s2 => ?_⟩
    have s02 := sm.trans s2
    exact ⟨_, rfl, _, rfl, a, c, ds, ps, rfl, Same.sqT s02 hA, Same.sqT s02 hB, hl, D, fun H3 s3 => q H3 (s02.trans s3)⟩
theorem ok_cofX {f fN fC C1 C2 CE : Addr} {fd fdN fdC : FuncData} {k : Nat} (F : Fun K "class_of" "class_of" sClassOf f fd) (ml : mg "len" = none)
    (GN : FnOk P w K mg base CX0 (k + 4) fN fdN ["divisors"] (spChkDiv K)) (GX : FnOk P w K mg base (L2.CX P w) (k + 4) fN fdN ["divisors"] (spDivX K C1 C2)) (kN : PySem.W.keepIn K (.ref fN) = true) (bN : Binds K fdN ["divisors"] []) (gN : mg "check_divisors" = some (.ref fN))
    (GC : FnOk P w K mg base (L2.CX P w) (k + 4) fC fdC ["place", "directions"] (spChkX K CE)) (kC : PySem.W.keepIn K (.ref fC) = true) (bC : Binds K fdC ["place", "directions"] []) (gC : mg "check_place" = some (.ref fC)) :
    FnOk P w K mg base (L2.CX P w) (k + 5) f fd ["divisors", "place"] (spCofX K C1 C2 CE) := by
  refine F.okX scClassOf (fun vs H Q E h => ?_) (fun cdv A outer s H vs Q E hr h => ?_)
  · obtain ⟨u, v, rfl, _⟩ := h
    rfl
  · obtain ⟨u, v, rfl, ⟨o, hO, bd, hne, q⟩ | ⟨a, ds, o, rfl, hS, l1, l3, D, hO, hp, q⟩⟩ := h
    · exact ⟨_, pss_cons (ps_expr (pe_call GX hr (by rfl) gN kN bN .nil (passes_call (E := E) (takes_of rfl rfl rfl rfl) (fun _ _ _ _ h => h)) (pa_cons (pv 0) pa_nil))) pss_never, _, rfl, u, o, rfl, hO, bd, hne, q⟩
    · refine ⟨_, pss_cons (ps_expr (pe_call GN hr (by rfl) gN kN bN .nil pass0 (pa_cons (pv 0) pa_nil)))
        (pss_cons (ps_expr (pe_call GC hr (by rfl) gC kC bC .nil (passes_call (E := E) (takes_of rfl rfl rfl rfl) (fun _ _ _ _ h => h)) (pa_cons (pv 1) (pa_cons (pe_callB call_len_seq (by rfl) ml PySem.boot_len (pa_cons (pv 0) pa_nil)) pa_nil)))) pss_never), ?_⟩
      refine ⟨_, rfl, a, ds, rfl, hS, l1, l3, D, fun H1 sm => ?_⟩
      have ld : ((ds.map V.int).length : Int) = (ds.length : Int) := by rw [List.length_map]
      refine ⟨_, rfl, _, rfl, a, _, rfl, .inr (Same.sqT sm hS), ?_⟩
      rw [ld]
      exact ⟨v, _, o, rfl, hO.mono (Same.tups sm), hp, q.same sm⟩
theorem ok_rests {f fN fI fL : Addr} {fd fdN fdI fdL : FuncData} {k : Nat} (F : Fun K "rests_of" "rests_of" sRestsOf f fd)
    (GN : FnOk P w K mg base CX0 (k + 5) fN fdN ["divisors"] (spClassCount K)) (kN : PySem.W.keepIn K (.ref fN) = true) (bN : Binds K fdN ["divisors"] []) (gN : mg "class_count" = some (.ref fN))
    (GI : FnOk P w K mg base CX0 (k + 1) fI fdI ["value"] spIsNum) (kI : PySem.W.keepIn K (.ref fI) = true) (bI : Binds K fdI ["value"] []) (gI : mg "is_number" = some (.ref fI))
    (GL : FnOk P w K mg base CX0 (k + 1) fL fdL ["sides", "number"] (spPlaceAt K)) (kL : PySem.W.keepIn K (.ref fL) = true) (bL : Binds K fdL ["sides", "number"] []) (gL : mg "place_at" = some (.ref fL)) :
    FnOk P w K mg base CX0 (k + 6) f fd ["divisors", "number"] (spRests K) := by
  refine F.ok scRestsOf (fun vs H Q E h => ?_) (fun cdv A outer s H vs Q E hr h => ?_)
  · obtain ⟨a, ds, c, rfl, _⟩ := h
    rfl
  · obtain ⟨a, ds, c, rfl, hS, l1, l3, D, c0, c1, q⟩ := h
    have hr1 : Room (k + 1) _ := hr.mono (by omega)
    refine ⟨_, pss_cons (ps_set (i := 2) scRestsOf.nd rfl (.inl rfl) (pe_call GN hr (by rfl) gN kN bN .nil pass0 (pa_cons (pv 0) pa_nil)))
      (pss_cons (ps_if (PW.pt (pw_or (pt_not (pt_val (pe_call GI hr1 (by rfl) gI kI bI .nil pass0 (pa_cons (pv 1) pa_nil)))) (pw_or1 (pt_not (pt_chain op_le op_lt pe_int (pv 1) (pv 2)))))) pss_never pss_nil)
      (pss_one (ps_ret (pe_call GL hr1 (by rfl) gL kL bL .nil pass0 (pa_cons (pv 0) (pa_cons (pv 1) pa_nil)))))), ?_⟩
    refine ⟨_, rfl, a, ds, rfl, hS, l1, l3, D, fun H1 sm => ?_⟩
    refine ⟨_, rfl, c, rfl, true, rfl, iteF ?_⟩
    refine ⟨_, rfl, _, _, rfl, rfl, true, congrArg V.bl (decide_eq_true c0), iteT ⟨_, rfl, _, _, rfl, rfl, true, congrArg V.bl (decide_eq_true c1), iteF ?_⟩⟩
    exact ⟨_, rfl, _, rfl, a, ds, c, rfl, Same.sqT sm hS, D, l3, fun H2 p s2 h2 => q H2 p (sm.trans s2) h2⟩
theorem ok_rsX {f fN fI fE C1 C2 CE DE fSE : Addr} {fd fdN fdI fdE : FuncData} {k : Nat} (F : Fun K "rests_of" "rests_of" sRestsOf f fd)
    (GN : FnOk P w K mg base CX0 (k + 5) fN fdN ["divisors"] (spClassCount K)) (GX : FnOk P w K mg base (L2.CX P w) (k + 5) fN fdN ["divisors"] (spDivX K C1 C2)) (kN : PySem.W.keepIn K (.ref fN) = true) (bN : Binds K fdN ["divisors"] []) (gN : mg "class_count" = some (.ref fN))
    (GI : FnOk P w K mg base CX0 (k + 1) fI fdI ["value"] spIsNum) (kI : PySem.W.keepIn K (.ref fI) = true) (bI : Binds K fdI ["value"] []) (gI : mg "is_number" = some (.ref fI))
    (R : RaiseC K mg "InvalidPlace" CE DE fSE fE) (GE : FnOk P w K mg base CX0 (k + 2) fE fdE ["self", "given"] (spE1 K CE "InvalidPlace" "given")) (bE : Binds K fdE ["self", "given"] []) :
    FnOk P w K mg base (L2.CX P w) (k + 6) f fd ["divisors", "number"] (spRsX K C1 C2 CE) := by
  refine F.okX scRestsOf (fun vs H Q E h => ?_) (fun cdv A outer s H vs Q E hr h => ?_)
  · obtain ⟨u, c, rfl, _⟩ := h
    rfl
  · have hr1 : Room (k + 1) _ := hr.mono (by omega)
    have hr3 : Room (k + 2 + 1) _ := hr.mono (by omega)
    obtain ⟨u, c, rfl, ⟨o, hO, bd, hne, q⟩ | ⟨a, ds, rfl, hS, l1, l3, D, hc, q⟩⟩ := h
    · exact ⟨_, pss_cons (ps_set (i := 2) scRestsOf.nd rfl (.inl rfl) (pe_call GX hr (by rfl) gN kN bN .nil (passes_call (E := E) (takes_of rfl rfl rfl rfl) (fun _ _ _ _ h => h)) (pa_cons (pv 0) pa_nil))) pss_never, _, rfl, u, o, rfl, hO, bd, hne, q⟩
    · refine ⟨_, pss_cons (ps_set (i := 2) scRestsOf.nd rfl (.inl rfl) (pe_call GN hr (by rfl) gN kN bN .nil pass0 (pa_cons (pv 0) pa_nil)))
        (pss_cons (ps_if (PW.pt (pw_or (pt_not (pt_val (pe_call GI hr1 (by rfl) gI kI bI .nil pass0 (pa_cons (pv 1) pa_nil)))) (pw_or1 (pt_not (pt_chain op_le op_lt pe_int (pv 1) (pv 2))))))
          (pss_one (ps_raise rfl (takes_of rfl rfl rfl rfl) (pmk_oex R.er.ox R.iC R.tI GE hr3 bE .nil pass0 (by rfl) R.at_ (pa_cons (pv 1) pa_nil)))) pss_nil) pss_never), ?_⟩
      refine ⟨_, rfl, a, ds, rfl, hS, l1, l3, D, fun H1 sm => ?_⟩
      have go : ∃ v, [some (V.ref a), some (V.int c), some (V.int (prodL ds))][1]? = some (some v) ∧ ([v] : List V).length ≤ 1000 ∧ ∀ b, H1 b = none → spE1 K CE "InvalidPlace" "given" (.ref b :: ([v] ++ [])) (upd H1 b (exo b CE none)) (fun x H2 => x = .non ∧ ∃ (d : Addr) (fs : List (Str × V)), H2 b = some (exo b CE (some d)) ∧ H2 d = some (exd d fs) ∧ H1 d = none ∧ E (.ref CE) (some d) (upd (del H2 b) d (.xd fs))) (fun _ _ _ => False) := by
        refine ⟨_, rfl, (by show 1 ≤ 1000; decide), fun b nb => ⟨b, .int c, rfl, upd_same, fun dx nd ne => ⟨rfl, dx, _, ?_, upd_same, ?_, ?_⟩⟩⟩
        · rw [upd_ne (Ne.symm ne), upd_same]
        · rw [← nd, upd_ne ne]
        · have nd' : H1 dx = none := by rw [← nd, upd_ne ne]
          exact (q.same sm) dx _ (fun b' u h => made_ext (C := CE) nb nd' b' u h) upd_same
      refine ⟨_, rfl, c, rfl, true, rfl, iteF ?_⟩
      by_cases c0 : 0 ≤ c
      · refine ⟨_, rfl, _, _, rfl, rfl, true, congrArg V.bl (decide_eq_true c0), iteT ⟨_, rfl, _, _, rfl, rfl, false, congrArg V.bl (decide_eq_false fun z => hc ⟨c0, z⟩), iteT go⟩⟩
      · exact ⟨_, rfl, _, _, rfl, rfl, false, congrArg V.bl (decide_eq_false c0), iteF ⟨false, rfl, iteT go⟩⟩
end
end Lk

namespace Lk
open PySem L2 Lx LamX
/-! ### the cells of a box -/
def stepC (found : List (List Int)) (s : Int) : List (List Int) := found.flatMap fun c => (rng0 s.toNat).map fun a => c ++ [a]
def cellsL (ds : List Int) : List (List Int) := ds.foldl stepC [[]]
theorem cellsL_snoc (ds : List Int) (d : Int) : cellsL (ds ++ [d]) = stepC (cellsL ds) d := by
  unfold cellsL
  rw [List.foldl_append]
  rfl
theorem range_mul {α : Type} (g : Nat → α) (m : Nat) : ∀ n : Nat, (List.range (n * m)).map g = (List.range n).flatMap fun q => (List.range m).map fun r => g (q * m + r)
  | 0 => by simp
  | n + 1 => by
    rw [Nat.succ_mul, List.range_add, List.map_append, range_mul g m n, List.range_succ, List.flatMap_append, List.map_map]
    simp [Function.comp_def]
theorem pAt_snoc (ds : List Int) (d c : Int) : pAt (ds ++ [d]) c = pAt ds (c / d) ++ [c % d] := by
  unfold pAt
  rw [List.reverse_append]
  show (restsR (d :: ds.reverse) c).reverse = _
  show ((c % d) :: restsR ds.reverse (c / d)).reverse = _
  rw [List.reverse_cons]
theorem cells_rev : ∀ r : List Int, (∀ z ∈ r, 1 ≤ z) → cellsL r.reverse = (List.range (prodL r.reverse).toNat).map fun (k : Nat) => pAt r.reverse (k : Int)
  | [], _ => rfl
  | x :: r, h => by
    have hx : 1 ≤ x := h x List.mem_cons_self
    obtain ⟨m, rfl⟩ : ∃ m : Nat, x = (m : Int) := ⟨x.toNat, by omega⟩
    have ih := cells_rev r fun z hz => h z (List.mem_cons_of_mem _ hz)
    have hp : 0 ≤ prodL r.reverse := by
      have := prodL_pos (l := r.reverse) fun z hz => h z (List.mem_cons_of_mem _ (List.mem_reverse.mp hz))
      omega
    rw [List.reverse_cons, cellsL_snoc, ih, prodL_app]
    obtain ⟨n, hn⟩ : ∃ n : Nat, prodL r.reverse = (n : Int) := ⟨(prodL r.reverse).toNat, by omega⟩
    rw [hn]
    have e1 : ((n : Int) * (m : Int)).toNat = n * m := by
      rw [← Int.natCast_mul]
      rfl
    rw [e1, range_mul]
    unfold stepC
    rw [List.flatMap_map]
    refine congrArg (fun f => List.flatMap f (List.range n)) (funext fun q => ?_)
    have e2 : ((m : Int)).toNat = m := rfl
    unfold rng0
    rw [e2, List.map_map]
    refine List.map_congr_left fun a ha => ?_
    have ham : a < m := List.mem_range.mp ha
    show pAt r.reverse (q : Int) ++ [(a : Int)] = pAt (r.reverse ++ [(m : Int)]) ((q * m + a : Nat) : Int)
    rw [pAt_snoc]
    have d1 : ((q * m + a : Nat) : Int) / (m : Int) = (q : Int) := by
      rw [← Int.natCast_ediv, Nat.mul_comm, Nat.mul_add_div (by omega), Nat.div_eq_of_lt ham]
      rfl
    have d2 : ((q * m + a : Nat) : Int) % (m : Int) = (a : Int) := by
      rw [← Int.natCast_emod, Nat.mul_comm, Nat.mul_add_mod, Nat.mod_eq_of_lt ham]
    rw [d1, d2]
theorem cells_pAt {ds : List Int} (h : ∀ z ∈ ds, 1 ≤ z) : cellsL ds = (List.range (prodL ds).toNat).map fun (k : Nat) => pAt ds (k : Int) := by
  have := cells_rev ds.reverse fun z hz => h z (List.mem_reverse.mp hz)
  rw [List.reverse_reverse] at this
  exact this
end Lk

namespace Lk
open PySem L2 Lx LamX
theorem HdsAt.apps {K : PySem.W.Frag} {H : Hp} : ∀ {l m : List (List Int)} {ws us : List V}, HdsAt K H l ws → HdsAt K H m us → HdsAt K H (l ++ m) (ws ++ us)
  | [], m, _, us, h, q => by
    have h : _ = [] := h
    rw [h]
    exact q
  | c :: r, m, _, us, ⟨a, wr, h1, h2, h3⟩, q => ⟨a, wr ++ us, by rw [h1]; rfl, h2, HdsAt.apps h3 q⟩
def spLCells (K : PySem.W.Frag) : Sp := fun vs H Q _ => ∃ (a : Addr) (ds : List Int), vs = [.ref a] ∧ SqT K H a (ds.map V.int) ∧ (∀ z ∈ ds, 0 ≤ z ∧ z ≤ 2000) ∧ (∀ i, (cellsL (ds.take i)).length ≤ 2000) ∧ ds.length ≤ 3 ∧
  ∀ H' p ws, Same H H' → H p = none → H' p = some (.lst ws) → HdsAt K H' (cellsL ds) ws → Q (.ref p) H'
theorem size2000 {n : Nat} (h : n ≤ 10000) : n < sizeLine := Nat.lt_of_le_of_lt h (by decide)
theorem cells_lens : ∀ (ds : List Int) (c : List Int), c ∈ cellsL ds → c.length = ds.length := by
  have key : ∀ (ds : List Int) (f : List (List Int)) (n : Nat), (∀ c ∈ f, c.length = n) → ∀ c ∈ ds.foldl stepC f, c.length = n + ds.length := by
    intro ds
    induction ds with
    | nil => intro f n h c hc; exact h c hc
    | cons d r ih =>
      intro f n h c hc
      have := ih (stepC f d) (n + 1) (fun c hc => by
        obtain ⟨x, hx, hc⟩ := List.mem_flatMap.mp hc
        obtain ⟨a, _, rfl⟩ := List.mem_map.mp hc
        rw [List.length_append, h x hx]
        rfl) c hc
      rw [this, List.length_cons]
      omega
  intro ds c hc
  have := key ds [[]] 0 (fun c hc => by rw [List.mem_singleton.mp hc]; rfl) c hc
  omega
section
variable {P : Program} {w : World} {K : PySem.W.Frag} {mg : Str → Option Value} {base : Heap}
theorem ok_lcells {f : Addr} {fd : FuncData} {k : Nat} (F : Fun K "_law_cells" "_law_cells" sLCells f fd) (mr : mg "range" = none) : FnOk P w K mg base CX0 (k + 1) f fd ["_law_box"] (spLCells K) := by
  refine F.ok scLCells (fun vs H Q E h => ?_) (fun cdv A outer s H vs Q E hr h => ?_)
  · obtain ⟨a, ds, rfl, _⟩ := h
    rfl
  · obtain ⟨a, ds, rfl, hS, hz, hb, h3, q⟩ := h
    refine ⟨_, pss_cons (ps_set (i := 1) scLCells.nd rfl (.inl rfl) (pe_lst (pa_cons (pe_tup pa_nil) pa_nil)))
      (pss_cons (ps_for PassesOwn.never rfl (pi_tup (pv 0)) (pg_name (i := 2) scLCells.nd rfl (.inl rfl))
        (pss_cons (ps_set (i := 3) scLCells.nd rfl (.inl rfl) (pe_lst pa_nil))
        (pss_cons (ps_for PassesOwn.never rfl (pi_list (pv 1)) (pg_name (i := 4) scLCells.nd rfl (.inr rfl))
          (pss_one (ps_set (i := 3) scLCells.nd rfl (.inl rfl) (pe_op op_cat (pv 3) (pe_lc (own := [("_law_at", 5)]) (g := gName 5) (te := tOp (rCatA K) (tVar 4) (tTup (tCons (tVar 5) tNil))) (by rfl) scLCells.nd (pi_range1 (by rfl) mr (pa_cons (pv 2) pa_nil))
            (blkOk_by (own := [("_law_at", 5)]) (N := ["_law_box", "_law_found", "_law_side", "_law_rows", "_law_cell", "_law_at"]) (sc := defScope sLCells) (by decide +kernel))
            (fun _ _ _ _ _ => pg_name (i := 5) scLCells.nd rfl (Or.inl rfl)) (fun _ _ _ _ _ => pts_nil)
            (fun _ _ _ _ _ => pe_op op_catA (pv 4) (pe_tup (pa_cons (pv 5) pa_nil))))))))
        (pss_one (ps_set (i := 1) scLCells.nd rfl (.inl rfl) (pv 3))))))
      (pss_one (ps_ret (pv 1)))), ?_⟩
    refine ⟨(by show 0 ≤ sizeLine; decide), fun e0 ne0 => ⟨(by show 1 ≤ sizeLine; decide), fun F0 nF0 => ?_⟩⟩
    have s0 : Same H (upd (upd H e0 (.tup [])) F0 (.lst [.ref e0])) := (same_new ne0).trans (same_new nF0)
    refine ⟨_, rfl, a, rfl, ⟨_, Same.sqT s0 hS⟩, for_tup (K := K) (a := a) (xs := ds.map V.int) (fun i σ G => ∃ (Fa : Addr) (ws : List V) (v2 v3 v4 : Option V), σ = [some (.ref a), some (.ref Fa), v2, v3, v4, none] ∧ Same H G ∧ H Fa = none ∧ G Fa = some (.lst ws) ∧ HdsAt K G (cellsL (ds.take i)) ws)
      ⟨F0, _, none, none, none, rfl, s0, (same_new ne0).free nF0, upd_same, e0, [], rfl, Same.sqT (same_new nF0) (SqT.of upd_same), rfl⟩ (fun i σ G _ ⟨_, _, _, _, _, _, sm, _⟩ => Same.sqT sm hS) ?_ ?_⟩
    · rintro i y σ G hi ⟨Fa, ws, v2, v3, v4, rfl, sm, nF, hF, hW⟩
      obtain ⟨sd, hsd, rfl⟩ := map_get hi
      have bsd := hz sd (List.mem_of_getElem? hsd)
      have lw := hW.len
      have bw := hb i
      refine ⟨Nat.zero_le _, fun R0 nR0 => ?_⟩
      have sR := same_new (o := .lst []) nR0
      refine ⟨_, rfl, Fa, rfl, ⟨_, SqL.of (sR _ _ hF)⟩, for_list (K := K) (a := Fa) (xs := ws) (fun j σ G2 => ∃ (R : Addr) (rs : List V) (v4 : Option V), σ = [some (.ref a), some (.ref Fa), some (.int sd), some (.ref R), v4, none] ∧ Same G G2 ∧ H R = none ∧ G2 R = some (.lst rs) ∧ HdsAt K G2 (stepC ((cellsL (ds.take i)).take j) sd) rs)
        ⟨R0, [], v4, rfl, sR, sm.free nR0, upd_same, rfl⟩ (fun j σ G2 _ ⟨_, _, _, _, s2, _⟩ => SqL.of (s2 _ _ hF)) ?_ ?_⟩
      · rintro j y σ G2 hj ⟨R, rs, v4', rfl, s2, nR, hR, hRs⟩
        obtain ⟨c, ca, hc, rfl, hca⟩ := (hW.mono (Same.tups s2)).get hj
        have lj : j < ws.length := (List.getElem?_eq_some_iff.mp hj).1
        have lc := cells_lens _ _ (List.mem_of_getElem? hc)
        have l3 : (ds.take i).length ≤ 3 := Nat.le_trans (List.length_take_le' _ _) h3
        refine ⟨_, rfl, _, rfl, sd, rfl, by omega, by omega, fun D nD => ?_⟩
        refine lc_range (lo := 0) (n := sd.toNat) (fun m G3 => ∃ us, Same G2 G3 ∧ G3 D = some (.lst us) ∧ HdsAt K G3 (((rng0 sd.toNat).take m).map fun at_ => c ++ [at_]) us) ⟨[], same_new nD, upd_same, rfl⟩ ?_ ?_
        · rintro m G3 hm ⟨us, s3, hD, hU⟩
          have lu := hU.len
          refine ⟨rfl, _, rfl, _, rfl, (by show 1 ≤ sizeLine; decide), fun t nt => ?_⟩
          have st := same_new (o := .tup [.int (0 + (m : Int))]) nt
          refine cat_reads (Same.sqT (s3.trans st) hca) (SqT.of upd_same) (by rw [List.length_map]; show c.length + 1 ≤ 1000; omega) fun G4 r s4 g4 => ?_
          have s34 := st.trans s4
          have hD4 := s34 _ _ hD
          have tu : Tups K G4 (upd G4 D (.lst (us ++ [.ref r]))) := tups_lst hD4
          refine ⟨us, hD4, ?_, us ++ [.ref r], Same.upd_out (s3.trans s34) nD, upd_same, ?_⟩
          · rw [lu, List.length_map, List.length_take, rng0_len]
            exact size2000 (by omega)
          · have gm : (rng0 sd.toNat)[m]? = some (m : Int) := rng0_get hm
            rw [take_more gm, List.map_append]
            refine HdsAt.app (HdsAt.mono (fun x zs e => tu x zs (Same.tups s34 x zs e)) hU) (tu _ _ ?_)
            have e : (c ++ [(m : Int)]).map V.int = c.map V.int ++ [V.int (0 + (m : Int))] := by
              rw [List.map_append, Int.zero_add]
              rfl
            rw [e]
            exact g4
        · rintro G3 ⟨us, s3, hD, hU⟩
          rw [List.take_of_length_le (by rw [rng0_len]; exact Nat.le_refl _)] at hU
          have lu := hU.len
          have lr := hRs.len
          rw [List.length_map, rng0_len] at lu
          have hR3 := s3 _ _ hR
          have blr : rs.length ≤ 2000 * 2000 := by
            rw [lr]
            unfold stepC
            rw [List.length_flatMap]
            have : ∀ l : List (List Int), (l.map fun c => ((rng0 sd.toNat).map fun a => c ++ [a]).length).sum = l.length * sd.toNat := fun l => by
              induction l with
              | nil => simp
              | cons x r ih => rw [List.map_cons, List.sum_cons, ih, List.length_map, rng0_len, List.length_cons, Nat.succ_mul]; omega
            rw [this]
            refine Nat.mul_le_mul ?_ (by omega)
            rw [List.length_take]
            omega
          refine ⟨R, D, rs, us, rfl, rfl, hR3, hD, ?_, fun p np => ?_⟩
          · have : (2000 : Nat) * 2000 + 2000 ≤ sizeLine := by decide
            omega
          · refine ⟨p, rs ++ us, _, rfl, (s2.trans s3).trans (same_new np), (sm.trans (s2.trans s3)).free np, upd_same, ?_⟩
            have e : stepC ((cellsL (ds.take i)).take (j + 1)) sd = stepC ((cellsL (ds.take i)).take j) sd ++ (rng0 sd.toNat).map fun a => c ++ [a] := by
              unfold stepC
              rw [take_more hc, List.flatMap_append]
              simp
            rw [e]
            exact HdsAt.apps (HdsAt.mono (Same.tups (s3.trans (same_new np))) hRs) (HdsAt.mono (Same.tups (same_new np)) hU)
      · rintro σ G2 ⟨R, rs, v4', rfl, s2, nR, hR, hRs⟩
        rw [List.take_of_length_le (by omega)] at hRs
        refine ⟨_, rfl, R, rs, _, _, _, rfl, sm.trans s2, nR, hR, ?_⟩
        rw [take_more hsd, cellsL_snoc]
        exact hRs
    · rintro σ G ⟨Fa, ws, v2, v3, v4, rfl, sm, nF, hF, hW⟩
      rw [List.length_map, List.take_length] at hW
      exact ⟨_, rfl, q G Fa ws sm nF hF hW⟩
end
end Lk

namespace Lk
open PySem L2 Lx LamX
def dTag (o : Option (List V)) : Str := if dvE o = 0 then "value" else if dvE o = 1 then "InvalidDivisors" else "TooManyClasses"
def dFld (o : Option (List V)) : V := if dvE o = 2 then .int 12 else .non
def spDErr (K : PySem.W.Frag) : Sp := fun vs H Q _ => ∃ v o, vs = [v] ∧ OD K H v o ∧ (∀ z ∈ itsI o, -(2 ^ 64) < z ∧ z < 2 ^ 64) ∧ ∀ H' T, Same H H' → SqT K H' T [.str (dTag o), dFld o] → Q (.ref T) H'
section
variable {P : Program} {w : World} {K : PySem.W.Frag} {mg : Str → Option Value} {base : Heap}
theorem ok_countB {f : Addr} {fd : FuncData} {k : Nat} (F : Fun K "_law_count" "_law_count" sCount f fd) : FnOk P w K mg base CX0 (k + 1) f fd ["_law_divisors_here"] (spProdB K) := by
  refine F.ok scCount (fun vs H Q E h => ?_) (fun cdv A outer s H vs Q E hr h => ?_)
  · obtain ⟨a, ns, rfl, _⟩ := h
    rfl
  · obtain ⟨a, ns, rfl, hS, bd, q⟩ := h
    refine ⟨_, pss_cons (ps_set (i := 1) scCount.nd rfl (.inl rfl) pe_int)
      (pss_cons (ps_for PassesOwn.never rfl (pi_tup (pv 0)) (pg_name (i := 2) scCount.nd rfl (.inl rfl)) (pss_one (ps_set (i := 1) scCount.nd rfl (.inl rfl) (pe_op op_mul (pv 1) (pv 2)))))
      (pss_one (ps_ret (pv 1)))), ?_⟩
    refine ⟨_, rfl, a, rfl, ⟨_, hS⟩, for_tup (K := K) (a := a) (xs := ns.map V.int) (fun i σ H2 => ∃ (v : Option V), σ = [some (.ref a), some (.int (prodL (ns.take i))), v] ∧ H2 = H)
      ⟨none, rfl, rfl⟩ (fun i σ H2 _ ⟨_, _, e⟩ => by rw [e]; exact hS) ?_ ?_⟩
    · rintro i y σ H2 hi ⟨v, rfl, rfl⟩
      obtain ⟨u, hu, rfl⟩ := map_get hi
      have b := bd u (List.mem_of_getElem? hu)
      refine ⟨_, rfl, _, rfl, _, _, rfl, rfl, .inr ⟨b.1, b.2⟩, some (.int u), ?_, rfl⟩
      rw [take_more hu, prodL_app]
      rfl
    · rintro σ H2 ⟨v, rfl, rfl⟩
      refine ⟨_, rfl, ?_⟩
      rw [List.length_map, List.take_length]
      exact q
theorem in123 (n : Nat) : inV (.int (n : Int)) [.int 1, .int 2, .int 3] = (decide (1 ≤ n) && decide (n ≤ 3)) := by
  match n with
  | 0 => rfl
  | 1 => rfl
  | 2 => rfl
  | 3 => rfl
  | m + 4 =>
    have e1 : ¬ (m + 4 ≤ 3) := by omega
    rw [decide_eq_false e1, Bool.and_false]
    show (decide ((1 : Int) = ((m + 4 : Nat) : Int)) || (decide ((2 : Int) = ((m + 4 : Nat) : Int)) || (decide ((3 : Int) = ((m + 4 : Nat) : Int)) || false))) = false
    rw [decide_eq_false (by omega), decide_eq_false (by omega), decide_eq_false (by omega)]
    rfl
theorem ok_derr {f fI fM : Addr} {fd fdI fdM : FuncData} {k : Nat} (F : Fun K "_law_divisors_error" "_law_divisors_error" sDivErr f fd) (ms : mg "isinstance" = none) (mt : mg "tuple" = none) (ml : mg "len" = none) (mm : mg "min" = none)
    (GI : FnOk P w K mg base CX0 (k + 1) fI fdI ["_law_value", "_law_directions"] (spNumsO K)) (kI : PySem.W.keepIn K (.ref fI) = true) (bI : Binds K fdI ["_law_value", "_law_directions"] []) (gI : mg "_law_is_place" = some (.ref fI))
    (GM : FnOk P w K mg base CX0 (k + 1) fM fdM ["_law_divisors_here"] (spProdB K)) (kM : PySem.W.keepIn K (.ref fM) = true) (bM : Binds K fdM ["_law_divisors_here"] []) (gM : mg "_law_count" = some (.ref fM)) :
    FnOk P w K mg base CX0 (k + 2) f fd ["_law_value"] (spDErr K) := by
  refine F.ok scDivErr (fun vs H Q E h => ?_) (fun cdv A outer s H vs Q E hr h => ?_)
  · obtain ⟨v, o, rfl, _⟩ := h
    rfl
  · obtain ⟨v, o, rfl, hO, bd, q⟩ := h
    refine ⟨_, pss_cons (ps_if (PW.pt (pw_or (pt_not (pt_val (pe_callB call_isi (by rfl) ms (by decide +kernel) (pa_cons (pv 0) (pa_cons (pe_bltn (v := .ty "tuple") (by rfl) mt (by decide +kernel) rfl) pa_nil)))))
        (pw_or (pt_not (pt_val (pe_call GI hr (by rfl) gI kI bI .nil pass0 (pa_cons (pv 0) (pa_cons (pe_callB call_len_seq (by rfl) ml PySem.boot_len (pa_cons (pv 0) pa_nil)) pa_nil)))))
        (pw_or1 (pt_cmpR op_notIn_seq (pe_callB call_len_seq (by rfl) ml PySem.boot_len (pa_cons (pv 0) pa_nil)) (pe_lst (pa_cons pe_int (pa_cons pe_int (pa_cons pe_int pa_nil)))) (by rfl)))))) (pss_one (ps_ret (pe_tup (pa_cons pe_str (pa_cons pe_non pa_nil))))) pss_nil)
      (pss_cons (ps_if (pt_cmpR op_lt (pe_callB (cr_min2 rfl (hu_of hr)) (by rfl) mm (by decide +kernel) (pa_cons (pv 0) pa_nil)) pe_int (nomark _)) (pss_one (ps_ret (pe_tup (pa_cons pe_str (pa_cons pe_non pa_nil))))) pss_nil)
      (pss_one (ps_ret (pe_ifExp (pt_cmpR op_gt (pe_call GM hr (by rfl) gM kM bM .nil pass0 (pa_cons (pv 0) pa_nil)) pe_int (nomark _)) (pe_tup (pa_cons pe_str (pa_cons pe_int pa_nil))) (pe_tup (pa_cons pe_str (pa_cons pe_non pa_nil))))))), ?_⟩
    have bad : sdB o 1 = false → dTag o = "InvalidDivisors" ∧ dFld o = .non := fun h => by
      have e : dvE o = 1 := by
        unfold dvE
        rw [h]
        rfl
      unfold dTag dFld
      rw [e]
      exact ⟨rfl, rfl⟩
    have badQ : sdB o 1 = false → ∀ H1, Same H H1 → ∀ T, H1 T = none → Q (.ref T) (upd H1 T (.tup [.str "InvalidDivisors", .non])) := fun h H1 sm T nT => by
      refine q _ T (sm.trans (same_new nT)) ?_
      rw [(bad h).1, (bad h).2]
      exact SqT.of upd_same
    cases o with
    | none =>
      have hs : scal v = true := hO
      have qq : ∀ T, H T = none → Q (.ref T) (upd H T (.tup [.str "InvalidDivisors", .non])) := badQ rfl H (Same.refl _)
      have go : [V.str "InvalidDivisors", V.non].length ≤ sizeLine ∧ ∀ p, H p = none → Q (.ref p) (upd H p (.tup [.str "InvalidDivisors", .non])) := ⟨(by show 2 ≤ sizeLine; decide), qq⟩
      cases v with
      | non => exact ⟨_, rfl, _, _, _, _, false, rfl, .ty _, .base .non, kit_ty (by decide +kernel), false, rfl, iteT go⟩
      | bl x => exact ⟨_, rfl, _, _, _, _, false, rfl, .ty _, .base (.bl x), kit_ty (by decide +kernel), false, rfl, iteT go⟩
      | int x => exact ⟨_, rfl, _, _, _, _, false, rfl, .ty _, .base (.int x), kit_ty (by decide +kernel), false, rfl, iteT go⟩
      | str x => exact ⟨_, rfl, _, _, _, _, false, rfl, .ty _, .base (.str x), kit_ty (by decide +kernel), false, rfl, iteT go⟩
      | _ => cases hs
    | some xs =>
    obtain ⟨a, rfl, hS, h3, h4⟩ := id hO
    refine ⟨_, rfl, _, _, _, _, true, rfl, .ty _, tyT hS, kit_ty (by decide +kernel), true, rfl, iteF ?_⟩
    refine ⟨_, rfl, _, rfl, a, _, rfl, .inr hS, .ref a, _, some xs, rfl, hO, fun H1 sm => ⟨_, rfl, ?_⟩⟩
    have e0 : plB (some xs) (xs.length : Int) = xs.all isI := by
      show (decide ((xs.length : Int) = xs.length) && xs.all isI) = _
      rw [decide_eq_true rfl]
      rfl
    rw [e0]
    cases hi : xs.all isI with
    | false =>
      have hb : sdB (some xs) 1 = false := by
        rw [sdB_some, hi, Bool.false_and, Bool.and_false]
      exact iteT ⟨(by show 2 ≤ sizeLine; decide), badQ hb H1 sm⟩
    | true =>
    refine iteF ?_
    refine ⟨_, rfl, a, _, rfl, .inr (Same.sqT sm hS), (by show 3 ≤ sizeLine; decide), fun L nL => ⟨L, _, rfl, .inl (SqL.of upd_same), rfl, rfl, _, rfl, ?_⟩⟩
    have sL := sm.trans (same_new (o := .lst [.int 1, .int 2, .int 3]) nL)
    have ei := in123 xs.length
    rw [if_pos rfl, ei]
    cases hl : (decide (1 ≤ xs.length) && decide (xs.length ≤ 3)) with
    | false =>
      have hb : sdB (some xs) 1 = false := by
        rw [sdB_some, hl]
        rfl
      exact iteT ⟨(by show 2 ≤ sizeLine; decide), badQ hb _ sL⟩
    | true =>
    refine iteF ?_
    obtain ⟨hl1, hl3⟩ := Bool.and_eq_true_iff.mp hl
    have l1 := of_decide_eq_true hl1
    have ex := ints_isI hi
    rw [ex] at hS
    refine ⟨_, rfl, a, xs.map uI, rfl, Same.sqT sL hS, by rw [List.length_map]; omega, fun m hm hle => ⟨_, _, rfl, rfl, _, rfl, ite2 (fun z => ?_) (fun z => ?_)⟩⟩
    · have zm : m < 1 := of_decide_eq_true z
      have hb : sdB (some xs) 1 = false := by
        refine Bool.eq_false_iff.mpr fun h => ?_
        obtain ⟨ys, ey, _, _, _, hz⟩ := sdB_ints h
        cases ey
        have := hz m hm
        omega
      exact ⟨(by show 2 ≤ sizeLine; decide), badQ hb _ sL⟩
    · have zm : 1 ≤ m := by
        refine Decidable.byContradiction fun h => z (decide_eq_true ?_)
        omega
      have hg : sdB (some xs) 1 = true := by
        rw [sdB_some, hl, hi]
        show (xs.all fun x => decide (1 ≤ uI x)) = true
        refine List.all_eq_true.mpr fun x hx => decide_eq_true ?_
        have := hle (uI x) (List.mem_map.mpr ⟨x, hx, rfl⟩)
        omega
      have e : dvE (some xs) = if 12 < prodL (xs.map uI) then 2 else 0 := by
        unfold dvE
        rw [hg]
        rfl
      refine ⟨_, rfl, a, xs.map uI, rfl, Same.sqT sL hS, bd, _, _, rfl, rfl, _, rfl, ite2 (fun y => ?_) (fun y => ?_)⟩
      · have hp : 12 < prodL (xs.map uI) := of_decide_eq_true y
        refine ⟨(by show 2 ≤ sizeLine; decide), fun T nT => q _ T (sL.trans (same_new nT)) ?_⟩
        unfold dTag dFld
        rw [e, if_pos hp]
        exact SqT.of upd_same
      · have hp : ¬ 12 < prodL (xs.map uI) := fun h => y (decide_eq_true h)
        refine ⟨(by show 2 ≤ sizeLine; decide), fun T nT => q _ T (sL.trans (same_new nT)) ?_⟩
        unfold dTag dFld
        rw [e, if_neg hp]
        exact SqT.of upd_same
end
end Lk

namespace Lk
open PySem L2 Lx LamX
abbrev lN : List Str := ["_law_script", "_law_bag_here", "_law_turn", "_law_directions", "_law_divisors_here", "_law_rests", "_law_place_here", "_law_number", "_law_told", "_law_bad", "_law_due", "_law_asks", "_law_odd_here", "_law_far", "_law_k", "_law_one", "_law_two", "_law_ask"]
def lamOf (e0 : Scope) : Expr → Arguments × Expr × Scope
  | .Lambda p b s _ => (p, b, s)
  | _ => (⟨[], [], none, [], [], none, []⟩, .Constant .none 0 ⟨0, 0, 0, 0⟩, e0)
def lstAt : Expr → Nat → Expr
  | .List es _, i => es.getD i (.Constant .none 0 ⟨0, 0, 0, 0⟩)
  | .BinOp _ _ r _, i => lstAt r i
  | e, _ => e
def valAt : Stmt → Expr
  | .Assign _ e _ => e
  | _ => .Constant .none 0 ⟨0, 0, 0, 0⟩
def forBody : Stmt → List Stmt
  | .For _ _ b _ _ => b
  | _ => []
abbrev le_ (j : Nat) : Expr := lstAt (valAt ((forBody ((defBody sLaw).getD 1 (.Pass ⟨0, 0, 0, 0⟩))).getD j (.Pass ⟨0, 0, 0, 0⟩))) 0
abbrev la_ (j : Nat) : Arguments × Expr × Scope := lamOf (defScope sLaw) (le_ j)
/-- the bad value stands in slot 9 -/
def u0 (K : PySem.W.Frag) (C1 C2 : Addr) : XK → TE := fun E σ H Q => ∃ v, σ[9]? = some (some v) ∧ spDivX K C1 C2 [v] H Q E
def u1 (K : PySem.W.Frag) (C1 C2 CE : Addr) : XK → TE := fun E σ H Q => ∃ v, σ[9]? = some (some v) ∧ spCofX K C1 C2 CE [v, .non] H Q E
def u2 (K : PySem.W.Frag) (C1 C2 CE : Addr) : XK → TE := fun E σ H Q => ∃ v, σ[9]? = some (some v) ∧ spRsX K C1 C2 CE [v, .int (-1)] H Q E
abbrev lm0 (K : PySem.W.Frag) (C1 C2 : Addr) : Lm := ⟨(la_ 11).1, (la_ 11).2.1, (la_ 11).2.2, none, u0 K C1 C2⟩
abbrev lmA (K : PySem.W.Frag) (C1 C2 CE : Addr) : Lm := ⟨(la_ 12).1, (la_ 12).2.1, (la_ 12).2.2, some "_law_a", u1 K C1 C2 CE⟩
abbrev lmB (K : PySem.W.Frag) (C1 C2 CE : Addr) : Lm := ⟨(la_ 13).1, (la_ 13).2.1, (la_ 13).2.2, some "_law_b", u2 K C1 C2 CE⟩
abbrev lX (P : Program) (w : World) (K : PySem.W.Frag) (mg : Str → Option Value) (base : Heap) (f cda : Addr) (A : Around) (outer : List Env) (s : Shared) (H : Hp) (E : XK) : Cx := (cxOf CX0 P w K mg base lN "law" (defScope sLaw) f (.ref cda) A outer s H E).nox
theorem divs_le {ds : List Int} (D : Divs ds) {z : Int} (hz : z ∈ ds) : z ≤ 12 := by
  obtain ⟨i, hi⟩ := List.mem_iff_getElem?.mp hz
  have p1 := D.part (i + 1)
  have p2 := D.part i
  have z1 := D.one z hz
  rw [take_more hi, prodL_app] at p1
  have : 1 * z ≤ prodL (ds.take i) * z := Int.mul_le_mul_of_nonneg_right p2.1 (by omega)
  omega
theorem cells_len {ds : List Int} (D : Divs ds) (i : Nat) : (cellsL (ds.take i)).length = (prodL (ds.take i)).toNat := by
  rw [cells_pAt fun z hz => D.one z (List.mem_of_mem_take hz), List.length_map, List.length_range]
theorem rst_zip : ∀ (ds xs : List Int), ds.length = xs.length → rst ds xs = List.zipWith (fun x d => x % d) xs ds
  | [], [], _ => rfl
  | [], _ :: _, h => by cases h
  | _ :: _, [], h => by cases h
  | d :: ds, x :: xs, h => by
    show (x % d) :: rst ds xs = (x % d) :: List.zipWith (fun x d => x % d) xs ds
    rw [rst_zip ds xs (by simpa using h)]
theorem dd_hds {K : PySem.W.Frag} {H : Hp} {a b : Addr} {l : List (List Int)} {us ws : List V} (ha : SqL K H a us) (hb : SqL K H b ws) (hu : HdsAt K H l us) (hw : HdsAt K H l ws) (hl : l.length ≤ 1000) (hc : ∀ c ∈ l, c.length ≤ 1000) : DD K H 3 (.ref a) (.ref b) := by
  refine .inr ⟨a, b, us, ws, rfl, rfl, .inr ⟨ha, hb⟩, by rw [hu.len, hw.len], by rw [hu.len]; exact hl, fun i x y f1 f2 => ?_⟩
  obtain ⟨c, p, e1, rfl, h1⟩ := hu.get f1
  obtain ⟨c', p', e2, rfl, h2⟩ := hw.get f2
  rw [e1] at e2
  cases e2
  refine .inr ⟨p, p', _, _, rfl, rfl, .inl ⟨h1, h2⟩, rfl, by rw [List.length_map]; exact hc c (List.mem_of_getElem? e1), fun j u v g1 g2 => ?_⟩
  rw [g1] at g2
  cases g2
  obtain ⟨z, _, rfl⟩ := map_get g1
  exact .inl ⟨rfl, rfl⟩
theorem cut_ints (ns : List Int) (hi : Int) : ∃ ms : List Int, cutV (ns.map V.int) none (some hi) = ms.map V.int ∧ (∀ z ∈ ms, z ∈ ns) ∧ ms.length ≤ ns.length := by
  unfold cutV
  rw [← List.map_drop, ← List.map_take]
  exact ⟨_, rfl, fun z hz => List.mem_of_mem_drop (List.mem_of_mem_take hz), by rw [List.length_take, List.length_drop]; omega⟩
theorem od_ints {K : PySem.W.Frag} {H : Hp} {a : Addr} {ns : List Int} (h : SqT K H a (ns.map V.int)) (hl : ns.length ≤ 12) : OD K H (.ref a) (some (ns.map V.int)) := by
  refine ⟨a, rfl, h, by rw [List.length_map]; exact hl, fun x hx => ?_⟩
  obtain ⟨z, _, rfl⟩ := List.mem_map.mp hx
  exact .inl rfl
theorem ob_ints {ns : List Int} (h : ∀ z ∈ ns, -(2 ^ 64) < z ∧ z < 2 ^ 64) : OB (some (ns.map V.int)) := fun z hz => by
  have e : itsI (some (ns.map V.int)) = ns := uI_ints ns
  rw [e] at hz
  exact h z hz
/-- a lambda made in X is kept at f -/
def Kept (X : Cx) (H : Hp) (m : Lm) (f : Addr) : Prop := ∃ (c' : Addr) (fd : FuncData), H f = some (LamO f fd) ∧ LamIs X m fd c' ∧ H c' = some (CodeO c' (X.env.qual ++ "<lambda>")) ∧ Dfl H m fd
theorem lamO_ne {f : Addr} {fd : FuncData} (ps : Array Value) : LamO f fd ≠ .tbl ps := fun z => by
  unfold LamO at z
  cases z
theorem Kept.extN {X : Cx} {H H' : Hp} {m : Lm} {f : Addr} (k : Kept X H m f) (e : ExtN H H') : Kept X H' m f := by
  obtain ⟨c', fd, h1, h2, h3, h4⟩ := k
  exact ⟨c', fd, e _ _ h1 lamO_ne, h2, e _ _ h3 codeO_ne, h4.ext fun a xs h => e _ _ h (fun ps z => by cases z)⟩
theorem Kept.made {X : Cx} {H : Hp} {m : Lm} {f c' : Addr} {fd : FuncData} (n : H f = none) (hc : H c' = some (CodeO c' (X.env.qual ++ "<lambda>"))) (li : LamIs X m fd c') (df : Dfl H m fd) : Kept X (upd H f (LamO f fd)) m f :=
  ⟨c', fd, upd_same, li, by rw [upd_ne (ne_of_none hc n)]; exact hc, df.ext fun a xs h => by rw [upd_ne (ne_of_none h n)]; exact h⟩
theorem extN_new {H : Hp} {p : Addr} {o : HO} (n : H p = none) : ExtN H (upd H p o) := ExtN.of (same_new n)
section
variable {P : Program} {w : World} {K : PySem.W.Frag} {mg : Str → Option Value} {base : Heap}
theorem ok_law {f cda Pt g fF CS C1 C2 CE fB fP fO fL fDv fCe fLc fCc fCo fRs fSm fOd fIp fDe : Addr} {fdB fdP fdO fdL fdDv fdCe fdLc fdCc fdCo fdRs fdSm fdOd fdIp fdDe : FuncData} {k : Nat} {t3 t12 t2000 : Tok}
    {oc kV doc pm ct : Value} {od an : Option Addr} {osl : Array (Option Value)} (lk : K.lookup f = some ⟨oc, od, .func (PySem.W.fnOf "law" "law" (defArgs sLaw) (defBody sLaw) (defScope sLaw) .none kV doc pm an (.ref cda) ct), osl⟩) (hcd : PySem.W.codeIn K (.ref cda) "law" = true) (TB : TabB base mg cda Pt)
    (mr : mg "range" = none) (mt : mg "tuple" = none) (ml : mg "len" = none) (mi : mg "int" = none) (mz : mg "zip" = none) (m3 : mg "MAX_DIRECTIONS" = some (.int 3 t3)) (m12 : mg "MAX_CLASSES" = some (.int 12 t12)) (m2000 : mg "MAX_CELLS" = some (.int 2000 t2000))
    (GB : FnOk P w K mg base CX0 (k + 1) fB fdB ["_law_script"] (spBag K)) (kB : PySem.W.keepIn K (.ref fB) = true) (bB : Binds K fdB ["_law_script"] []) (gB : mg "_law_bag" = some (.ref fB))
    (GP : FnOk P w K mg base CX0 (k + 1) fP fdP ["_law_bag_here", "_law_amount"] spPull) (kP : PySem.W.keepIn K (.ref fP) = true) (bP : Binds K fdP ["_law_bag_here", "_law_amount"] []) (gP : mg "_law_pull" = some (.ref fP))
    (GO : FnOk P w K mg base CX0 (k + 2) fO fdO ["_law_bag_here", "_law_things"] (spOf K)) (kO : PySem.W.keepIn K (.ref fO) = true) (bO : Binds K fdO ["_law_bag_here", "_law_things"] []) (gO : mg "_law_of" = some (.ref fO))
    (GL : FnOk P w K mg base CX0 (k + 2) fL fdL ["_law_bag_here", "_law_directions", "_law_size"] spPlace) (kL : PySem.W.keepIn K (.ref fL) = true) (bL : Binds K fdL ["_law_bag_here", "_law_directions", "_law_size"] []) (gL : mg "_law_place" = some (.ref fL))
    (GDv : FnOk P w K mg base CX0 (k + 3) fDv fdDv ["_law_bag_here", "_law_directions"] spDivisors) (kDv : PySem.W.keepIn K (.ref fDv) = true) (bDv : Binds K fdDv ["_law_bag_here", "_law_directions"] []) (gDv : mg "_law_divisors" = some (.ref fDv))
    (GCe : FnOk P w K mg base CX0 (k + 1) fCe fdCe ["_law_box"] (spLCells K)) (kCe : PySem.W.keepIn K (.ref fCe) = true) (bCe : Binds K fdCe ["_law_box"] []) (gCe : mg "_law_cells" = some (.ref fCe))
    (GLc : FnOk P w K mg base CX0 (k + 1) fLc fdLc ["_law_divisors_here", "_law_place_here"] (spLClass K)) (kLc : PySem.W.keepIn K (.ref fLc) = true) (bLc : Binds K fdLc ["_law_divisors_here", "_law_place_here"] []) (gLc : mg "_law_class" = some (.ref fLc))
    (GCc : FnOk P w K mg base CX0 (k + 5) fCc fdCc ["divisors"] (spClassCount K)) (GCcX : FnOk P w K mg base (L2.CX P w) (k + 5) fCc fdCc ["divisors"] (spDivX K C1 C2)) (kCc : PySem.W.keepIn K (.ref fCc) = true) (bCc : Binds K fdCc ["divisors"] []) (gCc : mg "class_count" = some (.ref fCc))
    (GCo : FnOk P w K mg base CX0 (k + 5) fCo fdCo ["divisors", "place"] (spClassOf K)) (GCoX : FnOk P w K mg base (L2.CX P w) (k + 5) fCo fdCo ["divisors", "place"] (spCofX K C1 C2 CE)) (kCo : PySem.W.keepIn K (.ref fCo) = true) (bCo : Binds K fdCo ["divisors", "place"] []) (gCo : mg "class_of" = some (.ref fCo))
    (GRs : FnOk P w K mg base CX0 (k + 6) fRs fdRs ["divisors", "number"] (spRests K)) (GRsX : FnOk P w K mg base (L2.CX P w) (k + 6) fRs fdRs ["divisors", "number"] (spRsX K C1 C2 CE)) (kRs : PySem.W.keepIn K (.ref fRs) = true) (bRs : Binds K fdRs ["divisors", "number"] []) (gRs : mg "rests_of" = some (.ref fRs))
    (GSm : FnOk P w K mg base CX0 (k + 1 + 4) fSm fdSm ["_law_found", "_law_due"] (spSame K 4)) (kSm : PySem.W.keepIn K (.ref fSm) = true) (bSm : Binds K fdSm ["_law_found", "_law_due"] []) (gSm : mg "_law_same" = some (.ref fSm))
    (GOd : FnOk P w K mg base CX0 (k + 3) fOd fdOd ["_law_bag_here"] (spOdd K)) (kOd : PySem.W.keepIn K (.ref fOd) = true) (bOd : Binds K fdOd ["_law_bag_here"] []) (gOd : mg "_law_odd" = some (.ref fOd))
    (GIp : FnOk P w K mg base CX0 (k + 1) fIp fdIp ["_law_value", "_law_directions"] (spNumsO K)) (kIp : PySem.W.keepIn K (.ref fIp) = true) (bIp : Binds K fdIp ["_law_value", "_law_directions"] []) (gIp : mg "_law_is_place" = some (.ref fIp))
    (GDe : FnOk P w K mg base CX0 (k + 2) fDe fdDe ["_law_value"] (spDErr K)) (kDe : PySem.W.keepIn K (.ref fDe) = true) (bDe : Binds K fdDe ["_law_value"] []) (gDe : mg "_law_divisors_error" = some (.ref fDe))
    (TR : TryT K mg g) (FT : FieldT K mg fF) (hSE : mg "ScanError" = some (.ref CS)) (hE1 : PySem.W.exmOne K (.ref C1) (.ref CS) = some true) (hE2 : PySem.W.exmOne K (.ref C2) (.ref CS) = some true) (hEx : PySem.W.exmOne K (.ref CE) (.ref CS) = some true) (R1 : RdC K C1) (R2 : RdC K C2) (RD : RdC K CE) :
    FnOk P w K mg base CX0 (k + 9) f (PySem.W.fnOf "law" "law" (defArgs sLaw) (defBody sLaw) (defScope sLaw) .none kV doc pm an (.ref cda) ct) ["_law_script"] (spLaw K Pt) := by
  refine fn_of lk hcd scLaw (fun vs H Q E h => ?_) (fun A outer s H vs Q E hr h => ?_)
  · obtain ⟨a, ns, rfl, _⟩ := h
    rfl
  · obtain ⟨a0, ns, rfl, hS0, hTb, q⟩ := h
    have hr1 : Room (k + 1) _ := hr.mono (by omega)
    have hr2 : Room (k + 2) _ := hr.mono (by omega)
    have hr3 : Room (k + 3) _ := hr.mono (by omega)
    have hr5 : Room (k + 5) _ := hr.mono (by omega)
    have hr6 : Room (k + 6) _ := hr.mono (by omega)
    have hr8 : Room (k + 6 + 2) _ := hr.mono (by omega)
    have hrq : Room 2 _ := hr.mono (by omega)
    suffices hh : ∃ t, PSs (lX P w K mg base f cda A outer s H E) (defBody sLaw) t ∧ t { nx := fun _ H' => Q .non H', rt := Q } (start lN [.ref a0]) H by
      obtain ⟨t, h1, h2⟩ := hh
      exact ⟨t, h1.nox, h2⟩
    have onT : ∀ p ∈ [(Pt, lamQ)], p.1 = Pt → p.2 = lamQ := fun p hp _ => by rw [List.mem_singleton.mp hp]
    have inT : (Pt, lamQ) ∈ [(Pt, lamQ)] := List.mem_singleton.mpr rfl
    have O0 : LmOk (lX P w K mg base f cda A outer s H E) (lm0 K C1 C2) (k + 6) := by
      refine ⟨lmS_by (N := lN) (sc := defScope sLaw) (scope := (la_ 11).2.2) (d := none) (by decide +kernel), ⟨fun _ _ _ _ _ _ _ => rfl, fun a z => by cases z⟩, fun A outer s H E f c' hr' => ?_⟩
      refine PE.of (pe_cmpR op_gt (pe_call GCcX (hr'.mono (by omega)) (by rfl) gCc kCc bCc .nil (passes_call (E := E) (takes_of rfl rfl rfl rfl) (fun _ _ _ _ h => h)) (pa_cons (pv 9) pa_nil)) pe_int (nomark _)) ?_
      rintro σ H Q ⟨v, h1, h2⟩
      obtain ⟨v', o, e, r⟩ := h2
      exact ⟨_, h1, v', o, e, r⟩
    have OA : LmOk (lX P w K mg base f cda A outer s H E) (lmA K C1 C2 CE) (k + 6) := by
      refine ⟨lmS_by (N := lN) (sc := defScope sLaw) (scope := (la_ 12).2.2) (d := some "_law_a") (by decide +kernel), ⟨fun z => (by cases z), fun a z => (by cases z; exact fun _ _ _ _ _ _ _ => ⟨_, rfl, fun _ => rfl⟩)⟩, fun A outer s H E f c' hr' => ?_⟩
      refine PE.of (pe_cmpR op_isN (pe_call GCoX (hr'.mono (by omega)) (by rfl) gCo kCo bCo .nil (passes_call (E := E) (takes_of rfl rfl rfl rfl) (fun _ _ _ _ h => h)) (pa_cons (pv 9) (pa_cons pe_non pa_nil))) pe_non (nomark _)) ?_
      rintro σ H Q ⟨v, h1, u', v', e, r⟩
      exact ⟨_, h1, u', v', e, r⟩
    have OBl : LmOk (lX P w K mg base f cda A outer s H E) (lmB K C1 C2 CE) (k + 6) := by
      refine ⟨lmS_by (N := lN) (sc := defScope sLaw) (scope := (la_ 13).2.2) (d := some "_law_b") (by decide +kernel), ⟨fun z => (by cases z), fun a z => (by cases z; exact fun _ _ _ _ _ _ _ => ⟨_, rfl, fun _ => rfl⟩)⟩, fun A outer s H E f c' hr' => ?_⟩
      refine PE.of (pe_call GRsX hr' (by rfl) gRs kRs bRs .nil (passes_call (E := E) (takes_of rfl rfl rfl rfl) (fun _ _ _ _ h => h)) (pa_cons (pv 9) (pa_cons (pe_un un_neg pe_int) pa_nil))) ?_
      rintro σ H Q ⟨v, h1, u', c, e, r⟩
      exact ⟨_, h1, _, rfl, u', c, e, r⟩
    have oks : ∀ m ∈ [lm0 K C1 C2, lmA K C1 C2 CE, lmB K C1 C2 CE], LmOk (lX P w K mg base f cda A outer s H E) m (k + 6) := fun m hm => by
      simp only [List.mem_cons, List.not_mem_nil, or_false] at hm
      rcases hm with rfl | rfl | rfl
      · exact O0
      · exact OA
      · exact OBl
    refine ⟨_, (pss_cons (ps_set (i := 1) scLaw.nd rfl (.inl rfl) (pe_call GB hr1 (by rfl) gB kB bB .nil pass0 (pa_cons (pv 0) pa_nil)))
          (pss_cons (ps_for PassesOwn.never rfl (pi_range1 (by rfl) mr (pa_cons pe_int pa_nil)) (pg_name (i := 2) scLaw.nd rfl (.inl rfl))
          (pss_cons (ps_set (i := 3) scLaw.nd rfl (.inl rfl) (pe_op op_add pe_int (pe_call GP hr1 (by rfl) gP kP bP .nil pass0 (pa_cons (pv 1) (pa_cons pe_int pa_nil)))))
          (pss_cons (ps_set (i := 4) scLaw.nd rfl (.inr rfl) (pe_call GDv hr3 (by rfl) gDv kDv bDv .nil pass0 (pa_cons (pv 1) (pa_cons (pv 3) pa_nil))))
          (pss_cons (ps_set (i := 5) scLaw.nd rfl (.inl rfl) (pe_call GCe hr1 (by rfl) gCe kCe bCe .nil pass0 (pa_cons (pv 4) pa_nil)))
          (pss_cons (ps_set (i := 6) scLaw.nd rfl (.inl rfl) (pe_call GL hr2 (by rfl) gL kL bL .nil pass0 (pa_cons (pv 1) (pa_cons (pv 3) (pa_cons (pe_call GO hr2 (by rfl) gO kO bO .nil pass0 (pa_cons (pv 1) (pa_cons (pe_lst (pa_cons pe_int (pa_cons pe_int (pa_cons (pe_op op_pow pe_int pe_int) pa_nil)))) pa_nil))) pa_nil)))))
          (pss_cons (ps_set (i := 7) scLaw.nd rfl (.inl rfl) (pe_call GLc hr1 (by rfl) gLc kLc bLc .nil pass0 (pa_cons (pv 4) (pa_cons (pv 6) pa_nil))))
          (pss_cons (ps_set (i := 8) scLaw.nd rfl (.inl rfl) (pe_lst (pa_cons (pe_call GCc hr5 (by rfl) gCc kCc bCc .nil pass0 (pa_cons (pv 4) pa_nil)) (pa_cons (pe_call GCo hr5 (by rfl) gCo kCo bCo .nil pass0 (pa_cons (pv 4) (pa_cons (pv 6) pa_nil))) pa_nil))))
          (pss_cons (ps_set (i := 8) scLaw.nd rfl (.inl rfl) (pe_op op_cat (pv 8) (pe_lst (pa_cons (pe_lc (own := [("_law_k", 14)]) (g := gName 14) (by rfl) scLaw.nd (pi_range1 (by rfl) mr (pa_cons (pe_callB call_len_seq (by rfl) ml PySem.boot_len (pa_cons (pv 5) pa_nil)) pa_nil))
            (blkOk_by (own := [("_law_k", 14)]) (N := lN) (sc := defScope sLaw) (by decide +kernel))
            (fun _ _ _ _ _ => pg_name (i := 14) scLaw.nd rfl (Or.inl rfl)) (fun _ _ _ _ _ => pts_nil)
            (fun _ _ _ _ _ => (pe_call GRs hr6 (by rfl) gRs kRs bRs .nil pass0 (pa_cons (pv 4) (pa_cons (pv 14) pa_nil))))) pa_nil))))
          (pss_cons (ps_if (pt_not (pt_val (pe_call GSm hr5 (by rfl) gSm kSm bSm .nil pass0 (pa_cons (pv 8) (pa_cons (pe_lst (pa_cons (pe_callB call_len_seq (by rfl) ml PySem.boot_len (pa_cons (pv 5) pa_nil)) (pa_cons (pv 7) (pa_cons (pv 5) pa_nil)))) pa_nil))))) (pss_one (ps_ret pe_bl)) pss_nil)
          (pss_cons (ps_if (pt_cmpR (op_neD hr.units) (pe_ix ix_list (pv 5) (pv 7) (fun _ _ => rfl)) (pe_callTy call_tuple_of (by rfl) mt (by decide +kernel) (pa_cons (pe_lc (own := [("_law_one", 15), ("_law_two", 16)]) (g := gTup K 2 (gCons (gName 15) (gCons (gName 16) gNil))) (by rfl) scLaw.nd (RZ.pi_zipA (by rfl) mz (pa_cons (pv 6) (pa_cons (pv 4) pa_nil)))
            (blkOk_by (own := [("_law_one", 15), ("_law_two", 16)]) (N := lN) (sc := defScope sLaw) (by decide +kernel))
            (fun _ _ _ _ _ => pg_tup rfl (pgs_cons (pg_name (i := 15) scLaw.nd rfl (.inl rfl)) (pgs_cons (pg_name (i := 16) scLaw.nd rfl (.inl rfl)) pgs_nil))) (fun _ _ _ _ _ => pts_nil)
            (fun _ _ _ _ _ => pe_op op_mod (pe_callTy call_int1 (by rfl) mi (by decide +kernel) (pa_cons (pv 15) pa_nil)) (pv 16))) pa_nil)) (nomark _)) (pss_one (ps_ret pe_bl)) pss_nil)
          (pss_cons (ps_set (i := 9) scLaw.nd rfl (.inr rfl) (pe_call GO hr2 (by rfl) gO kO bO .nil pass0 (pa_cons (pv 1) (pa_cons (pe_lst (pa_cons (pe_call GOd hr3 (by rfl) gOd kOd bOd .nil pass0 (pa_cons (pv 1) pa_nil)) (pa_cons (pe_op op_catA (pv 4) (pe_op op_repO (pe_tup (pa_cons pe_int pa_nil)) pe_int)) (pa_cons (pe_op op_catA (pe_slice sl_tupA (pv 4) po_none (po_some (pe_un un_neg pe_int))) (pe_tup (pa_cons pe_int pa_nil))) (pa_cons (pe_op op_catA (pe_slice sl_tupA (pv 4) po_none (po_some (pe_un un_neg pe_int))) (pe_tup (pa_cons (pe_un un_neg pe_int) pa_nil))) (pa_cons (pe_tup (pa_cons pe_int (pa_cons pe_int pa_nil))) (pa_cons (pe_tup (pa_cons pe_int pa_nil)) (pa_cons (pe_tup (pa_cons pe_int (pa_cons pe_int (pa_cons pe_int pa_nil)))) (pa_cons (pe_tup (pa_cons pe_int (pa_cons pe_int (pa_cons pe_int pa_nil)))) pa_nil))))))))) pa_nil))))
          (pss_cons (ps_set (i := 10) scLaw.nd rfl (.inl rfl) (pe_call GDe hr2 (by rfl) gDe kDe bDe .nil pass0 (pa_cons (pv 9) pa_nil)))
          (pss_cons (ps_set (i := 11) scLaw.nd rfl (.inl rfl) (pe_lst (pa_cons (pe_lamV (X := lX P w K mg base f cda A outer s H E) (m := lm0 K C1 C2) (T := [(Pt, lamQ)]) TB rfl inT onT O0.sc rfl rfl) pa_nil)))
          (pss_cons (ps_set (i := 11) scLaw.nd rfl (.inl rfl) (pe_op op_cat (pv 11) (pe_lst (pa_cons (pe_lamD (X := lX P w K mg base f cda A outer s H E) (m := lmA K C1 C2 CE) (T := [(Pt, lamQ)]) TB rfl inT onT OA.sc rfl (by intro z; cases z)) pa_nil))))
          (pss_cons (ps_set (i := 11) scLaw.nd rfl (.inl rfl) (pe_op op_cat (pv 11) (pe_lst (pa_cons (pe_lamD (X := lX P w K mg base f cda A outer s H E) (m := lmB K C1 C2 CE) (T := [(Pt, lamQ)]) TB rfl inT onT OBl.sc rfl (by intro z; cases z)) pa_nil))))
          (C8.pss_cut (ps_if (PW.pt (pw_and (pt_cmpR op_ne (pe_ix ix_tup (pv 10) pe_int (fun _ _ => rfl)) pe_str (nomark _)) (pw_and1 (pt_cmpR (op_neD hr.units) (pe_lcI (own := [("_law_ask", 17)]) (g := gName 17) (te := fun σ => tKept (lX P w K mg base f cda A outer s H E) CS [lm0 K C1 C2, lmA K C1 C2 CE, lmB K C1 C2 CE] σ (tVar 17)) (by rfl) scLaw.nd (pi_list (pv 11))
            (blkOk_by (own := [("_law_ask", 17)]) (N := lN) (sc := defScope sLaw) (by decide +kernel))
            (fun _ _ _ _ _ => pg_name (i := 17) scLaw.nd rfl (Or.inl rfl))
            (fun pins σ s2 H2 C2 cl fp I2 hf => pe_kept TR FT hSE (by rfl) (cells_blk I2 hf) oks hr8 hrq (pv 17))) (pe_op op_rep (pe_lst (pa_cons (pv 10) pa_nil)) pe_int) (nomark _))))) (pss_one (ps_ret pe_bl)) pss_nil)
          (pss_cons (ps_set (i := 12) scLaw.nd rfl (.inr rfl) (pe_call GOd hr3 (by rfl) gOd kOd bOd .nil pass0 (pa_cons (pv 1) pa_nil)))
          (C8.pss_cut (ps_if (PW.pt (pw_and (pt_not (pt_val (pe_call GIp hr1 (by rfl) gIp kIp bIp .nil pass0 (pa_cons (pv 12) (pa_cons (pv 3) pa_nil))))) (pw_and1 (pt_not (pt_val (pe_call GSm hr5 (by rfl) gSm kSm bSm .nil pass0 (pa_cons (pe_tried (k := k + 6) TR FT hSE (by rfl) TB rfl hr8 hrq (lamS_by (sc := defScope sLaw) (by decide +kernel)) rfl (fun _ _ _ _ _ => rfl)
              (t := fun E => tCall (spCofX K C1 C2 CE) [] E (tCons (tVar 4) (tCons (tVar 12) tNil)))
              (fun A outer s H E f c' hr' => pe_call GCoX (hr'.mono (by omega)) (by rfl) gCo kCo bCo .nil (passes_call (E := E) (takes_of rfl rfl rfl rfl) (fun _ _ _ _ h => h)) (pa_cons (pv 4) (pa_cons (pv 12) pa_nil)))) (pa_cons (pe_tup (pa_cons pe_str (pa_cons (pv 12) pa_nil))) pa_nil)))))))) (pss_one (ps_ret pe_bl)) pss_nil)
          (pss_cons (ps_set (i := 13) scLaw.nd rfl (.inr rfl) (pe_call GO hr2 (by rfl) gO kO bO .nil pass0 (pa_cons (pv 1) (pa_cons (pe_lst (pa_cons (pe_un un_neg pe_int) (pa_cons (pe_callB call_len_seq (by rfl) ml PySem.boot_len (pa_cons (pv 5) pa_nil)) (pa_cons (pe_op op_pow pe_int pe_int) pa_nil)))) pa_nil))))
          (pss_one (ps_if (pt_not (pt_val (pe_call GSm hr5 (by rfl) gSm kSm bSm .nil pass0 (pa_cons (pe_tried (k := k + 6) TR FT hSE (by rfl) TB rfl hr8 hrq (lamS_by (sc := defScope sLaw) (by decide +kernel)) rfl (fun _ _ _ _ _ => rfl)
              (t := fun E => tCall (spRsX K C1 C2 CE) [] E (tCons (tVar 4) (tCons (tVar 13) tNil)))
              (fun A outer s H E f c' hr' => pe_call GRsX hr' (by rfl) gRs kRs bRs .nil (passes_call (E := E) (takes_of rfl rfl rfl rfl) (fun _ _ _ _ h => h)) (pa_cons (pv 4) (pa_cons (pv 13) pa_nil)))) (pa_cons (pe_tup (pa_cons pe_str (pa_cons (pv 13) pa_nil))) pa_nil))))) (pss_one (ps_ret pe_bl)) pss_nil)))))))))))))))))))))
          (pss_one (ps_ret (pe_and (pe_cmpR (op_eqD hr.units) (pe_lst (pa_cons (pe_glob (v := .int 3) (by rfl) m3 ⟨_, rfl⟩) (pa_cons (pe_glob (v := .int 12) (by rfl) m12 ⟨_, rfl⟩) (pa_cons (pe_glob (v := .int 2000) (by rfl) m2000 ⟨_, rfl⟩) pa_nil)))) (pe_lst (pa_cons pe_int (pa_cons pe_int (pa_cons pe_int pa_nil)))) (nomark _)) (pe_one (pe_cmpR op_eq (pe_call GCc hr5 (by rfl) gCc kCc bCc .nil pass0 (pa_cons (pe_tup (pa_cons pe_int (pa_cons pe_int (pa_cons pe_int pa_nil)))) pa_nil)) pe_int (nomark _)))))))), ?_⟩
    refine ⟨_, rfl, a0, ns, rfl, hS0, fun H1 b l s1 nb nl B => ?_⟩
    have tb0 : Tabs [(Pt, lamQ)] H := fun p hp => by
      rw [List.mem_singleton.mp hp]
      exact TabS.nil hTb
    refine ⟨6, rfl, by decide, by decide, for_range (lo := 0) (n := (6 : Int).toNat) (fun i σ H2 => ∃ (v2 v3 v4 v5 v6 v7 v8 v9 v10 v11 v12 v13 : Option V), σ = [some (.ref a0), some (.ref b), v2, v3, v4, v5, v6, v7, v8, v9, v10, v11, v12, v13, none, none, none, none] ∧ BagAt H2 b l ∧ Tabs [(Pt, lamQ)] H2)
      ⟨none, none, none, none, none, none, none, none, none, none, none, none, rfl, B, tb0.ext s1⟩ ?_ ?_⟩
    rotate_left
    · rintro σ H2 ⟨v2, v3, v4, v5, v6, v7, v8, v9, v10, v11, v12, v13, rfl, B2, _⟩
      refine ⟨(by show 3 ≤ sizeLine; decide), fun L1 n1 => ⟨(by show 3 ≤ sizeLine; decide), fun L2 n2 => ?_⟩⟩
      refine ⟨.list [.int 3, .int 12, .int 2000], .list [.int 3, .int 12, .int 2000], .lst (SqL.of (same_new n2 _ _ upd_same)) (.cons (.int _) (.cons (.int _) (.cons (.int _) .nil))), .lst (SqL.of upd_same) (.cons (.int _) (.cons (.int _) (.cons (.int _) .nil))), by decide, by decide, true, rfl, iteT ?_⟩
      refine ⟨(by show 3 ≤ sizeLine; decide), fun T nT => ⟨T, [2, 2, 3], rfl, SqT.of upd_same, by decide, by decide, ⟨by decide, by decide⟩, fun H' s' => ⟨rfl, ?_⟩⟩⟩
      exact q H'
    rintro i σ H2 hi ⟨v2, v3, v4, v5, v6, v7, v8, v9, v10, v11, v12, v13, rfl, B2, tb2⟩
    -- directions, divisors, rests
    refine ⟨_, rfl, b, l, 3, rfl, B2, by decide, by decide, fun g3 H3 g0 g1 B3 bt3 => ?_⟩
    refine ⟨_, _, rfl, rfl, ?_⟩
    refine ⟨_, rfl, _, rfl, b, l, 1 + g3, rfl, B3, by omega, by omega, fun ds H4 a ld D na ha B4 bt4 => ?_⟩
    have l1 : 1 ≤ ds.length := by omega
    have l3 : ds.length ≤ 3 := by omega
    refine ⟨_, rfl, a, ds, rfl, SqT.of ha, fun z hz => ⟨by have := D.one z hz; omega, by have := divs_le D hz; omega⟩, fun j => by rw [cells_len D]; have := D.part j; omega, l3, fun H5 R ws s5 nR hR hW => ?_⟩
    have B5 := BagAt.same B4 s5
    have ha5 : SqT K H5 a (ds.map V.int) := Same.sqT s5 (SqT.of ha)
    have tb5 := (Tabs.but (Tabs.but tb2 B2 bt3) B3 bt4).ext s5
    have lw : ws.length = (prodL ds).toNat := by
      rw [hW.len, cells_pAt D.one, List.length_map, List.length_range]
    have pd : 1 ≤ prodL ds ∧ prodL ds ≤ 12 := by
      have := D.part ds.length
      rwa [List.take_length] at this
    have nRb : R ≠ b := B4.nb nR
    -- the place
    refine ⟨_, rfl, _, rfl, _, rfl, _, _, rfl, rfl, ⟨by decide, by decide, by decide⟩, (by show 3 ≤ sizeLine; decide), fun L nL => ?_⟩
    refine ⟨b, l, L, _, rfl, B5.new nL, B5.nb nL, SqL.of upd_same, (by show 0 < 3; decide), (by show 3 < 1000; decide), fun z H6 hz6 B6 bt6 => ?_⟩
    obtain ⟨zi, rfl, z0, z1⟩ : ∃ zi : Int, z = .int zi ∧ 0 ≤ zi ∧ zi ≤ 2 ^ 100 := by
      rcases List.mem_cons.mp hz6 with e | hz6
      · exact ⟨5, e, by decide, by decide⟩
      rcases List.mem_cons.mp hz6 with e | hz6
      · exact ⟨40, e, by decide, by decide⟩
      · exact ⟨10 ^ (29 : Int).toNat, List.mem_singleton.mp hz6, by decide, by decide⟩
    refine ⟨b, l, 1 + g3, zi, rfl, B6, by omega, by omega, z0, z1, fun xs H7 c lxs' nc hc B7 bt7 => ?_⟩
    have b57 : But b H5 H7 := ((new_but nL).trans bt6).trans bt7
    have lxs : xs.length = ds.length := by omega
    have ha7 := b57.sqT B5 ha5
    have hR7 : H7 R = some (.lst ws) := b57 R _ nRb hR
    have hW7 : HdsAt K H7 (cellsL ds) ws := hW.mono (But.tups B5 b57)
    have tb7 := Tabs.but tb5 B5 b57
    -- number
    refine ⟨_, rfl, _, rfl, a, c, ds, xs, rfl, ha7, SqT.of hc, lxs.symm, D, l3, fun H8 s8 => ?_⟩
    -- told
    have hc8 : SqT K H8 c (xs.map V.int) := Same.sqT s8 (SqT.of hc)
    refine ⟨_, rfl, a, ds, rfl, Same.sqT s8 ha7, l1, l3, D, fun H9 s9 => ?_⟩
    refine ⟨_, rfl, _, rfl, a, c, ds, xs, rfl, Same.sqT (s8.trans s9) ha7, Same.sqT s9 hc8, lxs.symm, D, l1, l3, fun H10 s10 => ⟨(by show 2 ≤ sizeLine; decide), fun T8 nT8 => ?_⟩⟩
    have s711 : Same H7 (upd H10 T8 (.lst [.int (prodL ds), .int (cls ds xs)])) := ((s8.trans s9).trans s10).trans (same_new nT8)
    have hT8 : (upd H10 T8 (.lst [.int (prodL ds), .int (cls ds xs)])) T8 = some (.lst [.int (prodL ds), .int (cls ds xs)]) := upd_same
    generalize upd H10 T8 (.lst [.int (prodL ds), .int (cls ds xs)]) = H11 at s711 hT8
    refine ⟨_, rfl, _, rfl, R, _, rfl, .inl (SqL.of (s711 _ _ hR7)), ?_⟩
    refine ⟨_, rfl, by omega, by omega, fun Dc nDc => ?_⟩
    refine lc_range (lo := 0) (n := ws.length) (fun m G => ∃ us, Same H11 G ∧ G Dc = some (.lst us) ∧ HdsAt K G ((cellsL ds).take m) us) ⟨[], same_new nDc, upd_same, rfl⟩ ?_ ?_
    · rintro m G hm ⟨us, sG, hD, hU⟩
      have lu := hU.len
      refine ⟨rfl, _, rfl, _, rfl, a, ds, 0 + (m : Int), rfl, Same.sqT (s711.trans sG) ha7, l1, l3, D, by omega, by omega, fun G3 p t3 hp => ?_⟩
      have hD3 := t3 _ _ hD
      have tu : Tups K G3 (upd G3 Dc (.lst (us ++ [.ref p]))) := tups_lst hD3
      have gm : (cellsL ds)[m]? = some (pAt ds (m : Int)) := by
        rw [cells_pAt D.one, List.getElem?_map, List.getElem?_range (by omega)]
        rfl
      refine ⟨us, hD3, ?_, us ++ [.ref p], Same.upd_out (sG.trans t3) nDc, upd_same, ?_⟩
      · rw [lu, List.length_take]
        exact small1000 (by omega)
      · rw [take_more gm]
        refine HdsAt.app (HdsAt.mono (fun x zs e => tu x zs (Same.tups t3 x zs e)) hU) (tu _ _ ?_)
        rw [Int.zero_add] at hp
        exact hp
    rintro G ⟨us, sG, hDc, hU⟩
    rw [List.take_of_length_le (by rw [← hW.len]; exact Nat.le_refl _)] at hU
    refine ⟨(by show 1 ≤ sizeLine; decide), fun L1 nL1 => ⟨T8, L1, _, _, rfl, rfl, same_new nL1 _ _ (sG _ _ hT8), upd_same, (by show 3 ≤ sizeLine; decide), fun L2 nL2 => ?_⟩⟩
    have sG2 := (same_new (o := .lst [.ref Dc]) nL1).trans (same_new (o := .lst ([.int (prodL ds), .int (cls ds xs)] ++ [.ref Dc])) nL2)
    have s712 := (s711.trans sG).trans sG2
    have hL2 : (upd (upd G L1 (.lst [.ref Dc])) L2 (.lst ([.int (prodL ds), .int (cls ds xs)] ++ [.ref Dc]))) L2 = some (.lst [.int (prodL ds), .int (cls ds xs), .ref Dc]) := upd_same
    have hDc2 := sG2 _ _ hDc
    have hU2 := hU.mono (Same.tups (K := K) sG2)
    generalize upd (upd G L1 (.lst [.ref Dc])) L2 (.lst ([.int (prodL ds), .int (cls ds xs)] ++ [.ref Dc])) = H12 at s712 hL2 hDc2 hU2
    have hR12 := s712 _ _ hR7
    have hW12 := hW7.mono (Same.tups (K := K) s712)
    refine ⟨_, rfl, _, rfl, R, _, rfl, .inl (SqL.of hR12), _, rfl, _, rfl, (by show 3 ≤ sizeLine; decide), fun L3 nL3 => ?_⟩
    have sL3 := same_new (o := .lst [.int (ws.length : Int), .int (cls ds xs), .ref R]) nL3
    refine ⟨.ref L2, .ref L3, rfl, .inr ⟨L2, L3, _, _, rfl, rfl, .inr ⟨SqL.of (sL3 _ _ hL2), SqL.of upd_same⟩, rfl, (by show 3 ≤ 1000; decide), fun j u v f1 f2 => ?_⟩, fun H13 s13 => ⟨true, rfl, iteF ?_⟩⟩
    · match j, f1, f2 with
      | 0, f1, f2 =>
        cases f1
        cases f2
        refine .inl ⟨rfl, congrArg V.int ?_⟩
        rw [lw]
        omega
      | 1, f1, f2 =>
        cases f1
        cases f2
        exact .inl ⟨rfl, rfl⟩
      | 2, f1, f2 =>
        cases f1
        cases f2
        refine dd_hds (SqL.of (sL3 _ _ hDc2)) (SqL.of (sL3 _ _ hR12)) (hU2.mono (Same.tups sL3)) (hW12.mono (Same.tups sL3)) ?_ fun c hc => ?_
        · rw [← hW12.len, lw]
          omega
        · rw [cells_lens _ _ hc]
          omega
      | m + 3, f1, f2 => cases f1
    have s713 := (s712.trans sL3).trans s13
    have hR13 := s713 _ _ hR7
    have hW13 := hW7.mono (Same.tups (K := K) s713)
    have ha13 : SqT K H13 a (ds.map V.int) := Same.sqT s713 ha7
    have hc13 : SqT K H13 c (xs.map V.int) := Same.sqT s713 (SqT.of hc)
    -- the rests of the place's class
    have cb : 0 ≤ cls ds xs ∧ cls ds xs < prodL ds := by
      have := cls_bound lxs.symm D.one ds.length
      rw [List.take_length, List.take_of_length_le (by rw [List.length_zip]; omega)] at this
      exact this
    obtain ⟨jn, hjn⟩ : ∃ jn : Nat, cls ds xs = (jn : Int) := ⟨(cls ds xs).toNat, by omega⟩
    have hjl : jn < ws.length := by omega
    obtain ⟨cc, ca, e1, e2, hca⟩ := hW13.get (List.getElem?_eq_getElem hjl)
    have ecc : cc = rst ds xs := by
      rw [cells_pAt D.one, List.getElem?_map, List.getElem?_range (by omega)] at e1
      have : cc = pAt ds (jn : Int) := (Option.some.inj e1).symm
      rw [this, ← hjn]
      exact pAt_cls lxs.symm D.one
    refine ⟨_, rfl, _, rfl, R, _, _, _, rfl, by rw [hjn], SqL.of hR13, atI_nat (j := jn) (List.getElem?_eq_getElem hjl), ?_⟩
    rw [e2]
    have hle : (xs.map V.int).length = (ds.map V.int).length := by rw [List.length_map, List.length_map, lxs]
    refine ⟨_, rfl, _, rfl, c, a, xs.map V.int, ds.map V.int, rfl, .inr ⟨hc13, ha13, fun Dm nDm => ?_⟩⟩
    refine lc_it (walk_zipT hle) (fun i G2 => Same H13 G2 ∧ G2 Dm = some (.lst (((List.zipWith (fun x d => x % d) xs ds).take i).map V.int))) ⟨same_new nDm, upd_same⟩ (fun i G2 _ ⟨sm, _⟩ => ⟨Same.sqT sm hc13, Same.sqT sm ha13⟩) ?_ ?_
    · rintro m y G2 G3 hm ⟨sm, hD⟩ ⟨T, x1, x2, rfl, nT, rfl, f1, f2⟩
      obtain ⟨u, hu, rfl⟩ := map_get f1
      obtain ⟨v, hv, rfl⟩ := map_get f2
      have nDT : Dm ≠ T := ne_of_none hD nT
      have gz : (List.zipWith (fun x d => x % d) xs ds)[m]? = some (u % v) := by
        rw [List.getElem?_zipWith, hu, hv]
      have v1 := D.one v (List.mem_of_getElem? hv)
      refine ⟨T, _, rfl, SqT.of upd_same, rfl, _, _, rfl, _, _, rfl, rfl, rfl, ?_⟩
      refine ⟨_, rfl, .inl ⟨_, rfl, _, rfl, _, _, rfl, rfl, by omega, _, (by rw [upd_ne nDT]; exact hD), ?_, ?_, ?_⟩⟩
      · rw [List.length_map]
        refine Nat.lt_of_le_of_lt (List.length_take_le _ _) (small1000 ?_)
        rw [List.length_map] at hm
        omega
      · intro c o e
        have e2 := sm c o e
        rw [upd_ne (ne_of_none e nDm), upd_ne (ne_of_none e2 nT)]
        exact e2
      · rw [upd_same, take_more gz, List.map_append]
        rfl
    rintro G2 ⟨smm, hDm⟩
    have ez : (List.zipWith (fun x d => x % d) xs ds).take (xs.map V.int).length = List.zipWith (fun x d => x % d) xs ds := List.take_of_length_le (by
      rw [List.length_zipWith, List.length_map]
      omega)
    rw [ez] at hDm
    refine ⟨Dm, _, rfl, .inl ⟨SqL.of hDm, fun Tm nTm => ?_⟩⟩
    have sTm := same_new (o := .tup ((List.zipWith (fun x d => x % d) xs ds).map V.int)) nTm
    rw [ecc, rst_zip ds xs lxs.symm] at hca
    refine ne_tups (Same.sqT (smm.trans sTm) hca) (SqT.of upd_same) ⟨false, ?_, iteF ?_⟩
    · rw [decide_eq_true rfl]
      rfl
    have s714 := s713.trans (smm.trans sTm)
    have B14 := BagAt.same B7 s714
    have tb14 := tb7.ext s714
    have ha14 := Same.sqT s714 ha7
    have hR14 := s714 _ _ hR7
    generalize upd G2 Tm (.tup ((List.zipWith (fun x d => x % d) xs ds).map V.int)) = H14 at s714 B14 tb14 ha14 hR14
    -- bad divisors
    refine ⟨_, rfl, _, rfl, b, l, rfl, B14, fun ov oo J1 hO1 ob1 C1' e1' => ?_⟩
    have haJ1 := e1'.sqT B14 ha14
    refine ⟨_, rfl, (by show 1 ≤ sizeLine; decide), fun p1 np1 => ?_⟩
    have w1 := same_new (o := .tup [.int 1]) np1
    refine ⟨p1, 3, .int 1, rfl, rfl, SqT.of upd_same, by decide, by decide, fun e => absurd e (by decide), fun r2 nr2 => ?_⟩
    have w2 := same_new (o := .tup (List.replicate (3 : Int).toNat (V.int 1))) nr2
    have g2 : SqT K (upd (upd J1 p1 (.tup [.int 1])) r2 (.tup (List.replicate (3 : Int).toNat (V.int 1)))) r2 (List.replicate (3 : Int).toNat (V.int 1)) := SqT.of upd_same
    refine cat_reads (Same.sqT (w1.trans w2) haJ1) g2 (by rw [List.length_map, List.length_replicate]; show ds.length + 3 ≤ 1000; omega) fun J3 r3 w3 k3 => ?_
    have W3 := (w1.trans w2).trans w3
    obtain ⟨hd1, ehd, mhd, lhd⟩ := cut_ints ds (-1)
    refine ⟨_, rfl, _, rfl, _, rfl, cut_reads (Same.sqT W3 haJ1) fun J4 r4 w4 k4 => ?_⟩
    rw [ehd] at k4
    refine ⟨(by show 1 ≤ sizeLine; decide), fun p5 np5 => ?_⟩
    have w5 := same_new (o := .tup [.int 0]) np5
    refine cat_reads (Same.sqT w5 k4) (SqT.of upd_same) (by rw [List.length_map]; show hd1.length + 1 ≤ 1000; omega) fun J6 r6 w6 k6 => ?_
    have W6 := W3.trans ((w4.trans w5).trans w6)
    refine ⟨_, rfl, _, rfl, _, rfl, cut_reads (Same.sqT W6 haJ1) fun J7 r7 w7 k7 => ?_⟩
    rw [ehd] at k7
    refine ⟨_, rfl, (by show 1 ≤ sizeLine; decide), fun p8 np8 => ?_⟩
    have w8 := same_new (o := .tup [.int (-2)]) np8
    refine cat_reads (Same.sqT w8 k7) (SqT.of upd_same) (by rw [List.length_map]; show hd1.length + 1 ≤ 1000; omega) fun J9 r9 w9 k9 => ?_
    refine ⟨(by show 2 ≤ sizeLine; decide), fun p10 np10 => ⟨(by show 1 ≤ sizeLine; decide), fun p11 np11 => ⟨(by show 3 ≤ sizeLine; decide), fun p12 np12 => ⟨(by show 3 ≤ sizeLine; decide), fun p13 np13 => ⟨(by show 8 ≤ sizeLine; decide), fun LB nLB => ?_⟩⟩⟩⟩⟩
    have w10 := same_new (o := .tup [.int 3, .int 5]) np10
    have w11 := same_new (o := .tup [.int 13]) np11
    have w12 := same_new (o := .tup [.int 4, .int 2, .int 2]) np12
    have w13 := same_new (o := .tup [.int 12, .int 1, .int 1]) np13
    have wB := same_new (o := .lst [ov, .ref r3, .ref r6, .ref r9, .ref p10, .ref p11, .ref p12, .ref p13]) nLB
    have W1013 := ((w10.trans w11).trans w12).trans w13
    have W9 := W6.trans ((w7.trans w8).trans w9)
    have W13 := W9.trans W1013
    have C13 := BagAt.same C1' W13
    refine ⟨b, l, LB, _, rfl, C13.new nLB, C13.nb nLB, SqL.of upd_same, (by show 0 < 8; decide), (by show 8 < 1000; decide), fun yb J15 hyb C15 e15 => ?_⟩
    have e1315 := (new_but nLB).trans e15
    have up : ∀ {x : Addr} {zs : List V}, SqT K (upd (upd (upd (upd J9 p10 (.tup [.int 3, .int 5])) p11 (.tup [.int 13])) p12 (.tup [.int 4, .int 2, .int 2])) p13 (.tup [.int 12, .int 1, .int 1])) x zs → SqT K J15 x zs := fun h => e1315.sqT C13 h
    have bds : ∀ z ∈ ds, -(2 ^ 64) < z ∧ z < 2 ^ 64 := fun z hz => ⟨by have := D.one z hz; omega, by have := divs_le D hz; omega⟩
    obtain ⟨ob, hOb, hBb⟩ : ∃ ob, OD K J15 yb ob ∧ OB ob := by
      rcases List.mem_cons.mp hyb with e | hyb
      · rw [e]
        exact ⟨oo, (hO1.mono (Same.tups W13)).mono (But.tups C13 e1315), ob1⟩
      rcases List.mem_cons.mp hyb with e | hyb
      · rw [e]
        refine ⟨_, od_ints (ns := ds ++ [1, 1, 1]) (up (Same.sqT (((((w4.trans w5).trans w6).trans ((w7.trans w8).trans w9))).trans W1013) ?_)) ?_, ob_ints ?_⟩
        · rw [List.map_append]
          exact k3
        · rw [List.length_append]
          show ds.length + 3 ≤ 12
          omega
        · intro z hz
          rcases List.mem_append.mp hz with h | h
          · exact bds z h
          · simp at h
            omega
      rcases List.mem_cons.mp hyb with e | hyb
      · rw [e]
        refine ⟨_, od_ints (ns := hd1 ++ [0]) (up (Same.sqT (((w7.trans w8).trans w9).trans W1013) ?_)) ?_, ob_ints ?_⟩
        · rw [List.map_append]
          exact k6
        · rw [List.length_append]
          show hd1.length + 1 ≤ 12
          omega
        · intro z hz
          rcases List.mem_append.mp hz with h | h
          · exact bds z (mhd z h)
          · simp at h
            omega
      rcases List.mem_cons.mp hyb with e | hyb
      · rw [e]
        refine ⟨_, od_ints (ns := hd1 ++ [-2]) (up (Same.sqT W1013 ?_)) ?_, ob_ints ?_⟩
        · rw [List.map_append]
          exact k9
        · rw [List.length_append]
          show hd1.length + 1 ≤ 12
          omega
        · intro z hz
          rcases List.mem_append.mp hz with h | h
          · exact bds z (mhd z h)
          · simp at h
            omega
      rcases List.mem_cons.mp hyb with e | hyb
      · rw [e]
        exact ⟨_, od_ints (ns := [3, 5]) (up (Same.sqT ((w11.trans w12).trans w13) (SqT.of upd_same))) (by decide), ob_ints (ns := [3, 5]) (by decide)⟩
      rcases List.mem_cons.mp hyb with e | hyb
      · rw [e]
        exact ⟨_, od_ints (ns := [13]) (up (Same.sqT (w12.trans w13) (SqT.of upd_same))) (by decide), ob_ints (ns := [13]) (by decide)⟩
      rcases List.mem_cons.mp hyb with e | hyb
      · rw [e]
        exact ⟨_, od_ints (ns := [4, 2, 2]) (up (Same.sqT w13 (SqT.of upd_same))) (by decide), ob_ints (ns := [4, 2, 2]) (by decide)⟩
      · rw [List.mem_singleton.mp hyb]
        exact ⟨_, od_ints (ns := [12, 1, 1]) (up (SqT.of upd_same)) (by decide), ob_ints (ns := [12, 1, 1]) (by decide)⟩
    have e1415 : But b H14 J15 := (e1'.trans (But.same W13)).trans e1315
    have ha15 := e1415.sqT B14 ha14
    have hR15 : J15 R = some (.lst ws) := e1415 R _ nRb hR14
    have tb15 := Tabs.but tb14 B14 e1415
    clear hyb up
    -- the error that is due
    refine ⟨_, rfl, yb, ob, rfl, hOb, hBb, fun J16 TD w16 hTD => ?_⟩
    have tb16 := tb15.ext w16
    -- the lambdas
    refine ⟨tb16, fun f0 c0 fd0 K1 e1 tbK1 nK1 hc0 li0 df0 => ?_⟩
    have k0 := Kept.made nK1 hc0 li0 df0
    have x1 : ExtN J16 _ := e1.trans (extN_new (o := LamO f0 fd0) nK1)
    have tbx1 := tbK1.ext (same_new (o := LamO f0 fd0) nK1)
    generalize upd K1 f0 (LamO f0 fd0) = K2 at k0 x1 tbx1
    refine ⟨(by show 1 ≤ sizeLine; decide), fun La nLa => ?_⟩
    have k0 := k0.extN (extN_new (o := .lst [.ref f0]) nLa)
    have x2 := x1.trans (extN_new (o := .lst [.ref f0]) nLa)
    have tbx2 := tbx1.ext (same_new (o := .lst [.ref f0]) nLa)
    have hLa : (upd K2 La (.lst [.ref f0])) La = some (.lst [.ref f0]) := upd_same
    generalize upd K2 La (.lst [.ref f0]) = K3 at k0 x2 tbx2 hLa
    refine ⟨_, rfl, tbx2, fun fA cA fdA K4 e4 tbK4 nK4 hcA liA dfA => ?_⟩
    have kA := Kept.made nK4 hcA liA dfA
    have x4 : ExtN K3 _ := e4.trans (extN_new (o := LamO fA fdA) nK4)
    have k0 := k0.extN x4
    have x5 := x2.trans x4
    have tbx4 := tbK4.ext (same_new (o := LamO fA fdA) nK4)
    have hLa := x4 _ _ hLa (fun ps z => by cases z)
    generalize upd K4 fA (LamO fA fdA) = K5 at k0 kA x5 tbx4 hLa x4
    refine ⟨(by show 1 ≤ sizeLine; decide), fun Lb nLb => ⟨La, Lb, _, _, rfl, rfl, same_new nLb _ _ hLa, upd_same, (by show 2 ≤ sizeLine; decide), fun Lc nLc => ?_⟩⟩
    have sbc : Same K5 _ := (same_new (o := .lst [.ref fA]) nLb).trans (same_new (o := .lst ([.ref f0] ++ [.ref fA])) nLc)
    have k0 := k0.extN (ExtN.of sbc)
    have kA := kA.extN (ExtN.of sbc)
    have x6 := x5.trans (ExtN.of sbc)
    have tbx6 := tbx4.ext sbc
    have hLc : (upd (upd K5 Lb (.lst [.ref fA])) Lc (.lst ([.ref f0] ++ [.ref fA]))) Lc = some (.lst [.ref f0, .ref fA]) := upd_same
    generalize upd (upd K5 Lb (.lst [.ref fA])) Lc (.lst ([.ref f0] ++ [.ref fA])) = K6 at k0 kA x6 tbx6 hLc
    refine ⟨_, rfl, tbx6, fun fB cB fdB K7 e7 tbK7 nK7 hcB liB dfB => ?_⟩
    have kB := Kept.made nK7 hcB liB dfB
    have x7 : ExtN K6 _ := e7.trans (extN_new (o := LamO fB fdB) nK7)
    have k0 := k0.extN x7
    have kA := kA.extN x7
    have x8 := x6.trans x7
    have tbx7 := tbK7.ext (same_new (o := LamO fB fdB) nK7)
    have hLc := x7 _ _ hLc (fun ps z => by cases z)
    generalize upd K7 fB (LamO fB fdB) = K8 at k0 kA kB x8 tbx7 hLc x7
    refine ⟨(by show 1 ≤ sizeLine; decide), fun Ld nLd => ⟨Lc, Ld, _, _, rfl, rfl, same_new nLd _ _ hLc, upd_same, (by show 3 ≤ sizeLine; decide), fun Lf nLf => ?_⟩⟩
    have sdf : Same K8 _ := (same_new (o := .lst [.ref fB]) nLd).trans (same_new (o := .lst ([.ref f0, .ref fA] ++ [.ref fB])) nLf)
    have k0 := k0.extN (ExtN.of sdf)
    have kA := kA.extN (ExtN.of sdf)
    have kB := kB.extN (ExtN.of sdf)
    have xM := x8.trans (ExtN.of sdf)
    have tbM := tbx7.ext sdf
    have hLf : (upd (upd K8 Ld (.lst [.ref fB])) Lf (.lst ([.ref f0, .ref fA] ++ [.ref fB]))) Lf = some (.lst [.ref f0, .ref fA, .ref fB]) := upd_same
    generalize upd (upd K8 Ld (.lst [.ref fB])) Lf (.lst ([.ref f0, .ref fA] ++ [.ref fB])) = M at k0 kA kB xM tbM hLf
    have BM := (BagAt.same C15 w16).extN xM
    have haM : SqT K M a (ds.map V.int) := ExtN.tups xM _ _ (Same.sqT w16 ha15)
    have hRM : M R = some (.lst ws) := xM _ _ (w16 _ _ hR15) (fun ps z => by cases z)
    have hOM := (hOb.mono (Same.tups (K := K) w16)).mono (ExtN.tups xM)
    have hTM := ExtN.tups xM _ _ hTD
    -- whether they all fail as due
    have caughtD : ∀ (G : Hp) (Q' : VK), dvE ob ≠ 0 → (∀ (G' : Hp) (T' : Addr), Same G G' → G' T' = none → Q' (.ref T') (upd G' T' (.tup [.str (dTag ob), dFld ob]))) → DvK C1 C2 ob G (Caught K CS Q') := fun G Q' hne hq d G' up => by
      refine ⟨fun e hd => ⟨hE1, C1, d, _, "InvalidDivisors", .non, rfl, rfl, R1, hd, rfl, ?_, fun G2 T2 up2 nT2 => ?_⟩, fun e hd => ⟨hE2, C2, d, _, "TooManyClasses", .int 12, rfl, rfl, R2, hd, rfl, ?_, fun G2 T2 up2 nT2 => ?_⟩⟩
      · unfold FieldIs
        rw [if_neg (by decide +kernel), if_neg (by decide +kernel), if_neg (by decide +kernel), if_neg (by decide +kernel), if_neg (by decide +kernel), if_neg (by decide +kernel)]
      · have := hq G2 T2 (fun b u h => up2 b u (up b u h)) nT2
        unfold dTag dFld at this
        rw [e] at this
        exact this
      · unfold FieldIs
        rw [if_neg (by decide +kernel), if_pos (by decide +kernel)]
        rfl
      · have := hq G2 T2 (fun b u h => up2 b u (up b u h)) nT2
        unfold dTag dFld at this
        rw [e] at this
        exact this
    refine ⟨fun σ' G => ∃ (w2 w6 w7 w8 w9 w10 w11 : Option V), σ' = [some (.ref a0), some (.ref b), w2, some (.int (1 + g3)), some (.ref a), some (.ref R), w6, w7, w8, w9, w10, w11, v12, v13, none, none, none, none] ∧ Same M G, ?_, ?_⟩
    · refine ⟨_, rfl, TD, _, _, _, rfl, rfl, hTM, atI_nat (j := 0) rfl, rfl, _, rfl, ite2 (fun e => ?_) (fun e => iteF ⟨_, _, _, _, _, _, _, rfl, Same.refl _⟩)⟩
      have hne : dvE ob ≠ 0 := fun z => by
        have : dTag ob = "value" := by
          unfold dTag
          rw [z]
          rfl
        rw [this] at e
        exact absurd e (by simp)
      refine ⟨_, rfl, Lf, rfl, ⟨_, SqL.of hLf⟩, fun Dt nDt => ?_⟩
      refine lcI_list (K := K) (a := Lf) (xs := [.ref f0, .ref fA, .ref fB]) (fun i G => ∃ ts : List V, G Dt = some (.lst ts) ∧ ts.length = i ∧ (∀ y ∈ ts, ∃ a, y = .ref a ∧ SqT K G a [.str (dTag ob), dFld ob]) ∧ Same M G)
        ⟨[], upd_same, rfl, fun y hy => (by cases hy), same_new nDt⟩ (fun i G _ ⟨_, _, _, _, sm⟩ => SqL.of (sm _ _ hLf)) ?_ ?_
      · rintro i y G hyi ⟨ts, hD, lt, ht, sm⟩
        have fin : ∀ (G' : Hp) (T' : Addr), Same G G' → G' T' = none → ∃ acc, (upd G' T' (.tup [.str (dTag ob), dFld ob])) Dt = some (.lst acc) ∧ acc.length < sizeLine ∧ ∃ ts' : List V, (upd (upd G' T' (.tup [.str (dTag ob), dFld ob])) Dt (.lst (acc ++ [.ref T']))) Dt = some (.lst ts') ∧ ts'.length = i + 1 ∧
            (∀ y ∈ ts', ∃ a, y = .ref a ∧ SqT K (upd (upd G' T' (.tup [.str (dTag ob), dFld ob])) Dt (.lst (acc ++ [.ref T']))) a [.str (dTag ob), dFld ob]) ∧ Same M (upd (upd G' T' (.tup [.str (dTag ob), dFld ob])) Dt (.lst (acc ++ [.ref T']))) := fun G' T' sg nT' => by
          have sg' := sg.trans (same_new (o := .tup [.str (dTag ob), dFld ob]) nT')
          have hD' := sg' _ _ hD
          have tu : Tups K _ (upd (upd G' T' (.tup [.str (dTag ob), dFld ob])) Dt (.lst (ts ++ [.ref T']))) := tups_lst hD'
          have il : i < 3 := (List.getElem?_eq_some_iff.mp hyi).1
          refine ⟨ts, hD', small1000 (by omega), ts ++ [.ref T'], upd_same, by rw [List.length_append, lt]; rfl, fun y hy => ?_, Same.upd_out (sm.trans sg') nDt⟩
          rcases List.mem_append.mp hy with h | h
          · obtain ⟨a, rfl, ha⟩ := ht y h
            exact ⟨a, rfl, tu _ _ (Same.sqT sg' ha)⟩
          · rw [List.mem_singleton.mp h]
            exact ⟨T', rfl, tu _ _ (SqT.of upd_same)⟩
        have OG := hOM.mono (Same.tups (K := K) sm)
        have xG : ExtN M G := ExtN.of sm
        refine ⟨rfl, _, rfl, ?_⟩
        match i, hyi, fin with
        | 0, e, fin =>
          cases e
          obtain ⟨c', fd, h1, h2, h3, h4⟩ := k0.extN xG
          exact ⟨f0, c', fd, lm0 K C1 C2, rfl, List.mem_cons_self, h1, h2, h3, h4, h1, h4, yb, rfl, yb, ob, rfl, OG, hBb, hne, caughtD G _ hne fin⟩
        | 1, e, fin =>
          cases e
          obtain ⟨c', fd, h1, h2, h3, h4⟩ := kA.extN xG
          exact ⟨fA, c', fd, lmA K C1 C2 CE, rfl, by simp, h1, h2, h3, h4, h1, h4, yb, rfl, yb, _, rfl, .inl ⟨ob, OG, hBb, hne, caughtD G _ hne fin⟩⟩
        | 2, e, fin =>
          cases e
          obtain ⟨c', fd, h1, h2, h3, h4⟩ := kB.extN xG
          exact ⟨fB, c', fd, lmB K C1 C2 CE, rfl, by simp, h1, h2, h3, h4, h1, h4, yb, rfl, yb, _, rfl, .inl ⟨ob, OG, hBb, hne, caughtD G _ hne fin⟩⟩
        | m + 3, e, fin => cases e
      · rintro G ⟨ts, hD, lt, ht, sm⟩
        refine ⟨_, rfl, (by show 1 ≤ sizeLine; decide), fun L4 nL4 => ⟨L4, 3, _, rfl, rfl, upd_same, by decide, by decide, (by show 3 ≤ sizeLine; decide), fun L5 nL5 => ?_⟩⟩
        have s45 : Same G _ := (same_new (o := .lst [.ref TD]) nL4).trans (same_new (o := .lst (List.replicate (3 : Int).toNat [V.ref TD]).flatten) nL5)
        have hL5 : (upd (upd G L4 (.lst [.ref TD])) L5 (.lst (List.replicate (3 : Int).toNat [V.ref TD]).flatten)) L5 = some (.lst [.ref TD, .ref TD, .ref TD]) := upd_same
        generalize upd (upd G L4 (.lst [.ref TD])) L5 (.lst (List.replicate (3 : Int).toNat [V.ref TD]).flatten) = G5 at s45 hL5
        have hT5 : SqT K G5 TD [.str (dTag ob), dFld ob] := Same.sqT (sm.trans s45) hTM
        obtain ⟨fd, hfd, hsh, heq⟩ : ∃ fd : PyData, (∀ G : Hp, Dp K G (dFld ob) fd) ∧ SeqAt.shaped (.list [.tuple [.str (dTag ob), fd], .tuple [.str (dTag ob), fd], .tuple [.str (dTag ob), fd]]) = true ∧ PyData.eqv (.list [.tuple [.str (dTag ob), fd], .tuple [.str (dTag ob), fd], .tuple [.str (dTag ob), fd]]) (.list [.tuple [.str (dTag ob), fd], .tuple [.str (dTag ob), fd], .tuple [.str (dTag ob), fd]]) = true := by
          have h12 : dvE ob = 1 ∨ dvE ob = 2 := by
            revert hne
            unfold dvE
            split
            · split
              · intro _; exact .inr rfl
              · intro z; exact absurd rfl z
            · intro _; exact .inl rfl
          unfold dTag dFld
          rcases h12 with e | e
          · rw [e]
            exact ⟨.none, fun _ => .non, by decide +kernel, by decide +kernel⟩
          · rw [e]
            exact ⟨.int 12, fun _ => .int 12, by decide +kernel, by decide +kernel⟩
        have dt : ∀ {p : Addr}, SqT K G5 p [.str (dTag ob), dFld ob] → Dp K G5 (.ref p) (.tuple [.str (dTag ob), fd]) := fun h => .tup h (.cons (.str _) (.cons (hfd _) .nil))
        match ts, lt, ht, hD with
        | [y1, y2, y3], _, ht, hD =>
          obtain ⟨q1, rfl, h1⟩ := ht y1 (by simp)
          obtain ⟨q2, rfl, h2⟩ := ht y2 (by simp)
          obtain ⟨q3, rfl, h3⟩ := ht y3 (by simp)
          refine ⟨_, _, .lst (SqL.of (s45 _ _ hD)) (.cons (dt (Same.sqT s45 h1)) (.cons (dt (Same.sqT s45 h2)) (.cons (dt (Same.sqT s45 h3)) .nil))), .lst (SqL.of hL5) (.cons (dt hT5) (.cons (dt hT5) (.cons (dt hT5) .nil))), hsh, hsh, false, ?_, iteF ⟨_, _, _, _, _, _, _, rfl, sm.trans s45⟩⟩
          rw [heq]
          rfl
    rintro σ' M2 ⟨w2, w6, w7, w8, w9, w10, w11, rfl, sM⟩
    have BM2 := BagAt.same BM sM
    have haM2 := Same.sqT sM haM
    have hRM2 := sM _ _ hRM
    have tbM2 := tbM.ext sM
    have caught : ∀ (z : V) (G : Hp) (Q' : VK), (∀ (G' : Hp) (T' : Addr), Same G G' → G' T' = none → Q' (.ref T') (upd G' T' (.tup [.str "InvalidPlace", z]))) → PlK CE z G (Caught K CS Q') := fun z G Q' hq d G' up hd => by
      refine ⟨hEx, CE, d, _, "InvalidPlace", z, rfl, rfl, RD, hd, rfl, ?_, fun G2 T2 up2 nT2 => hq G2 T2 (fun b u e => up2 b u (up b u e)) nT2⟩
      unfold FieldIs
      rw [if_pos (by decide +kernel)]
      rfl
    -- odd places
    refine ⟨_, rfl, b, l, rfl, BM2, fun ov2 oo2 N1 hO2 _ BN1 eN1 => ?_⟩
    have haN1 := eN1.sqT BM2 haM2
    have hRN1 : N1 R = some (.lst ws) := eN1 R _ nRb hRM2
    have tbN1 := Tabs.but tbM2 BM2 eN1
    refine ⟨fun σ' G => ∃ (w2 w6 w7 w8 w9 w10 w11 w12 : Option V), σ' = [some (.ref a0), some (.ref b), w2, some (.int (1 + g3)), some (.ref a), some (.ref R), w6, w7, w8, w9, w10, w11, w12, v13, none, none, none, none] ∧ BagAt G b l ∧ Tabs [(Pt, lamQ)] G ∧ SqT K G a (ds.map V.int) ∧ G R = some (.lst ws), ?_, ?_⟩
    · refine ⟨_, rfl, _, rfl, ov2, 1 + g3, oo2, rfl, hO2, fun N2 wN2 => ⟨_, rfl, ?_⟩⟩
      have BN2 := BagAt.same BN1 wN2
      have tbN2 := tbN1.ext wN2
      cases hpl : plB oo2 (1 + g3) with
      | true => exact iteF ⟨_, _, _, _, _, _, _, _, rfl, BN2, tbN2, Same.sqT wN2 haN1, wN2 _ _ hRN1⟩
      | false =>
      refine iteT ⟨tbN2, fun N3 xN tbN3 => ?_⟩
      have haN3 := ExtN.tups xN _ _ (Same.sqT wN2 haN1)
      have hRN3 : N3 R = some (.lst ws) := xN _ _ (wN2 _ _ hRN1) (fun ps z => by cases z)
      have hON3 := (hO2.mono (Same.tups (K := K) wN2)).mono (ExtN.tups xN)
      have BN3 := BN2.extN xN
      refine ⟨_, rfl, _, rfl, .ref a, ov2, rfl, .inr ⟨a, ds, oo2, rfl, haN3, l1, l3, D, hON3, by rw [ld]; exact hpl, caught ov2 N3 _ fun G5 T5 s35 nT5 => ?_⟩⟩
      have s36 := s35.trans (same_new (o := .tup [.str "InvalidPlace", ov2]) nT5)
      refine ⟨_, rfl, (by show 2 ≤ sizeLine; decide), fun T6 nT6 => ?_⟩
      have s67 := same_new (o := .tup [.str "InvalidPlace", ov2]) nT6
      have hO6 := hON3.mono (Same.tups (K := K) (s36.trans s67))
      refine ⟨.ref T5, .ref T6, rfl, .inr ⟨T5, T6, [.str "InvalidPlace", ov2], [.str "InvalidPlace", ov2], rfl, rfl, .inl ⟨Same.sqT s67 (SqT.of upd_same), SqT.of upd_same⟩, rfl, (by show 2 ≤ 1000; decide), fun j y z f1 f2 => ?_⟩, fun G7 t7 => ⟨true, rfl, iteF ?_⟩⟩
      · rw [f1] at f2
        cases f2
        rcases List.mem_cons.mp (List.mem_of_getElem? f1) with e | e
        · rw [e]
          exact .inl ⟨rfl, rfl⟩
        · rw [List.mem_singleton.mp e]
          exact hO6.dd.up
      · have s37 := (s36.trans s67).trans t7
        exact ⟨_, _, _, _, _, _, _, _, rfl, BagAt.same BN3 s37, tbN3.ext s37, Same.sqT s37 haN3, s37 _ _ hRN3⟩
    rintro σ' N ⟨w2, w6, w7, w8, w9, w10, w11, w12, rfl, BN, tbN, haN, hRN⟩
    -- numbers of no class
    refine ⟨_, rfl, _, rfl, _, rfl, R, _, rfl, .inl (SqL.of hRN), _, _, rfl, rfl, ⟨by decide, by decide, by decide⟩, (by show 3 ≤ sizeLine; decide), fun L7 nL7 => ?_⟩
    refine ⟨b, l, L7, _, rfl, BN.new nL7, BN.nb nL7, SqL.of upd_same, (by show 0 < 3; decide), (by show 3 < 1000; decide), fun yf N4 hyf BN4 eN4 => ?_⟩
    have eN := (new_but (b := b) nL7).trans eN4
    obtain ⟨fi, rfl, hfi⟩ : ∃ fi : Int, yf = .int fi ∧ ¬ (0 ≤ fi ∧ fi < prodL ds) := by
      rcases List.mem_cons.mp hyf with e | hyf
      · exact ⟨-1, e, by omega⟩
      rcases List.mem_cons.mp hyf with e | hyf
      · exact ⟨(ws.length : Int), e, by rw [lw]; omega⟩
      · exact ⟨10 ^ (29 : Int).toNat, List.mem_singleton.mp hyf, fun z => by
          have : (12 : Int) < 10 ^ (29 : Int).toNat := by decide
          omega⟩
    have haN4 := eN.sqT BN haN
    refine ⟨Tabs.but tbN BN eN, fun N5 xN tbN5 => ?_⟩
    have haN5 := ExtN.tups xN _ _ haN4
    have BN5 := BN4.extN xN
    refine ⟨_, rfl, _, rfl, .ref a, fi, rfl, .inr ⟨a, ds, rfl, haN5, l1, l3, D, hfi, caught (.int fi) N5 _ fun G5 T5 s35 nT5 => ?_⟩⟩
    have s36 := s35.trans (same_new (o := .tup [.str "InvalidPlace", .int fi]) nT5)
    refine ⟨_, rfl, (by show 2 ≤ sizeLine; decide), fun T6 nT6 => ?_⟩
    have s67 := same_new (o := .tup [.str "InvalidPlace", .int fi]) nT6
    refine ⟨.ref T5, .ref T6, rfl, .inr ⟨T5, T6, [.str "InvalidPlace", .int fi], [.str "InvalidPlace", .int fi], rfl, rfl, .inl ⟨Same.sqT s67 (SqT.of upd_same), SqT.of upd_same⟩, rfl, (by show 2 ≤ 1000; decide), fun j y z f1 f2 => ?_⟩, fun G7 t7 => ⟨true, rfl, iteF ?_⟩⟩
    · rw [f1] at f2
      cases f2
      rcases List.mem_cons.mp (List.mem_of_getElem? f1) with e | e
      · rw [e]
        exact .inl ⟨rfl, rfl⟩
      · rw [List.mem_singleton.mp e]
        exact .inl ⟨rfl, rfl⟩
    · have s37 := (s36.trans s67).trans t7
      exact ⟨_, _, _, _, _, _, _, _, _, _, _, _, rfl, BagAt.same BN5 s37, tbN5.ext s37⟩
end
end Lk

namespace Lk
open PySem L2 Lx LamX
/-- what the top has written of a def -/
structure Def (K : PySem.W.Frag) (mg : Str → Option Value) (x : Str) (st : Stmt) (ps : List Str) (f : Addr) (fd : FuncData) : Prop where
  fn : Fun K x x st f fd
  at_ : mg x = some (.ref f)
  bd : Binds K fd ps []
theorem def_mk {K : PySem.W.Frag} {h : Heap} {mg : Str → Option Value} {x : Str} {st : Stmt} {ps : List Str} {f : Addr} {oc : Value} {od an : Option Addr} {sl : Array (Option Value)} {kV dc pm cd ct : Value} (X : K.In h) (G : h.Ns mainGlobals mg)
    (a : PySem.W.nsIn K mainGlobals x = some (some (.ref f))) (l : K.lookup f = some ⟨oc, od, .func (PySem.W.fnOf x x (defArgs st) (defBody st) (defScope st) .none kV dc pm an cd ct), sl⟩) (c : PySem.W.codeIn K cd x = true) (k : PySem.W.keepIn K (.ref f) = true)
    (hb : ∀ (kV doc pm : Value) (an : Option Addr) (cdv ct : Value) (us : List Value), us.length = ps.length → bindArgs (PySem.W.fnOf x x (defArgs st) (defBody st) (defScope st) .none kV doc pm an cdv ct) ⟨us, []⟩ = pure (ps.zip us)) :
    Def K mg x st ps f (PySem.W.fnOf x x (defArgs st) (defBody st) (defScope st) .none kV dc pm an cd ct) := by
  have F := fun_mk (st := st) l c k
  exact ⟨F, PySem.W.mg_of X G a, F.binds hb⟩

theorem all_mk {l : PySem.W.OpenLaw} {w : World} {K : PySem.W.Frag} {h : Heap} {mg : Str → Option Value} {fa : Addr} (X : K.In h) (G : h.Ns mainGlobals mg) (hfa : mg "law" = some (.ref fa))
    {f_eSE} {oc_eSE} {od_eSE} {kV_eSE} {dc_eSE} {pm_eSE} {an_eSE} {ct_eSE} {sl_eSE} {cda_eSE} {cc_eSE} {ccl_eSE} {cdd_eSE} {vs_eSE} {ccs_eSE} {file_eSE} {tf_eSE} {cl_eSE} {cld_eSE} {csl_eSE} {cdD_eSE} {E_eSE} {f_eIP} {oc_eIP} {od_eIP} {kV_eIP} {dc_eIP} {pm_eIP} {an_eIP} {ct_eIP} {sl_eIP} {cda_eIP} {cc_eIP} {ccl_eIP} {cdd_eIP} {vs_eIP} {ccs_eIP} {file_eIP} {tf_eIP} {cl_eIP} {cld_eIP} {csl_eIP} {cdD_eIP} {E_eIP} {nm_eIP} {q_eIP} {N_eIP} {bs_eIP} {bm_eIP} {sn_eIP} {sub_eIP} {ab_eIP} {col_eIP} {ddd_eIP} {m0_eIP} {m1_eIP} {m2_eIP} {m3_eIP} {m5_eIP} {f_eID} {oc_eID} {od_eID} {kV_eID} {dc_eID} {pm_eID} {an_eID} {ct_eID} {sl_eID} {cda_eID} {cc_eID} {ccl_eID} {cdd_eID} {vs_eID} {ccs_eID} {file_eID} {tf_eID} {cl_eID} {cld_eID} {csl_eID} {cdD_eID} {E_eID} {nm_eID} {q_eID} {N_eID} {bs_eID} {bm_eID} {sn_eID} {sub_eID} {ab_eID} {col_eID} {ddd_eID} {m0_eID} {m1_eID} {m2_eID} {m3_eID} {m5_eID} {f_eTM} {oc_eTM} {od_eTM} {kV_eTM} {dc_eTM} {pm_eTM} {an_eTM} {ct_eTM} {sl_eTM} {cda_eTM} {cc_eTM} {ccl_eTM} {cdd_eTM} {vs_eTM} {ccs_eTM} {file_eTM} {tf_eTM} {cl_eTM} {cld_eTM} {csl_eTM} {cdD_eTM} {E_eTM} {nm_eTM} {q_eTM} {N_eTM} {bs_eTM} {bm_eTM} {sn_eTM} {sub_eTM} {ab_eTM} {col_eTM} {ddd_eTM} {m0_eTM} {m1_eTM} {m2_eTM} {m3_eTM} {m5_eTM} {f_Law} {oc_Law} {od_Law} {kV_Law} {dc_Law} {pm_Law} {an_Law} {ct_Law} {sl_Law} {cda} {Pt} {dcd} {vsL} {slcd} {fileL} {tfL} {flagsL} {tgL} {inFL} {textL} {ttL} {f_Try} {oc_Try} {od_Try} {kV_Try} {dc_Try} {pm_Try} {an_Try} {cd_Try} {ct_Try} {sl_Try} {f_Field} {oc_Field} {od_Field} {kV_Field} {dc_Field} {pm_Field} {an_Field} {cd_Field} {ct_Field} {sl_Field} {f_ChkDiv} {oc_ChkDiv} {od_ChkDiv} {kV_ChkDiv} {dc_ChkDiv} {pm_ChkDiv} {an_ChkDiv} {cd_ChkDiv} {ct_ChkDiv} {sl_ChkDiv} {t_MAX_CLASSES} {f_AreSides} {oc_AreSides} {od_AreSides} {kV_AreSides} {dc_AreSides} {pm_AreSides} {an_AreSides} {cd_AreSides} {ct_AreSides} {sl_AreSides} {t_MAX_DIRECTIONS} {f_AreNums} {oc_AreNums} {od_AreNums} {kV_AreNums} {dc_AreNums} {pm_AreNums} {an_AreNums} {cd_AreNums} {ct_AreNums} {sl_AreNums} {f_IsNum} {oc_IsNum} {od_IsNum} {kV_IsNum} {dc_IsNum} {pm_IsNum} {an_IsNum} {cd_IsNum} {ct_IsNum} {sl_IsNum} {f_Product} {oc_Product} {od_Product} {kV_Product} {dc_Product} {pm_Product} {an_Product} {cd_Product} {ct_Product} {sl_Product} {f_ClassCount} {oc_ClassCount} {od_ClassCount} {kV_ClassCount} {dc_ClassCount} {pm_ClassCount} {an_ClassCount} {cd_ClassCount} {ct_ClassCount} {sl_ClassCount} {t_MAX_CELLS} {f_Bag} {oc_Bag} {od_Bag} {kV_Bag} {dc_Bag} {pm_Bag} {an_Bag} {cd_Bag} {ct_Bag} {sl_Bag} {f_Pull} {oc_Pull} {od_Pull} {kV_Pull} {dc_Pull} {pm_Pull} {an_Pull} {cd_Pull} {ct_Pull} {sl_Pull} {f_Of} {oc_Of} {od_Of} {kV_Of} {dc_Of} {pm_Of} {an_Of} {cd_Of} {ct_Of} {sl_Of} {f_Place} {oc_Place} {od_Place} {kV_Place} {dc_Place} {pm_Place} {an_Place} {cd_Place} {ct_Place} {sl_Place} {f_Divisors} {oc_Divisors} {od_Divisors} {kV_Divisors} {dc_Divisors} {pm_Divisors} {an_Divisors} {cd_Divisors} {ct_Divisors} {sl_Divisors} {f_Mixed} {oc_Mixed} {od_Mixed} {kV_Mixed} {dc_Mixed} {pm_Mixed} {an_Mixed} {cd_Mixed} {ct_Mixed} {sl_Mixed} {f_LCells} {oc_LCells} {od_LCells} {kV_LCells} {dc_LCells} {pm_LCells} {an_LCells} {cd_LCells} {ct_LCells} {sl_LCells} {f_LClass} {oc_LClass} {od_LClass} {kV_LClass} {dc_LClass} {pm_LClass} {an_LClass} {cd_LClass} {ct_LClass} {sl_LClass} {f_ClassOf} {oc_ClassOf} {od_ClassOf} {kV_ClassOf} {dc_ClassOf} {pm_ClassOf} {an_ClassOf} {cd_ClassOf} {ct_ClassOf} {sl_ClassOf} {f_ChkPlace} {oc_ChkPlace} {od_ChkPlace} {kV_ChkPlace} {dc_ChkPlace} {pm_ChkPlace} {an_ChkPlace} {cd_ChkPlace} {ct_ChkPlace} {sl_ChkPlace} {f_ClassAt} {oc_ClassAt} {od_ClassAt} {kV_ClassAt} {dc_ClassAt} {pm_ClassAt} {an_ClassAt} {cd_ClassAt} {ct_ClassAt} {sl_ClassAt} {f_RestsOf} {oc_RestsOf} {od_RestsOf} {kV_RestsOf} {dc_RestsOf} {pm_RestsOf} {an_RestsOf} {cd_RestsOf} {ct_RestsOf} {sl_RestsOf} {f_PlaceAt} {oc_PlaceAt} {od_PlaceAt} {kV_PlaceAt} {dc_PlaceAt} {pm_PlaceAt} {an_PlaceAt} {cd_PlaceAt} {ct_PlaceAt} {sl_PlaceAt} {f_LSame} {oc_LSame} {od_LSame} {kV_LSame} {dc_LSame} {pm_LSame} {an_LSame} {cd_LSame} {ct_LSame} {sl_LSame} {f_Odd} {oc_Odd} {od_Odd} {kV_Odd} {dc_Odd} {pm_Odd} {an_Odd} {cd_Odd} {ct_Odd} {sl_Odd} {f_IsPlace} {oc_IsPlace} {od_IsPlace} {kV_IsPlace} {dc_IsPlace} {pm_IsPlace} {an_IsPlace} {cd_IsPlace} {ct_IsPlace} {sl_IsPlace} {f_DivErr} {oc_DivErr} {od_DivErr} {kV_DivErr} {dc_DivErr} {pm_DivErr} {an_DivErr} {cd_DivErr} {ct_DivErr} {sl_DivErr} {f_Count} {oc_Count} {od_Count} {kV_Count} {dc_Count} {pm_Count} {an_Count} {cd_Count} {ct_Count} {sl_Count}
    (z_super : PySem.W.nsIn K mainGlobals "super" = some none)
    (spT : (l.prog.main.scope.names.lookup ("super" : Str)).isSome = false)
    (spO : PySem.W.nsIn K cStatics "thirdparty.any" = some none)
    (aE_eSE : PySem.W.nsIn K mainGlobals "ScanError" = some (some (.ref E_eSE)))
    (iE_eSE : PySem.W.findIn K (.ref E_eSE) "__init__" = some (some (.ref f_eSE)))
    (lE_eSE : K.lookup f_eSE = some ⟨oc_eSE, od_eSE, .func (PySem.W.ksFn "__init__" "ScanError.__init__" (defArgs sSE) (defBody sSE) (defScope sSE) .none kV_eSE dc_eSE pm_eSE an_eSE (.ref cda_eSE) ct_eSE cc_eSE), sl_eSE⟩)
    (cE_eSE : PySem.W.codeIn K (.ref cda_eSE) "ScanError.__init__" = true)
    (lcE_eSE : K.lookup cda_eSE = some ⟨ccl_eSE, cdd_eSE, .fields vs_eSE, ccs_eSE⟩)
    (v2E_eSE : vs_eSE[2]? = some (.str file_eSE tf_eSE))
    (flE_eSE : ((l.prog.main.file : Str) == file_eSE) = true)
    (llE_eSE : K.lookup cc_eSE = some ⟨cl_eSE, cld_eSE, .cell (some (.ref E_eSE)), csl_eSE⟩)
    (lDE_eSE : PySem.W.clsIn K E_eSE = some cdD_eSE)
    (aE_eIP : PySem.W.nsIn K mainGlobals "InvalidPlace" = some (some (.ref E_eIP)))
    (iE_eIP : PySem.W.findIn K (.ref E_eIP) "__init__" = some (some (.ref f_eIP)))
    (lE_eIP : K.lookup f_eIP = some ⟨oc_eIP, od_eIP, .func (PySem.W.ksFn "__init__" "InvalidPlace.__init__" (defArgs sIP) (defBody sIP) (defScope sIP) .none kV_eIP dc_eIP pm_eIP an_eIP (.ref cda_eIP) ct_eIP cc_eIP), sl_eIP⟩)
    (cE_eIP : PySem.W.codeIn K (.ref cda_eIP) "InvalidPlace.__init__" = true)
    (lcE_eIP : K.lookup cda_eIP = some ⟨ccl_eIP, cdd_eIP, .fields vs_eIP, ccs_eIP⟩)
    (v2E_eIP : vs_eIP[2]? = some (.str file_eIP tf_eIP))
    (flE_eIP : ((l.prog.main.file : Str) == file_eIP) = true)
    (llE_eIP : K.lookup cc_eIP = some ⟨cl_eIP, cld_eIP, .cell (some (.ref E_eIP)), csl_eIP⟩)
    (lDE_eIP : PySem.W.clsIn K E_eIP = some cdD_eIP)
    (xL_eIP : K.lookup E_eIP = some (excClassObj nm_eIP q_eIP E_eIP N_eIP bs_eIP bm_eIP true sn_eIP sub_eIP ab_eIP col_eIP ddd_eIP m0_eIP m1_eIP m2_eIP m3_eIP m5_eIP "ValueError.__new__"))
    (xR_eIP : PySem.HandSPX.refsVE bm_eIP = true)
    (sa_eIP : PySem.W.findIn K (.ref E_eIP) "__setattr__" = some (some (.builtin "object.__setattr__")))
    (exC_eIP : PySem.W.subIn K (.ref E_eIP) (.type "BaseException") = some true)
    (tyC_eIP : PySem.W.typeIn K (.ref E_eIP) = some (.type "type"))
    (kpC_eIP : PySem.W.keepIn K (.ref E_eIP) = true)
    (s1_eIP : PySem.W.mroIn K E_eIP (.ref E_eIP) = some true)
    (s2_eIP : PySem.W.mroIn K E_eIP (.ref E_eSE) = some true)
    (m1x_eIP : PySem.W.ks_superIn K E_eIP E_eIP "__init__" = some (some (.ref f_eSE)))
    (m2x_eIP : PySem.W.ks_superIn K E_eIP E_eSE "__init__" = some (some (.builtin "ValueError.__init__")))
    (ve_eIP : PySem.W.subIn K (.ref E_eIP) (.type "ValueError") = some true)
    (tS_eSE : PySem.W.typeIn K (.ref f_eSE) = some (.type "function"))
    (fS_eSE : PySem.W.fnIn K f_eSE = true)
    (tI_eIP : PySem.W.typeIn K (.ref f_eIP) = some (.type "function"))
    (no_tag_eIP : PySem.W.findIn K (.ref E_eIP) "tag" = some none)
    (no_given_eIP : PySem.W.findIn K (.ref E_eIP) "given" = some none)
    (no_limit_eIP : PySem.W.findIn K (.ref E_eIP) "limit" = some none)
    (no_index_eIP : PySem.W.findIn K (.ref E_eIP) "index" = some none)
    (no_name_eIP : PySem.W.findIn K (.ref E_eIP) "name" = some none)
    (no_first_eIP : PySem.W.findIn K (.ref E_eIP) "first" = some none)
    (no_line_eIP : PySem.W.findIn K (.ref E_eIP) "line" = some none)
    (xga_eIP : PySem.W.findIn K (.ref E_eIP) "__getattribute__" = some (some (.builtin "BaseException.__getattribute__")))
    (xgg_eIP : PySem.W.findIn K (.ref E_eIP) "__getattr__" = some none)
    (xhd_eIP : PySem.W.hasDictIn K E_eIP = true)
    (xex_eIP : PySem.W.exmOne K (.ref E_eIP) (.ref E_eSE) = some true)
    (aE_eID : PySem.W.nsIn K mainGlobals "InvalidDivisors" = some (some (.ref E_eID)))
    (iE_eID : PySem.W.findIn K (.ref E_eID) "__init__" = some (some (.ref f_eID)))
    (lE_eID : K.lookup f_eID = some ⟨oc_eID, od_eID, .func (PySem.W.ksFn "__init__" "InvalidDivisors.__init__" (defArgs sID) (defBody sID) (defScope sID) .none kV_eID dc_eID pm_eID an_eID (.ref cda_eID) ct_eID cc_eID), sl_eID⟩)
    (cE_eID : PySem.W.codeIn K (.ref cda_eID) "InvalidDivisors.__init__" = true)
    (lcE_eID : K.lookup cda_eID = some ⟨ccl_eID, cdd_eID, .fields vs_eID, ccs_eID⟩)
    (v2E_eID : vs_eID[2]? = some (.str file_eID tf_eID))
    (flE_eID : ((l.prog.main.file : Str) == file_eID) = true)
    (llE_eID : K.lookup cc_eID = some ⟨cl_eID, cld_eID, .cell (some (.ref E_eID)), csl_eID⟩)
    (lDE_eID : PySem.W.clsIn K E_eID = some cdD_eID)
    (xL_eID : K.lookup E_eID = some (excClassObj nm_eID q_eID E_eID N_eID bs_eID bm_eID true sn_eID sub_eID ab_eID col_eID ddd_eID m0_eID m1_eID m2_eID m3_eID m5_eID "ValueError.__new__"))
    (xR_eID : PySem.HandSPX.refsVE bm_eID = true)
    (sa_eID : PySem.W.findIn K (.ref E_eID) "__setattr__" = some (some (.builtin "object.__setattr__")))
    (exC_eID : PySem.W.subIn K (.ref E_eID) (.type "BaseException") = some true)
    (tyC_eID : PySem.W.typeIn K (.ref E_eID) = some (.type "type"))
    (kpC_eID : PySem.W.keepIn K (.ref E_eID) = true)
    (s1_eID : PySem.W.mroIn K E_eID (.ref E_eID) = some true)
    (s2_eID : PySem.W.mroIn K E_eID (.ref E_eSE) = some true)
    (m1x_eID : PySem.W.ks_superIn K E_eID E_eID "__init__" = some (some (.ref f_eSE)))
    (m2x_eID : PySem.W.ks_superIn K E_eID E_eSE "__init__" = some (some (.builtin "ValueError.__init__")))
    (ve_eID : PySem.W.subIn K (.ref E_eID) (.type "ValueError") = some true)
    (tI_eID : PySem.W.typeIn K (.ref f_eID) = some (.type "function"))
    (no_tag_eID : PySem.W.findIn K (.ref E_eID) "tag" = some none)
    (no_given_eID : PySem.W.findIn K (.ref E_eID) "given" = some none)
    (no_limit_eID : PySem.W.findIn K (.ref E_eID) "limit" = some none)
    (no_index_eID : PySem.W.findIn K (.ref E_eID) "index" = some none)
    (no_name_eID : PySem.W.findIn K (.ref E_eID) "name" = some none)
    (no_first_eID : PySem.W.findIn K (.ref E_eID) "first" = some none)
    (no_line_eID : PySem.W.findIn K (.ref E_eID) "line" = some none)
    (xga_eID : PySem.W.findIn K (.ref E_eID) "__getattribute__" = some (some (.builtin "BaseException.__getattribute__")))
    (xgg_eID : PySem.W.findIn K (.ref E_eID) "__getattr__" = some none)
    (xhd_eID : PySem.W.hasDictIn K E_eID = true)
    (xex_eID : PySem.W.exmOne K (.ref E_eID) (.ref E_eSE) = some true)
    (aE_eTM : PySem.W.nsIn K mainGlobals "TooManyClasses" = some (some (.ref E_eTM)))
    (iE_eTM : PySem.W.findIn K (.ref E_eTM) "__init__" = some (some (.ref f_eTM)))
    (lE_eTM : K.lookup f_eTM = some ⟨oc_eTM, od_eTM, .func (PySem.W.ksFn "__init__" "TooManyClasses.__init__" (defArgs sTM) (defBody sTM) (defScope sTM) .none kV_eTM dc_eTM pm_eTM an_eTM (.ref cda_eTM) ct_eTM cc_eTM), sl_eTM⟩)
    (cE_eTM : PySem.W.codeIn K (.ref cda_eTM) "TooManyClasses.__init__" = true)
    (lcE_eTM : K.lookup cda_eTM = some ⟨ccl_eTM, cdd_eTM, .fields vs_eTM, ccs_eTM⟩)
    (v2E_eTM : vs_eTM[2]? = some (.str file_eTM tf_eTM))
    (flE_eTM : ((l.prog.main.file : Str) == file_eTM) = true)
    (llE_eTM : K.lookup cc_eTM = some ⟨cl_eTM, cld_eTM, .cell (some (.ref E_eTM)), csl_eTM⟩)
    (lDE_eTM : PySem.W.clsIn K E_eTM = some cdD_eTM)
    (xL_eTM : K.lookup E_eTM = some (excClassObj nm_eTM q_eTM E_eTM N_eTM bs_eTM bm_eTM true sn_eTM sub_eTM ab_eTM col_eTM ddd_eTM m0_eTM m1_eTM m2_eTM m3_eTM m5_eTM "ValueError.__new__"))
    (xR_eTM : PySem.HandSPX.refsVE bm_eTM = true)
    (sa_eTM : PySem.W.findIn K (.ref E_eTM) "__setattr__" = some (some (.builtin "object.__setattr__")))
    (exC_eTM : PySem.W.subIn K (.ref E_eTM) (.type "BaseException") = some true)
    (tyC_eTM : PySem.W.typeIn K (.ref E_eTM) = some (.type "type"))
    (kpC_eTM : PySem.W.keepIn K (.ref E_eTM) = true)
    (s1_eTM : PySem.W.mroIn K E_eTM (.ref E_eTM) = some true)
    (s2_eTM : PySem.W.mroIn K E_eTM (.ref E_eSE) = some true)
    (m1x_eTM : PySem.W.ks_superIn K E_eTM E_eTM "__init__" = some (some (.ref f_eSE)))
    (m2x_eTM : PySem.W.ks_superIn K E_eTM E_eSE "__init__" = some (some (.builtin "ValueError.__init__")))
    (ve_eTM : PySem.W.subIn K (.ref E_eTM) (.type "ValueError") = some true)
    (tI_eTM : PySem.W.typeIn K (.ref f_eTM) = some (.type "function"))
    (no_tag_eTM : PySem.W.findIn K (.ref E_eTM) "tag" = some none)
    (no_given_eTM : PySem.W.findIn K (.ref E_eTM) "given" = some none)
    (no_limit_eTM : PySem.W.findIn K (.ref E_eTM) "limit" = some none)
    (no_index_eTM : PySem.W.findIn K (.ref E_eTM) "index" = some none)
    (no_name_eTM : PySem.W.findIn K (.ref E_eTM) "name" = some none)
    (no_first_eTM : PySem.W.findIn K (.ref E_eTM) "first" = some none)
    (no_line_eTM : PySem.W.findIn K (.ref E_eTM) "line" = some none)
    (xga_eTM : PySem.W.findIn K (.ref E_eTM) "__getattribute__" = some (some (.builtin "BaseException.__getattribute__")))
    (xgg_eTM : PySem.W.findIn K (.ref E_eTM) "__getattr__" = some none)
    (xhd_eTM : PySem.W.hasDictIn K E_eTM = true)
    (xex_eTM : PySem.W.exmOne K (.ref E_eTM) (.ref E_eSE) = some true)
    (a_Law : PySem.W.nsIn K mainGlobals "law" = some (some (.ref f_Law)))
    (l_Law : K.lookup f_Law = some ⟨oc_Law, od_Law, .func (PySem.W.fnOf "law" "law" (defArgs sLaw) (defBody sLaw) (defScope sLaw) .none kV_Law dc_Law pm_Law an_Law (.ref cda) ct_Law), sl_Law⟩)
    (c_Law : PySem.W.codeIn K (.ref cda) "law" = true)
    (k_Law : PySem.W.keepIn K (.ref f_Law) = true)
    (lcd : K.lookup cda = some ⟨.type "code", dcd, .fields vsL, slcd⟩)
    (v11 : vsL[11]? = some (.ref Pt))
    (v11d : vsL.getD 11 .none = .ref Pt)
    (v18 : vsL.getD 18 .none = .str fileL tfL)
    (v7 : vsL.getD 7 .none = .int flagsL tgL)
    (v9 : vsL.getD 9 .none = .bool inFL)
    (v10 : vsL.getD 10 .none = .int textL ttL)
    (vne : cda ≠ Pt)
    (lPt : K.lookup Pt = none)
    (tab : h.get? Pt = some { cls := .none, data := .fields #[] })
    (a_Try : PySem.W.nsIn K mainGlobals "_law_try" = some (some (.ref f_Try)))
    (l_Try : K.lookup f_Try = some ⟨oc_Try, od_Try, .func (PySem.W.fnOf "_law_try" "_law_try" (defArgs sTry) (defBody sTry) (defScope sTry) .none kV_Try dc_Try pm_Try an_Try cd_Try ct_Try), sl_Try⟩)
    (c_Try : PySem.W.codeIn K cd_Try "_law_try" = true)
    (k_Try : PySem.W.keepIn K (.ref f_Try) = true)
    (a_Field : PySem.W.nsIn K mainGlobals "_law_field" = some (some (.ref f_Field)))
    (l_Field : K.lookup f_Field = some ⟨oc_Field, od_Field, .func (PySem.W.fnOf "_law_field" "_law_field" (defArgs sField) (defBody sField) (defScope sField) .none kV_Field dc_Field pm_Field an_Field cd_Field ct_Field), sl_Field⟩)
    (c_Field : PySem.W.codeIn K cd_Field "_law_field" = true)
    (k_Field : PySem.W.keepIn K (.ref f_Field) = true)
    (a_ChkDiv : PySem.W.nsIn K mainGlobals "check_divisors" = some (some (.ref f_ChkDiv)))
    (l_ChkDiv : K.lookup f_ChkDiv = some ⟨oc_ChkDiv, od_ChkDiv, .func (PySem.W.fnOf "check_divisors" "check_divisors" (defArgs sChkDiv) (defBody sChkDiv) (defScope sChkDiv) .none kV_ChkDiv dc_ChkDiv pm_ChkDiv an_ChkDiv cd_ChkDiv ct_ChkDiv), sl_ChkDiv⟩)
    (c_ChkDiv : PySem.W.codeIn K cd_ChkDiv "check_divisors" = true)
    (k_ChkDiv : PySem.W.keepIn K (.ref f_ChkDiv) = true)
    (n_MAX_CLASSES : PySem.W.nsIn K mainGlobals "MAX_CLASSES" = some (some (.int 12 t_MAX_CLASSES)))
    (a_AreSides : PySem.W.nsIn K mainGlobals "are_sides" = some (some (.ref f_AreSides)))
    (l_AreSides : K.lookup f_AreSides = some ⟨oc_AreSides, od_AreSides, .func (PySem.W.fnOf "are_sides" "are_sides" (defArgs sAreSides) (defBody sAreSides) (defScope sAreSides) .none kV_AreSides dc_AreSides pm_AreSides an_AreSides cd_AreSides ct_AreSides), sl_AreSides⟩)
    (c_AreSides : PySem.W.codeIn K cd_AreSides "are_sides" = true)
    (k_AreSides : PySem.W.keepIn K (.ref f_AreSides) = true)
    (z_isinstance : PySem.W.nsIn K mainGlobals "isinstance" = some none)
    (z_tuple : PySem.W.nsIn K mainGlobals "tuple" = some none)
    (z_len : PySem.W.nsIn K mainGlobals "len" = some none)
    (z_min : PySem.W.nsIn K mainGlobals "min" = some none)
    (n_MAX_DIRECTIONS : PySem.W.nsIn K mainGlobals "MAX_DIRECTIONS" = some (some (.int 3 t_MAX_DIRECTIONS)))
    (a_AreNums : PySem.W.nsIn K mainGlobals "are_numbers" = some (some (.ref f_AreNums)))
    (l_AreNums : K.lookup f_AreNums = some ⟨oc_AreNums, od_AreNums, .func (PySem.W.fnOf "are_numbers" "are_numbers" (defArgs sAreNums) (defBody sAreNums) (defScope sAreNums) .none kV_AreNums dc_AreNums pm_AreNums an_AreNums cd_AreNums ct_AreNums), sl_AreNums⟩)
    (c_AreNums : PySem.W.codeIn K cd_AreNums "are_numbers" = true)
    (k_AreNums : PySem.W.keepIn K (.ref f_AreNums) = true)
    (z_all : PySem.W.nsIn K mainGlobals "all" = some none)
    (a_IsNum : PySem.W.nsIn K mainGlobals "is_number" = some (some (.ref f_IsNum)))
    (l_IsNum : K.lookup f_IsNum = some ⟨oc_IsNum, od_IsNum, .func (PySem.W.fnOf "is_number" "is_number" (defArgs sIsNum) (defBody sIsNum) (defScope sIsNum) .none kV_IsNum dc_IsNum pm_IsNum an_IsNum cd_IsNum ct_IsNum), sl_IsNum⟩)
    (c_IsNum : PySem.W.codeIn K cd_IsNum "is_number" = true)
    (k_IsNum : PySem.W.keepIn K (.ref f_IsNum) = true)
    (z_int : PySem.W.nsIn K mainGlobals "int" = some none)
    (z_bool : PySem.W.nsIn K mainGlobals "bool" = some none)
    (a_Product : PySem.W.nsIn K mainGlobals "product" = some (some (.ref f_Product)))
    (l_Product : K.lookup f_Product = some ⟨oc_Product, od_Product, .func (PySem.W.fnOf "product" "product" (defArgs sProduct) (defBody sProduct) (defScope sProduct) .none kV_Product dc_Product pm_Product an_Product cd_Product ct_Product), sl_Product⟩)
    (c_Product : PySem.W.codeIn K cd_Product "product" = true)
    (k_Product : PySem.W.keepIn K (.ref f_Product) = true)
    (a_ClassCount : PySem.W.nsIn K mainGlobals "class_count" = some (some (.ref f_ClassCount)))
    (l_ClassCount : K.lookup f_ClassCount = some ⟨oc_ClassCount, od_ClassCount, .func (PySem.W.fnOf "class_count" "class_count" (defArgs sClassCount) (defBody sClassCount) (defScope sClassCount) .none kV_ClassCount dc_ClassCount pm_ClassCount an_ClassCount cd_ClassCount ct_ClassCount), sl_ClassCount⟩)
    (c_ClassCount : PySem.W.codeIn K cd_ClassCount "class_count" = true)
    (k_ClassCount : PySem.W.keepIn K (.ref f_ClassCount) = true)
    (z_range : PySem.W.nsIn K mainGlobals "range" = some none)
    (z_zip : PySem.W.nsIn K mainGlobals "zip" = some none)
    (n_MAX_CELLS : PySem.W.nsIn K mainGlobals "MAX_CELLS" = some (some (.int 2000 t_MAX_CELLS)))
    (a_Bag : PySem.W.nsIn K mainGlobals "_law_bag" = some (some (.ref f_Bag)))
    (l_Bag : K.lookup f_Bag = some ⟨oc_Bag, od_Bag, .func (PySem.W.fnOf "_law_bag" "_law_bag" (defArgs sBag) (defBody sBag) (defScope sBag) .none kV_Bag dc_Bag pm_Bag an_Bag cd_Bag ct_Bag), sl_Bag⟩)
    (c_Bag : PySem.W.codeIn K cd_Bag "_law_bag" = true)
    (k_Bag : PySem.W.keepIn K (.ref f_Bag) = true)
    (z_list : PySem.W.nsIn K mainGlobals "list" = some none)
    (a_Pull : PySem.W.nsIn K mainGlobals "_law_pull" = some (some (.ref f_Pull)))
    (l_Pull : K.lookup f_Pull = some ⟨oc_Pull, od_Pull, .func (PySem.W.fnOf "_law_pull" "_law_pull" (defArgs sPull) (defBody sPull) (defScope sPull) .none kV_Pull dc_Pull pm_Pull an_Pull cd_Pull ct_Pull), sl_Pull⟩)
    (c_Pull : PySem.W.codeIn K cd_Pull "_law_pull" = true)
    (k_Pull : PySem.W.keepIn K (.ref f_Pull) = true)
    (a_Of : PySem.W.nsIn K mainGlobals "_law_of" = some (some (.ref f_Of)))
    (l_Of : K.lookup f_Of = some ⟨oc_Of, od_Of, .func (PySem.W.fnOf "_law_of" "_law_of" (defArgs sOf) (defBody sOf) (defScope sOf) .none kV_Of dc_Of pm_Of an_Of cd_Of ct_Of), sl_Of⟩)
    (c_Of : PySem.W.codeIn K cd_Of "_law_of" = true)
    (k_Of : PySem.W.keepIn K (.ref f_Of) = true)
    (a_Place : PySem.W.nsIn K mainGlobals "_law_place" = some (some (.ref f_Place)))
    (l_Place : K.lookup f_Place = some ⟨oc_Place, od_Place, .func (PySem.W.fnOf "_law_place" "_law_place" (defArgs sPlace) (defBody sPlace) (defScope sPlace) .none kV_Place dc_Place pm_Place an_Place cd_Place ct_Place), sl_Place⟩)
    (c_Place : PySem.W.codeIn K cd_Place "_law_place" = true)
    (k_Place : PySem.W.keepIn K (.ref f_Place) = true)
    (a_Divisors : PySem.W.nsIn K mainGlobals "_law_divisors" = some (some (.ref f_Divisors)))
    (l_Divisors : K.lookup f_Divisors = some ⟨oc_Divisors, od_Divisors, .func (PySem.W.fnOf "_law_divisors" "_law_divisors" (defArgs sDivisors) (defBody sDivisors) (defScope sDivisors) .none kV_Divisors dc_Divisors pm_Divisors an_Divisors cd_Divisors ct_Divisors), sl_Divisors⟩)
    (c_Divisors : PySem.W.codeIn K cd_Divisors "_law_divisors" = true)
    (k_Divisors : PySem.W.keepIn K (.ref f_Divisors) = true)
    (a_Mixed : PySem.W.nsIn K mainGlobals "_law_mixed" = some (some (.ref f_Mixed)))
    (l_Mixed : K.lookup f_Mixed = some ⟨oc_Mixed, od_Mixed, .func (PySem.W.fnOf "_law_mixed" "_law_mixed" (defArgs sMixed) (defBody sMixed) (defScope sMixed) .none kV_Mixed dc_Mixed pm_Mixed an_Mixed cd_Mixed ct_Mixed), sl_Mixed⟩)
    (c_Mixed : PySem.W.codeIn K cd_Mixed "_law_mixed" = true)
    (k_Mixed : PySem.W.keepIn K (.ref f_Mixed) = true)
    (a_LCells : PySem.W.nsIn K mainGlobals "_law_cells" = some (some (.ref f_LCells)))
    (l_LCells : K.lookup f_LCells = some ⟨oc_LCells, od_LCells, .func (PySem.W.fnOf "_law_cells" "_law_cells" (defArgs sLCells) (defBody sLCells) (defScope sLCells) .none kV_LCells dc_LCells pm_LCells an_LCells cd_LCells ct_LCells), sl_LCells⟩)
    (c_LCells : PySem.W.codeIn K cd_LCells "_law_cells" = true)
    (k_LCells : PySem.W.keepIn K (.ref f_LCells) = true)
    (a_LClass : PySem.W.nsIn K mainGlobals "_law_class" = some (some (.ref f_LClass)))
    (l_LClass : K.lookup f_LClass = some ⟨oc_LClass, od_LClass, .func (PySem.W.fnOf "_law_class" "_law_class" (defArgs sLClass) (defBody sLClass) (defScope sLClass) .none kV_LClass dc_LClass pm_LClass an_LClass cd_LClass ct_LClass), sl_LClass⟩)
    (c_LClass : PySem.W.codeIn K cd_LClass "_law_class" = true)
    (k_LClass : PySem.W.keepIn K (.ref f_LClass) = true)
    (a_ClassOf : PySem.W.nsIn K mainGlobals "class_of" = some (some (.ref f_ClassOf)))
    (l_ClassOf : K.lookup f_ClassOf = some ⟨oc_ClassOf, od_ClassOf, .func (PySem.W.fnOf "class_of" "class_of" (defArgs sClassOf) (defBody sClassOf) (defScope sClassOf) .none kV_ClassOf dc_ClassOf pm_ClassOf an_ClassOf cd_ClassOf ct_ClassOf), sl_ClassOf⟩)
    (c_ClassOf : PySem.W.codeIn K cd_ClassOf "class_of" = true)
    (k_ClassOf : PySem.W.keepIn K (.ref f_ClassOf) = true)
    (a_ChkPlace : PySem.W.nsIn K mainGlobals "check_place" = some (some (.ref f_ChkPlace)))
    (l_ChkPlace : K.lookup f_ChkPlace = some ⟨oc_ChkPlace, od_ChkPlace, .func (PySem.W.fnOf "check_place" "check_place" (defArgs sChkPlace) (defBody sChkPlace) (defScope sChkPlace) .none kV_ChkPlace dc_ChkPlace pm_ChkPlace an_ChkPlace cd_ChkPlace ct_ChkPlace), sl_ChkPlace⟩)
    (c_ChkPlace : PySem.W.codeIn K cd_ChkPlace "check_place" = true)
    (k_ChkPlace : PySem.W.keepIn K (.ref f_ChkPlace) = true)
    (a_ClassAt : PySem.W.nsIn K mainGlobals "class_at" = some (some (.ref f_ClassAt)))
    (l_ClassAt : K.lookup f_ClassAt = some ⟨oc_ClassAt, od_ClassAt, .func (PySem.W.fnOf "class_at" "class_at" (defArgs sClassAt) (defBody sClassAt) (defScope sClassAt) .none kV_ClassAt dc_ClassAt pm_ClassAt an_ClassAt cd_ClassAt ct_ClassAt), sl_ClassAt⟩)
    (c_ClassAt : PySem.W.codeIn K cd_ClassAt "class_at" = true)
    (k_ClassAt : PySem.W.keepIn K (.ref f_ClassAt) = true)
    (a_RestsOf : PySem.W.nsIn K mainGlobals "rests_of" = some (some (.ref f_RestsOf)))
    (l_RestsOf : K.lookup f_RestsOf = some ⟨oc_RestsOf, od_RestsOf, .func (PySem.W.fnOf "rests_of" "rests_of" (defArgs sRestsOf) (defBody sRestsOf) (defScope sRestsOf) .none kV_RestsOf dc_RestsOf pm_RestsOf an_RestsOf cd_RestsOf ct_RestsOf), sl_RestsOf⟩)
    (c_RestsOf : PySem.W.codeIn K cd_RestsOf "rests_of" = true)
    (k_RestsOf : PySem.W.keepIn K (.ref f_RestsOf) = true)
    (a_PlaceAt : PySem.W.nsIn K mainGlobals "place_at" = some (some (.ref f_PlaceAt)))
    (l_PlaceAt : K.lookup f_PlaceAt = some ⟨oc_PlaceAt, od_PlaceAt, .func (PySem.W.fnOf "place_at" "place_at" (defArgs sPlaceAt) (defBody sPlaceAt) (defScope sPlaceAt) .none kV_PlaceAt dc_PlaceAt pm_PlaceAt an_PlaceAt cd_PlaceAt ct_PlaceAt), sl_PlaceAt⟩)
    (c_PlaceAt : PySem.W.codeIn K cd_PlaceAt "place_at" = true)
    (k_PlaceAt : PySem.W.keepIn K (.ref f_PlaceAt) = true)
    (a_LSame : PySem.W.nsIn K mainGlobals "_law_same" = some (some (.ref f_LSame)))
    (l_LSame : K.lookup f_LSame = some ⟨oc_LSame, od_LSame, .func (PySem.W.fnOf "_law_same" "_law_same" (defArgs sLSame) (defBody sLSame) (defScope sLSame) .none kV_LSame dc_LSame pm_LSame an_LSame cd_LSame ct_LSame), sl_LSame⟩)
    (c_LSame : PySem.W.codeIn K cd_LSame "_law_same" = true)
    (k_LSame : PySem.W.keepIn K (.ref f_LSame) = true)
    (z_dict : PySem.W.nsIn K mainGlobals "dict" = some none)
    (z_str : PySem.W.nsIn K mainGlobals "str" = some none)
    (a_Odd : PySem.W.nsIn K mainGlobals "_law_odd" = some (some (.ref f_Odd)))
    (l_Odd : K.lookup f_Odd = some ⟨oc_Odd, od_Odd, .func (PySem.W.fnOf "_law_odd" "_law_odd" (defArgs sOdd) (defBody sOdd) (defScope sOdd) .none kV_Odd dc_Odd pm_Odd an_Odd cd_Odd ct_Odd), sl_Odd⟩)
    (c_Odd : PySem.W.codeIn K cd_Odd "_law_odd" = true)
    (k_Odd : PySem.W.keepIn K (.ref f_Odd) = true)
    (a_IsPlace : PySem.W.nsIn K mainGlobals "_law_is_place" = some (some (.ref f_IsPlace)))
    (l_IsPlace : K.lookup f_IsPlace = some ⟨oc_IsPlace, od_IsPlace, .func (PySem.W.fnOf "_law_is_place" "_law_is_place" (defArgs sIsPlace) (defBody sIsPlace) (defScope sIsPlace) .none kV_IsPlace dc_IsPlace pm_IsPlace an_IsPlace cd_IsPlace ct_IsPlace), sl_IsPlace⟩)
    (c_IsPlace : PySem.W.codeIn K cd_IsPlace "_law_is_place" = true)
    (k_IsPlace : PySem.W.keepIn K (.ref f_IsPlace) = true)
    (a_DivErr : PySem.W.nsIn K mainGlobals "_law_divisors_error" = some (some (.ref f_DivErr)))
    (l_DivErr : K.lookup f_DivErr = some ⟨oc_DivErr, od_DivErr, .func (PySem.W.fnOf "_law_divisors_error" "_law_divisors_error" (defArgs sDivErr) (defBody sDivErr) (defScope sDivErr) .none kV_DivErr dc_DivErr pm_DivErr an_DivErr cd_DivErr ct_DivErr), sl_DivErr⟩)
    (c_DivErr : PySem.W.codeIn K cd_DivErr "_law_divisors_error" = true)
    (k_DivErr : PySem.W.keepIn K (.ref f_DivErr) = true)
    (a_Count : PySem.W.nsIn K mainGlobals "_law_count" = some (some (.ref f_Count)))
    (l_Count : K.lookup f_Count = some ⟨oc_Count, od_Count, .func (PySem.W.fnOf "_law_count" "_law_count" (defArgs sCount) (defBody sCount) (defScope sCount) .none kV_Count dc_Count pm_Count an_Count cd_Count ct_Count), sl_Count⟩)
    (c_Count : PySem.W.codeIn K cd_Count "_law_count" = true)
    (k_Count : PySem.W.keepIn K (.ref f_Count) = true) :
    LawAtS l w K CX0 9 63 "_law_script" mg fa h := by
  have ee := hfa.symm.trans (PySem.W.mg_of X G a_Law)
  cases ee
  have b_super := PySem.W.mg_none_of X G z_super
  have I_eSE : InitF l.prog K mg "ScanError.__init__" sSE E_eSE f_eSE cc_eSE cda_eSE _ := ⟨⟨_, _, _, _, _, _, _, _, rfl, lE_eSE⟩, cE_eSE, ⟨_, _, _, _, _, _, lcE_eSE, v2E_eSE, flE_eSE⟩, ⟨_, _, _, llE_eSE⟩, ⟨_, lDE_eSE⟩, b_super, spT, spO⟩
  have B_eSE : Binds K (PySem.W.ksFn "__init__" "ScanError.__init__" (defArgs sSE) (defBody sSE) (defScope sSE) .none kV_eSE dc_eSE pm_eSE an_eSE (.ref cda_eSE) ct_eSE cc_eSE) ["self", "tag", "why"] [] := Binds.all fun us hl => match us, hl with | [_, _, _], _ => rfl
  have at_eSE := PySem.W.mg_of X G aE_eSE
  have I_eIP : InitF l.prog K mg "InvalidPlace.__init__" sIP E_eIP f_eIP cc_eIP cda_eIP _ := ⟨⟨_, _, _, _, _, _, _, _, rfl, lE_eIP⟩, cE_eIP, ⟨_, _, _, _, _, _, lcE_eIP, v2E_eIP, flE_eIP⟩, ⟨_, _, _, llE_eIP⟩, ⟨_, lDE_eIP⟩, b_super, spT, spO⟩
  have B_eIP : Binds K (PySem.W.ksFn "__init__" "InvalidPlace.__init__" (defArgs sIP) (defBody sIP) (defScope sIP) .none kV_eIP dc_eIP pm_eIP an_eIP (.ref cda_eIP) ct_eIP cc_eIP) ["self", "given"] [] := Binds.all fun us hl => match us, hl with | [_, _], _ => rfl
  have at_eIP := PySem.W.mg_of X G aE_eIP
  have ER_eIP : ErrC K E_eIP E_eSE f_eSE := ⟨⟨⟨_, _, _, _, _, _, _, _, _, _, _, _, _, _, _, xL_eIP, xR_eIP⟩, sa_eIP, exC_eIP, tyC_eIP, kpC_eIP⟩, s1_eIP, s2_eIP, m1x_eIP, m2x_eIP, ve_eIP, no_tag_eIP, tS_eSE, fS_eSE⟩
  have R_eIP : RaiseC K mg "InvalidPlace" E_eIP E_eSE f_eSE f_eIP := ⟨ER_eIP, iE_eIP, tI_eIP, at_eIP⟩
  have RD_eIP : RdC K E_eIP := ⟨⟨xga_eIP, xgg_eIP, exC_eIP, xhd_eIP⟩, fun n hn => by
    simp only [List.mem_cons, List.not_mem_nil, or_false] at hn
    rcases hn with rfl | rfl | rfl | rfl | rfl | rfl | rfl
    · exact no_tag_eIP
    · exact no_given_eIP
    · exact no_limit_eIP
    · exact no_index_eIP
    · exact no_name_eIP
    · exact no_first_eIP
    · exact no_line_eIP⟩
  have I_eID : InitF l.prog K mg "InvalidDivisors.__init__" sID E_eID f_eID cc_eID cda_eID _ := ⟨⟨_, _, _, _, _, _, _, _, rfl, lE_eID⟩, cE_eID, ⟨_, _, _, _, _, _, lcE_eID, v2E_eID, flE_eID⟩, ⟨_, _, _, llE_eID⟩, ⟨_, lDE_eID⟩, b_super, spT, spO⟩
  have B_eID : Binds K (PySem.W.ksFn "__init__" "InvalidDivisors.__init__" (defArgs sID) (defBody sID) (defScope sID) .none kV_eID dc_eID pm_eID an_eID (.ref cda_eID) ct_eID cc_eID) ["self"] [] := Binds.all fun us hl => match us, hl with | [_], _ => rfl
  have at_eID := PySem.W.mg_of X G aE_eID
  have ER_eID : ErrC K E_eID E_eSE f_eSE := ⟨⟨⟨_, _, _, _, _, _, _, _, _, _, _, _, _, _, _, xL_eID, xR_eID⟩, sa_eID, exC_eID, tyC_eID, kpC_eID⟩, s1_eID, s2_eID, m1x_eID, m2x_eID, ve_eID, no_tag_eID, tS_eSE, fS_eSE⟩
  have R_eID : RaiseC K mg "InvalidDivisors" E_eID E_eSE f_eSE f_eID := ⟨ER_eID, iE_eID, tI_eID, at_eID⟩
  have RD_eID : RdC K E_eID := ⟨⟨xga_eID, xgg_eID, exC_eID, xhd_eID⟩, fun n hn => by
    simp only [List.mem_cons, List.not_mem_nil, or_false] at hn
    rcases hn with rfl | rfl | rfl | rfl | rfl | rfl | rfl
    · exact no_tag_eID
    · exact no_given_eID
    · exact no_limit_eID
    · exact no_index_eID
    · exact no_name_eID
    · exact no_first_eID
    · exact no_line_eID⟩
  have I_eTM : InitF l.prog K mg "TooManyClasses.__init__" sTM E_eTM f_eTM cc_eTM cda_eTM _ := ⟨⟨_, _, _, _, _, _, _, _, rfl, lE_eTM⟩, cE_eTM, ⟨_, _, _, _, _, _, lcE_eTM, v2E_eTM, flE_eTM⟩, ⟨_, _, _, llE_eTM⟩, ⟨_, lDE_eTM⟩, b_super, spT, spO⟩
  have B_eTM : Binds K (PySem.W.ksFn "__init__" "TooManyClasses.__init__" (defArgs sTM) (defBody sTM) (defScope sTM) .none kV_eTM dc_eTM pm_eTM an_eTM (.ref cda_eTM) ct_eTM cc_eTM) ["self", "limit"] [] := Binds.all fun us hl => match us, hl with | [_, _], _ => rfl
  have at_eTM := PySem.W.mg_of X G aE_eTM
  have ER_eTM : ErrC K E_eTM E_eSE f_eSE := ⟨⟨⟨_, _, _, _, _, _, _, _, _, _, _, _, _, _, _, xL_eTM, xR_eTM⟩, sa_eTM, exC_eTM, tyC_eTM, kpC_eTM⟩, s1_eTM, s2_eTM, m1x_eTM, m2x_eTM, ve_eTM, no_tag_eTM, tS_eSE, fS_eSE⟩
  have R_eTM : RaiseC K mg "TooManyClasses" E_eTM E_eSE f_eSE f_eTM := ⟨ER_eTM, iE_eTM, tI_eTM, at_eTM⟩
  have RD_eTM : RdC K E_eTM := ⟨⟨xga_eTM, xgg_eTM, exC_eTM, xhd_eTM⟩, fun n hn => by
    simp only [List.mem_cons, List.not_mem_nil, or_false] at hn
    rcases hn with rfl | rfl | rfl | rfl | rfl | rfl | rfl
    · exact no_tag_eTM
    · exact no_given_eTM
    · exact no_limit_eTM
    · exact no_index_eTM
    · exact no_name_eTM
    · exact no_first_eTM
    · exact no_line_eTM⟩
  have b_Law : Binds K (PySem.W.fnOf "law" "law" (defArgs sLaw) (defBody sLaw) (defScope sLaw) .none kV_Law dc_Law pm_Law an_Law (.ref cda) ct_Law) ["_law_script"] [] := Binds.all fun us hl => match us, hl with | [_], _ => rfl
  have D_Try := def_mk (st := sTry) (ps := ["_law_ask"]) X G a_Try l_Try c_Try k_Try fun _ _ _ _ _ _ us hl => match us, hl with | [_], _ => rfl
  have D_Field := def_mk (st := sField) (ps := ["_law_e"]) X G a_Field l_Field c_Field k_Field fun _ _ _ _ _ _ us hl => match us, hl with | [_], _ => rfl
  have TR : TryT K mg f_Try := ⟨PySem.W.mg_of X G a_Try, k_Try, _, _, _, _, _, _, _, _, _, l_Try, c_Try⟩
  have FT : FieldT K mg f_Field := ⟨PySem.W.mg_of X G a_Field, k_Field, _, _, _, _, _, _, _, _, _, l_Field, c_Field⟩
  have D_ChkDiv := def_mk (st := sChkDiv) (ps := ["divisors"]) X G a_ChkDiv l_ChkDiv c_ChkDiv k_ChkDiv fun _ _ _ _ _ _ us hl => match us, hl with | [_], _ => rfl
  have g_MAX_CLASSES := PySem.W.mg_of X G n_MAX_CLASSES
  have D_AreSides := def_mk (st := sAreSides) (ps := ["value", "least"]) X G a_AreSides l_AreSides c_AreSides k_AreSides fun _ _ _ _ _ _ us hl => match us, hl with | [_, _], _ => rfl
  have b_isinstance := PySem.W.mg_none_of X G z_isinstance
  have b_tuple := PySem.W.mg_none_of X G z_tuple
  have b_len := PySem.W.mg_none_of X G z_len
  have b_min := PySem.W.mg_none_of X G z_min
  have g_MAX_DIRECTIONS := PySem.W.mg_of X G n_MAX_DIRECTIONS
  have D_AreNums := def_mk (st := sAreNums) (ps := ["value", "count"]) X G a_AreNums l_AreNums c_AreNums k_AreNums fun _ _ _ _ _ _ us hl => match us, hl with | [_, _], _ => rfl
  have b_all := PySem.W.mg_none_of X G z_all
  have D_IsNum := def_mk (st := sIsNum) (ps := ["value"]) X G a_IsNum l_IsNum c_IsNum k_IsNum fun _ _ _ _ _ _ us hl => match us, hl with | [_], _ => rfl
  have b_int := PySem.W.mg_none_of X G z_int
  have b_bool := PySem.W.mg_none_of X G z_bool
  have D_Product := def_mk (st := sProduct) (ps := ["numbers"]) X G a_Product l_Product c_Product k_Product fun _ _ _ _ _ _ us hl => match us, hl with | [_], _ => rfl
  have D_ClassCount := def_mk (st := sClassCount) (ps := ["divisors"]) X G a_ClassCount l_ClassCount c_ClassCount k_ClassCount fun _ _ _ _ _ _ us hl => match us, hl with | [_], _ => rfl
  have b_range := PySem.W.mg_none_of X G z_range
  have b_zip := PySem.W.mg_none_of X G z_zip
  have g_MAX_CELLS := PySem.W.mg_of X G n_MAX_CELLS
  have D_Bag := def_mk (st := sBag) (ps := ["_law_script"]) X G a_Bag l_Bag c_Bag k_Bag fun _ _ _ _ _ _ us hl => match us, hl with | [_], _ => rfl
  have b_list := PySem.W.mg_none_of X G z_list
  have D_Pull := def_mk (st := sPull) (ps := ["_law_bag_here", "_law_amount"]) X G a_Pull l_Pull c_Pull k_Pull fun _ _ _ _ _ _ us hl => match us, hl with | [_, _], _ => rfl
  have D_Of := def_mk (st := sOf) (ps := ["_law_bag_here", "_law_things"]) X G a_Of l_Of c_Of k_Of fun _ _ _ _ _ _ us hl => match us, hl with | [_, _], _ => rfl
  have D_Place := def_mk (st := sPlace) (ps := ["_law_bag_here", "_law_directions", "_law_size"]) X G a_Place l_Place c_Place k_Place fun _ _ _ _ _ _ us hl => match us, hl with | [_, _, _], _ => rfl
  have D_Divisors := def_mk (st := sDivisors) (ps := ["_law_bag_here", "_law_directions"]) X G a_Divisors l_Divisors c_Divisors k_Divisors fun _ _ _ _ _ _ us hl => match us, hl with | [_, _], _ => rfl
  have D_Mixed := def_mk (st := sMixed) (ps := ["_law_bag_here", "_law_things"]) X G a_Mixed l_Mixed c_Mixed k_Mixed fun _ _ _ _ _ _ us hl => match us, hl with | [_, _], _ => rfl
  have D_LCells := def_mk (st := sLCells) (ps := ["_law_box"]) X G a_LCells l_LCells c_LCells k_LCells fun _ _ _ _ _ _ us hl => match us, hl with | [_], _ => rfl
  have D_LClass := def_mk (st := sLClass) (ps := ["_law_divisors_here", "_law_place_here"]) X G a_LClass l_LClass c_LClass k_LClass fun _ _ _ _ _ _ us hl => match us, hl with | [_, _], _ => rfl
  have D_ClassOf := def_mk (st := sClassOf) (ps := ["divisors", "place"]) X G a_ClassOf l_ClassOf c_ClassOf k_ClassOf fun _ _ _ _ _ _ us hl => match us, hl with | [_, _], _ => rfl
  have D_ChkPlace := def_mk (st := sChkPlace) (ps := ["place", "directions"]) X G a_ChkPlace l_ChkPlace c_ChkPlace k_ChkPlace fun _ _ _ _ _ _ us hl => match us, hl with | [_, _], _ => rfl
  have D_ClassAt := def_mk (st := sClassAt) (ps := ["divisors", "place"]) X G a_ClassAt l_ClassAt c_ClassAt k_ClassAt fun _ _ _ _ _ _ us hl => match us, hl with | [_, _], _ => rfl
  have D_RestsOf := def_mk (st := sRestsOf) (ps := ["divisors", "number"]) X G a_RestsOf l_RestsOf c_RestsOf k_RestsOf fun _ _ _ _ _ _ us hl => match us, hl with | [_, _], _ => rfl
  have D_PlaceAt := def_mk (st := sPlaceAt) (ps := ["sides", "number"]) X G a_PlaceAt l_PlaceAt c_PlaceAt k_PlaceAt fun _ _ _ _ _ _ us hl => match us, hl with | [_, _], _ => rfl
  have D_LSame := def_mk (st := sLSame) (ps := ["_law_found", "_law_due"]) X G a_LSame l_LSame c_LSame k_LSame fun _ _ _ _ _ _ us hl => match us, hl with | [_, _], _ => rfl
  have b_dict := PySem.W.mg_none_of X G z_dict
  have b_str := PySem.W.mg_none_of X G z_str
  have D_Odd := def_mk (st := sOdd) (ps := ["_law_bag_here"]) X G a_Odd l_Odd c_Odd k_Odd fun _ _ _ _ _ _ us hl => match us, hl with | [_], _ => rfl
  have D_IsPlace := def_mk (st := sIsPlace) (ps := ["_law_value", "_law_directions"]) X G a_IsPlace l_IsPlace c_IsPlace k_IsPlace fun _ _ _ _ _ _ us hl => match us, hl with | [_, _], _ => rfl
  have D_DivErr := def_mk (st := sDivErr) (ps := ["_law_value"]) X G a_DivErr l_DivErr c_DivErr k_DivErr fun _ _ _ _ _ _ us hl => match us, hl with | [_], _ => rfl
  have D_Count := def_mk (st := sCount) (ps := ["_law_divisors_here"]) X G a_Count l_Count c_Count k_Count fun _ _ _ _ _ _ us hl => match us, hl with | [_], _ => rfl
  refine ⟨PySem.W.fnOf "law" "law" (defArgs sLaw) (defBody sLaw) (defScope sLaw) .none kV_Law dc_Law pm_Law an_Law (.ref cda) ct_Law, [(cda, Pt)], spLaw K Pt, fun p hp => ?_, fun p hp => ?_, fun p hp => ?_, fun s v => .of_eq rfl, fun H a ns _ _ hH hS => ⟨a, ns, rfl, hS, hH _ (List.mem_singleton.mpr rfl), fun _ => rfl⟩, fun base _ _ TB => ?_⟩
  · rw [List.mem_singleton.mp hp]
    exact tab
  · rw [List.mem_singleton.mp hp]
    exact lPt
  · rw [List.mem_singleton.mp hp]
    exact ⟨_, vsL, fileL, tfL, flagsL, tgL, inFL, textL, ttL, X _ _ lcd, rfl, rfl, v11, v11d, v18, v7, v9, v10, vne⟩
  have Gnum := ok_isnum (P := l.prog) (w := w) (mg := mg) (base := base) (k := 0) D_IsNum.fn b_int b_bool b_isinstance
  have Gnums := ok_nums (P := l.prog) (w := w) (mg := mg) (base := base) (k := 0) D_AreNums.fn b_isinstance b_tuple b_len b_all Gnum D_IsNum.fn.kp D_IsNum.bd D_IsNum.at_
  have Gsides := ok_sides (P := l.prog) (w := w) (mg := mg) (base := base) (k := 0) D_AreSides.fn b_isinstance b_tuple b_len b_min g_MAX_DIRECTIONS Gnums D_AreNums.fn.kp D_AreNums.bd D_AreNums.at_
  have Gprod := ok_product (P := l.prog) (w := w) (mg := mg) (base := base) (k := 0) D_Product.fn
  have Gchkd := ok_chkdiv (P := l.prog) (w := w) (mg := mg) (base := base) (k := 0) D_ChkDiv.fn g_MAX_CLASSES Gsides D_AreSides.fn.kp D_AreSides.bd D_AreSides.at_ Gprod D_Product.fn.kp D_Product.bd D_Product.at_
  have Gse := ok_se (P := l.prog) (w := w) (mg := mg) (base := base) (k := 0) I_eSE
  have Gid := ok_id (P := l.prog) (w := w) (mg := mg) (base := base) (k := 0) I_eID ER_eID Gse B_eSE
  have Gtm := ok_tm (P := l.prog) (w := w) (mg := mg) (base := base) (k := 0) I_eTM ER_eTM no_limit_eTM Gse B_eSE
  have GnumO := ok_isnumO (P := l.prog) (w := w) (mg := mg) (base := base) (k := 0) D_IsNum.fn b_int b_bool b_isinstance
  have GnumsO := ok_numsO (P := l.prog) (w := w) (mg := mg) (base := base) (k := 0) D_AreNums.fn b_isinstance b_tuple b_len b_all GnumO D_IsNum.fn.kp D_IsNum.bd D_IsNum.at_
  have GsidesO := ok_sidesO (P := l.prog) (w := w) (mg := mg) (base := base) (k := 0) D_AreSides.fn b_isinstance b_tuple b_len b_min g_MAX_DIRECTIONS GnumsO D_AreNums.fn.kp D_AreNums.bd D_AreNums.at_
  have GprodB := ok_prodB (P := l.prog) (w := w) (mg := mg) (base := base) (k := 0) D_Product.fn
  have GdivX := ok_chkdivX (P := l.prog) (w := w) (mg := mg) (base := base) (k := 0) D_ChkDiv.fn g_MAX_CLASSES R_eID Gid B_eID R_eTM Gtm B_eTM GsidesO D_AreSides.fn.kp D_AreSides.bd D_AreSides.at_ GprodB D_Product.fn.kp D_Product.bd D_Product.at_
  have Gcc := ok_classcount (P := l.prog) (w := w) (mg := mg) (base := base) (k := 0) D_ClassCount.fn Gchkd D_ChkDiv.fn.kp D_ChkDiv.bd D_ChkDiv.at_ Gprod D_Product.fn.kp D_Product.bd D_Product.at_
  have GccX := ok_ccX (P := l.prog) (w := w) (mg := mg) (base := base) (k := 0) D_ClassCount.fn GdivX D_ChkDiv.fn.kp D_ChkDiv.bd D_ChkDiv.at_
  have Gbag := ok_bag (P := l.prog) (w := w) (mg := mg) (base := base) (k := 0) D_Bag.fn b_int b_list
  have Gpull := ok_pull (P := l.prog) (w := w) (mg := mg) (base := base) (k := 0) D_Pull.fn b_len b_int
  have Gof := ok_of (P := l.prog) (w := w) (mg := mg) (base := base) (k := 0) D_Of.fn b_len Gpull D_Pull.fn.kp D_Pull.bd D_Pull.at_
  have Gplace := ok_place (P := l.prog) (w := w) (mg := mg) (base := base) (k := 0) D_Place.fn b_tuple b_range Gpull D_Pull.fn.kp D_Pull.bd D_Pull.at_
  have Gmix := ok_mixed (P := l.prog) (w := w) (mg := mg) (base := base) (k := 0) D_Mixed.fn b_len Gpull D_Pull.fn.kp D_Pull.bd D_Pull.at_
  have Gdiv := ok_divisors (P := l.prog) (w := w) (mg := mg) (base := base) (k := 0) D_Divisors.fn b_tuple b_range b_min Gpull D_Pull.fn.kp D_Pull.bd D_Pull.at_ Gmix D_Mixed.fn.kp D_Mixed.bd D_Mixed.at_
  have Gce := ok_lcells (P := l.prog) (w := w) (mg := mg) (base := base) (k := 0) D_LCells.fn b_range
  have Glc := ok_lclass (P := l.prog) (w := w) (mg := mg) (base := base) (k := 0) D_LClass.fn b_range b_len b_int
  have Gchkp := ok_chkplace (P := l.prog) (w := w) (mg := mg) (base := base) (k := 0) D_ChkPlace.fn Gnums D_AreNums.fn.kp D_AreNums.bd D_AreNums.at_
  have Gca := ok_classat (P := l.prog) (w := w) (mg := mg) (base := base) (k := 0) D_ClassAt.fn b_zip
  have Gco := ok_classof (P := l.prog) (w := w) (mg := mg) (base := base) (k := 0) D_ClassOf.fn b_len Gchkd D_ChkDiv.fn.kp D_ChkDiv.bd D_ChkDiv.at_ Gchkp D_ChkPlace.fn.kp D_ChkPlace.bd D_ChkPlace.at_ Gca D_ClassAt.fn.kp D_ClassAt.bd D_ClassAt.at_
  have Gip := ok_ip (P := l.prog) (w := w) (mg := mg) (base := base) (k := 0) I_eIP ER_eIP no_given_eIP Gse B_eSE
  have GchkX := ok_chkX (P := l.prog) (w := w) (mg := mg) (base := base) (k := 0) D_ChkPlace.fn R_eIP Gip B_eIP GnumsO D_AreNums.fn.kp D_AreNums.bd D_AreNums.at_
  have GcoX := ok_cofX (P := l.prog) (w := w) (mg := mg) (base := base) (k := 0) D_ClassOf.fn b_len Gchkd GdivX D_ChkDiv.fn.kp D_ChkDiv.bd D_ChkDiv.at_ GchkX D_ChkPlace.fn.kp D_ChkPlace.bd D_ChkPlace.at_
  have Gpat := ok_placeat (P := l.prog) (w := w) (mg := mg) (base := base) (k := 0) D_PlaceAt.fn b_tuple
  have Grs := ok_rests (P := l.prog) (w := w) (mg := mg) (base := base) (k := 0) D_RestsOf.fn Gcc D_ClassCount.fn.kp D_ClassCount.bd D_ClassCount.at_ Gnum D_IsNum.fn.kp D_IsNum.bd D_IsNum.at_ Gpat D_PlaceAt.fn.kp D_PlaceAt.bd D_PlaceAt.at_
  have GrsX := ok_rsX (P := l.prog) (w := w) (mg := mg) (base := base) (k := 0) D_RestsOf.fn Gcc GccX D_ClassCount.fn.kp D_ClassCount.bd D_ClassCount.at_ Gnum D_IsNum.fn.kp D_IsNum.bd D_IsNum.at_ R_eIP Gip B_eIP
  have Gsm := ok_same (P := l.prog) (w := w) (mg := mg) (base := base) (k := 0) D_LSame.fn b_isinstance b_list b_tuple b_dict b_bool b_int b_str b_len b_all b_zip D_LSame.at_ D_LSame.bd 4
  have Godd := ok_odd (P := l.prog) (w := w) (mg := mg) (base := base) (k := 0) D_Odd.fn Gof D_Of.fn.kp D_Of.bd D_Of.at_
  have Gisp := ok_isplace (P := l.prog) (w := w) (mg := mg) (base := base) (k := 0) D_IsPlace.fn b_isinstance b_tuple b_len b_all b_int b_bool
  have GcntB := ok_countB (P := l.prog) (w := w) (mg := mg) (base := base) (k := 0) D_Count.fn
  have Gde := ok_derr (P := l.prog) (w := w) (mg := mg) (base := base) (k := 0) D_DivErr.fn b_isinstance b_tuple b_len b_min Gisp D_IsPlace.fn.kp D_IsPlace.bd D_IsPlace.at_ GcntB D_Count.fn.kp D_Count.bd D_Count.at_
  exact ok_law (k := 0) l_Law c_Law (TB _ (List.mem_singleton.mpr rfl)) b_range b_tuple b_len b_int b_zip g_MAX_DIRECTIONS g_MAX_CLASSES g_MAX_CELLS Gbag D_Bag.fn.kp D_Bag.bd D_Bag.at_ Gpull D_Pull.fn.kp D_Pull.bd D_Pull.at_ Gof D_Of.fn.kp D_Of.bd D_Of.at_ Gplace D_Place.fn.kp D_Place.bd D_Place.at_ Gdiv D_Divisors.fn.kp D_Divisors.bd D_Divisors.at_ Gce D_LCells.fn.kp D_LCells.bd D_LCells.at_ Glc D_LClass.fn.kp D_LClass.bd D_LClass.at_ Gcc GccX D_ClassCount.fn.kp D_ClassCount.bd D_ClassCount.at_ Gco GcoX D_ClassOf.fn.kp D_ClassOf.bd D_ClassOf.at_ Grs GrsX D_RestsOf.fn.kp D_RestsOf.bd D_RestsOf.at_ Gsm D_LSame.fn.kp D_LSame.bd D_LSame.at_ Godd D_Odd.fn.kp D_Odd.bd D_Odd.at_ Gisp D_IsPlace.fn.kp D_IsPlace.bd D_IsPlace.at_ Gde D_DivErr.fn.kp D_DivErr.bd D_DivErr.at_ TR FT at_eSE xex_eID xex_eTM xex_eIP RD_eID RD_eTM RD_eIP
end Lk
open PySem PySem.W PyProof.Rows
set_option maxRecDepth 100000 in
set_option maxHeartbeats 0 in
theorem PySem.Challenge.cw_lookscan_k01_classes_and_rests_holds : PySem.Challenge.rw_lookscan_k01_classes_and_rests.Holds := by
  w_on; o_law; k_head; (case hw => w_witness2)
  k_fill
  refine LamX.walk_ofTs (l := PySem.Challenge.rw_lookscan_k01_classes_and_rests) (n := 63) (k := 9) (x := "_law_script") (CX := fun _ => L2.CX0) rfl (by decide) rfl ⟨rfl, by decide, by decide⟩ (fun w h Y => PySem.W.km_in_of Y) ?F (fun _ _ _ _ _ h => h)
  case F =>
    intro w mg fa h YX KX G hmg
    refine' Lk.all_mk KX G hmg ?z_super ?spT ?spO ?aE_eSE ?iE_eSE ?lE_eSE ?cE_eSE ?lcE_eSE ?v2E_eSE ?flE_eSE ?llE_eSE ?lDE_eSE ?aE_eIP ?iE_eIP ?lE_eIP ?cE_eIP ?lcE_eIP ?v2E_eIP ?flE_eIP ?llE_eIP ?lDE_eIP ?xL_eIP ?xR_eIP ?sa_eIP ?exC_eIP ?tyC_eIP ?kpC_eIP ?s1_eIP ?s2_eIP ?m1x_eIP ?m2x_eIP ?ve_eIP ?tS_eSE ?fS_eSE ?tI_eIP ?no_tag_eIP ?no_given_eIP ?no_limit_eIP ?no_index_eIP ?no_name_eIP ?no_first_eIP ?no_line_eIP ?xga_eIP ?xgg_eIP ?xhd_eIP ?xex_eIP ?aE_eID ?iE_eID ?lE_eID ?cE_eID ?lcE_eID ?v2E_eID ?flE_eID ?llE_eID ?lDE_eID ?xL_eID ?xR_eID ?sa_eID ?exC_eID ?tyC_eID ?kpC_eID ?s1_eID ?s2_eID ?m1x_eID ?m2x_eID ?ve_eID ?tI_eID ?no_tag_eID ?no_given_eID ?no_limit_eID ?no_index_eID ?no_name_eID ?no_first_eID ?no_line_eID ?xga_eID ?xgg_eID ?xhd_eID ?xex_eID ?aE_eTM ?iE_eTM ?lE_eTM ?cE_eTM ?lcE_eTM ?v2E_eTM ?flE_eTM ?llE_eTM ?lDE_eTM ?xL_eTM ?xR_eTM ?sa_eTM ?exC_eTM ?tyC_eTM ?kpC_eTM ?s1_eTM ?s2_eTM ?m1x_eTM ?m2x_eTM ?ve_eTM ?tI_eTM ?no_tag_eTM ?no_given_eTM ?no_limit_eTM ?no_index_eTM ?no_name_eTM ?no_first_eTM ?no_line_eTM ?xga_eTM ?xgg_eTM ?xhd_eTM ?xex_eTM ?a_Law ?l_Law ?c_Law ?k_Law ?lcd ?v11 ?v11d ?v18 ?v7 ?v9 ?v10 ?vne ?lPt ?tab ?a_Try ?l_Try ?c_Try ?k_Try ?a_Field ?l_Field ?c_Field ?k_Field ?a_ChkDiv ?l_ChkDiv ?c_ChkDiv ?k_ChkDiv ?n_MAX_CLASSES ?a_AreSides ?l_AreSides ?c_AreSides ?k_AreSides ?z_isinstance ?z_tuple ?z_len ?z_min ?n_MAX_DIRECTIONS ?a_AreNums ?l_AreNums ?c_AreNums ?k_AreNums ?z_all ?a_IsNum ?l_IsNum ?c_IsNum ?k_IsNum ?z_int ?z_bool ?a_Product ?l_Product ?c_Product ?k_Product ?a_ClassCount ?l_ClassCount ?c_ClassCount ?k_ClassCount ?z_range ?z_zip ?n_MAX_CELLS ?a_Bag ?l_Bag ?c_Bag ?k_Bag ?z_list ?a_Pull ?l_Pull ?c_Pull ?k_Pull ?a_Of ?l_Of ?c_Of ?k_Of ?a_Place ?l_Place ?c_Place ?k_Place ?a_Divisors ?l_Divisors ?c_Divisors ?k_Divisors ?a_Mixed ?l_Mixed ?c_Mixed ?k_Mixed ?a_LCells ?l_LCells ?c_LCells ?k_LCells ?a_LClass ?l_LClass ?c_LClass ?k_LClass ?a_ClassOf ?l_ClassOf ?c_ClassOf ?k_ClassOf ?a_ChkPlace ?l_ChkPlace ?c_ChkPlace ?k_ChkPlace ?a_ClassAt ?l_ClassAt ?c_ClassAt ?k_ClassAt ?a_RestsOf ?l_RestsOf ?c_RestsOf ?k_RestsOf ?a_PlaceAt ?l_PlaceAt ?c_PlaceAt ?k_PlaceAt ?a_LSame ?l_LSame ?c_LSame ?k_LSame ?z_dict ?z_str ?a_Odd ?l_Odd ?c_Odd ?k_Odd ?a_IsPlace ?l_IsPlace ?c_IsPlace ?k_IsPlace ?a_DivErr ?l_DivErr ?c_DivErr ?k_DivErr ?a_Count ?l_Count ?c_Count ?k_Count
    (case z_super => k_is)
    (case spT => rfl)
    (case spO => k_is)
    (case aE_eSE => k_is)
    (case iE_eSE => k_is)
    (case lE_eSE => k_is)
    (case cE_eSE => k_is)
    (case lcE_eSE => k_is)
    (case v2E_eSE => rfl)
    (case flE_eSE => decide +kernel)
    (case llE_eSE => k_is)
    (case lDE_eSE => k_is)
    (case aE_eIP => k_is)
    (case iE_eIP => k_is)
    (case lE_eIP => k_is)
    (case cE_eIP => k_is)
    (case lcE_eIP => k_is)
    (case v2E_eIP => rfl)
    (case flE_eIP => decide +kernel)
    (case llE_eIP => k_is)
    (case lDE_eIP => k_is)
    (case xL_eIP => k_is)
    (case xR_eIP => decide +kernel)
    (case sa_eIP => k_is)
    (case exC_eIP => k_is)
    (case tyC_eIP => k_is)
    (case kpC_eIP => k_is)
    (case s1_eIP => k_is)
    (case s2_eIP => k_is)
    (case m1x_eIP => kernel_rfl)
    (case m2x_eIP => kernel_rfl)
    (case ve_eIP => k_is)
    (case tS_eSE => k_is)
    (case fS_eSE => k_is)
    (case tI_eIP => k_is)
    (case no_tag_eIP => k_is)
    (case no_given_eIP => k_is)
    (case no_limit_eIP => k_is)
    (case no_index_eIP => k_is)
    (case no_name_eIP => k_is)
    (case no_first_eIP => k_is)
    (case no_line_eIP => k_is)
    (case xga_eIP => k_is)
    (case xgg_eIP => k_is)
    (case xhd_eIP => k_is)
    (case xex_eIP => kernel_rfl)
    (case aE_eID => k_is)
    (case iE_eID => k_is)
    (case lE_eID => k_is)
    (case cE_eID => k_is)
    (case lcE_eID => k_is)
    (case v2E_eID => rfl)
    (case flE_eID => decide +kernel)
    (case llE_eID => k_is)
    (case lDE_eID => k_is)
    (case xL_eID => k_is)
    (case xR_eID => decide +kernel)
    (case sa_eID => k_is)
    (case exC_eID => k_is)
    (case tyC_eID => k_is)
    (case kpC_eID => k_is)
    (case s1_eID => k_is)
    (case s2_eID => k_is)
    (case m1x_eID => kernel_rfl)
    (case m2x_eID => kernel_rfl)
    (case ve_eID => k_is)
    (case tI_eID => k_is)
    (case no_tag_eID => k_is)
    (case no_given_eID => k_is)
    (case no_limit_eID => k_is)
    (case no_index_eID => k_is)
    (case no_name_eID => k_is)
    (case no_first_eID => k_is)
    (case no_line_eID => k_is)
    (case xga_eID => k_is)
    (case xgg_eID => k_is)
    (case xhd_eID => k_is)
    (case xex_eID => kernel_rfl)
    (case aE_eTM => k_is)
    (case iE_eTM => k_is)
    (case lE_eTM => k_is)
    (case cE_eTM => k_is)
    (case lcE_eTM => k_is)
    (case v2E_eTM => rfl)
    (case flE_eTM => decide +kernel)
    (case llE_eTM => k_is)
    (case lDE_eTM => k_is)
    (case xL_eTM => k_is)
    (case xR_eTM => decide +kernel)
    (case sa_eTM => k_is)
    (case exC_eTM => k_is)
    (case tyC_eTM => k_is)
    (case kpC_eTM => k_is)
    (case s1_eTM => k_is)
    (case s2_eTM => k_is)
    (case m1x_eTM => kernel_rfl)
    (case m2x_eTM => kernel_rfl)
    (case ve_eTM => k_is)
    (case tI_eTM => k_is)
    (case no_tag_eTM => k_is)
    (case no_given_eTM => k_is)
    (case no_limit_eTM => k_is)
    (case no_index_eTM => k_is)
    (case no_name_eTM => k_is)
    (case no_first_eTM => k_is)
    (case no_line_eTM => k_is)
    (case xga_eTM => k_is)
    (case xgg_eTM => k_is)
    (case xhd_eTM => k_is)
    (case xex_eTM => kernel_rfl)
    (case a_Law => k_is)
    (case l_Law => k_is)
    (case c_Law => k_is)
    (case k_Law => k_is)
    (case lcd => k_is)
    (case v11 => rfl)
    (case v11d => rfl)
    (case v18 => rfl)
    (case v7 => rfl)
    (case v9 => rfl)
    (case v10 => rfl)
    (case vne => decide)
    (case lPt => kernel_rfl)
    (case tab => exact PySem.W.km_tabs_of YX _ (by decide))
    (case a_Try => k_is)
    (case l_Try => k_is)
    (case c_Try => k_is)
    (case k_Try => k_is)
    (case a_Field => k_is)
    (case l_Field => k_is)
    (case c_Field => k_is)
    (case k_Field => k_is)
    (case a_ChkDiv => k_is)
    (case l_ChkDiv => k_is)
    (case c_ChkDiv => k_is)
    (case k_ChkDiv => k_is)
    (case n_MAX_CLASSES => k_is)
    (case a_AreSides => k_is)
    (case l_AreSides => k_is)
    (case c_AreSides => k_is)
    (case k_AreSides => k_is)
    (case z_isinstance => k_is)
    (case z_tuple => k_is)
    (case z_len => k_is)
    (case z_min => k_is)
    (case n_MAX_DIRECTIONS => k_is)
    (case a_AreNums => k_is)
    (case l_AreNums => k_is)
    (case c_AreNums => k_is)
    (case k_AreNums => k_is)
    (case z_all => k_is)
    (case a_IsNum => k_is)
    (case l_IsNum => k_is)
    (case c_IsNum => k_is)
    (case k_IsNum => k_is)
    (case z_int => k_is)
    (case z_bool => k_is)
    (case a_Product => k_is)
    (case l_Product => k_is)
    (case c_Product => k_is)
    (case k_Product => k_is)
    (case a_ClassCount => k_is)
    (case l_ClassCount => k_is)
    (case c_ClassCount => k_is)
    (case k_ClassCount => k_is)
    (case z_range => k_is)
    (case z_zip => k_is)
    (case n_MAX_CELLS => k_is)
    (case a_Bag => k_is)
    (case l_Bag => k_is)
    (case c_Bag => k_is)
    (case k_Bag => k_is)
    (case z_list => k_is)
    (case a_Pull => k_is)
    (case l_Pull => k_is)
    (case c_Pull => k_is)
    (case k_Pull => k_is)
    (case a_Of => k_is)
    (case l_Of => k_is)
    (case c_Of => k_is)
    (case k_Of => k_is)
    (case a_Place => k_is)
    (case l_Place => k_is)
    (case c_Place => k_is)
    (case k_Place => k_is)
    (case a_Divisors => k_is)
    (case l_Divisors => k_is)
    (case c_Divisors => k_is)
    (case k_Divisors => k_is)
    (case a_Mixed => k_is)
    (case l_Mixed => k_is)
    (case c_Mixed => k_is)
    (case k_Mixed => k_is)
    (case a_LCells => k_is)
    (case l_LCells => k_is)
    (case c_LCells => k_is)
    (case k_LCells => k_is)
    (case a_LClass => k_is)
    (case l_LClass => k_is)
    (case c_LClass => k_is)
    (case k_LClass => k_is)
    (case a_ClassOf => k_is)
    (case l_ClassOf => k_is)
    (case c_ClassOf => k_is)
    (case k_ClassOf => k_is)
    (case a_ChkPlace => k_is)
    (case l_ChkPlace => k_is)
    (case c_ChkPlace => k_is)
    (case k_ChkPlace => k_is)
    (case a_ClassAt => k_is)
    (case l_ClassAt => k_is)
    (case c_ClassAt => k_is)
    (case k_ClassAt => k_is)
    (case a_RestsOf => k_is)
    (case l_RestsOf => k_is)
    (case c_RestsOf => k_is)
    (case k_RestsOf => k_is)
    (case a_PlaceAt => k_is)
    (case l_PlaceAt => k_is)
    (case c_PlaceAt => k_is)
    (case k_PlaceAt => k_is)
    (case a_LSame => k_is)
    (case l_LSame => k_is)
    (case c_LSame => k_is)
    (case k_LSame => k_is)
    (case z_dict => k_is)
    (case z_str => k_is)
    (case a_Odd => k_is)
    (case l_Odd => k_is)
    (case c_Odd => k_is)
    (case k_Odd => k_is)
    (case a_IsPlace => k_is)
    (case l_IsPlace => k_is)
    (case c_IsPlace => k_is)
    (case k_IsPlace => k_is)
    (case a_DivErr => k_is)
    (case l_DivErr => k_is)
    (case c_DivErr => k_is)
    (case k_DivErr => k_is)
    (case a_Count => k_is)
    (case l_Count => k_is)
    (case c_Count => k_is)
    (case k_Count => k_is)
