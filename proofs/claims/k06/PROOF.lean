import PyProof.Rows.All
import Wide.All
import OpenK.AllK
import Wide.FinOn
import HandS.ForMost
import HandS.Wide
import HandS.Codes
import HandS.Conv
import HandS.More
import HandS.IsInst
import HandS.Zip
import HandS.TupAny
import HandS.Star
import HandS.ClsMeth
import HandS.Deep
import HandS.Flow
import HandS.Walk
import KE.DatumOrd
import KE.KSortedM
import HandS.Defaults
import PySem.Challenge.RW_lookscan_k06_whole_order_depends_on_clas
set_option Elab.async false
set_option linter.all false
set_option maxRecDepth 100000
set_option maxHeartbeats 4000000
namespace Lk
open PySem L2
def topS (i : Nat) : Stmt := PySem.Challenge.pw_lookscan_k06_whole_order_depends_on_clas.main.body.getD i (.Pass ⟨0, 0, 0, 0⟩)
abbrev sDot : Stmt := topS 2
abbrev sProduct : Stmt := topS 3
abbrev sIsNum : Stmt := topS 16
abbrev sAreNums : Stmt := topS 17
abbrev sAreSides : Stmt := topS 18
abbrev sChkPlace : Stmt := topS 19
abbrev sChkDiv : Stmt := topS 21
abbrev sClassAt : Stmt := topS 23
abbrev sClassCount : Stmt := topS 25
abbrev sAsc : Stmt := topS 28
abbrev sGroups : Stmt := topS 29
abbrev sIsKey : Stmt := topS 30
abbrev sIsFork : Stmt := topS 31
abbrev sInner : Stmt := topS 32
abbrev sNodes : Stmt := topS 33
abbrev sGix : Stmt := topS 34
abbrev sPath : Stmt := topS 35
abbrev sBag : Stmt := topS 39
abbrev sPull : Stmt := topS 40
abbrev sOf : Stmt := topS 41
abbrev sMixed : Stmt := topS 42
abbrev sCount : Stmt := topS 43
abbrev sPlus : Stmt := topS 44
abbrev sDivisors : Stmt := topS 45
abbrev sPlace : Stmt := topS 46
abbrev sParts : Stmt := topS 47
abbrev sTree : Stmt := topS 48
abbrev sScan : Stmt := topS 49
abbrev sLaw : Stmt := topS 50
theorem scBag : FnScope ["_law_script", "_law_salt", "_law_cell"] ["_law_script"] (defScope sBag) := ⟨rfl, rfl, rfl, by decide +kernel, rfl, by decide +kernel, by decide +kernel⟩
theorem scPull : FnScope ["_law_bag_here", "_law_amount", "_law_cell", "_law_got", "_law_seed"] ["_law_bag_here", "_law_amount"] (defScope sPull) := ⟨rfl, rfl, rfl, by decide +kernel, rfl, by decide +kernel, by decide +kernel⟩
theorem scOf : FnScope ["_law_bag_here", "_law_things"] ["_law_bag_here", "_law_things"] (defScope sOf) := ⟨rfl, rfl, rfl, by decide +kernel, rfl, by decide +kernel, by decide +kernel⟩
theorem scMixed : FnScope ["_law_bag_here", "_law_things", "_law_found", "_law_thing"] ["_law_bag_here", "_law_things"] (defScope sMixed) := ⟨rfl, rfl, rfl, by decide +kernel, rfl, by decide +kernel, by decide +kernel⟩
theorem scCount : FnScope ["_law_divisors_here", "_law_found", "_law_one"] ["_law_divisors_here"] (defScope sCount) := ⟨rfl, rfl, rfl, by decide +kernel, rfl, by decide +kernel, by decide +kernel⟩
theorem scPlus : FnScope ["_law_one", "_law_other", "_law_a", "_law_b"] ["_law_one", "_law_other"] (defScope sPlus) := ⟨rfl, rfl, rfl, by decide +kernel, rfl, by decide +kernel, by decide +kernel⟩
theorem scDivisors : FnScope ["_law_bag_here", "_law_directions", "_law_found", "_law_left", "_law_at", "_law_one"] ["_law_bag_here", "_law_directions"] (defScope sDivisors) := ⟨rfl, rfl, rfl, by decide +kernel, rfl, by decide +kernel, by decide +kernel⟩
theorem scPlace : FnScope ["_law_bag_here", "_law_directions", "_law_size", "_law_at"] ["_law_bag_here", "_law_directions", "_law_size"] (defScope sPlace) := ⟨rfl, rfl, rfl, by decide +kernel, rfl, by decide +kernel, by decide +kernel⟩
theorem scDot : FnScope ["row", "place", "one", "other"] ["row", "place"] (defScope sDot) := ⟨rfl, rfl, rfl, by decide +kernel, rfl, by decide +kernel, by decide +kernel⟩
theorem scProduct : FnScope ["numbers", "total", "number"] ["numbers"] (defScope sProduct) := ⟨rfl, rfl, rfl, by decide +kernel, rfl, by decide +kernel, by decide +kernel⟩
theorem scIsNum : FnScope ["value"] ["value"] (defScope sIsNum) := ⟨rfl, rfl, rfl, by decide +kernel, rfl, by decide +kernel, by decide +kernel⟩
theorem scAreNums : FnScope ["value", "count", "item"] ["value", "count"] (defScope sAreNums) := ⟨rfl, rfl, rfl, by decide +kernel, rfl, by decide +kernel, by decide +kernel⟩
theorem scAreSides : FnScope ["value", "least"] ["value", "least"] (defScope sAreSides) := ⟨rfl, rfl, rfl, by decide +kernel, rfl, by decide +kernel, by decide +kernel⟩
theorem scChkPlace : FnScope ["place", "directions"] ["place", "directions"] (defScope sChkPlace) := ⟨rfl, rfl, rfl, by decide +kernel, rfl, by decide +kernel, by decide +kernel⟩
theorem scChkDiv : FnScope ["divisors"] ["divisors"] (defScope sChkDiv) := ⟨rfl, rfl, rfl, by decide +kernel, rfl, by decide +kernel, by decide +kernel⟩
theorem scClassAt : FnScope ["divisors", "place", "number", "divisor", "step"] ["divisors", "place"] (defScope sClassAt) := ⟨rfl, rfl, rfl, by decide +kernel, rfl, by decide +kernel, by decide +kernel⟩
theorem scClassCount : FnScope ["divisors"] ["divisors"] (defScope sClassCount) := ⟨rfl, rfl, rfl, by decide +kernel, rfl, by decide +kernel, by decide +kernel⟩
theorem scAsc : FnScope ["value", "before", "after"] ["value"] (defScope sAsc) := ⟨rfl, rfl, rfl, by decide +kernel, rfl, by decide +kernel, by decide +kernel⟩
theorem scGroups : FnScope ["value", "classes", "grouped", "group"] ["value", "classes"] (defScope sGroups) := ⟨rfl, rfl, rfl, by decide +kernel, rfl, by decide +kernel, by decide +kernel⟩
theorem scIsKey : FnScope ["node", "directions", "classes"] ["node", "directions", "classes"] (defScope sIsKey) := ⟨rfl, rfl, rfl, by decide +kernel, rfl, by decide +kernel, by decide +kernel⟩
theorem scIsFork : FnScope ["node", "classes"] ["node", "classes"] (defScope sIsFork) := ⟨rfl, rfl, rfl, by decide +kernel, rfl, by decide +kernel, by decide +kernel⟩
theorem scInner : FnScope ["node", "directions", "classes", "group"] ["node", "directions", "classes"] (defScope sInner) := ⟨rfl, rfl, rfl, by decide +kernel, rfl, by decide +kernel, by decide +kernel⟩
theorem scNodes : FnScope ["tree", "divisors", "most_nodes", "most_depth", "classes", "nodes", "waiting", "node", "depth", "inner"] ["tree", "divisors", "most_nodes", "most_depth"] (defScope sNodes) := ⟨rfl, rfl, rfl, by decide +kernel, rfl, by decide +kernel, by decide +kernel⟩
theorem scGix : FnScope ["groups", "number", "group"] ["groups", "number"] (defScope sGix) := ⟨rfl, rfl, rfl, by decide +kernel, rfl, by decide +kernel, by decide +kernel⟩
theorem scPath : FnScope ["tree", "divisors", "place", "number", "path", "at"] ["tree", "divisors", "place"] (defScope sPath) := ⟨rfl, rfl, rfl, by decide +kernel, rfl, by decide +kernel, by decide +kernel⟩
abbrev sInit : Stmt := inClass (topS 37) 2
abbrev sCall : Stmt := inClass (topS 37) 9
abbrev sSPath : Stmt := inClass (topS 37) 11
theorem scInit : FnScope ["self", "divisors", "tree"] ["self", "divisors", "tree"] (defScope sInit) := ⟨rfl, rfl, rfl, by decide +kernel, rfl, by decide +kernel, by decide +kernel⟩
theorem scCall : FnScope ["self", "one", "other"] ["self", "one", "other"] (defScope sCall) := ⟨rfl, rfl, rfl, by decide +kernel, rfl, by decide +kernel, by decide +kernel⟩
theorem scSPath : FnScope ["self", "place"] ["self", "place"] (defScope sSPath) := ⟨rfl, rfl, rfl, by decide +kernel, rfl, by decide +kernel, by decide +kernel⟩
theorem scParts : FnScope ["_law_bag_here", "_law_many", "_law_most", "_law_marks", "_law_found", "_law_number", "_law_mark", "_law_part"] ["_law_bag_here", "_law_many", "_law_most"] (defScope sParts) := ⟨rfl, rfl, rfl, by decide +kernel, rfl, by decide +kernel, by decide +kernel⟩
theorem scTree : FnScope ["_law_bag_here", "_law_divisors_here", "_law_depth", "_law_many", "_law_pick", "_law_parts_here", "_law_size", "_law_row", "_law_heights", "_law_part", "_law_one", "_law_number"] ["_law_bag_here", "_law_divisors_here", "_law_depth"] (defScope sTree) := ⟨rfl, rfl, rfl, by decide +kernel, rfl, by decide +kernel, by decide +kernel⟩
theorem scScan : FnScope ["_law_bag_here", "_law_directions", "_law_divisors_here"] ["_law_bag_here", "_law_directions"] (defScope sScan) := ⟨rfl, rfl, rfl, by decide +kernel, rfl, by decide +kernel, by decide +kernel⟩
theorem scLaw : FnScope ["_law_script", "_law_bag_here", "_law_turn", "_law_directions", "_law_divisors_here", "_law_tree_here", "_law_scan_here", "_law_k", "_law_one", "_law_step", "_law_far", "_law_other", "_law_third", "_law_there", "_law_side"] ["_law_script"] (defScope sLaw) := ⟨rfl, rfl, rfl, by decide +kernel, rfl, by decide +kernel, by decide +kernel⟩
end Lk

namespace Lk
open PySem L2
/-! ### the bag: the script's ints, a place in them, what is left of a great one, a seed -/
structure BagS (H : Hp) (b l : Addr) (ns : List Int) (i big seed : Int) : Prop where
  ob : H b = some (.lst [.ref l, .int i, .int big, .int seed])
  ls : H l = some (.lst (ns.map V.int))
  i0 : 0 ≤ i
  i1 : i ≤ ns.length
  g0 : 0 ≤ big
  s0 : 0 ≤ seed
  s1 : seed < 2147483647
def BagAt (H : Hp) (b l : Addr) : Prop := ∃ ns i big seed, BagS H b l ns i big seed
/-- all that was tracked but b is as it was -/
def But (b : Addr) (H H' : Hp) : Prop := ∀ a o, a ≠ b → H a = some o → H' a = some o
theorem But.refl (b : Addr) (H : Hp) : But b H H := fun _ _ _ h => h
theorem But.trans {b : Addr} {H H1 H2 : Hp} (x : But b H H1) (y : But b H1 H2) : But b H H2 := fun a o n h => y a o n (x a o n h)
theorem But.same {b : Addr} {H H1 : Hp} (x : Same H H1) : But b H H1 := fun a o _ h => x a o h
theorem but_upd {b : Addr} {H : Hp} {o : HO} : But b H (upd H b o) := fun a u n h => by
  rw [upd_ne n]
  exact h
theorem BagS.ne {H : Hp} {b l : Addr} {ns : List Int} {i big seed : Int} (B : BagS H b l ns i big seed) : l ≠ b := by
  refine ne_of B.ls B.ob fun e => ?_
  have e2 := HO.lst.inj e
  cases ns with
  | nil => cases e2
  | cons z r =>
    rw [List.map_cons] at e2
    injection e2 with e3 _
    cases e3
theorem BagS.put {H : Hp} {b l : Addr} {ns : List Int} {i big seed i' big' seed' : Int} (B : BagS H b l ns i big seed) (a0 : 0 ≤ i') (a1 : i' ≤ ns.length) (a2 : 0 ≤ big') (a3 : 0 ≤ seed') (a4 : seed' < 2147483647) :
    BagS (upd H b (.lst [.ref l, .int i', .int big', .int seed'])) b l ns i' big' seed' :=
  ⟨upd_same, by rw [upd_ne B.ne]; exact B.ls, a0, a1, a2, a3, a4⟩
theorem BagAt.upd {H : Hp} {b l D : Addr} {o : HO} (B : BagAt H b l) (h1 : D ≠ b) (h2 : D ≠ l) : BagAt (upd H D o) b l := by
  obtain ⟨ns, i, big, seed, B⟩ := B
  exact ⟨ns, i, big, seed, by rw [upd_ne h1.symm]; exact B.ob, by rw [upd_ne h2.symm]; exact B.ls, B.i0, B.i1, B.g0, B.s0, B.s1⟩
theorem BagAt.nb {H : Hp} {b l D : Addr} (B : BagAt H b l) (h : H D = none) : D ≠ b := by
  obtain ⟨ns, i, big, seed, B⟩ := B
  exact (ne_of_none B.ob h).symm
theorem BagAt.nl {H : Hp} {b l D : Addr} (B : BagAt H b l) (h : H D = none) : D ≠ l := by
  obtain ⟨ns, i, big, seed, B⟩ := B
  exact (ne_of_none B.ls h).symm
theorem BagAt.new {H : Hp} {b l D : Addr} {o : HO} (B : BagAt H b l) (h : H D = none) : BagAt (L2.upd H D o) b l := B.upd (B.nb h) (B.nl h)
theorem BagAt.lst {H : Hp} {b l : Addr} (B : BagAt H b l) : ∃ xs, H b = some (.lst xs) := by
  obtain ⟨ns, i, big, seed, B⟩ := B
  exact ⟨_, B.ob⟩
def spPull : Sp := fun vs H Q _ => ∃ (b l : Addr) (m : Int), vs = [.ref b, .int m] ∧ BagAt H b l ∧ 0 < m ∧ m.natAbs < 2 ^ 200 ∧
  ∀ (g : Int) (H' : Hp), 0 ≤ g → g < m → BagAt H' b l → But b H H' → Q (.int g) H'
theorem new_but {b D : Addr} {H : Hp} {o : HO} (h : H D = none) : But b H (upd H D o) := fun a u _ e => by
  rw [upd_ne (ne_of_none e h)]
  exact e
theorem But.free {b l D : Addr} {H H' : Hp} (B : BagAt H b l) (x : But b H H') (B' : BagAt H' b l) (h : H' D = none) : H D = none := by
  cases e : H D with
  | none => rfl
  | some o => exact (x D o (B'.nb h) e).symm.trans h
section
variable {P : Program} {w : World} {K : PySem.W.Frag} {mg : Str → Option Value} {base : Heap}
theorem ix4 {x y z u : V} : ∀ {j : Nat} {v : V}, ([x, y, z, u] : List V)[j]? = some v → atI [x, y, z, u] (j : Int) = some v := fun h => atI_nat h
theorem ok_pull {f : Addr} {fd : FuncData} {k : Nat} (F : Fun K "_law_pull" "_law_pull" sPull f fd) (ml : mg "len" = none) (mi : mg "int" = none) : FnOk P w K mg base CX0 (k + 1) f fd ["_law_bag_here", "_law_amount"] spPull := by
  refine F.ok scPull (fun vs H Q E h => ?_) (fun cdv A outer s H vs Q E hr h => ?_)
  · obtain ⟨b, l, m, rfl, _⟩ := h
    rfl
  · obtain ⟨b, l, m, rfl, ⟨ns, i, big, seed, B⟩, m0, mb, q⟩ := h
    refine ⟨_, C8.pss_cut (ps_if (PW.pt (pw_and (pt_cmpR op_eq (pe_ix ix_list (pv 0) pe_int (fun _ _ => rfl)) pe_int (nomark _)) (pw_and1 (pt_cmpR op_lt (pe_ix ix_list (pv 0) pe_int (fun _ _ => rfl)) (pe_callB call_len_seq (by rfl) ml PySem.boot_len (pa_cons (pe_ix ix_list (pv 0) pe_int (fun _ _ => rfl)) pa_nil)) (nomark _)))))
        (pss_cons (ps_set (i := 2) scPull.nd rfl (.inl rfl) (pe_ix ix_list (pe_ix ix_list (pv 0) pe_int (fun _ _ => rfl)) (pe_ix ix_list (pv 0) pe_int (fun _ _ => rfl)) (fun _ _ => rfl)))
          (pss_cons (ps_asg (pe_op op_add (pe_ix ix_list (pv 0) pe_int (fun _ _ => rfl)) pe_int) (pg_sub (pv 0) pe_int set_list))
          (pss_one (ps_if (pt_cmpR op_ge (pv 2) (pe_op op_pow pe_int pe_int) (nomark _))
            (pss_one (ps_asg (pv 2) (pg_sub (pv 0) pe_int set_list)))
            (pss_one (ps_asg (pe_op op_mod (pe_callTy call_int1 (by rfl) mi (by decide +kernel) (pa_cons (pe_op op_add (pe_op op_add (pe_op op_mul (pe_ix ix_list (pv 0) pe_int (fun _ _ => rfl)) pe_int) (pe_op op_mul (pe_op op_mod (pe_callTy call_int1 (by rfl) mi (by decide +kernel) (pa_cons (pv 2) pa_nil)) pe_int) pe_int)) pe_int) pa_nil)) pe_int) (pg_sub (pv 0) pe_int set_list)))))))
        pss_nil)
      (pss_cons (ps_if (pt_cmpR op_gt (pe_ix ix_list (pv 0) pe_int (fun _ _ => rfl)) pe_int (nomark _))
        (pss_cons (ps_set (i := 3) scPull.nd rfl (.inl rfl) (pe_op op_mod (pe_callTy call_int1 (by rfl) mi (by decide +kernel) (pa_cons (pe_ix ix_list (pv 0) pe_int (fun _ _ => rfl)) pa_nil)) (pv 1)))
          (pss_cons (ps_asg (pe_op op_fdivW (pe_ix ix_list (pv 0) pe_int (fun _ _ => rfl)) (pv 1)) (pg_sub (pv 0) pe_int set_list)) (pss_one (ps_ret (pv 3))))) pss_nil)
      (pss_cons (ps_set (i := 4) scPull.nd rfl (.inl rfl) (pe_ix ix_list (pv 0) pe_int (fun _ _ => rfl)))
      (pss_cons (ps_asg (pe_op op_mod (pe_callTy call_int1 (by rfl) mi (by decide +kernel) (pa_cons (pe_op op_add (pe_op op_add (pe_op op_mul (pv 4) (pv 4)) (pe_op op_mul (pv 4) pe_int)) pe_int) pa_nil)) pe_int) (pg_sub (pv 0) pe_int set_list))
      (pss_one (ps_ret (pe_op op_mod (pe_callTy call_int1 (by rfl) mi (by decide +kernel) (pa_cons (pe_op op_add (pe_op op_fdiv (pe_ix ix_list (pv 0) pe_int (fun _ _ => rfl)) pe_int) (pe_op op_mul (pe_op op_mod (pe_callTy call_int1 (by rfl) mi (by decide +kernel) (pa_cons (pe_ix ix_list (pv 0) pe_int (fun _ _ => rfl)) pa_nil)) pe_int) pe_int)) pa_nil)) (pv 1))))))), ?_⟩
    refine ⟨fun σ' H1 => ∃ (c : Option V) (i' big' seed' : Int), σ' = [some (.ref b), some (.int m), c, none, none] ∧ BagS H1 b l ns i' big' seed' ∧ But b H H1, ?_, ?_⟩
    · -- the first if
      have hL := SqL.of (K := K) B.ob
      refine ⟨_, rfl, b, _, _, _, rfl, rfl, hL, atI_nat (j := 2) rfl, rfl, _, rfl, ite2 (fun e => ?_) (fun e => ?_)⟩
      · refine ⟨_, rfl, b, _, _, _, rfl, rfl, hL, atI_nat (j := 1) rfl, _, rfl, b, _, _, _, rfl, rfl, hL, atI_nat (j := 0) rfl, l, _, rfl, .inl (SqL.of B.ls), _, _, rfl, rfl, _, rfl, ite2 (fun e2 => ?_) (fun e2 => ?_)⟩
        · have e3 : i < ((ns.map V.int).length : Nat) := of_decide_eq_true e2
          rw [List.length_map] at e3
          obtain ⟨j, hj⟩ : ∃ j : Nat, i = (j : Int) := ⟨i.toNat, by have := B.i0; omega⟩
          have hj2 : j < ns.length := by omega
          have g1 : (ns.map V.int)[j]? = some (.int ns[j]) := by
            rw [List.getElem?_map, List.getElem?_eq_getElem hj2]
            rfl
          have B2 := B.put (i' := i + 1) (big' := big) (seed' := seed) (by have := B.i0; omega) (by omega) B.g0 B.s0 B.s1
          refine ⟨_, rfl, b, _, _, _, rfl, rfl, hL, atI_nat (j := 0) rfl, _, rfl, b, _, _, _, rfl, rfl, hL, atI_nat (j := 1) rfl, l, _, _, _, rfl, rfl, SqL.of B.ls, at_of hj g1, ?_⟩
          refine ⟨_, rfl, b, _, _, _, rfl, rfl, hL, atI_nat (j := 1) rfl, _, _, rfl, rfl, _, rfl, b, _, _, 1, rfl, rfl, B.ob, rfl, ?_⟩
          have hL2 := SqL.of (K := K) B2.ob
          refine ⟨_, rfl, _, _, rfl, rfl, ⟨by decide, by decide, by decide⟩, _, _, rfl, rfl, _, rfl, ite2 (fun e4 => ?_) (fun e4 => ?_)⟩
          · have e5 : (10 : Int) ^ (18 : Int).toNat ≤ ns[j] := of_decide_eq_true e4
            refine ⟨_, rfl, _, rfl, b, _, _, 2, rfl, rfl, B2.ob, rfl, ?_⟩
            refine ⟨_, i + 1, ns[j], seed, rfl, ?_, ?_⟩
            · have h0 : (0 : Int) ≤ ns[j] := Int.le_trans (by decide) e5
              exact B2.put (by have := B.i0; omega) (by omega) h0 B.s0 B.s1
            · exact but_upd.trans but_upd
          · have r0 := Int.emod_nonneg (ns[j]) (show (2147483579 : Int) ≠ 0 by decide)
            have r1 := Int.emod_lt_of_pos (ns[j]) (show (0 : Int) < 2147483579 by decide)
            have q0 := B.s0
            have q1 := B.s1
            refine ⟨_, rfl, b, _, _, _, rfl, rfl, hL2, atI_nat (j := 3) rfl, _, _, rfl, rfl, .inl ⟨by omega, by omega⟩, _, rfl, .inl ⟨_, rfl, ?_⟩⟩
            refine ⟨_, _, rfl, rfl, (by show (0 : Int) < 2147483579; decide), _, _, rfl, rfl, .inl ⟨by omega, by omega⟩, _, _, rfl, rfl, _, _, rfl, rfl, .inl ⟨_, rfl, ?_⟩⟩
            refine ⟨_, _, rfl, rfl, (by show (0 : Int) < 2147483647; decide), _, rfl, b, _, _, 3, rfl, rfl, B2.ob, rfl, ?_⟩
            refine ⟨_, i + 1, big, _, rfl, B2.put (by have := B.i0; omega) (by omega) B.g0 (Int.emod_nonneg _ (by decide)) (Int.emod_lt_of_pos _ (by decide)), but_upd.trans but_upd⟩
        · exact ⟨_, i, big, seed, rfl, B, But.refl _ _⟩
      · exact ⟨_, i, big, seed, rfl, B, But.refl _ _⟩
    · rintro σ' H1 ⟨c, i', big', seed', rfl, B1, bt⟩
      have hL := SqL.of (K := K) B1.ob
      refine ⟨_, rfl, b, _, _, _, rfl, rfl, hL, atI_nat (j := 2) rfl, _, _, rfl, rfl, _, rfl, ite2 (fun e => ?_) (fun e => ?_)⟩
      · refine ⟨_, rfl, b, _, _, _, rfl, rfl, hL, atI_nat (j := 2) rfl, .inl ⟨_, rfl, ?_⟩⟩
        refine ⟨_, rfl, _, _, rfl, rfl, m0, ?_⟩
        refine ⟨_, rfl, b, _, _, _, rfl, rfl, hL, atI_nat (j := 2) rfl, _, rfl, _, _, rfl, rfl, wide_div m0 mb (by decide) (by decide), _, rfl, b, _, _, 2, rfl, rfl, B1.ob, rfl, ?_⟩
        refine ⟨_, rfl, ?_⟩
        exact q _ _ (Int.emod_nonneg _ (by omega)) (Int.emod_lt_of_pos _ m0) ⟨ns, i', _, seed', B1.put B1.i0 B1.i1 (Int.ediv_nonneg B1.g0 (by omega)) B1.s0 B1.s1⟩ (bt.trans but_upd)
      · have q0 := B1.s0
        have q1 := B1.s1
        refine ⟨_, rfl, b, _, _, _, rfl, rfl, hL, atI_nat (j := 3) rfl, ?_⟩
        refine ⟨_, rfl, _, rfl, _, _, rfl, rfl, .inl ⟨by omega, by omega⟩, _, rfl, _, _, rfl, rfl, .inl ⟨by omega, by omega⟩, _, _, rfl, rfl, _, _, rfl, rfl, .inl ⟨_, rfl, ?_⟩⟩
        refine ⟨_, _, rfl, rfl, (by show (0 : Int) < 2147483647; decide), _, rfl, b, _, _, 3, rfl, rfl, B1.ob, rfl, ?_⟩
        have z0 := Int.emod_nonneg (seed' * seed' + seed' * 48271 + 1013904223) (show (2147483647 : Int) ≠ 0 by decide)
        have z1 := Int.emod_lt_of_pos (seed' * seed' + seed' * 48271 + 1013904223) (show (0 : Int) < 2147483647 by decide)
        have B2 := B1.put (i' := i') (big' := big') B1.i0 B1.i1 B1.g0 z0 z1
        have hL2 := SqL.of (K := K) B2.ob
        refine ⟨_, rfl, b, _, _, _, rfl, rfl, hL2, atI_nat (j := 3) rfl, _, _, rfl, rfl, ⟨by decide, by decide⟩, ?_⟩
        refine ⟨_, rfl, b, _, _, _, rfl, rfl, hL2, atI_nat (j := 3) rfl, .inl ⟨_, rfl, ?_⟩⟩
        have y0 := Int.emod_nonneg ((seed' * seed' + seed' * 48271 + 1013904223) % 2147483647) (show (8191 : Int) ≠ 0 by decide)
        have y1 := Int.emod_lt_of_pos ((seed' * seed' + seed' * 48271 + 1013904223) % 2147483647) (show (0 : Int) < 8191 by decide)
        refine ⟨_, _, rfl, rfl, (by show (0 : Int) < 8191; decide), _, _, rfl, rfl, .inl ⟨by omega, by omega⟩, _, _, rfl, rfl, .inl ⟨_, rfl, ?_⟩⟩
        refine ⟨_, rfl, _, _, rfl, rfl, m0, ?_⟩
        exact q _ _ (Int.emod_nonneg _ (by omega)) (Int.emod_lt_of_pos _ m0) ⟨ns, i', big', _, B2⟩ (bt.trans but_upd)
/-- things[pull(bag, len(things))] -/
def spOf (K : PySem.W.Frag) : Sp := fun vs H Q _ => ∃ (b l t : Addr) (xs : List V), vs = [.ref b, .ref t] ∧ BagAt H b l ∧ t ≠ b ∧ SqL K H t xs ∧ 0 < xs.length ∧ xs.length < 1000 ∧
  ∀ (v : V) (H' : Hp), v ∈ xs → BagAt H' b l → But b H H' → Q v H'
theorem But.seq {b a : Addr} {H H' : Hp} {xs : List V} (e : But b H H') (n : a ≠ b) (h : SqL K H a xs) : SqL K H' a xs := by
  rcases h with (h | ⟨o, h⟩) | h
  · exact .inl (.inl (e _ _ n h))
  · exact .inl (.inr ⟨o, e _ _ n h⟩)
  · exact .inr h
theorem But.sqT {b l a : Addr} {H H' : Hp} {xs : List V} (e : But b H H') (B : BagAt H b l) (h : SqT K H a xs) : SqT K H' a xs := by
  obtain ⟨ys, hb⟩ := B.lst
  rcases h with (h | ⟨o, h⟩) | h
  · exact .inl (.inl (e _ _ (ne_of h hb (by intro z; cases z)) h))
  · exact .inl (.inr ⟨o, e _ _ (ne_of h hb (by intro z; cases z)) h⟩)
  · exact .inr h
theorem But.tup {b l a : Addr} {H H' : Hp} {xs : List V} (e : But b H H') (B : BagAt H b l) (h : H a = some (.tup xs)) : H' a = some (.tup xs) := by
  obtain ⟨ys, hb⟩ := B.lst
  exact e _ _ (ne_of h hb (by intro z; cases z)) h
theorem ok_of {f fP : Addr} {fd fdP : FuncData} {k : Nat} (F : Fun K "_law_of" "_law_of" sOf f fd) (ml : mg "len" = none) (GP : FnOk P w K mg base CX0 (k + 1) fP fdP ["_law_bag_here", "_law_amount"] spPull)
    (kp : PySem.W.keepIn K (.ref fP) = true) (bP : Binds K fdP ["_law_bag_here", "_law_amount"] []) (gP : mg "_law_pull" = some (.ref fP)) :
    FnOk P w K mg base CX0 (k + 2) f fd ["_law_bag_here", "_law_things"] (spOf K) := by
  refine F.ok scOf (fun vs H Q E h => ?_) (fun cdv A outer s H vs Q E hr h => ?_)
  · obtain ⟨b, l, m, _, rfl, _⟩ := h
    rfl
  · obtain ⟨b, l, t, xs, rfl, B, nt, hS, l0, l1, q⟩ := h
    refine ⟨_, pss_one (ps_ret (pe_ix ix_list (pv 1) (pe_call GP hr (by rfl) gP kp bP .nil pass0 (pa_cons (pv 0) (pa_cons (pe_callB call_len_seq (by rfl) ml PySem.boot_len (pa_cons (pv 1) pa_nil)) pa_nil))) (fun _ _ => rfl))), ?_⟩
    refine ⟨_, rfl, _, rfl, _, rfl, t, _, rfl, .inl hS, b, l, _, rfl, B, by omega, ?_, fun g H' g0 g1 B' bt => ?_⟩
    · have : ((xs.length : Int)).natAbs < 1000 := by omega
      exact Nat.lt_trans this (by decide)
    · obtain ⟨j, hj⟩ : ∃ j : Nat, g = (j : Int) := ⟨g.toNat, by omega⟩
      have hj2 : j < xs.length := by omega
      exact ⟨t, _, _, xs[j], rfl, rfl, bt.seq nt hS, at_of hj (List.getElem?_eq_getElem hj2), q _ _ (List.getElem_mem hj2) B' bt⟩
end
end Lk

namespace Lk
open PySem L2
/-! ### mathematics -/
def prodL : List Int → Int
  | [] => 1
  | x :: r => x * prodL r
theorem prodL_app (x : Int) : ∀ l : List Int, prodL (l ++ [x]) = prodL l * x
  | [] => by simp [prodL]
  | y :: r => by
    show y * prodL (r ++ [x]) = y * prodL r * x
    rw [prodL_app x r, Int.mul_assoc]
theorem prodL_perm {l m : List Int} (h : l.Perm m) : prodL l = prodL m := by
  induction h with
  | nil => rfl
  | cons x _ ih => simp [prodL, ih]
  | swap x y l => simp only [prodL]; rw [← Int.mul_assoc, ← Int.mul_assoc, Int.mul_comm x y]
  | trans _ _ a b => exact a.trans b
theorem prodL_pos : ∀ {l : List Int}, (∀ z ∈ l, 1 ≤ z) → 1 ≤ prodL l
  | [], _ => by simp [prodL]
  | x :: r, h => by
    have h1 := prodL_pos (l := r) fun z hz => h z (List.mem_cons_of_mem _ hz)
    have h2 := h x List.mem_cons_self
    show 1 ≤ x * prodL r
    calc (1 : Int) = 1 * 1 := rfl
      _ ≤ x * prodL r := Int.mul_le_mul h2 h1 (by decide) (by omega)
theorem prodL_take {l : List Int} (h : ∀ z ∈ l, 1 ≤ z) (i : Nat) : prodL (l.take i) ≤ prodL l := by
  have e : ∀ (a b : List Int), prodL (a ++ b) = prodL a * prodL b := fun a b => by
    induction a with
    | nil => simp [prodL]
    | cons x r ih => show x * prodL (r ++ b) = x * prodL r * prodL b; rw [ih, Int.mul_assoc]
  have e2 : prodL l = prodL (l.take i) * prodL (l.drop i) := by rw [← e, List.take_append_drop]
  have h1 := prodL_pos (l := l.take i) fun z hz => h z (List.mem_of_mem_take hz)
  have h2 := prodL_pos (l := l.drop i) fun z hz => h z (List.mem_of_mem_drop hz)
  rw [e2]
  calc prodL (l.take i) = prodL (l.take i) * 1 := by rw [Int.mul_one]
    _ ≤ prodL (l.take i) * prodL (l.drop i) := Int.mul_le_mul_of_nonneg_left h2 (by omega)
theorem take_more {α : Type} {l : List α} {i : Nat} {x : α} (h : l[i]? = some x) : l.take (i + 1) = l.take i ++ [x] := by
  rw [List.take_add_one, h]
  rfl
theorem map_get {α : Type} {g : α → V} {ns : List α} {i : Nat} {y : V} (hi : (ns.map g)[i]? = some y) : ∃ z, ns[i]? = some z ∧ y = g z := by
  rw [List.getElem?_map] at hi
  cases e : ns[i]? with
  | none =>
    rw [e] at hi
    cases hi
  | some z =>
    rw [e] at hi
    exact ⟨z, rfl, (Option.some.inj hi).symm⟩
/-- divisors: numbers from 1 on, their product at most 12 -/
structure Divs (ns : List Int) : Prop where
  one : ∀ z ∈ ns, 1 ≤ z
  most : prodL ns ≤ 12
theorem Divs.part {ns : List Int} (D : Divs ns) (i : Nat) : 1 ≤ prodL (ns.take i) ∧ prodL (ns.take i) ≤ 12 :=
  ⟨prodL_pos fun z hz => D.one z (List.mem_of_mem_take hz), Int.le_trans (prodL_take D.one i) D.most⟩
theorem same_new {H : Hp} {p : Addr} {o : HO} (h : H p = none) : Same H (upd H p o) := fun b x e => by
  rw [upd_ne (ne_of_none e h)]
  exact e
theorem Same.sqT {K : PySem.W.Frag} {H H' : Hp} {a : Addr} {xs : List V} (e : Same H H') (h : SqT K H a xs) : SqT K H' a xs := by
  rcases h with (h | ⟨o, h⟩) | h
  · exact .inl (.inl (e _ _ h))
  · exact .inl (.inr ⟨o, e _ _ h⟩)
  · exact .inr h
/-- zip of two tuples, walked -/
theorem walk_zipT {K : PySem.W.Frag} {a b : Addr} {xs ys : List V} (e : xs.length = ys.length) :
    Walk (RZ.ItzT K a b) xs.length (fun H => SqT K H a xs ∧ SqT K H b ys) (YPair (fun j => xs[j]?) (fun j => ys[j]?)) := by
  constructor
  · intro i H hi q
    have h2 : i < ys.length := by omega
    exact ⟨xs, ys, xs[i], ys[i], q.1, q.2, List.getElem?_eq_getElem hi, List.getElem?_eq_getElem h2⟩
  · intro H q
    exact ⟨xs, ys, q.1, q.2, by omega⟩
  · rintro i H v H' hi q ⟨T, x, z, h1, h2, h3, h4, h5⟩
    exact ⟨T, x, z, h1, h2, h3, h4 xs q.1, h5 ys q.2⟩
/-! ### promises -/
def spBag (K : PySem.W.Frag) : Sp := fun vs H Q _ => ∃ (a : Addr) (ns : List Int), vs = [.ref a] ∧ SqL K H a (ns.map V.int) ∧
  ∀ (H' : Hp) (b l : Addr), Same H H' → H b = none → H l = none → BagAt H' b l → Q (.ref b) H'
def spMixed (K : PySem.W.Frag) : Sp := fun vs H Q _ => ∃ (b l t : Addr) (xs : List V), vs = [.ref b, .ref t] ∧ BagAt H b l ∧ t ≠ b ∧ SqL K H t xs ∧ xs.length ≤ 100 ∧
  ∀ (ys : List V) (H' : Hp) (p : Addr), ys.Perm xs → H p = none → H' p = some (.lst ys) → BagAt H' b l → But b H H' → Q (.ref p) H'
def spCount (K : PySem.W.Frag) : Sp := fun vs H Q _ => ∃ (a : Addr) (ns : List Int), vs = [.ref a] ∧ SqT K H a (ns.map V.int) ∧ Divs ns ∧ Q (.int (prodL ns)) H
def spPlus (K : PySem.W.Frag) : Sp := fun vs H Q _ => ∃ (a b : Addr) (ns ms : List Int), vs = [.ref a, .ref b] ∧ SqT K H a (ns.map V.int) ∧ SqT K H b (ms.map V.int) ∧ ns.length = ms.length ∧ ns.length ≤ 3 ∧
  ∀ (H' : Hp) (p : Addr), Same H H' → H p = none → H' p = some (.tup ((List.zipWith (· + ·) ns ms).map V.int)) → Q (.ref p) H'
def spDivisors : Sp := fun vs H Q _ => ∃ (b l : Addr) (d : Int), vs = [.ref b, .int d] ∧ BagAt H b l ∧ 1 ≤ d ∧ d ≤ 3 ∧
  ∀ (ns : List Int) (H' : Hp) (p : Addr), (ns.length : Int) = d → Divs ns → H p = none → H' p = some (.tup (ns.map V.int)) → BagAt H' b l → But b H H' → Q (.ref p) H'
def spPlace : Sp := fun vs H Q _ => ∃ (b l : Addr) (d z : Int), vs = [.ref b, .int d, .int z] ∧ BagAt H b l ∧ 1 ≤ d ∧ d ≤ 3 ∧ 0 ≤ z ∧ z ≤ 1000 ∧
  ∀ (ns : List Int) (H' : Hp) (p : Addr), (ns.length : Int) = d → H p = none → H' p = some (.tup (ns.map V.int)) → BagAt H' b l → But b H H' → Q (.ref p) H'
section
variable {P : Program} {w : World} {K : PySem.W.Frag} {mg : Str → Option Value} {base : Heap}
theorem ok_bag {f : Addr} {fd : FuncData} {k : Nat} (F : Fun K "_law_bag" "_law_bag" sBag f fd) (mi : mg "int" = none) (ml : mg "list" = none) : FnOk P w K mg base CX0 (k + 1) f fd ["_law_script"] (spBag K) := by
  refine F.ok scBag (fun vs H Q E h => ?_) (fun cdv A outer s H vs Q E hr h => ?_)
  · obtain ⟨a, ns, rfl, _⟩ := h
    rfl
  · obtain ⟨a, ns, rfl, hS, q⟩ := h
    obtain ⟨ms, em⟩ : ∃ ms : List Int, cutV (ns.map V.int) none (some 63) = ms.map V.int := by
      unfold cutV
      rw [← List.map_drop, ← List.map_take]
      exact ⟨_, rfl⟩
    refine ⟨_, pss_cons (ps_set (i := 1) scBag.nd rfl (.inl rfl) pe_int)
      (pss_cons (ps_for PassesOwn.never rfl (pi_list (pe_slice sl_list (pv 0) po_none (po_some pe_int))) (pg_name (i := 2) scBag.nd rfl (.inl rfl))
        (pss_one (ps_set (i := 1) scBag.nd rfl (.inl rfl) (pe_op op_mod (pe_callTy call_int1 (by rfl) mi (by decide +kernel) (pa_cons (pe_op op_add (pe_op op_add (pe_op op_mul (pv 1) pe_int) (pe_op op_mod (pe_callTy call_int1 (by rfl) mi (by decide +kernel) (pa_cons (pv 2) pa_nil)) pe_int)) pe_int) pa_nil)) pe_int))))
      (pss_one (ps_ret (pe_lst (pa_cons (pe_callTy call_list_of (by rfl) ml (by decide +kernel) (pa_cons (pe_slice sl_list (pv 0) po_none (po_some pe_int)) pa_nil)) (pa_cons pe_int (pa_cons pe_int (pa_cons (pv 1) pa_nil)))))))), ?_⟩
    refine ⟨_, rfl, _, rfl, a, _, rfl, hS, fun c nc => ?_⟩
    rw [em]
    have s1 : Same H (upd H c (.lst (ms.map V.int))) := same_new nc
    refine ⟨c, rfl, ⟨_, SqL.of upd_same⟩, for_list (K := K) (a := c) (xs := ms.map V.int) (fun i σ H2 => ∃ (z : Int) (v : Option V), σ = [some (.ref a), some (.int z), v] ∧ 0 ≤ z ∧ z < 2147483647 ∧ H2 = upd H c (.lst (ms.map V.int)))
      ⟨3823, none, rfl, by decide, by decide, rfl⟩ (fun i σ H2 _ ⟨_, _, _, _, _, e⟩ => by rw [e]; exact SqL.of upd_same) ?_ ?_⟩
    · rintro i y σ H2 hi ⟨z, v, rfl, z0, z1, rfl⟩
      obtain ⟨u, hu, rfl⟩ := map_get hi
      refine ⟨_, rfl, _, _, rfl, rfl, .inl ⟨by omega, by omega⟩, _, rfl, .inl ⟨_, rfl, ?_⟩⟩
      refine ⟨_, _, rfl, rfl, (by show (0 : Int) < 2147483579; decide), _, _, rfl, rfl, _, _, rfl, rfl, .inl ⟨_, rfl, ?_⟩⟩
      refine ⟨_, _, rfl, rfl, (by show (0 : Int) < 2147483647; decide), ?_⟩
      exact ⟨_, _, rfl, Int.emod_nonneg _ (by decide), Int.emod_lt_of_pos _ (by decide), rfl⟩
    · rintro σ H2 ⟨z, v, rfl, z0, z1, rfl⟩
      refine ⟨_, rfl, _, rfl, a, _, rfl, s1.seq hS, fun c2 nc2 => ?_⟩
      rw [em]
      have s2 := same_new (o := .lst (ms.map V.int)) nc2
      refine ⟨c2, _, rfl, .inl (SqL.of upd_same), fun l nl => ?_⟩
      have s3 := same_new (o := .lst (ms.map V.int)) nl
      refine ⟨_, rfl, (by show 4 ≤ sizeLine; decide), fun b nb => ?_⟩
      have s4 := same_new (o := .lst [.ref l, .int 0, .int 0, .int z]) nb
      refine q _ b l (((s1.trans s2).trans s3).trans s4) (((s1.trans s2).trans s3).free nb) ((s1.trans s2).free nl) ⟨ms, 0, 0, z, upd_same, ?_, by decide, by omega, by decide, z0, z1⟩
      exact s4 _ _ upd_same
theorem ok_mixed {f fP : Addr} {fd fdP : FuncData} {k : Nat} (F : Fun K "_law_mixed" "_law_mixed" sMixed f fd) (ml : mg "len" = none) (GP : FnOk P w K mg base CX0 (k + 1) fP fdP ["_law_bag_here", "_law_amount"] spPull)
    (kp : PySem.W.keepIn K (.ref fP) = true) (bP : Binds K fdP ["_law_bag_here", "_law_amount"] []) (gP : mg "_law_pull" = some (.ref fP)) :
    FnOk P w K mg base CX0 (k + 2) f fd ["_law_bag_here", "_law_things"] (spMixed K) := by
  refine F.ok scMixed (fun vs H Q E h => ?_) (fun cdv A outer s H vs Q E hr h => ?_)
  · obtain ⟨b, l, t, xs, rfl, _⟩ := h
    rfl
  · obtain ⟨b, l, t, xs, rfl, B, nt, hS, l1, q⟩ := h
    refine ⟨_, pss_cons (ps_set (i := 2) scMixed.nd rfl (.inl rfl) (pe_lst pa_nil))
      (pss_cons (ps_for PassesOwn.never rfl (pi_list (pv 1)) (pg_name (i := 3) scMixed.nd rfl (.inl rfl))
        (pss_one (ps_expr (pe_bm PySem.F.plainAttrs_list PySem.F.slot_list_insert PySem.F.type_list_insert mt_insert (pv 2) (pa_cons (pe_call GP hr (by rfl) gP kp bP .nil pass0 (pa_cons (pv 0) (pa_cons (pe_op op_add (pe_callB call_len_seq (by rfl) ml PySem.boot_len (pa_cons (pv 2) pa_nil)) pe_int) pa_nil))) (pa_cons (pv 3) pa_nil))))))
      (pss_one (ps_ret (pv 2)))), ?_⟩
    refine ⟨Nat.zero_le _, fun o no => ?_⟩
    have nob := B.nb no
    have nol := B.nl no
    have s0 := same_new (o := .lst []) no
    have nto : ∀ ys, SqL K H t ys → t ≠ o ∨ True := fun _ _ => .inr trivial
    have hS1 : SqL K (upd H o (.lst [])) t xs := s0.seq hS
    refine ⟨_, rfl, t, rfl, ⟨_, hS1⟩, for_list (K := K) (a := t) (xs := xs) (fun i σ H2 => ∃ (v : Option V) (ys : List V), σ = [some (.ref b), some (.ref t), some (.ref o), v] ∧ ys.Perm (xs.take i) ∧ H2 o = some (.lst ys) ∧ BagAt H2 b l ∧ But b H H2)
      ⟨none, [], rfl, by simp, upd_same, B.new no, new_but no⟩ (fun i σ H2 _ ⟨_, _, _, _, _, _, bt⟩ => bt.seq nt hS) ?_ ?_⟩
    · rintro i y σ H2 hi ⟨v, ys, rfl, pm, ho, B2, bt⟩
      have hi2 : i < xs.length := (List.getElem?_eq_some_iff.mp hi).1
      have ly : ys.length = i := by
        rw [pm.length_eq, List.length_take]
        omega
      refine ⟨_, rfl, .inl ⟨rfl, _, SqL.of ho⟩, _, rfl, _, rfl, o, _, rfl, .inl (SqL.of ho), _, _, rfl, rfl, b, l, _, rfl, B2, by omega, ?_, fun g H3 g0 g1 B3 bt3 => ?_⟩
      · have : (((ys.length : Int) + 1)).natAbs < 1000 := by omega
        exact Nat.lt_trans this (by decide)
      · have ho3 := bt3 o _ nob ho
        refine ⟨_, rfl, o, ys, g, y, rfl, rfl, ho3, ?_, g0, by omega, ?_⟩
        · exact Nat.lt_of_le_of_lt (show ys.length ≤ 100 by omega) (by decide)
        · refine ⟨_, _, rfl, ?_, upd_same, B3.upd nob nol, ?_⟩
          · rw [take_more hi]
            refine List.Perm.trans ?_ (List.Perm.append_right [y] pm)
            have e : ys = ys.take g.toNat ++ ys.drop g.toNat := (List.take_append_drop _ _).symm
            conv => rhs; rw [e]
            rw [List.append_assoc, List.append_assoc]
            exact List.Perm.append_left _ List.perm_append_comm
          · intro a u na hu
            have nao : a ≠ o := ne_of_none hu no
            rw [upd_ne nao]
            exact bt3 a u na (bt a u na hu)
    · rintro σ H2 ⟨v, ys, rfl, pm, ho, B2, bt⟩
      rw [List.take_length] at pm
      exact ⟨_, rfl, q ys H2 o pm no ho B2 bt⟩
theorem ok_count {f : Addr} {fd : FuncData} {k : Nat} (F : Fun K "_law_count" "_law_count" sCount f fd) : FnOk P w K mg base CX0 (k + 1) f fd ["_law_divisors_here"] (spCount K) := by
  refine F.ok scCount (fun vs H Q E h => ?_) (fun cdv A outer s H vs Q E hr h => ?_)
  · obtain ⟨a, ns, rfl, _⟩ := h
    rfl
  · obtain ⟨a, ns, rfl, hS, D, q⟩ := h
    refine ⟨_, pss_cons (ps_set (i := 1) scCount.nd rfl (.inl rfl) pe_int)
      (pss_cons (ps_for PassesOwn.never rfl (pi_tup (pv 0)) (pg_name (i := 2) scCount.nd rfl (.inl rfl)) (pss_one (ps_set (i := 1) scCount.nd rfl (.inl rfl) (pe_op op_mul (pv 1) (pv 2)))))
      (pss_one (ps_ret (pv 1)))), ?_⟩
    refine ⟨_, rfl, a, rfl, ⟨_, hS⟩, for_tup (K := K) (a := a) (xs := ns.map V.int) (fun i σ H2 => ∃ (v : Option V), σ = [some (.ref a), some (.int (prodL (ns.take i))), v] ∧ H2 = H)
      ⟨none, rfl, rfl⟩ (fun i σ H2 _ ⟨_, _, e⟩ => by rw [e]; exact hS) ?_ ?_⟩
    · rintro i y σ H2 hi ⟨v, rfl, rfl⟩
      obtain ⟨u, hu, rfl⟩ := map_get hi
      have pt := D.part i
      refine ⟨_, rfl, _, rfl, _, _, rfl, rfl, .inl ⟨by omega, by omega⟩, some (.int u), ?_, rfl⟩
      rw [take_more hu, prodL_app]
      rfl
    · rintro σ H2 ⟨v, rfl, rfl⟩
      refine ⟨_, rfl, ?_⟩
      rw [List.length_map, List.take_length]
      exact q
theorem ok_product {f : Addr} {fd : FuncData} {k : Nat} (F : Fun K "product" "product" sProduct f fd) : FnOk P w K mg base CX0 (k + 1) f fd ["numbers"] (spCount K) := by
  refine F.ok scProduct (fun vs H Q E h => ?_) (fun cdv A outer s H vs Q E hr h => ?_)
  · obtain ⟨a, ns, rfl, _⟩ := h
    rfl
  · obtain ⟨a, ns, rfl, hS, D, q⟩ := h
    refine ⟨_, pss_cons (ps_set (i := 1) scProduct.nd rfl (.inl rfl) pe_int)
      (pss_cons (ps_for PassesOwn.never rfl (pi_tup (pv 0)) (pg_name (i := 2) scProduct.nd rfl (.inl rfl)) (pss_one (ps_set (i := 1) scProduct.nd rfl (.inl rfl) (pe_op op_mul (pv 1) (pv 2)))))
      (pss_one (ps_ret (pv 1)))), ?_⟩
    refine ⟨_, rfl, a, rfl, ⟨_, hS⟩, for_tup (K := K) (a := a) (xs := ns.map V.int) (fun i σ H2 => ∃ (v : Option V), σ = [some (.ref a), some (.int (prodL (ns.take i))), v] ∧ H2 = H)
      ⟨none, rfl, rfl⟩ (fun i σ H2 _ ⟨_, _, e⟩ => by rw [e]; exact hS) ?_ ?_⟩
    · rintro i y σ H2 hi ⟨v, rfl, rfl⟩
      obtain ⟨u, hu, rfl⟩ := map_get hi
      have pt := D.part i
      refine ⟨_, rfl, _, rfl, _, _, rfl, rfl, .inl ⟨by omega, by omega⟩, some (.int u), ?_, rfl⟩
      rw [take_more hu, prodL_app]
      rfl
    · rintro σ H2 ⟨v, rfl, rfl⟩
      refine ⟨_, rfl, ?_⟩
      rw [List.length_map, List.take_length]
      exact q
end
end Lk

namespace Lk
open PySem L2
section
variable {P : Program} {w : World} {K : PySem.W.Frag} {mg : Str → Option Value} {base : Heap}
theorem ok_place {f fP : Addr} {fd fdP : FuncData} {k : Nat} (F : Fun K "_law_place" "_law_place" sPlace f fd) (mt : mg "tuple" = none) (mr : mg "range" = none) (GP : FnOk P w K mg base CX0 (k + 1) fP fdP ["_law_bag_here", "_law_amount"] spPull)
    (kp : PySem.W.keepIn K (.ref fP) = true) (bP : Binds K fdP ["_law_bag_here", "_law_amount"] []) (gP : mg "_law_pull" = some (.ref fP)) :
    FnOk P w K mg base CX0 (k + 2) f fd ["_law_bag_here", "_law_directions", "_law_size"] spPlace := by
  refine F.ok scPlace (fun vs H Q E h => ?_) (fun cdv A outer s H vs Q E hr h => ?_)
  · obtain ⟨b, l, d, z, rfl, _⟩ := h
    rfl
  · obtain ⟨b, l, d, z, rfl, B, d0, d1, z0, z1, q⟩ := h
    refine ⟨_, pss_one (ps_ret (pe_callTy call_tuple_of (by rfl) mt (by decide +kernel) (pa_cons (pe_lc (own := [("_law_at", 3)]) (g := gName 3) (by rfl) scPlace.nd (pi_range1 (by rfl) mr (pa_cons (pv 1) pa_nil))
      (blkOk_by (own := [("_law_at", 3)]) (N := ["_law_bag_here", "_law_directions", "_law_size", "_law_at"]) (sc := defScope sPlace) (by decide +kernel))
      (fun _ _ _ _ _ => pg_name (i := 3) scPlace.nd rfl (Or.inl rfl)) (fun _ _ _ _ _ => pts_nil)
      (fun _ _ _ _ _ => pe_op op_sub (pe_call GP hr (by rfl) gP kp bP .nil pass0 (pa_cons (pv 0) (pa_cons (pe_op op_add (pe_op op_mul pe_int (pv 2)) pe_int) pa_nil))) (pv 2))) pa_nil))), ?_⟩
    refine ⟨_, rfl, d, rfl, by omega, by omega, fun D nD => ?_⟩
    have nDb := B.nb nD
    have nDl := B.nl nD
    refine lc_range (lo := 0) (n := d.toNat) (fun i H2 => ∃ ns : List Int, ns.length = i ∧ H2 D = some (.lst (ns.map V.int)) ∧ BagAt H2 b l ∧ But b H H2) ⟨[], rfl, upd_same, B.new nD, new_but nD⟩ ?_ ?_
    · rintro i H2 hi ⟨ns, hl, hD, B2, bt⟩
      refine ⟨rfl, ?_⟩
      refine ⟨_, rfl, _, rfl, _, _, rfl, rfl, .inl ⟨by decide, by decide⟩, _, _, rfl, rfl, b, l, _, rfl, B2, by omega, ?_, fun g H3 g0 g1 B3 bt3 => ?_⟩
      · have : ((2 * z + 1)).natAbs < 10000 := by omega
        exact Nat.lt_trans this (by decide)
      · have hD3 := bt3 D _ nDb hD
        refine ⟨_, rfl, _, _, rfl, rfl, ns.map V.int, hD3, ?_, ns ++ [g - z], ?_, ?_, B3.upd nDb nDl, ?_⟩
        · rw [List.length_map]
          exact small1000 (by omega)
        · rw [List.length_append, hl]
          rfl
        · rw [upd_same, List.map_append]
          rfl
        · intro a u na hu
          rw [upd_ne (ne_of_none hu nD)]
          exact bt3 a u na (bt a u na hu)
    · rintro H2 ⟨ns, hl, hD, B2, bt⟩
      refine ⟨D, _, rfl, .inl ⟨SqL.of hD, fun p np => ?_⟩⟩
      exact q ns _ p (by omega) (bt.free B B2 np) upd_same (B2.new np) (bt.trans (new_but np))
theorem ok_plus {f : Addr} {fd : FuncData} {k : Nat} (F : Fun K "_law_plus" "_law_plus" sPlus f fd) (mt : mg "tuple" = none) (mz : mg "zip" = none) : FnOk P w K mg base CX0 (k + 1) f fd ["_law_one", "_law_other"] (spPlus K) := by
  refine F.ok scPlus (fun vs H Q E h => ?_) (fun cdv A outer s H vs Q E hr h => ?_)
  · obtain ⟨a, b, ns, ms, rfl, _⟩ := h
    rfl
  · obtain ⟨a, b, ns, ms, rfl, hA, hB, hl, h3, q⟩ := h
    refine ⟨_, pss_one (ps_ret (pe_callTy call_tuple_of (by rfl) mt (by decide +kernel) (pa_cons (pe_lc (own := [("_law_a", 2), ("_law_b", 3)]) (g := gTup K 2 (gCons (gName 2) (gCons (gName 3) gNil))) (by rfl) scPlus.nd (RZ.pi_zipA (by rfl) mz (pa_cons (pv 0) (pa_cons (pv 1) pa_nil)))
      (blkOk_by (own := [("_law_a", 2), ("_law_b", 3)]) (N := ["_law_one", "_law_other", "_law_a", "_law_b"]) (sc := defScope sPlus) (by decide +kernel))
      (fun _ _ _ _ _ => pg_tup rfl (pgs_cons (pg_name (i := 2) scPlus.nd rfl (.inl rfl)) (pgs_cons (pg_name (i := 3) scPlus.nd rfl (.inl rfl)) pgs_nil))) (fun _ _ _ _ _ => pts_nil)
      (fun _ _ _ _ _ => pe_op op_add (pv 2) (pv 3))) pa_nil))), ?_⟩
    have hle : (ns.map V.int).length = (ms.map V.int).length := by rw [List.length_map, List.length_map, hl]
    refine ⟨_, rfl, _, rfl, a, b, ns.map V.int, ms.map V.int, rfl, .inr ⟨hA, hB, fun D nD => ?_⟩⟩
    refine lc_it (walk_zipT hle) (fun i H2 => Same H H2 ∧ H2 D = some (.lst (((List.zipWith (· + ·) ns ms).take i).map V.int))) ⟨same_new nD, upd_same⟩ (fun i H2 _ ⟨sm, _⟩ => ⟨Same.sqT sm hA, Same.sqT sm hB⟩) ?_ ?_
    · rintro i x H2 H3 hi ⟨sm, hD⟩ ⟨T, x1, x2, rfl, nT, rfl, f1, f2⟩
      obtain ⟨u, hu, rfl⟩ := map_get f1
      obtain ⟨v, hv, rfl⟩ := map_get f2
      have nDT : D ≠ T := ne_of_none hD nT
      have gz : (List.zipWith (· + ·) ns ms)[i]? = some (u + v) := by
        rw [List.getElem?_zipWith, hu, hv]
      refine ⟨T, _, rfl, SqT.of upd_same, rfl, _, _, rfl, _, _, rfl, rfl, rfl, ?_⟩
      refine ⟨_, rfl, _, rfl, _, _, rfl, rfl, _, (by rw [upd_ne nDT]; exact hD), ?_, ?_, ?_⟩
      · rw [List.length_map]
        refine Nat.lt_of_le_of_lt (List.length_take_le _ _) (small1000 ?_)
        rw [List.length_map] at hi
        omega
      · intro c o e
        have e2 := sm c o e
        rw [upd_ne (ne_of_none e nD), upd_ne (ne_of_none e2 nT)]
        exact e2
      · rw [upd_same, take_more gz, List.map_append]
        rfl
    · rintro H2 ⟨sm, hD⟩
      have e : (List.zipWith (· + ·) ns ms).take (ns.map V.int).length = List.zipWith (· + ·) ns ms := List.take_of_length_le (by
        rw [List.length_zipWith, List.length_map]
        omega)
      rw [e] at hD
      refine ⟨D, _, rfl, .inl ⟨SqL.of hD, fun p np => ?_⟩⟩
      exact q _ p (sm.trans (same_new np)) (sm.free np) upd_same
theorem ok_divisors {f fP fM : Addr} {fd fdP fdM : FuncData} {k : Nat} (F : Fun K "_law_divisors" "_law_divisors" sDivisors f fd) (mt : mg "tuple" = none) (mr : mg "range" = none) (mm : mg "min" = none)
    (GP : FnOk P w K mg base CX0 (k + 1) fP fdP ["_law_bag_here", "_law_amount"] spPull) (kp : PySem.W.keepIn K (.ref fP) = true) (bP : Binds K fdP ["_law_bag_here", "_law_amount"] []) (gP : mg "_law_pull" = some (.ref fP))
    (GM : FnOk P w K mg base CX0 (k + 2) fM fdM ["_law_bag_here", "_law_things"] (spMixed K)) (kM : PySem.W.keepIn K (.ref fM) = true) (bM : Binds K fdM ["_law_bag_here", "_law_things"] []) (gM : mg "_law_mixed" = some (.ref fM)) :
    FnOk P w K mg base CX0 (k + 3) f fd ["_law_bag_here", "_law_directions"] spDivisors := by
  refine F.ok scDivisors (fun vs H Q E h => ?_) (fun cdv A outer s H vs Q E hr h => ?_)
  · obtain ⟨b, l, d, rfl, _⟩ := h
    rfl
  · obtain ⟨b, l, d, rfl, B, d0, d1, q⟩ := h
    have hr1 : Room (k + 1) _ := hr.mono (by omega)
    refine ⟨_, pss_cons (ps_par (i := 2) (j := 3) (by rfl) scDivisors.nd rfl rfl (by decide) rfl rfl (pa_cons (pe_lst pa_nil) (pa_cons pe_int pa_nil)) (by rfl))
      (pss_cons (ps_for PassesOwn.never rfl (pi_range1 (by rfl) mr (pa_cons (pv 1) pa_nil)) (pg_name (i := 4) scDivisors.nd rfl (.inl rfl))
        (pss_cons (ps_set (i := 5) scDivisors.nd rfl (.inl rfl) (pe_op op_add pe_int (pe_call GP hr1 (by rfl) gP kp bP .nil pass0 (pa_cons (pv 0) (pa_cons (pe_callB (call_min2 rfl) (by rfl) mm (by decide +kernel) (pa_cons (pv 3) (pa_cons (pe_ix ix_list (pe_lst (pa_cons pe_int (pa_cons pe_int (pa_cons pe_int pa_nil)))) (pe_call GP hr1 (by rfl) gP kp bP .nil pass0 (pa_cons (pv 0) (pa_cons pe_int pa_nil))) (fun _ _ => rfl)) pa_nil))) pa_nil)))))
        (pss_cons (ps_expr (pe_bm PySem.F.plainAttrs_list PySem.F.slot_list_append PySem.F.type_list_append mt_append (pv 2) (pa_cons (pv 5) pa_nil)))
        (pss_one (ps_set (i := 3) scDivisors.nd rfl (.inl rfl) (pe_op op_fdiv (pv 3) (pv 5)))))))
      (pss_one (ps_ret (pe_callTy call_tuple_of (by rfl) mt (by decide +kernel) (pa_cons (pe_call GM hr (by rfl) gM kM bM .nil pass0 (pa_cons (pv 0) (pa_cons (pv 2) pa_nil))) pa_nil))))), ?_⟩
    refine ⟨Nat.zero_le _, fun o no => ?_⟩
    have nob := B.nb no
    have nol := B.nl no
    refine ⟨_, _, rfl, ?_⟩
    refine ⟨_, rfl, d, rfl, by omega, by omega, for_range (lo := 0) (n := d.toNat) (fun i σ H2 => ∃ (v4 v5 : Option V) (ns : List Int) (left : Int), σ = [some (.ref b), some (.int d), some (.ref o), some (.int left), v4, v5] ∧ ns.length = i ∧ (∀ z ∈ ns, 1 ≤ z) ∧ 1 ≤ left ∧ prodL ns * left ≤ 12 ∧ H2 o = some (.lst (ns.map V.int)) ∧ BagAt H2 b l ∧ But b H H2)
      ⟨none, none, [], 12, rfl, rfl, by simp, by decide, by simp [prodL], upd_same, B.new no, new_but no⟩ ?_ ?_⟩
    · rintro i σ H2 hi ⟨v4, v5, ns, left, rfl, hl, h1, l1, l2, ho, B2, bt⟩
      have pp := prodL_pos h1
      have l12 : left ≤ 12 := by
        have : 1 * left ≤ prodL ns * left := Int.mul_le_mul_of_nonneg_right pp (by omega)
        omega
      refine ⟨_, rfl, _, rfl, (by show 3 ≤ sizeLine; decide), fun c nc => ?_⟩
      have B2c := B2.new (o := .lst [.int 4, .int 4, .int 12]) nc
      refine ⟨_, rfl, b, l, 3, rfl, B2c, by decide, by decide, fun g H3 g0 g1 B3 bt3 => ?_⟩
      have hc3 : H3 c = some (.lst [.int 4, .int 4, .int 12]) := bt3 c _ (B2.nb nc) upd_same
      obtain ⟨t, ht, t1, t12⟩ : ∃ t : Int, atI ([.int 4, .int 4, .int 12] : List V) g = some (.int t) ∧ 1 ≤ t ∧ t ≤ 12 := by
        have : g = 0 ∨ g = 1 ∨ g = 2 := by omega
        rcases this with rfl | rfl | rfl
        · exact ⟨4, atI_nat (j := 0) rfl, by decide, by decide⟩
        · exact ⟨4, atI_nat (j := 1) rfl, by decide, by decide⟩
        · exact ⟨12, atI_nat (j := 2) rfl, by decide, by decide⟩
      have ho3 : H3 o = some (.lst (ns.map V.int)) := bt3 o _ nob (by rw [upd_ne (ne_of_none ho nc)]; exact ho)
      have mn1 : 1 ≤ (if t < left then t else left) := by split <;> omega
      have mn2 : (if t < left then t else left) ≤ left := by split <;> omega
      refine ⟨c, _, _, _, rfl, rfl, SqL.of hc3, ht, left, t, rfl, b, l, _, rfl, B3, by omega, ?_, fun e H4 e0 e1 B4 bt4 => ?_⟩
      · have : (if t < left then t else left).natAbs < 100 := by omega
        exact Nat.lt_trans this (by decide)
      · have ho4 := bt4 o _ nob ho3
        refine ⟨_, _, rfl, rfl, ?_⟩
        refine ⟨_, rfl, .inl ⟨rfl, _, SqL.of ho4⟩, _, rfl, o, _, _, rfl, rfl, ho4, ?_, ?_⟩
        · rw [List.length_map]
          exact small1000 (by omega)
        · refine ⟨_, rfl, _, rfl, left, 1 + e, rfl, rfl, ⟨by omega, by omega⟩, ?_⟩
          refine ⟨_, _, ns ++ [1 + e], left / (1 + e), rfl, ?_, ?_, ?_, ?_, ?_, B4.upd nob nol, ?_⟩
          · rw [List.length_append, hl]
            rfl
          · intro y hy
            rcases List.mem_append.mp hy with hy | hy
            · exact h1 y hy
            · rw [List.mem_singleton.mp hy]
              omega
          · exact (Int.le_ediv_iff_mul_le (by omega)).mpr (by omega)
          · rw [prodL_app, Int.mul_assoc]
            exact Int.le_trans (Int.mul_le_mul_of_nonneg_left (Int.mul_ediv_self_le (by omega)) (by omega)) l2
          · rw [upd_same, List.map_append]
            rfl
          · intro a u na hu
            have nao : a ≠ o := ne_of_none hu no
            have h2 := bt a u na hu
            rw [upd_ne nao]
            refine bt4 a u na (bt3 a u na ?_)
            rw [upd_ne (ne_of_none h2 nc)]
            exact h2
    · rintro σ H2 ⟨v4, v5, ns, left, rfl, hl, h1, l1, l2, ho, B2, bt⟩
      have pp := prodL_pos h1
      refine ⟨_, rfl, _, rfl, b, l, o, _, rfl, B2, nob, SqL.of ho, ?_, fun ys H3 p pm np hp B3 bt3 => ?_⟩
      · rw [List.length_map]
        omega
      · obtain ⟨ms, em⟩ : ∃ ms : List Int, ys = ms.map V.int := by
          have : ∀ y ∈ ys, ∃ z, y = V.int z := fun y hy => by
            obtain ⟨z, _, e⟩ := List.mem_map.mp (pm.mem_iff.mp hy)
            exact ⟨z, e.symm⟩
          clear pm hp
          induction ys with
          | nil => exact ⟨[], rfl⟩
          | cons y r ih =>
            obtain ⟨z, rfl⟩ := this y List.mem_cons_self
            obtain ⟨ms, rfl⟩ := ih fun x hx => this x (List.mem_cons_of_mem _ hx)
            exact ⟨z :: ms, rfl⟩
        subst em
        have pm2 : ms.Perm ns := by
          have e := pm.filterMap (fun v => match v with | V.int z => some z | _ => none)
          rw [List.filterMap_map, List.filterMap_map] at e
          have e2 : ∀ l : List Int, List.filterMap ((fun v => match v with | V.int z => some z | _ => none) ∘ V.int) l = l := fun l => by
            induction l with
            | nil => rfl
            | cons x r ih => rw [List.filterMap_cons]; simp [ih]
          rw [e2, e2] at e
          exact e
        refine ⟨p, _, rfl, .inl ⟨SqL.of hp, fun t nt => ?_⟩⟩
        refine q ms _ t ?_ ⟨fun z hz => h1 z (pm2.mem_iff.mp hz), ?_⟩ ((bt.trans bt3).free B B3 nt) upd_same (B3.new nt) ((bt.trans bt3).trans (new_but nt))
        · rw [pm2.length_eq, hl]
          omega
        · rw [prodL_perm pm2]
          have : prodL ns * 1 ≤ prodL ns * left := Int.mul_le_mul_of_nonneg_left l1 (by omega)
          omega
end
end Lk

namespace Lk
open PySem L2
/-! ### the least of a tuple of ints -/
def rMinT (K : PySem.W.Frag) : List V → Hp → VK → Prop := fun vs H Q => ∃ (a : Addr) (ns : List Int), vs = [V.ref a] ∧ SqT K H a (ns.map V.int) ∧ 0 < ns.length ∧ ∀ m, m ∈ ns → Q (.int m) H
theorem cr_minT {X : Cx} (hc : X.calm = true) (hu : X.A.units + 1 < cLine) : CallR X (.builtin "min") (rMinT X.K) := by
  intro pins s σ H vs us Q I r h
  obtain ⟨a, ns, rfl, hs, hne, q⟩ := h
  obtain ⟨its, rv, hl, _⟩ := I.tuple hs
  rw [Vals.ref1 r]
  cases ns with
  | nil => exact absurd hne (by decide)
  | cons x xs =>
    have hA := PySem.W.HoldAll.of_ints (h := s.heap) rv.ints
    refine PySem.W.min_tuple_datum (α := Int) (x := x) (xs := xs) (I.ok.hd hc) hl (by simpa using hA) hu fun i v h' tk hi hv hk => ?_
    have hi2 : its[i]? = some v := by simpa using hi
    obtain ⟨z, hz, hzv⟩ := hA.at hi2
    obtain ⟨as, rd⟩ := hzv
    cases rd with
    | int n t => exact ⟨.int z, H, I.kept hk, ⟨t, rfl⟩, q z (List.mem_of_getElem? hz)⟩
theorem tyT {K : PySem.W.Frag} {H : Hp} {a : Addr} {xs : List V} (h : SqT K H a xs) : TyX K H (.ref a) (.type "tuple") := by
  rcases h with (h | ⟨o, h⟩) | ⟨o, its, n, hk, hc, _⟩
  · exact .base (.tup h)
  · exact .fTuple h
  · exact .kTuple hk hc
/-! ### mathematics -/
def clsF (l : List (Int × Int)) (n : Int) : Int := l.foldl (fun n q => n * q.1 + q.2 % q.1) n
def cls (ds ps : List Int) : Int := clsF (ds.zip ps) 0
theorem clsF_bound : ∀ (l : List (Int × Int)) (n m : Int), (∀ q ∈ l, 1 ≤ q.1) → 0 ≤ n → n < m → 0 ≤ clsF l n ∧ clsF l n < m * prodL (l.map (·.1))
  | [], n, m, _, h0, h1 => by simp [clsF, prodL, h0, h1]
  | (d, s) :: r, n, m, h, h0, h1 => by
    have hd : 1 ≤ d := h (d, s) List.mem_cons_self
    have r0 := Int.emod_nonneg s (show d ≠ 0 by omega)
    have r1 := Int.emod_lt_of_pos s (show 0 < d by omega)
    have z0 : 0 ≤ n * d := Int.mul_nonneg h0 (by omega)
    have z1 : n * d + d ≤ m * d := by
      have : (n + 1) * d ≤ m * d := Int.mul_le_mul_of_nonneg_right (by omega) (by omega)
      rw [Int.add_mul] at this
      omega
    have ih := clsF_bound r (n * d + s % d) (m * d) (fun q hq => h q (List.mem_cons_of_mem _ hq)) (by omega) (by omega)
    show 0 ≤ clsF r (n * d + s % d) ∧ clsF r (n * d + s % d) < m * (d * prodL (r.map (·.1)))
    rw [← Int.mul_assoc]
    exact ih
theorem zip_fst : ∀ (ds ps : List Int), ds.length = ps.length → (ds.zip ps).map (·.1) = ds
  | [], [], _ => rfl
  | [], _ :: _, h => by cases h
  | _ :: _, [], h => by cases h
  | d :: ds, p :: ps, h => by
    show d :: (ds.zip ps).map (·.1) = d :: ds
    rw [zip_fst ds ps (by simpa using h)]
theorem cls_bound {ds ps : List Int} (hl : ds.length = ps.length) (h : ∀ z ∈ ds, 1 ≤ z) (i : Nat) : 0 ≤ clsF ((ds.zip ps).take i) 0 ∧ clsF ((ds.zip ps).take i) 0 < prodL (ds.take i) := by
  have e : ((ds.zip ps).take i).map (·.1) = ds.take i := by rw [List.map_take, zip_fst _ _ hl]
  have b := clsF_bound ((ds.zip ps).take i) 0 1 (fun q hq => h _ (by
    have : q.1 ∈ (ds.zip ps).map (·.1) := List.mem_map.mpr ⟨q, List.mem_of_mem_take hq, rfl⟩
    rw [zip_fst _ _ hl] at this
    exact this)) (by decide) (by decide)
  rw [e, Int.one_mul] at b
  exact b
def dotL (rs ps : List Int) : Int := (List.zipWith (· * ·) rs ps).sum
/-! ### promises -/
def spIsNum : Sp := fun vs H Q _ => ∃ i, vs = [.int i] ∧ Q (.bl true) H
def spNums (K : PySem.W.Frag) : Sp := fun vs H Q _ => ∃ (a : Addr) (ns : List Int) (c : Int), vs = [.ref a, .int c] ∧ SqT K H a (ns.map V.int) ∧ (ns.length : Int) = c ∧ ns.length ≤ 1000 ∧ ∀ H', Same H H' → Q (.bl true) H'
def spSides (K : PySem.W.Frag) : Sp := fun vs H Q _ => ∃ (a : Addr) (ns : List Int), vs = [.ref a, .int 1] ∧ SqT K H a (ns.map V.int) ∧ 1 ≤ ns.length ∧ ns.length ≤ 3 ∧ (∀ z ∈ ns, 1 ≤ z) ∧ ∀ H', Same H H' → Q (.bl true) H'
def spChkPlace (K : PySem.W.Frag) : Sp := fun vs H Q _ => ∃ (a : Addr) (ns : List Int) (c : Int), vs = [.ref a, .int c] ∧ SqT K H a (ns.map V.int) ∧ (ns.length : Int) = c ∧ ns.length ≤ 1000 ∧ ∀ H', Same H H' → Q .non H'
def spChkDiv (K : PySem.W.Frag) : Sp := fun vs H Q _ => ∃ (a : Addr) (ns : List Int), vs = [.ref a] ∧ SqT K H a (ns.map V.int) ∧ 1 ≤ ns.length ∧ ns.length ≤ 3 ∧ Divs ns ∧ ∀ H', Same H H' → Q .non H'
def spClassCount (K : PySem.W.Frag) : Sp := fun vs H Q _ => ∃ (a : Addr) (ns : List Int), vs = [.ref a] ∧ SqT K H a (ns.map V.int) ∧ 1 ≤ ns.length ∧ ns.length ≤ 3 ∧ Divs ns ∧ ∀ H', Same H H' → Q (.int (prodL ns)) H'
def spClassAt (K : PySem.W.Frag) : Sp := fun vs H Q _ => ∃ (a c : Addr) (ds ps : List Int), vs = [.ref a, .ref c] ∧ SqT K H a (ds.map V.int) ∧ SqT K H c (ps.map V.int) ∧ ds.length = ps.length ∧ Divs ds ∧ ∀ H', Same H H' → Q (.int (cls ds ps)) H'
def spDot (K : PySem.W.Frag) : Sp := fun vs H Q _ => ∃ (a c : Addr) (rs ps : List Int), vs = [.ref a, .ref c] ∧ SqT K H a (rs.map V.int) ∧ SqT K H c (ps.map V.int) ∧ rs.length = ps.length ∧ rs.length ≤ 3 ∧ (∀ z ∈ rs, -(2 ^ 64) < z ∧ z < 2 ^ 64) ∧ ∀ H', Same H H' → Q (.int (dotL rs ps)) H'
section
variable {P : Program} {w : World} {K : PySem.W.Frag} {mg : Str → Option Value} {base : Heap}
theorem ok_isnum {f : Addr} {fd : FuncData} {k : Nat} (F : Fun K "is_number" "is_number" sIsNum f fd) (mi : mg "int" = none) (mb : mg "bool" = none) (ms : mg "isinstance" = none) : FnOk P w K mg base CX0 (k + 1) f fd ["value"] spIsNum := by
  refine F.ok scIsNum (fun vs H Q E h => ?_) (fun cdv A outer s H vs Q E hr h => ?_)
  · obtain ⟨i, rfl, _⟩ := h
    rfl
  · obtain ⟨i, rfl, q⟩ := h
    refine ⟨_, pss_one (ps_ret (pe_and (pe_callB call_isi (by rfl) ms (by decide +kernel) (pa_cons (pv 0) (pa_cons (pe_bltn (v := .ty "int") (by rfl) mi (by decide +kernel) rfl) pa_nil)))
      (pe_one (pe_not (pe_callB call_isi (by rfl) ms (by decide +kernel) (pa_cons (pv 0) (pa_cons (pe_bltn (v := .ty "bool") (by rfl) mb (by decide +kernel) rfl) pa_nil))))))), ?_⟩
    refine ⟨_, rfl, _, _, _, _, true, rfl, .ty _, .base (.int i), kit_ty (by decide +kernel), true, rfl, iteT ?_⟩
    exact ⟨_, rfl, _, _, _, _, false, rfl, .ty _, .base (.int i), kit_ty (by decide +kernel), false, rfl, q⟩
theorem ok_nums {f fN : Addr} {fd fdN : FuncData} {k : Nat} (F : Fun K "are_numbers" "are_numbers" sAreNums f fd) (ms : mg "isinstance" = none) (mt : mg "tuple" = none) (ml : mg "len" = none) (ma : mg "all" = none)
    (GN : FnOk P w K mg base CX0 (k + 1) fN fdN ["value"] spIsNum) (kN : PySem.W.keepIn K (.ref fN) = true) (bN : Binds K fdN ["value"] []) (gN : mg "is_number" = some (.ref fN)) : FnOk P w K mg base CX0 (k + 2) f fd ["value", "count"] (spNums K) := by
  refine F.ok scAreNums (fun vs H Q E h => ?_) (fun cdv A outer s H vs Q E hr h => ?_)
  · obtain ⟨a, ns, c, rfl, _⟩ := h
    rfl
  · obtain ⟨a, ns, c, rfl, hS, hc, h1, q⟩ := h
    refine ⟨_, pss_cons (ps_if (PW.pt (pw_or (pt_not (pt_val (pe_callB call_isi (by rfl) ms (by decide +kernel) (pa_cons (pv 0) (pa_cons (pe_bltn (v := .ty "tuple") (by rfl) mt (by decide +kernel) rfl) pa_nil)))))
        (pw_or1 (pt_cmpR op_ne (pe_callB call_len_seq (by rfl) ml PySem.boot_len (pa_cons (pv 0) pa_nil)) (pv 1) (nomark _))))) (pss_one (ps_ret pe_bl)) pss_nil)
      (pss_one (ps_ret (pe_callB (cr_all rfl) (by rfl) ma (by decide +kernel) (pa_cons (pe_lc (own := [("item", 2)]) (g := gName 2) (by rfl) scAreNums.nd (pi_tup (pv 0))
        (blkOk_by (own := [("item", 2)]) (N := ["value", "count", "item"]) (sc := defScope sAreNums) (by decide +kernel)) (fun _ _ _ _ _ => pg_name (i := 2) scAreNums.nd rfl (Or.inl rfl)) (fun _ _ _ _ _ => pts_nil)
        (fun _ _ _ _ _ => pe_call GN hr (by rfl) gN kN bN .nil pass0 (pa_cons (pv 2) pa_nil))) pa_nil)))), ?_⟩
    refine ⟨_, rfl, _, _, _, _, true, rfl, .ty _, tyT hS, kit_ty (by decide +kernel), true, rfl, iteF ?_⟩
    refine ⟨_, rfl, a, _, rfl, .inr hS, _, rfl, rfl, _, rfl, iteNS (by rw [List.length_map, hc]) ?_⟩
    refine ⟨_, rfl, a, rfl, ⟨_, hS⟩, fun D nD => ?_⟩
    refine lc_tup (K := K) (a := a) (xs := ns.map V.int) (fun i H2 => Same H H2 ∧ H2 D = some (.lst ((List.replicate i true).map V.bl))) ⟨same_new nD, upd_same⟩ (fun i H2 _ ⟨sm, _⟩ => Same.sqT sm hS) ?_ ?_
    · rintro i x H2 hx ⟨sm, hD⟩
      obtain ⟨u, hu, rfl⟩ := map_get hx
      refine ⟨rfl, _, rfl, u, rfl, _, hD, ?_, ?_, ?_⟩
      · rw [List.length_map, List.length_replicate]
        have := (List.getElem?_eq_some_iff.mp hu).1
        exact small1000 (by omega)
      · intro b o e
        rw [upd_ne (ne_of_none e nD)]
        exact sm b o e
      · rw [upd_same, List.replicate_succ', List.map_append]
        rfl
    · rintro H2 ⟨sm, hD⟩
      refine ⟨D, _, rfl, SqL.of hD, ?_⟩
      have e : (List.replicate (ns.map V.int).length true).all id = true := by simp
      rw [e]
      exact q H2 sm
theorem ok_sides {f fN : Addr} {fd fdN : FuncData} {k : Nat} (F : Fun K "are_sides" "are_sides" sAreSides f fd) (ms : mg "isinstance" = none) (mt : mg "tuple" = none) (ml : mg "len" = none) (mm : mg "min" = none) {t3 : Tok} (mD : mg "MAX_DIRECTIONS" = some (.int 3 t3))
    (GN : FnOk P w K mg base CX0 (k + 2) fN fdN ["value", "count"] (spNums K)) (kN : PySem.W.keepIn K (.ref fN) = true) (bN : Binds K fdN ["value", "count"] []) (gN : mg "are_numbers" = some (.ref fN)) : FnOk P w K mg base CX0 (k + 3) f fd ["value", "least"] (spSides K) := by
  refine F.ok scAreSides (fun vs H Q E h => ?_) (fun cdv A outer s H vs Q E hr h => ?_)
  · obtain ⟨a, ns, rfl, _⟩ := h
    rfl
  · obtain ⟨a, ns, rfl, hS, h1, h3, hp, q⟩ := h
    refine ⟨_, pss_cons (ps_if (PW.pt (pw_or (pt_not (pt_val (pe_callB call_isi (by rfl) ms (by decide +kernel) (pa_cons (pv 0) (pa_cons (pe_bltn (v := .ty "tuple") (by rfl) mt (by decide +kernel) rfl) pa_nil)))))
        (pw_or1 (pt_not (pt_chain op_le op_le pe_int (pe_callB call_len_seq (by rfl) ml PySem.boot_len (pa_cons (pv 0) pa_nil)) (pe_glob (v := .int 3) (by rfl) mD ⟨_, rfl⟩)))))) (pss_one (ps_ret pe_bl)) pss_nil)
      (pss_one (ps_ret (pe_and (pe_call GN hr (by rfl) gN kN bN .nil pass0 (pa_cons (pv 0) (pa_cons (pe_callB call_len_seq (by rfl) ml PySem.boot_len (pa_cons (pv 0) pa_nil)) pa_nil)))
        (pe_one (pe_cmpR op_ge (pe_callB (cr_minT rfl (hu_of hr)) (by rfl) mm (by decide +kernel) (pa_cons (pv 0) pa_nil)) (pv 1) (nomark _)))))), ?_⟩
    refine ⟨_, rfl, _, _, _, _, true, rfl, .ty _, tyT hS, kit_ty (by decide +kernel), true, rfl, iteF ?_⟩
    have hl : (ns.map V.int).length = ns.length := List.length_map ..
    refine ⟨_, rfl, a, _, rfl, .inr hS, _, _, rfl, rfl, true, ?_, iteT ?_⟩
    · exact congrArg V.bl (decide_eq_true (by rw [hl]; omega))
    · refine ⟨_, _, rfl, rfl, true, congrArg V.bl (decide_eq_true (by rw [hl]; omega)), iteF ?_⟩
      refine ⟨_, rfl, _, rfl, a, _, rfl, .inr hS, a, ns, _, rfl, hS, (by rw [hl]), by omega, fun H1 sm => ⟨true, rfl, iteT ?_⟩⟩
      refine ⟨_, rfl, a, ns, rfl, Same.sqT sm hS, by omega, fun m hm => ⟨_, rfl, _, _, rfl, rfl, ?_⟩⟩
      have e : decide ((1 : Int) ≤ m) = true := decide_eq_true (hp m hm)
      show Q (V.bl (decide ((1 : Int) ≤ m))) H1
      rw [e]
      exact q H1 sm
theorem ok_chkplace {f fN : Addr} {fd fdN : FuncData} {k : Nat} (F : Fun K "check_place" "check_place" sChkPlace f fd)
    (GN : FnOk P w K mg base CX0 (k + 2) fN fdN ["value", "count"] (spNums K)) (kN : PySem.W.keepIn K (.ref fN) = true) (bN : Binds K fdN ["value", "count"] []) (gN : mg "are_numbers" = some (.ref fN)) : FnOk P w K mg base CX0 (k + 3) f fd ["place", "directions"] (spChkPlace K) := by
  refine F.ok scChkPlace (fun vs H Q E h => ?_) (fun cdv A outer s H vs Q E hr h => ?_)
  · obtain ⟨a, ns, c, rfl, _⟩ := h
    rfl
  · obtain ⟨a, ns, c, rfl, hS, h1, h3, q⟩ := h
    refine ⟨_, pss_one (ps_if (pt_not (pt_val (pe_call GN hr (by rfl) gN kN bN .nil pass0 (pa_cons (pv 0) (pa_cons (pv 1) pa_nil))))) pss_never pss_nil), ?_⟩
    exact ⟨_, rfl, _, rfl, a, ns, c, rfl, hS, h1, h3, fun H1 sm => ⟨true, rfl, iteF (q H1 sm)⟩⟩
theorem ok_chkdiv {f fN fM : Addr} {fd fdN fdM : FuncData} {k : Nat} (F : Fun K "check_divisors" "check_divisors" sChkDiv f fd) {t3 : Tok} (mC : mg "MAX_CLASSES" = some (.int 12 t3))
    (GN : FnOk P w K mg base CX0 (k + 3) fN fdN ["value", "least"] (spSides K)) (kN : PySem.W.keepIn K (.ref fN) = true) (bN : Binds K fdN ["value", "least"] []) (gN : mg "are_sides" = some (.ref fN))
    (GM : FnOk P w K mg base CX0 (k + 1) fM fdM ["numbers"] (spCount K)) (kM : PySem.W.keepIn K (.ref fM) = true) (bM : Binds K fdM ["numbers"] []) (gM : mg "product" = some (.ref fM)) : FnOk P w K mg base CX0 (k + 4) f fd ["divisors"] (spChkDiv K) := by
  refine F.ok scChkDiv (fun vs H Q E h => ?_) (fun cdv A outer s H vs Q E hr h => ?_)
  · obtain ⟨a, ns, rfl, _⟩ := h
    rfl
  · obtain ⟨a, ns, rfl, hS, h1, h3, D, q⟩ := h
    have hr1 : Room (k + 1) _ := hr.mono (by omega)
    refine ⟨_, pss_cons (ps_if (pt_not (pt_val (pe_call GN hr (by rfl) gN kN bN .nil pass0 (pa_cons (pv 0) (pa_cons pe_int pa_nil))))) pss_never pss_nil)
      (pss_one (ps_if (pt_cmpR op_gt (pe_call GM hr1 (by rfl) gM kM bM .nil pass0 (pa_cons (pv 0) pa_nil)) (pe_glob (v := .int 12) (by rfl) mC ⟨_, rfl⟩) (nomark _)) pss_never pss_nil)), ?_⟩
    refine ⟨_, rfl, a, ns, rfl, hS, h1, h3, D.one, fun H1 sm => ⟨true, rfl, iteF ?_⟩⟩
    refine ⟨_, rfl, a, ns, rfl, Same.sqT sm hS, D, _, _, rfl, rfl, false, ?_, iteF (q H1 sm)⟩
    exact congrArg V.bl (decide_eq_false (by have := D.most; omega))
theorem ok_classcount {f fN fM : Addr} {fd fdN fdM : FuncData} {k : Nat} (F : Fun K "class_count" "class_count" sClassCount f fd)
    (GN : FnOk P w K mg base CX0 (k + 4) fN fdN ["divisors"] (spChkDiv K)) (kN : PySem.W.keepIn K (.ref fN) = true) (bN : Binds K fdN ["divisors"] []) (gN : mg "check_divisors" = some (.ref fN))
    (GM : FnOk P w K mg base CX0 (k + 1) fM fdM ["numbers"] (spCount K)) (kM : PySem.W.keepIn K (.ref fM) = true) (bM : Binds K fdM ["numbers"] []) (gM : mg "product" = some (.ref fM)) : FnOk P w K mg base CX0 (k + 5) f fd ["divisors"] (spClassCount K) := by
  refine F.ok scClassCount (fun vs H Q E h => ?_) (fun cdv A outer s H vs Q E hr h => ?_)
  · obtain ⟨a, ns, rfl, _⟩ := h
    rfl
  · obtain ⟨a, ns, rfl, hS, h1, h3, D, q⟩ := h
    have hr1 : Room (k + 1) _ := hr.mono (by omega)
    refine ⟨_, pss_cons (ps_expr (pe_call GN hr (by rfl) gN kN bN .nil pass0 (pa_cons (pv 0) pa_nil))) (pss_one (ps_ret (pe_call GM hr1 (by rfl) gM kM bM .nil pass0 (pa_cons (pv 0) pa_nil)))), ?_⟩
    exact ⟨_, rfl, a, ns, rfl, hS, h1, h3, D, fun H1 sm => ⟨_, rfl, a, ns, rfl, Same.sqT sm hS, D, q H1 sm⟩⟩
theorem ok_classat {f : Addr} {fd : FuncData} {k : Nat} (F : Fun K "class_at" "class_at" sClassAt f fd) (mz : mg "zip" = none) : FnOk P w K mg base CX0 (k + 1) f fd ["divisors", "place"] (spClassAt K) := by
  refine F.ok scClassAt (fun vs H Q E h => ?_) (fun cdv A outer s H vs Q E hr h => ?_)
  · obtain ⟨a, c, ds, ps, rfl, _⟩ := h
    rfl
  · obtain ⟨a, c, ds, ps, rfl, hA, hB, hl, D, q⟩ := h
    refine ⟨_, pss_cons (ps_set (i := 2) scClassAt.nd rfl (.inl rfl) pe_int)
      (pss_cons (ps_for PassesOwn.never rfl (RZ.pi_zipA (by rfl) mz (pa_cons (pv 0) (pa_cons (pv 1) pa_nil))) (pg_tup rfl (pgs_cons (pg_name (i := 3) scClassAt.nd rfl (.inl rfl)) (pgs_cons (pg_name (i := 4) scClassAt.nd rfl (.inl rfl)) pgs_nil)))
        (pss_one (ps_set (i := 2) scClassAt.nd rfl (.inl rfl) (pe_op op_add (pe_op op_mul (pv 2) (pv 3)) (pe_op op_mod (pv 4) (pv 3))))))
      (pss_one (ps_ret (pv 2)))), ?_⟩
    have hle : (ds.map V.int).length = (ps.map V.int).length := by rw [List.length_map, List.length_map, hl]
    refine ⟨_, rfl, _, rfl, a, c, _, _, rfl, .inr ⟨hA, hB, ?_⟩⟩
    refine for_it (walk_zipT hle) (fun i σ H2 => ∃ v3 v4 : Option V, σ = [some (.ref a), some (.ref c), some (.int (clsF ((ds.zip ps).take i) 0)), v3, v4] ∧ Same H H2) ⟨none, none, rfl, Same.refl _⟩ (fun i σ H2 _ ⟨_, _, _, sm⟩ => ⟨Same.sqT sm hA, Same.sqT sm hB⟩) ?_ ?_
    · rintro i x σ H2 H3 hi ⟨v3, v4, rfl, sm⟩ ⟨T, x1, x2, rfl, nT, rfl, f1, f2⟩
      obtain ⟨u, hu, rfl⟩ := map_get f1
      obtain ⟨v, hv, rfl⟩ := map_get f2
      have bd := cls_bound hl D.one i
      have pt := D.part i
      have hu1 := D.one u (List.mem_of_getElem? hu)
      have gz : (ds.zip ps)[i]? = some (u, v) := by
        rw [List.getElem?_zip_eq_some]
        exact ⟨hu, hv⟩
      refine ⟨T, _, rfl, SqT.of upd_same, rfl, _, _, rfl, _, _, rfl, rfl, ?_⟩
      refine ⟨_, rfl, _, rfl, _, _, rfl, rfl, .inl ⟨by omega, by omega⟩, _, rfl, _, rfl, _, _, rfl, rfl, (by show (0 : Int) < u; omega), _, _, rfl, rfl, ?_⟩
      refine ⟨some (.int u), some (.int v), ?_, sm.trans (same_new nT)⟩
      rw [take_more gz]
      unfold clsF
      rw [List.foldl_append]
      rfl
    · rintro σ H2 ⟨v3, v4, rfl, sm⟩
      refine ⟨_, rfl, ?_⟩
      rw [List.take_of_length_le (by rw [List.length_zip, List.length_map]; omega)]
      exact q H2 sm
theorem ok_dot {f : Addr} {fd : FuncData} {k : Nat} (F : Fun K "dot" "dot" sDot f fd) (ms : mg "sum" = none) (mz : mg "zip" = none) : FnOk P w K mg base CX0 (k + 1) f fd ["row", "place"] (spDot K) := by
  refine F.ok scDot (fun vs H Q E h => ?_) (fun cdv A outer s H vs Q E hr h => ?_)
  · obtain ⟨a, c, ds, ps, rfl, _⟩ := h
    rfl
  · obtain ⟨a, c, ns, ms', rfl, hA, hB, hl, h3, hz, q⟩ := h
    refine ⟨_, pss_one (ps_ret (pe_callB (cr_sum rfl) (by rfl) ms (by decide +kernel) (pa_cons (pe_lc (own := [("one", 2), ("other", 3)]) (g := gTup K 2 (gCons (gName 2) (gCons (gName 3) gNil))) (by rfl) scDot.nd (RZ.pi_zipA (by rfl) mz (pa_cons (pv 0) (pa_cons (pv 1) pa_nil)))
      (blkOk_by (own := [("one", 2), ("other", 3)]) (N := ["row", "place", "one", "other"]) (sc := defScope sDot) (by decide +kernel))
      (fun _ _ _ _ _ => pg_tup rfl (pgs_cons (pg_name (i := 2) scDot.nd rfl (.inl rfl)) (pgs_cons (pg_name (i := 3) scDot.nd rfl (.inl rfl)) pgs_nil))) (fun _ _ _ _ _ => pts_nil)
      (fun _ _ _ _ _ => pe_op op_mul (pv 2) (pv 3))) pa_nil))), ?_⟩
    have hle : (ns.map V.int).length = (ms'.map V.int).length := by rw [List.length_map, List.length_map, hl]
    refine ⟨_, rfl, _, rfl, a, c, ns.map V.int, ms'.map V.int, rfl, .inr ⟨hA, hB, fun D nD => ?_⟩⟩
    refine lc_it (walk_zipT hle) (fun i H2 => Same H H2 ∧ H2 D = some (.lst (((List.zipWith (· * ·) ns ms').take i).map V.int))) ⟨same_new nD, upd_same⟩ (fun i H2 _ ⟨sm, _⟩ => ⟨Same.sqT sm hA, Same.sqT sm hB⟩) ?_ ?_
    · rintro i x H2 H3 hi ⟨sm, hD⟩ ⟨T, x1, x2, rfl, nT, rfl, f1, f2⟩
      obtain ⟨u, hu, rfl⟩ := map_get f1
      obtain ⟨v, hv, rfl⟩ := map_get f2
      have nDT : D ≠ T := ne_of_none hD nT
      have gz : (List.zipWith (· * ·) ns ms')[i]? = some (u * v) := by
        rw [List.getElem?_zipWith, hu, hv]
      refine ⟨T, _, rfl, SqT.of upd_same, rfl, _, _, rfl, _, _, rfl, rfl, rfl, ?_⟩
      refine ⟨_, rfl, _, rfl, _, _, rfl, rfl, .inl (hz u (List.mem_of_getElem? hu)), _, (by rw [upd_ne nDT]; exact hD), ?_, ?_, ?_⟩
      · rw [List.length_map]
        refine Nat.lt_of_le_of_lt (List.length_take_le _ _) (small1000 ?_)
        rw [List.length_map] at hi
        omega
      · intro c o e
        have e2 := sm c o e
        rw [upd_ne (ne_of_none e nD), upd_ne (ne_of_none e2 nT)]
        exact e2
      · rw [upd_same, take_more gz, List.map_append]
        rfl
    · rintro H2 ⟨sm, hD⟩
      have e : (List.zipWith (· * ·) ns ms').take (ns.map V.int).length = List.zipWith (· * ·) ns ms' := List.take_of_length_le (by
        rw [List.length_zipWith, List.length_map]
        omega)
      rw [e] at hD
      exact ⟨D, _, rfl, SqL.of hD, q _ sm⟩
end
end Lk

namespace PySem
open PySem.AutoSeq1
theorem lk_extend_tuple (l : Addr) (items : Array Value) (n : Nat) (b : Addr) (items2 : Array Value) (n2 : Nat) (od : Option Addr) (sl : Array (Option Value)) (hs0 : ¬(!items.isEmpty && Builtin.List.listTooLong (items.size + items2.size)) = true) (hs1 : items.size ≤ sizeLine) (hs2 : items.size + items2.size ≤ sizeLine + 1) :
    Meets (Builtin.«list.extend» ⟨[.ref l, .ref b], []⟩) (fun _ R s => s.heap.get? l = some { cls := .type "list", dict := none, data := .seq items n, slots := #[] } ∧ s.heap.get? b = some { cls := .type "tuple", dict := od, data := .seq items2 n2, slots := sl } ∧
      R (.ok (.ret Value.none)) { s with heap := s.heap.update l (Obj.mapSeq fun x => x ++ items2), toks := s.toks }) :=
  .of_wp fun prog w A R s h => by
    obtain ⟨hp, g, d, tk, os⟩ := s
    obtain ⟨hl, hb, h⟩ := h
    have f1 := idx_int
    have f2 := sub_tuple_tuple
    have f3 := sub_list_list
    have f4 := sub_tuple_list
    have f5 := sub_list_tuple
    have hz' : (items ++ items2).size ≤ sizeLine + 1 := by
      rw [Array.size_append]
      exact hs2
    wp_walk using (wpAny_updateSeq hl rfl (hz := hs1) (_hz' := hz')), wpAny_loadPart' hl, wpAny_loadPart' hb
    exact ⟨_, rfl, h⟩
end PySem
namespace Lk
open PySem L2
def rExtT (K : PySem.W.Frag) : V → List V → Hp → VK → Prop := fun x vs H Q => ∃ l b xs zs, x = .ref l ∧ vs = [.ref b] ∧ H l = some (.lst xs) ∧ SqT K H b zs ∧ xs.length + zs.length ≤ sizeLine ∧ Q .non (upd H l (.lst (xs ++ zs)))
theorem mt_extT {X : Cx} : MtM X "list.extend" (rExtT X.K) := by
  intro pins s σ H x vs v us Q I rx rv h
  obtain ⟨l, b, xs, zs, rfl, rfl, hH, hB, hz, q⟩ := h
  cases rx
  obtain ⟨u, rfl, ru⟩ := rv.one
  cases ru
  obtain ⟨z, its, n, r, hl, e⟩ := I.lstM hH
  obtain ⟨its2, r2, ⟨o, e2, hcl, n2, hdt⟩, z2⟩ := I.tuple hB
  obtain ⟨oc, od, dt, sl⟩ := o
  simp only at hcl hdt
  subst hcl hdt
  have q1 := r.length
  have q2 := r2.length
  have hsz : its.toArray.size + its2.toArray.size ≤ sizeLine := by
    rw [List.size_toArray, List.size_toArray]
    omega
  have hlong : ¬ (!its.toArray.isEmpty && Builtin.List.listTooLong (its.toArray.size + its2.toArray.size)) = true := by
    rw [notLongL hsz, Bool.and_false]
    exact Bool.false_ne_true
  refine call_meets F.slot_list_extend ⟨_, e, rfl⟩ F.entry_list_extend (F.args_list_extend_2 _ _) (lk_extend_tuple l its.toArray n b its2.toArray n2 od sl hlong (by rw [List.size_toArray]; omega) (by omega)) ⟨e, e2, ?_⟩
  refine ⟨.non, _, I.lset (its' := its ++ its2) hH e (by simp) (r.append r2) ?_, rfl, q⟩
  rw [List.length_append]
  omega
end Lk

namespace Lk
open PySem L2
/-! ### trees -/
mutual
inductive Tr where
  | pl
  | key (row hs : List Int) (t : Tr)
  | fork (gs : Gs)
inductive Gs where
  | nil
  | cons (cs : List Int) (t : Tr) (r : Gs)
end
mutual
def Tr.size : Tr → Nat
  | .pl => 1
  | .key _ _ t => t.size + 1
  | .fork gs => gs.size + 1
def Gs.size : Gs → Nat
  | .nil => 0
  | .cons _ t r => t.size + r.size
end
mutual
def Tr.dep : Tr → Nat
  | .pl => 1
  | .key _ _ t => t.dep + 1
  | .fork gs => gs.dep + 1
def Gs.dep : Gs → Nat
  | .nil => 0
  | .cons _ t r => max t.dep r.dep
end
def Gs.classes : Gs → List Int
  | .nil => []
  | .cons cs _ r => cs ++ r.classes
def Gs.trees : Gs → List Tr
  | .nil => []
  | .cons _ t r => t :: r.trees
def Gs.heads : Gs → List (List Int)
  | .nil => []
  | .cons cs _ r => cs :: r.heads
def rng0 (n : Nat) : List Int := (List.range n).map fun i => ((i : Nat) : Int)
mutual
def Tr.wf (d n : Nat) : Tr → Prop
  | .pl => True
  | .key row hs t => row.length = d ∧ hs.length = n ∧ (∀ z ∈ row, -(2 ^ 64) < z ∧ z < 2 ^ 64) ∧ t.wf d n
  | .fork gs => gs.classes.Perm (rng0 n) ∧ gs.wf d n
def Gs.wf (d n : Nat) : Gs → Prop
  | .nil => True
  | .cons cs t r => (cs ≠ [] ∧ cs.Pairwise (· < ·)) ∧ t.wf d n ∧ r.wf d n
end
mutual
def TrAt (K : PySem.W.Frag) (H : Hp) : Tr → V → Prop
  | .pl, v => ∃ a, v = .ref a ∧ SqT K H a [.str "places"]
  | .key row hs t, v => ∃ a ra ha tv, v = .ref a ∧ SqT K H a [.str "key", .ref ra, .ref ha, tv] ∧ SqT K H ra (row.map V.int) ∧ SqT K H ha (hs.map V.int) ∧ TrAt K H t tv
  | .fork gs, v => ∃ a ga vs, v = .ref a ∧ SqT K H a [.str "fork", .ref ga] ∧ SqT K H ga vs ∧ GsAt K H gs vs
def GsAt (K : PySem.W.Frag) (H : Hp) : Gs → List V → Prop
  | .nil, vs => vs = []
  | .cons cs t r, vs => ∃ pa ca tv vr, vs = .ref pa :: vr ∧ SqT K H pa [.ref ca, tv] ∧ SqT K H ca (cs.map V.int) ∧ TrAt K H t tv ∧ GsAt K H r vr
end
def Tups (K : PySem.W.Frag) (H H' : Hp) : Prop := ∀ a xs, SqT K H a xs → SqT K H' a xs
theorem Same.tups {K : PySem.W.Frag} {H H' : Hp} (e : Same H H') : Tups K H H' := fun _ _ h => Same.sqT e h
theorem But.tups {K : PySem.W.Frag} {b l : Addr} {H H' : Hp} (B : BagAt H b l) (e : But b H H') : Tups K H H' := fun _ _ h => e.sqT B h
mutual
theorem TrAt.mono {K : PySem.W.Frag} {H H' : Hp} (e : Tups K H H') : ∀ {t : Tr} {v : V}, TrAt K H t v → TrAt K H' t v
  | .pl, v, h => by
    simp only [TrAt] at h ⊢
    obtain ⟨a, h1, h2⟩ := h
    exact ⟨a, h1, e _ _ h2⟩
  | .key row hs t, v, h => by
    simp only [TrAt] at h ⊢
    obtain ⟨a, ra, ha, tv, h1, h2, h3, h4, h5⟩ := h
    exact ⟨a, ra, ha, tv, h1, e _ _ h2, e _ _ h3, e _ _ h4, TrAt.mono e h5⟩
  | .fork gs, v, h => by
    simp only [TrAt] at h ⊢
    obtain ⟨a, ga, vs, h1, h2, h3, h4⟩ := h
    exact ⟨a, ga, vs, h1, e _ _ h2, e _ _ h3, GsAt.mono e h4⟩
theorem GsAt.mono {K : PySem.W.Frag} {H H' : Hp} (e : Tups K H H') : ∀ {g : Gs} {vs : List V}, GsAt K H g vs → GsAt K H' g vs
  | .nil, vs, h => by
    simp only [GsAt] at h ⊢
    exact h
  | .cons cs t r, vs, h => by
    simp only [GsAt] at h ⊢
    obtain ⟨pa, ca, tv, vr, h1, h2, h3, h4, h5⟩ := h
    exact ⟨pa, ca, tv, vr, h1, e _ _ h2, e _ _ h3, TrAt.mono e h4, GsAt.mono e h5⟩
end
/-! ### as data -/
mutual
def Tr.toD : Tr → PyData
  | .pl => .tuple [.str "places"]
  | .key row hs t => .tuple [.str "key", .tuple (row.map .int), .tuple (hs.map .int), t.toD]
  | .fork gs => .tuple [.str "fork", .tuple gs.toDs]
def Gs.toDs : Gs → List PyData
  | .nil => []
  | .cons cs t r => .tuple [.tuple (cs.map .int), t.toD] :: r.toDs
end
theorem dpInts {K : PySem.W.Frag} {H : Hp} : ∀ ns : List Int, DpAll K H (ns.map V.int) (ns.map PyData.int)
  | [] => .nil
  | n :: r => .cons (.int n) (dpInts r)
mutual
theorem TrAt.dp {K : PySem.W.Frag} {H : Hp} : ∀ {t : Tr} {v : V}, TrAt K H t v → Dp K H v t.toD
  | .pl, v, h => by
    simp only [TrAt] at h
    obtain ⟨a, rfl, h2⟩ := h
    exact .tup h2 (.cons (.str _) .nil)
  | .key row hs t, v, h => by
    simp only [TrAt] at h
    obtain ⟨a, ra, ha, tv, rfl, h2, h3, h4, h5⟩ := h
    exact .tup h2 (.cons (.str _) (.cons (.tup h3 (dpInts _)) (.cons (.tup h4 (dpInts _)) (.cons (TrAt.dp h5) .nil))))
  | .fork gs, v, h => by
    simp only [TrAt] at h
    obtain ⟨a, ga, vs, rfl, h2, h3, h4⟩ := h
    exact .tup h2 (.cons (.str _) (.cons (.tup h3 (GsAt.dp h4)) .nil))
theorem GsAt.dp {K : PySem.W.Frag} {H : Hp} : ∀ {g : Gs} {vs : List V}, GsAt K H g vs → DpAll K H vs g.toDs
  | .nil, vs, h => by
    simp only [GsAt] at h
    subst h
    exact .nil
  | .cons cs t r, vs, h => by
    simp only [GsAt] at h
    obtain ⟨pa, ca, tv, vr, rfl, h2, h3, h4, h5⟩ := h
    exact .cons (.tup h2 (.cons (.tup h3 (dpInts _)) (.cons (TrAt.dp h4) .nil))) (GsAt.dp h5)
end
theorem canInts : ∀ ns : List Int, PyData.canLayAll0 (ns.map PyData.int) = true
  | [] => rfl
  | _ :: r => by simp [PyData.canLayAll0, PyData.canLay0, canInts r]
theorem depInts : ∀ ns : List Int, PyData.depthAll (ns.map PyData.int) = 0
  | [] => rfl
  | _ :: r => by simp [PyData.depthAll, PyData.depth, depInts r]
theorem okP : PyData.strOk (Str.ofString "places") = true := by decide +kernel
theorem okK : PyData.strOk (Str.ofString "key") = true := by decide +kernel
theorem okF : PyData.strOk (Str.ofString "fork") = true := by decide +kernel
mutual
theorem Tr.can : ∀ t : Tr, t.toD.canLay0 = true
  | .pl => by simp [Tr.toD, PyData.canLay0, PyData.canLayAll0, okP]
  | .key row hs t => by simp [Tr.toD, PyData.canLay0, PyData.canLayAll0, canInts, Tr.can t, okK]
  | .fork gs => by simp [Tr.toD, PyData.canLay0, PyData.canLayAll0, Gs.can gs, okF]
theorem Gs.can : ∀ g : Gs, PyData.canLayAll0 g.toDs = true
  | .nil => by simp [Gs.toDs, PyData.canLayAll0]
  | .cons cs t r => by simp [Gs.toDs, PyData.canLay0, PyData.canLayAll0, canInts, Tr.can t, Gs.can r]
end
mutual
theorem Tr.deep : ∀ t : Tr, t.toD.depth ≤ 3 * t.dep ∧ 1 ≤ t.dep
  | .pl => by simp [Tr.toD, PyData.depth, PyData.depthAll, Tr.dep]
  | .key row hs t => by
    have h := Tr.deep t
    simp only [Tr.toD, PyData.depth, PyData.depthAll, Tr.dep, depInts]
    omega
  | .fork gs => by
    have h := Gs.deep gs
    simp only [Tr.toD, PyData.depth, PyData.depthAll, Tr.dep]
    omega
theorem Gs.deep : ∀ g : Gs, PyData.depthAll g.toDs ≤ 3 * g.dep + 1
  | .nil => by simp [Gs.toDs, PyData.depthAll]
  | .cons cs t r => by
    have h := Tr.deep t
    have h2 := Gs.deep r
    simp only [Gs.toDs, PyData.depth, PyData.depthAll, Gs.dep, depInts]
    omega
end
theorem Tr.shaped {t : Tr} (h : t.dep ≤ 20) : SeqAt.shaped t.toD = true := by
  have h2 := Tr.deep t
  unfold SeqAt.shaped
  rw [Tr.can t, decide_eq_true (by omega)]
  rfl
theorem eqv_pl : ∀ t : Tr, PyData.eqv t.toD (PyData.tuple [.str "places"]) = (match t with | .pl => true | _ => false)
  | .pl => by
    simp [Tr.toD, PyData.eqv, PyData.eqvAll]
  | .key _ _ _ => by simp [Tr.toD, PyData.eqv, PyData.eqvAll]
  | .fork _ => by simp [Tr.toD, PyData.eqv, PyData.eqvAll]
theorem eqv_ints : ∀ ns : List Int, PyData.eqvAll (ns.map PyData.int) (ns.map PyData.int) = true
  | [] => by simp [PyData.eqvAll]
  | n :: r => by simp [PyData.eqvAll, PyData.eqv, eqv_ints r]
theorem ints_sorted (n : Nat) : (rng0 n).Pairwise (· ≤ ·) := by
  unfold rng0
  rw [List.pairwise_map]
  exact List.Pairwise.imp (fun h => by omega) (List.pairwise_lt_range (n := n))
theorem rg_ints (n : Nat) : rgV 0 (n : Int) = (rng0 n).map V.int := by
  unfold rgV rng0
  rw [List.map_map]
  simp
/-- zip of two tuples of any lengths, walked -/
theorem walk_zipM {K : PySem.W.Frag} {a b : Addr} {xs ys : List V} {n : Nat} (e : n = min xs.length ys.length) :
    Walk (RZ.ItzT K a b) n (fun H => SqT K H a xs ∧ SqT K H b ys) (YPair (fun j => xs[j]?) (fun j => ys[j]?)) := by
  constructor
  · intro i H hi q
    have h1 : i < xs.length := by omega
    have h2 : i < ys.length := by omega
    exact ⟨xs, ys, xs[i], ys[i], q.1, q.2, List.getElem?_eq_getElem h1, List.getElem?_eq_getElem h2⟩
  · intro H q
    exact ⟨xs, ys, q.1, q.2, by omega⟩
  · rintro i H v H' hi q ⟨T, x, z, h1, h2, h3, h4, h5⟩
    exact ⟨T, x, z, h1, h2, h3, h4 xs q.1, h5 ys q.2⟩
theorem cut_one {xs : List V} (h : xs ≠ []) : cutV xs (some 1) none = xs.drop 1 ∧ ¬ (HT.sIx xs.length 0 (some 1) = 0 ∧ HT.sIx xs.length xs.length none = xs.length) := by
  have e : HT.sIx xs.length 0 (some 1) = 1 := by
    have e1 : HT.sIx xs.length 0 (some 1) = min 1 xs.length := HT.sIx_nat xs.length 0 1
    have : 0 < xs.length := List.length_pos_iff.mpr h
    omega
  refine ⟨?_, fun z => by rw [e] at z; exact absurd z.1 (by decide)⟩
  unfold cutV
  rw [e, HT.sIx_none]
  exact List.take_of_length_le (by rw [List.length_drop]; omega)
/-! ### promises -/
def spAsc (K : PySem.W.Frag) : Sp := fun vs H Q _ => ∃ (a : Addr) (ns : List Int), vs = [.ref a] ∧ SqT K H a (ns.map V.int) ∧ ns ≠ [] ∧ ns.length ≤ 100 ∧ ns.Pairwise (· < ·) ∧ ∀ H', Same H H' → Q (.bl true) H'
def spGroups (K : PySem.W.Frag) : Sp := fun vs H Q _ => ∃ (a : Addr) (ws : List V) (gs : Gs) (d n : Nat), vs = [.ref a, .int n] ∧ SqT K H a ws ∧ GsAt K H gs ws ∧ n ≤ 12 ∧ gs.classes.Perm (rng0 n) ∧ gs.wf d n ∧ ∀ H', Same H H' → Q (.bl true) H'
section
variable {P : Program} {w : World} {K : PySem.W.Frag} {mg : Str → Option Value} {base : Heap}
theorem ok_asc {f fN : Addr} {fd fdN : FuncData} {k : Nat} (F : Fun K "is_ascending" "is_ascending" sAsc f fd) (ms : mg "isinstance" = none) (mt : mg "tuple" = none) (ml : mg "len" = none) (ma : mg "all" = none) (mz : mg "zip" = none)
    (GN : FnOk P w K mg base CX0 (k + 2) fN fdN ["value", "count"] (spNums K)) (kN : PySem.W.keepIn K (.ref fN) = true) (bN : Binds K fdN ["value", "count"] []) (gN : mg "are_numbers" = some (.ref fN)) : FnOk P w K mg base CX0 (k + 3) f fd ["value"] (spAsc K) := by
  refine F.ok scAsc (fun vs H Q E h => ?_) (fun cdv A outer s H vs Q E hr h => ?_)
  · obtain ⟨a, ns, rfl, _⟩ := h
    rfl
  · obtain ⟨a, ns, rfl, hS, h0, h100, hp, q⟩ := h
    refine ⟨_, pss_cons (ps_if (PW.pt (pw_or (pt_not (pt_val (pe_callB call_isi (by rfl) ms (by decide +kernel) (pa_cons (pv 0) (pa_cons (pe_bltn (v := .ty "tuple") (by rfl) mt (by decide +kernel) rfl) pa_nil)))))
        (pw_or1 (pt_cmpR op_eq (pe_callB call_len_seq (by rfl) ml PySem.boot_len (pa_cons (pv 0) pa_nil)) pe_int (nomark _))))) (pss_one (ps_ret pe_bl)) pss_nil)
      (pss_cons (ps_if (pt_not (pt_val (pe_call GN hr (by rfl) gN kN bN .nil pass0 (pa_cons (pv 0) (pa_cons (pe_callB call_len_seq (by rfl) ml PySem.boot_len (pa_cons (pv 0) pa_nil)) pa_nil))))) (pss_one (ps_ret pe_bl)) pss_nil)
      (pss_one (ps_ret (pe_callB (cr_all rfl) (by rfl) ma (by decide +kernel) (pa_cons (pe_lc (own := [("before", 1), ("after", 2)]) (g := gTup K 2 (gCons (gName 1) (gCons (gName 2) gNil))) (by rfl) scAsc.nd
        (RZ.pi_zipA (by rfl) mz (pa_cons (pv 0) (pa_cons (pe_slice sl_tupA (pv 0) (po_some pe_int) po_none) pa_nil)))
        (blkOk_by (own := [("before", 1), ("after", 2)]) (N := ["value", "before", "after"]) (sc := defScope sAsc) (by decide +kernel))
        (fun _ _ _ _ _ => pg_tup rfl (pgs_cons (pg_name (i := 1) scAsc.nd rfl (.inl rfl)) (pgs_cons (pg_name (i := 2) scAsc.nd rfl (.inl rfl)) pgs_nil))) (fun _ _ _ _ _ => pts_nil)
        (fun _ _ _ _ _ => pe_cmpR op_lt (pv 1) (pv 2) (nomark _))) pa_nil))))), ?_⟩
    have hl : (ns.map V.int).length = ns.length := List.length_map ..
    have hpos : 0 < ns.length := List.length_pos_iff.mpr h0
    refine ⟨_, rfl, _, _, _, _, true, rfl, .ty _, tyT hS, kit_ty (by decide +kernel), true, rfl, iteF ?_⟩
    refine ⟨_, rfl, a, _, rfl, .inr hS, rfl, false, ?_, iteF ?_⟩
    · refine congrArg V.bl (decide_eq_false fun e => ?_)
      have := V.int.inj e
      rw [hl] at this
      omega
    refine ⟨_, rfl, _, rfl, a, _, rfl, .inr hS, a, ns, _, rfl, hS, (by rw [hl]), by omega, fun H1 sm => ⟨true, rfl, iteF ?_⟩⟩
    have hne : ns.map V.int ≠ [] := fun e => h0 (List.map_eq_nil_iff.mp e)
    have cu := cut_one hne
    have hS1 : SqT K H1 a (ns.map V.int) := Same.sqT sm hS
    refine ⟨_, rfl, _, rfl, 1, rfl, a, _, rfl, hS1, fun z => absurd z cu.2, fun _ c nc => ?_⟩
    rw [cu.1]
    have sm2 := sm.trans (same_new (o := .tup ((ns.map V.int).drop 1)) nc)
    refine ⟨a, c, ns.map V.int, (ns.map V.int).drop 1, rfl, .inr ⟨Same.sqT sm2 hS, SqT.of upd_same, fun D nD => ?_⟩⟩
    have hc1 : (upd H1 c (.tup ((ns.map V.int).drop 1))) c = some (.tup ((ns.map V.int).drop 1)) := upd_same
    refine lc_it (walk_zipM (n := ns.length - 1) (by rw [List.length_drop, hl]; omega)) (fun i H2 => Same (upd H1 c (.tup ((ns.map V.int).drop 1))) H2 ∧ H2 D = some (.lst ((List.replicate i true).map V.bl))) ⟨same_new nD, upd_same⟩
      (fun i H2 _ ⟨s3, _⟩ => ⟨Same.sqT (sm2.trans s3) hS, SqT.of (s3 _ _ hc1)⟩) ?_ ?_
    · rintro i x H2 H3 hi ⟨s3, hD⟩ ⟨T, x1, x2, rfl, nT, rfl, f1, f2⟩
      obtain ⟨u, hu, rfl⟩ := map_get f1
      have f2' : (ns.map V.int)[1 + i]? = some x2 := by
        rw [← List.getElem?_drop]
        exact f2
      obtain ⟨v, hv, rfl⟩ := map_get f2'
      have nDT : D ≠ T := ne_of_none hD nT
      have uv : u < v := by
        obtain ⟨h1, e1⟩ := List.getElem?_eq_some_iff.mp hu
        obtain ⟨h2, e2⟩ := List.getElem?_eq_some_iff.mp hv
        rw [← e1, ← e2]
        exact List.pairwise_iff_getElem.mp hp i (1 + i) h1 h2 (by omega)
      refine ⟨T, _, rfl, SqT.of upd_same, rfl, _, _, rfl, _, _, rfl, rfl, rfl, ?_⟩
      refine ⟨_, rfl, _, rfl, _, _, rfl, rfl, _, (by rw [upd_ne nDT]; exact hD), ?_, ?_, ?_⟩
      · rw [List.length_map, List.length_replicate]
        exact small1000 (by omega)
      · intro c o e
        have e2 := s3 c o e
        rw [upd_ne (ne_of_none e nD), upd_ne (ne_of_none e2 nT)]
        exact e2
      · rw [upd_same, List.replicate_succ', List.map_append]
        show some (HO.lst (_ ++ [V.bl (decide (u < v))])) = _
        rw [decide_eq_true uv]
        rfl
    · rintro H2 ⟨s3, hD⟩
      refine ⟨D, _, rfl, SqL.of hD, ?_⟩
      have e : (List.replicate (ns.length - 1) true).all id = true := by simp
      rw [e]
      exact q H2 (sm2.trans s3)
end
end Lk

namespace Lk
open PySem L2
theorem Gs.heads_len : ∀ g : Gs, g.heads.length = g.trees.length
  | .nil => rfl
  | .cons _ _ r => by simp [Gs.heads, Gs.trees, Gs.heads_len r]
theorem Gs.flat : ∀ g : Gs, g.classes = g.heads.flatten
  | .nil => rfl
  | .cons _ _ r => by simp [Gs.classes, Gs.heads, Gs.flat r]
theorem Gs.wf_heads {d n : Nat} : ∀ {g : Gs}, g.wf d n → ∀ cs ∈ g.heads, cs ≠ [] ∧ cs.Pairwise (· < ·)
  | .nil, _, _, h => by cases h
  | .cons c t r, w, cs, h => by
    simp only [Gs.wf] at w
    rcases List.mem_cons.mp h with e | e
    · rw [e]
      exact w.1
    · exact Gs.wf_heads w.2.2 cs e
theorem Gs.wf_trees {d n : Nat} : ∀ {g : Gs}, g.wf d n → ∀ t ∈ g.trees, t.wf d n
  | .nil, _, _, h => by cases h
  | .cons c t r, w, t', h => by
    simp only [Gs.wf] at w
    rcases List.mem_cons.mp h with e | e
    · rw [e]
      exact w.2.1
    · exact Gs.wf_trees w.2.2 t' e
theorem GsAt.len {K : PySem.W.Frag} {H : Hp} : ∀ {g : Gs} {ws : List V}, GsAt K H g ws → ws.length = g.heads.length
  | .nil, ws, h => by
    simp only [GsAt] at h
    rw [h]
    rfl
  | .cons c t r, ws, h => by
    simp only [GsAt] at h
    obtain ⟨pa, ca, tv, vr, rfl, h2, h3, h4, h5⟩ := h
    simp [Gs.heads, GsAt.len h5]
theorem GsAt.get {K : PySem.W.Frag} {H : Hp} : ∀ {g : Gs} {ws : List V} {i : Nat} {y : V}, GsAt K H g ws → ws[i]? = some y →
    ∃ pa ca tv cs t, y = .ref pa ∧ SqT K H pa [.ref ca, tv] ∧ SqT K H ca (cs.map V.int) ∧ TrAt K H t tv ∧ g.heads[i]? = some cs ∧ g.trees[i]? = some t
  | .nil, ws, i, y, h, e => by
    simp only [GsAt] at h
    rw [h] at e
    simp at e
  | .cons c t r, ws, 0, y, h, e => by
    simp only [GsAt] at h
    obtain ⟨pa, ca, tv, vr, rfl, h2, h3, h4, h5⟩ := h
    exact ⟨pa, ca, tv, c, t, (Option.some.inj e).symm, h2, h3, h4, rfl, rfl⟩
  | .cons c t r, ws, i + 1, y, h, e => by
    simp only [GsAt] at h
    obtain ⟨pa, ca, tv, vr, rfl, h2, h3, h4, h5⟩ := h
    exact GsAt.get (g := r) (ws := vr) (i := i) h5 (by simpa using e)
def TrsAt (K : PySem.W.Frag) (H : Hp) : List Tr → List V → Prop
  | [], ws => ws = []
  | t :: r, ws => ∃ v vr, ws = v :: vr ∧ TrAt K H t v ∧ TrsAt K H r vr
theorem TrsAt.mono {K : PySem.W.Frag} {H H' : Hp} (e : Tups K H H') : ∀ {ts : List Tr} {ws : List V}, TrsAt K H ts ws → TrsAt K H' ts ws
  | [], _, h => h
  | t :: r, _, ⟨v, vr, h1, h2, h3⟩ => ⟨v, vr, h1, TrAt.mono e h2, TrsAt.mono e h3⟩
theorem TrsAt.app {K : PySem.W.Frag} {H : Hp} : ∀ {ts : List Tr} {ws : List V} {t : Tr} {v : V}, TrsAt K H ts ws → TrAt K H t v → TrsAt K H (ts ++ [t]) (ws ++ [v])
  | [], _, t, v, h, q => by
    have h : _ = [] := h
    subst h
    exact ⟨v, [], rfl, q, rfl⟩
  | t :: r, _, t', v', ⟨v, vr, h1, h2, h3⟩, q => ⟨v, vr ++ [v'], by rw [h1]; rfl, h2, TrsAt.app h3 q⟩
def Tr.kids : Tr → List Tr
  | .pl => []
  | .key _ _ t => [t]
  | .fork gs => gs.trees
def Tr.isKey : Tr → Bool
  | .key _ _ _ => true
  | _ => false
def Tr.isFork : Tr → Bool
  | .fork _ => true
  | _ => false
theorem flat_take {α : Type} : ∀ (l : List (List α)) (i : Nat), (l.take i).flatten.length ≤ l.flatten.length
  | [], i => by simp
  | x :: r, 0 => by simp
  | x :: r, i + 1 => by
    have := flat_take r i
    simp only [List.take_succ_cons, List.flatten_cons, List.length_append]
    omega
theorem rng0_len (n : Nat) : (rng0 n).length = n := by simp [rng0]
/-! ### promises -/
def spIsKey (K : PySem.W.Frag) : Sp := fun vs H Q _ => ∃ (v : V) (t : Tr) (d n : Nat), vs = [v, .int d, .int n] ∧ TrAt K H t v ∧ t.wf d n ∧ d ≤ 3 ∧ n ≤ 12 ∧ ∀ H', Same H H' → Q (.bl t.isKey) H'
def spIsFork (K : PySem.W.Frag) : Sp := fun vs H Q _ => ∃ (v : V) (t : Tr) (d n : Nat), vs = [v, .int n] ∧ TrAt K H t v ∧ t.wf d n ∧ n ≤ 12 ∧ ∀ H', Same H H' → Q (.bl t.isFork) H'
def spInner (K : PySem.W.Frag) : Sp := fun vs H Q _ => ∃ (v : V) (t : Tr) (d n : Nat), vs = [v, .int d, .int n] ∧ TrAt K H t v ∧ t.wf d n ∧ d ≤ 3 ∧ n ≤ 12 ∧ t.dep ≤ 20 ∧
  ∀ H' p ws, Same H H' → H p = none → H' p = some (.lst ws) → TrsAt K H' t.kids ws → Q (.ref p) H'
section
variable {P : Program} {w : World} {K : PySem.W.Frag} {mg : Str → Option Value} {base : Heap}
theorem ok_groups {f fA : Addr} {fd fdA : FuncData} {k : Nat} (F : Fun K "are_groups" "are_groups" sGroups f fd) (ms : mg "isinstance" = none) (mt : mg "tuple" = none) (ml : mg "len" = none) (mso : mg "sorted" = none) (mli : mg "list" = none) (mr : mg "range" = none)
    (GA : FnOk P w K mg base CX0 (k + 3) fA fdA ["value"] (spAsc K)) (kA : PySem.W.keepIn K (.ref fA) = true) (bA : Binds K fdA ["value"] []) (gA : mg "is_ascending" = some (.ref fA)) : FnOk P w K mg base CX0 (k + 4) f fd ["value", "classes"] (spGroups K) := by
  refine F.ok scGroups (fun vs H Q E h => ?_) (fun cdv A outer s H vs Q E hr h => ?_)
  · obtain ⟨a, ws, gs, d, n, rfl, _⟩ := h
    rfl
  · obtain ⟨a, ws, gs, d, n, rfl, hS, hG, hn, hp, hw, q⟩ := h
    refine ⟨_, pss_cons (ps_if (pt_not (pt_val (pe_callB call_isi (by rfl) ms (by decide +kernel) (pa_cons (pv 0) (pa_cons (pe_bltn (v := .ty "tuple") (by rfl) mt (by decide +kernel) rfl) pa_nil))))) (pss_one (ps_ret pe_bl)) pss_nil)
      (pss_cons (ps_set (i := 2) scGroups.nd rfl (.inl rfl) (pe_lst pa_nil))
      (pss_cons (ps_for PassesOwn.never rfl (pi_tup (pv 0)) (pg_name (i := 3) scGroups.nd rfl (.inl rfl))
        (pss_cons (ps_if (PW.pt (pw_or (pt_not (pt_val (pe_callB call_isi (by rfl) ms (by decide +kernel) (pa_cons (pv 3) (pa_cons (pe_bltn (v := .ty "tuple") (by rfl) mt (by decide +kernel) rfl) pa_nil)))))
            (pw_or (pt_cmpR op_ne (pe_callB call_len_seq (by rfl) ml PySem.boot_len (pa_cons (pv 3) pa_nil)) pe_int (nomark _))
            (pw_or1 (pt_not (pt_val (pe_call GA hr (by rfl) gA kA bA .nil pass0 (pa_cons (pe_ix ix_tup (pv 3) pe_int (fun _ _ => rfl)) pa_nil)))))))) (pss_one (ps_ret pe_bl)) pss_nil)
        (pss_one (ps_expr (pe_bm PySem.F.plainAttrs_list PySem.F.slot_list_extend PySem.F.type_list_extend mt_extT (pv 2) (pa_cons (pe_ix ix_tup (pv 3) pe_int (fun _ _ => rfl)) pa_nil))))))
      (pss_one (ps_ret (pe_cmpR (op_eqD hr.units) (pe_callB cr_sorted (by rfl) mso (by decide +kernel) (pa_cons (pv 2) pa_nil)) (pe_listRg rfl (by rfl) mli (prg_1 (by rfl) mr (pv 1))) (nomark _)))))), ?_⟩
    refine ⟨_, rfl, _, _, _, _, true, rfl, .ty _, tyT hS, kit_ty (by decide +kernel), true, rfl, iteF ?_⟩
    refine ⟨Nat.zero_le _, fun o no => ?_⟩
    have s0 := same_new (o := .lst []) no
    have tot : gs.heads.flatten.length = n := by rw [← Gs.flat, hp.length_eq, rng0_len]
    refine ⟨_, rfl, a, rfl, ⟨_, Same.sqT s0 hS⟩, for_tup (K := K) (a := a) (xs := ws) (fun i σ H2 => ∃ (v : Option V), σ = [some (.ref a), some (.int n), some (.ref o), v] ∧ Same H H2 ∧ H2 o = some (.lst ((gs.heads.take i).flatten.map V.int)))
      ⟨none, rfl, s0, upd_same⟩ (fun i σ H2 _ ⟨_, _, sm, _⟩ => Same.sqT sm hS) ?_ ?_⟩
    · rintro i y σ H2 hi ⟨v, rfl, sm, ho⟩
      obtain ⟨pa, ca, tv, cs, t, rfl, g1, g2, g3, g4, g5⟩ := hG.get hi
      have hw1 := Gs.wf_heads hw cs (List.mem_of_getElem? g4)
      have tk := take_more g4
      have l1 := flat_take gs.heads (i + 1)
      rw [tk, List.flatten_append, List.length_append] at l1
      have l0 : ([cs] : List (List Int)).flatten.length = cs.length := by simp
      rw [l0] at l1
      have l2 : cs.length ≤ 12 := by omega
      have g1' : SqT K H2 pa [.ref ca, tv] := Same.sqT sm g1
      have g2' : SqT K H2 ca (cs.map V.int) := Same.sqT sm g2
      refine ⟨_, rfl, _, _, _, _, true, rfl, .ty _, tyT g1', kit_ty (by decide +kernel), true, rfl, iteF ?_⟩
      refine ⟨_, rfl, pa, _, rfl, .inr g1', rfl, false, rfl, iteF ?_⟩
      refine ⟨_, rfl, pa, _, _, _, rfl, rfl, g1', atI_nat (j := 0) rfl, ca, cs, rfl, g2', hw1.1, by omega, hw1.2, fun H3 s3 => ⟨true, rfl, iteF ?_⟩⟩
      have ho3 := s3 _ _ ho
      refine ⟨_, rfl, .inl ⟨rfl, _, SqL.of ho3⟩, _, rfl, pa, _, _, _, rfl, rfl, Same.sqT s3 g1', atI_nat (j := 0) rfl, o, ca, _, _, rfl, rfl, ho3, Same.sqT s3 g2', ?_, ?_⟩
      · rw [List.length_map, List.length_map]
        refine Nat.le_of_lt (small1000 ?_)
        have := flat_take gs.heads i
        omega
      · refine ⟨_, rfl, fun b u e => ?_, ?_⟩
        · rw [upd_ne (ne_of_none e no)]
          exact s3 _ _ (sm _ _ e)
        · rw [upd_same, tk, List.flatten_append, List.map_append]
          simp
    · rintro σ H2 ⟨v, rfl, sm, ho⟩
      have e1 : gs.heads.take ws.length = gs.heads := List.take_of_length_le (by rw [hG.len]; exact Nat.le_refl _)
      rw [e1] at ho
      refine ⟨_, rfl, o, gs.heads.flatten, rfl, SqL.of ho, by omega, fun ns' p pm pw np => ?_⟩
      have e2 : ns' = rng0 n := PySem.W.ksm_same (pm.trans (by rw [← Gs.flat]; exact hp)) pw (ints_sorted n)
      subst e2
      refine ⟨_, rfl, n, rfl, RgOk.of_le (by decide) (by omega) (by decide) (by omega), fun r nr => ?_⟩
      rw [rg_ints]
      have npr : p ≠ r := ne_of_none upd_same nr
      refine ⟨.list ((rng0 n).map .int), .list ((rng0 n).map .int), .lst (SqL.of (by rw [upd_ne npr]; exact upd_same)) (dpInts _), .lst (SqL.of upd_same) (dpInts _), PySem.W.ke_shaped_ints _, PySem.W.ke_shaped_ints _, ?_⟩
      have e3 : PyData.eqv (.list ((rng0 n).map .int)) (.list ((rng0 n).map .int)) = true := by
        simp only [PyData.eqv]
        exact eqv_ints _
      rw [e3]
      exact q _ ((sm.trans (same_new np)).trans (same_new nr))
theorem ok_iskey {f fN : Addr} {fd fdN : FuncData} {k : Nat} (F : Fun K "is_key" "is_key" sIsKey f fd) (ml : mg "len" = none)
    (GN : FnOk P w K mg base CX0 (k + 2) fN fdN ["value", "count"] (spNums K)) (kN : PySem.W.keepIn K (.ref fN) = true) (bN : Binds K fdN ["value", "count"] []) (gN : mg "are_numbers" = some (.ref fN)) : FnOk P w K mg base CX0 (k + 3) f fd ["node", "directions", "classes"] (spIsKey K) := by
  refine F.ok scIsKey (fun vs H Q E h => ?_) (fun cdv A outer s H vs Q E hr h => ?_)
  · obtain ⟨v, t, d, n, rfl, _⟩ := h
    rfl
  · obtain ⟨v, t, d, n, rfl, hT, hw, hd, hn, q⟩ := h
    refine ⟨_, pss_cons (ps_if (PW.pt (pw_or (pt_cmpR op_ne (pe_callB call_len_seq (by rfl) ml PySem.boot_len (pa_cons (pv 0) pa_nil)) pe_int (nomark _))
        (pw_or1 (pt_cmpR op_ne (pe_ix ix_tup (pv 0) pe_int (fun _ _ => rfl)) pe_str (nomark _))))) (pss_one (ps_ret pe_bl)) pss_nil)
      (pss_one (ps_ret (pe_and (pe_call GN hr (by rfl) gN kN bN .nil pass0 (pa_cons (pe_ix ix_tup (pv 0) pe_int (fun _ _ => rfl)) (pa_cons (pv 1) pa_nil)))
        (pe_one (pe_call GN hr (by rfl) gN kN bN .nil pass0 (pa_cons (pe_ix ix_tup (pv 0) pe_int (fun _ _ => rfl)) (pa_cons (pv 2) pa_nil))))))), ?_⟩
    cases t with
    | pl =>
      simp only [TrAt] at hT
      obtain ⟨a, rfl, h2⟩ := hT
      exact ⟨_, rfl, a, _, rfl, .inr h2, rfl, true, rfl, iteT (q H (Same.refl _))⟩
    | fork gs =>
      simp only [TrAt] at hT
      obtain ⟨a, ga, vs, rfl, h2, _⟩ := hT
      exact ⟨_, rfl, a, _, rfl, .inr h2, rfl, true, rfl, iteT (q H (Same.refl _))⟩
    | key row hs t =>
      simp only [TrAt] at hT
      simp only [Tr.wf] at hw
      obtain ⟨a, ra, ha, tv, rfl, h2, h3, h4, h5⟩ := hT
      refine ⟨_, rfl, a, _, rfl, .inr h2, rfl, false, rfl, iteF ?_⟩
      refine ⟨_, rfl, a, _, _, _, rfl, rfl, h2, atI_nat (j := 0) rfl, rfl, false, ?_, iteF ?_⟩
      · show V.bl (!decide (V.str "key" = V.str "key")) = V.bl false
        rw [decide_eq_true rfl]
        rfl
      refine ⟨_, rfl, a, _, _, _, rfl, rfl, h2, atI_nat (j := 1) rfl, _, rfl, ra, row, _, rfl, h3, (by rw [hw.1]), by omega, fun H1 s1 => ⟨true, rfl, iteT ?_⟩⟩
      exact ⟨_, rfl, a, _, _, _, rfl, rfl, Same.sqT s1 h2, atI_nat (j := 2) rfl, _, rfl, ha, hs, _, rfl, Same.sqT s1 h4, (by rw [hw.2.1]), by omega, fun H2 s2 => q H2 (s1.trans s2)⟩
theorem ok_isfork {f fG : Addr} {fd fdG : FuncData} {k : Nat} (F : Fun K "is_fork" "is_fork" sIsFork f fd) (ml : mg "len" = none)
    (GG : FnOk P w K mg base CX0 (k + 4) fG fdG ["value", "classes"] (spGroups K)) (kG : PySem.W.keepIn K (.ref fG) = true) (bG : Binds K fdG ["value", "classes"] []) (gG : mg "are_groups" = some (.ref fG)) : FnOk P w K mg base CX0 (k + 5) f fd ["node", "classes"] (spIsFork K) := by
  refine F.ok scIsFork (fun vs H Q E h => ?_) (fun cdv A outer s H vs Q E hr h => ?_)
  · obtain ⟨v, t, d, n, rfl, _⟩ := h
    rfl
  · obtain ⟨v, t, d, n, rfl, hT, hw, hn, q⟩ := h
    refine ⟨_, pss_one (ps_ret (pe_and (pe_cmpR op_eq (pe_callB call_len_seq (by rfl) ml PySem.boot_len (pa_cons (pv 0) pa_nil)) pe_int (nomark _))
      (pe_and (pe_cmpR op_eq (pe_ix ix_tup (pv 0) pe_int (fun _ _ => rfl)) pe_str (nomark _)) (pe_one (pe_call GG hr (by rfl) gG kG bG .nil pass0 (pa_cons (pe_ix ix_tup (pv 0) pe_int (fun _ _ => rfl)) (pa_cons (pv 1) pa_nil))))))), ?_⟩
    cases t with
    | pl =>
      simp only [TrAt] at hT
      obtain ⟨a, rfl, h2⟩ := hT
      exact ⟨_, rfl, a, _, rfl, .inr h2, rfl, false, rfl, iteF (q H (Same.refl _))⟩
    | key row hs t =>
      simp only [TrAt] at hT
      obtain ⟨a, ra, ha, tv, rfl, h2, _⟩ := hT
      exact ⟨_, rfl, a, _, rfl, .inr h2, rfl, false, rfl, iteF (q H (Same.refl _))⟩
    | fork gs =>
      simp only [TrAt] at hT
      simp only [Tr.wf] at hw
      obtain ⟨a, ga, vs, rfl, h2, h3, h4⟩ := hT
      refine ⟨_, rfl, a, _, rfl, .inr h2, rfl, true, rfl, iteT ?_⟩
      refine ⟨_, rfl, a, _, _, _, rfl, rfl, h2, atI_nat (j := 0) rfl, rfl, true, ?_, iteT ?_⟩
      · show V.bl (decide (V.str "fork" = V.str "fork")) = V.bl true
        rw [decide_eq_true rfl]
      exact ⟨_, rfl, a, _, _, _, rfl, rfl, h2, atI_nat (j := 1) rfl, _, rfl, ga, vs, gs, d, n, rfl, h3, h4, hn, hw.1, hw.2, fun H2 s2 => q H2 s2⟩
theorem ok_inner {f fK fG pA : Addr} {fd fdK fdG : FuncData} {k : Nat} (F : Fun K "inner_trees" "inner_trees" sInner f fd) (ms : mg "isinstance" = none) (mt : mg "tuple" = none) (mP : mg "PLACES" = some (.ref pA)) (hP : ∀ H, SqT K H pA [V.str "places"])
    (GK : FnOk P w K mg base CX0 (k + 3) fK fdK ["node", "directions", "classes"] (spIsKey K)) (kK : PySem.W.keepIn K (.ref fK) = true) (bK : Binds K fdK ["node", "directions", "classes"] []) (gK : mg "is_key" = some (.ref fK))
    (GG : FnOk P w K mg base CX0 (k + 5) fG fdG ["node", "classes"] (spIsFork K)) (kG : PySem.W.keepIn K (.ref fG) = true) (bG : Binds K fdG ["node", "classes"] []) (gG : mg "is_fork" = some (.ref fG)) : FnOk P w K mg base CX0 (k + 6) f fd ["node", "directions", "classes"] (spInner K) := by
  refine F.ok scInner (fun vs H Q E h => ?_) (fun cdv A outer s H vs Q E hr h => ?_)
  · obtain ⟨v, t, d, n, rfl, _⟩ := h
    rfl
  · obtain ⟨v, t, d, n, rfl, hT, hw, hd, hn, hdp, q⟩ := h
    have hr3 : Room (k + 3) _ := hr.mono (by omega)
    refine ⟨_, pss_cons (ps_if (pt_not (pt_val (pe_callB call_isi (by rfl) ms (by decide +kernel) (pa_cons (pv 0) (pa_cons (pe_bltn (v := .ty "tuple") (by rfl) mt (by decide +kernel) rfl) pa_nil))))) pss_never pss_nil)
      (pss_cons (ps_if (pt_cmpR (op_eqD hr.units) (pv 0) (pe_glob (v := .ref pA) (by rfl) mP rfl) (nomark _)) (pss_one (ps_ret (pe_lst pa_nil))) pss_nil)
      (pss_cons (ps_if (pt_val (pe_call GK hr3 (by rfl) gK kK bK .nil pass0 (pa_cons (pv 0) (pa_cons (pv 1) (pa_cons (pv 2) pa_nil))))) (pss_one (ps_ret (pe_lst (pa_cons (pe_ix ix_tup (pv 0) pe_int (fun _ _ => rfl)) pa_nil)))) pss_nil)
      (pss_cons (ps_if (pt_val (pe_call GG hr (by rfl) gG kG bG .nil pass0 (pa_cons (pv 0) (pa_cons (pv 2) pa_nil)))) (pss_one (ps_ret (pe_lc (own := [("group", 3)]) (g := gName 3) (te := tOp (rIxT K) (tVar 3) (tC (.int 1))) (by rfl) scInner.nd (pi_tup (pe_ix ix_tup (pv 0) pe_int (fun _ _ => rfl)))
          (blkOk_by (own := [("group", 3)]) (N := ["node", "directions", "classes", "group"]) (sc := defScope sInner) (by decide +kernel)) (fun _ _ _ _ _ => pg_name (i := 3) scInner.nd rfl (Or.inl rfl)) (fun _ _ _ _ _ => pts_nil)
          (fun _ _ _ _ _ => pe_ix ix_tup (pv 3) pe_int (fun _ _ => rfl))))) pss_nil)
      (pss_one ps_never)))), ?_⟩
    have ty : ∃ a xs, v = .ref a ∧ SqT K H a xs := by
      cases t with
      | pl =>
        simp only [TrAt] at hT
        obtain ⟨a, h1, h2⟩ := hT
        exact ⟨a, _, h1, h2⟩
      | key row hs t =>
        simp only [TrAt] at hT
        obtain ⟨a, ra, ha, tv, h1, h2, _⟩ := hT
        exact ⟨a, _, h1, h2⟩
      | fork gs =>
        simp only [TrAt] at hT
        obtain ⟨a, ga, vs, h1, h2, _⟩ := hT
        exact ⟨a, _, h1, h2⟩
    obtain ⟨a, xs, rfl, hS⟩ := ty
    refine ⟨_, rfl, _, _, _, _, true, rfl, .ty _, tyT hS, kit_ty (by decide +kernel), true, rfl, iteF ?_⟩
    refine ⟨_, rfl, t.toD, .tuple [.str "places"], hT.dp, .tup (hP H) (.cons (.str _) .nil), Tr.shaped hdp, Tr.shaped (t := .pl) (by simp [Tr.dep]), ?_⟩
    rw [eqv_pl]
    cases t with
    | pl => exact ⟨true, rfl, iteT ⟨Nat.zero_le _, fun p np => q _ p [] (same_new np) np upd_same rfl⟩⟩
    | key row hs t =>
      refine ⟨false, rfl, iteF ?_⟩
      refine ⟨_, rfl, _, rfl, _, rfl, _, _, d, n, rfl, hT, hw, hd, hn, fun H1 s1 => ⟨true, rfl, iteT ?_⟩⟩
      simp only [TrAt] at hT
      obtain ⟨a', ra, ha, tv, h1, h2, h3, h4, h5⟩ := hT
      cases h1
      refine ⟨_, rfl, a, _, _, _, rfl, rfl, Same.sqT s1 h2, atI_nat (j := 3) rfl, (by show 1 ≤ sizeLine; decide), fun p np => ?_⟩
      exact q _ p _ (s1.trans (same_new np)) (s1.free np) upd_same ⟨tv, [], rfl, TrAt.mono (Same.tups (s1.trans (same_new np))) h5, rfl⟩
    | fork gs =>
      refine ⟨false, rfl, iteF ?_⟩
      refine ⟨_, rfl, _, rfl, _, rfl, _, _, d, n, rfl, hT, hw, hd, hn, fun H1 s1 => ⟨false, rfl, iteF ?_⟩⟩
      refine ⟨_, rfl, _, rfl, _, _, d, n, rfl, TrAt.mono (Same.tups s1) hT, hw, hn, fun H2 s2 => ⟨true, rfl, iteT ?_⟩⟩
      have s12 := s1.trans s2
      have hT2 := TrAt.mono (Same.tups s12) hT
      simp only [TrAt] at hT2
      obtain ⟨a', ga, vs, h1, h2, h3, h4⟩ := hT2
      cases h1
      refine ⟨_, rfl, a, _, _, _, rfl, rfl, h2, atI_nat (j := 1) rfl, ga, rfl, ⟨_, h3⟩, fun D nD => ?_⟩
      have hlen : vs.length = gs.trees.length := by rw [h4.len, Gs.heads_len]
      refine lc_tup (K := K) (a := ga) (xs := vs) (fun i H3 => Same H2 H3 ∧ ∃ ws, H3 D = some (.lst ws) ∧ ws.length = i ∧ TrsAt K H3 (gs.trees.take i) ws) ⟨same_new nD, [], upd_same, rfl, rfl⟩ (fun i H3 _ ⟨sm, _⟩ => Same.sqT sm h3) ?_ ?_
      · rintro i x H3 hx ⟨sm, ws, hD, hl, ht⟩
        obtain ⟨pa, ca, tv, cs, t, rfl, g1, g2, g3, g4, g5⟩ := h4.get hx
        have hi : i < vs.length := (List.getElem?_eq_some_iff.mp hx).1
        have hv12 : vs.length ≤ 1000 := by
          simp only [Tr.wf] at hw
          have e1 : ∀ l : List (List Int), (∀ c ∈ l, c ≠ []) → l.length ≤ l.flatten.length := fun l => by
            induction l with
            | nil => intro _; simp
            | cons c r ih =>
              intro hc
              have h1 := ih fun x hx => hc x (List.mem_cons_of_mem _ hx)
              have h2 : 0 < c.length := List.length_pos_iff.mpr (hc c List.mem_cons_self)
              simp only [List.flatten_cons, List.length_append, List.length_cons]
              omega
          have e2 := e1 gs.heads fun c hc => (Gs.wf_heads hw.2 c hc).1
          rw [← Gs.flat, hw.1.length_eq, rng0_len] at e2
          rw [h4.len]
          omega
        refine ⟨rfl, _, rfl, pa, _, _, _, rfl, rfl, Same.sqT sm g1, atI_nat (j := 1) rfl, ws, hD, ?_, ?_, ws ++ [tv], upd_same, ?_, ?_⟩
        · exact small1000 (by omega)
        · intro b u e
          rw [upd_ne (ne_of_none e nD)]
          exact sm b u e
        · rw [List.length_append, hl]
          rfl
        · rw [take_more g5]
          have tu : Tups K H3 (upd H3 D (.lst (ws ++ [tv]))) := fun b xs h => by
            rcases h with (h | ⟨o, h⟩) | h
            · exact .inl (.inl (by rw [upd_ne (ne_of h hD (by intro z; cases z))]; exact h))
            · exact .inl (.inr ⟨o, by rw [upd_ne (ne_of h hD (by intro z; cases z))]; exact h⟩)
            · exact .inr h
          exact TrsAt.app (TrsAt.mono tu ht) (TrAt.mono tu (TrAt.mono (Same.tups sm) g3))
      · rintro H3 ⟨sm, ws, hD, hl, ht⟩
        rw [List.take_of_length_le (by omega)] at ht
        exact q H3 D ws (s12.trans sm) (s12.free nD) hD ht
end
end Lk

namespace Lk
open PySem L2
theorem TrsAt.get {K : PySem.W.Frag} {H : Hp} : ∀ {ts : List Tr} {ws : List V} {i : Nat} {y : V}, TrsAt K H ts ws → ws[i]? = some y → ∃ t, ts[i]? = some t ∧ TrAt K H t y
  | [], _, i, y, h, e => by
    have h : _ = [] := h
    rw [h] at e
    simp at e
  | t :: r, _, 0, y, ⟨v, vr, h1, h2, h3⟩, e => by
    rw [h1] at e
    have e2 : v = y := Option.some.inj e
    exact ⟨t, rfl, e2 ▸ h2⟩
  | t :: r, _, i + 1, y, ⟨v, vr, h1, h2, h3⟩, e => by
    rw [h1] at e
    exact TrsAt.get (ts := r) (ws := vr) (i := i) h3 (by simpa using e)
theorem TrsAt.len {K : PySem.W.Frag} {H : Hp} : ∀ {ts : List Tr} {ws : List V}, TrsAt K H ts ws → ws.length = ts.length
  | [], _, h => by
    have h : _ = [] := h
    rw [h]
    rfl
  | t :: r, _, ⟨v, vr, h1, h2, h3⟩ => by
    rw [h1, List.length_cons, List.length_cons, TrsAt.len h3]
/-- the stack, its top first -/
def WR (K : PySem.W.Frag) (H : Hp) : List (Tr × Nat) → List V → Prop
  | [], ws => ws = []
  | (t, d) :: r, ws => ∃ p v wr, ws = wr ++ [.ref p] ∧ SqT K H p [v, .int d] ∧ TrAt K H t v ∧ WR K H r wr
theorem WR.mono {K : PySem.W.Frag} {H H' : Hp} (e : Tups K H H') : ∀ {l : List (Tr × Nat)} {ws : List V}, WR K H l ws → WR K H' l ws
  | [], _, h => h
  | (t, d) :: r, _, ⟨p, v, wr, h1, h2, h3, h4⟩ => ⟨p, v, wr, h1, e _ _ h2, TrAt.mono e h3, WR.mono e h4⟩
theorem WR.len {K : PySem.W.Frag} {H : Hp} : ∀ {l : List (Tr × Nat)} {ws : List V}, WR K H l ws → ws.length = l.length
  | [], _, h => by
    have h : _ = [] := h
    rw [h]
    rfl
  | (t, d) :: r, _, ⟨p, v, wr, h1, h2, h3, h4⟩ => by rw [h1, List.length_append, WR.len h4]; rfl
def sizes (l : List (Tr × Nat)) : Nat := (l.map fun q => q.1.size).sum
theorem sizes_app (a b : List (Tr × Nat)) : sizes (a ++ b) = sizes a + sizes b := by simp [sizes]
theorem Gs.sizes_trees : ∀ g : Gs, (g.trees.map Tr.size).sum = g.size
  | .nil => by simp [Gs.trees, Gs.size]
  | .cons _ t r => by simp [Gs.trees, Gs.size, Gs.sizes_trees r]
theorem Tr.size_kids : ∀ t : Tr, t.size = 1 + (t.kids.map Tr.size).sum
  | .pl => by simp [Tr.size, Tr.kids]
  | .key _ _ t => by simp [Tr.size, Tr.kids]; omega
  | .fork g => by simp [Tr.size, Tr.kids, Gs.sizes_trees g]; omega
theorem Gs.dep_trees : ∀ (g : Gs) (t : Tr), t ∈ g.trees → t.dep ≤ g.dep
  | .nil, t, h => by cases h
  | .cons c u r, t, h => by
    simp only [Gs.dep]
    rcases List.mem_cons.mp h with e | e
    · rw [e]
      omega
    · have := Gs.dep_trees r t e
      omega
theorem Tr.kid_dep {t k : Tr} (h : k ∈ t.kids) : k.dep + 1 ≤ t.dep := by
  cases t with
  | pl => cases h
  | key _ _ t =>
    simp only [Tr.kids, List.mem_singleton] at h
    subst h
    simp [Tr.dep]
  | fork g =>
    have := Gs.dep_trees g k h
    simp only [Tr.dep]
    omega
theorem Tr.kid_wf {d n : Nat} {t k : Tr} (h : k ∈ t.kids) (w : t.wf d n) : k.wf d n := by
  cases t with
  | pl => cases h
  | key _ _ t =>
    simp only [Tr.kids, List.mem_singleton] at h
    subst h
    simp only [Tr.wf] at w
    exact w.2.2.2
  | fork g =>
    simp only [Tr.wf] at w
    exact Gs.wf_trees w.2 k h
theorem Tr.size_pos (t : Tr) : 1 ≤ t.size := by
  rw [Tr.size_kids]
  omega
theorem len_sizes : ∀ l : List (Tr × Nat), l.length ≤ sizes l
  | [] => by simp [sizes]
  | q :: r => by
    have h1 := len_sizes r
    have h2 := Tr.size_pos q.1
    simp only [sizes, List.map_cons, List.sum_cons, List.length_cons] at h1 ⊢
    omega
/-- a list at o grows: tuples stay -/
theorem tups_lst {K : PySem.W.Frag} {H : Hp} {o : Addr} {xs : List V} {u : HO} (h : H o = some (.lst xs)) : Tups K H (upd H o u) := fun b ys e => by
  rcases e with (e | ⟨x, e⟩) | e
  · exact .inl (.inl (by rw [upd_ne (ne_of e h (by intro z; cases z))]; exact e))
  · exact .inl (.inr ⟨x, by rw [upd_ne (ne_of e h (by intro z; cases z))]; exact e⟩)
  · exact .inr e
theorem Same.upd_out {H H' : Hp} {o : Addr} {u : HO} (sm : Same H H') (n : H o = none) : Same H (upd H' o u) := fun b x e => by
  rw [upd_ne (ne_of_none e n)]
  exact sm b x e
def spNodes (K : PySem.W.Frag) : Sp := fun vs H Q _ => ∃ (v : V) (a : Addr) (t : Tr) (ds : List Int) (n : Nat), vs = [v, .ref a, .int 200, .int 20] ∧ TrAt K H t v ∧ SqT K H a (ds.map V.int) ∧ Divs ds ∧ ds.length ≤ 3 ∧ prodL ds = (n : Int) ∧ t.wf ds.length n ∧ t.size ≤ 200 ∧ t.dep ≤ 20 ∧
  ∀ H', Same H H' → Q (.int t.size) H'
section
variable {P : Program} {w : World} {K : PySem.W.Frag} {mg : Str → Option Value} {base : Heap}
theorem ok_nodes {f fM fI : Addr} {fd fdM fdI : FuncData} {k : Nat} (F : Fun K "count_nodes" "count_nodes" sNodes f fd) (ml : mg "len" = none)
    (GM : FnOk P w K mg base CX0 (k + 1) fM fdM ["numbers"] (spCount K)) (kM : PySem.W.keepIn K (.ref fM) = true) (bM : Binds K fdM ["numbers"] []) (gM : mg "product" = some (.ref fM))
    (GI : FnOk P w K mg base CX0 (k + 6) fI fdI ["node", "directions", "classes"] (spInner K)) (kI : PySem.W.keepIn K (.ref fI) = true) (bI : Binds K fdI ["node", "directions", "classes"] []) (gI : mg "inner_trees" = some (.ref fI)) :
    FnOk P w K mg base CX0 (k + 7) f fd ["tree", "divisors", "most_nodes", "most_depth"] (spNodes K) := by
  refine F.ok scNodes (fun vs H Q E h => ?_) (fun cdv A outer s H vs Q E hr h => ?_)
  · obtain ⟨v, a, t, ds, n, rfl, _⟩ := h
    rfl
  · obtain ⟨v, a, t, ds, n, rfl, hT, hA, hD, hd, hn, hw, hz, hdp, q⟩ := h
    have hr1 : Room (k + 1) _ := hr.mono (by omega)
    refine ⟨_, pss_cons (ps_set (i := 4) scNodes.nd rfl (.inl rfl) (pe_call GM hr1 (by rfl) gM kM bM .nil pass0 (pa_cons (pv 1) pa_nil)))
      (pss_cons (ps_set (i := 5) scNodes.nd rfl (.inl rfl) pe_int)
      (pss_cons (ps_set (i := 6) scNodes.nd rfl (.inl rfl) (pe_lst (pa_cons (pe_tup (pa_cons (pv 0) (pa_cons pe_int pa_nil))) pa_nil)))
      (pss_cons (ps_while PassesOwn.never (pt_cmpR op_gt (pe_callB call_len_seq (by rfl) ml PySem.boot_len (pa_cons (pv 6) pa_nil)) pe_int (nomark _))
        (pss_cons (ps_asg (pe_bm0 PySem.F.plainAttrs_list PySem.F.slot_list_pop PySem.F.type_list_pop mt_pop (pv 6)) (pg_tup rfl (pgs_cons (pg_name (i := 7) scNodes.nd rfl (.inl rfl)) (pgs_cons (pg_name (i := 8) scNodes.nd rfl (.inl rfl)) pgs_nil))))
        (pss_cons (ps_aug (i := 5) scNodes.nd rfl (.inl rfl) pe_int ip_add)
        (pss_cons (ps_if (PW.pt (pw_or (pt_cmpR op_gt (pv 5) (pv 2) (nomark _)) (pw_or1 (pt_cmpR op_gt (pv 8) (pv 3) (nomark _))))) pss_never pss_nil)
        (pss_one (ps_for PassesOwn.never rfl (pi_list (pe_call GI hr (by rfl) gI kI bI .nil pass0 (pa_cons (pv 7) (pa_cons (pe_callB call_len_seq (by rfl) ml PySem.boot_len (pa_cons (pv 1) pa_nil)) (pa_cons (pv 4) pa_nil))))) (pg_name (i := 9) scNodes.nd rfl (.inl rfl))
          (pss_one (ps_expr (pe_bm PySem.F.plainAttrs_list PySem.F.slot_list_append PySem.F.type_list_append mt_append (pv 6) (pa_cons (pe_tup (pa_cons (pv 9) (pa_cons (pe_op op_add (pv 8) pe_int) pa_nil))) pa_nil))))))))))
      (pss_one (ps_ret (pv 5)))))), ?_⟩
    refine ⟨_, rfl, a, ds, rfl, hA, hD, ?_⟩
    rw [hn]
    refine ⟨_, rfl, (by show 2 ≤ sizeLine; decide), fun T nT => ?_⟩
    have s1 := same_new (o := .tup [v, .int 1]) nT
    refine ⟨(by show 1 ≤ sizeLine; decide), fun o no => ?_⟩
    have s2 := s1.trans (same_new (o := .lst [.ref T]) no)
    have noH : H o = none := s1.free no
    have hn12 : n ≤ 12 := by have := hD.most; omega
    refine ⟨fun m σ H2 => ∃ (l : List (Tr × Nat)) (ws : List V) (v7 v8 v9 : Option V), σ = [some v, some (.ref a), some (.int 200), some (.int 20), some (.int n), some (.int ((t.size - sizes l : Nat) : Int)), some (.ref o), v7, v8, v9] ∧ Same H H2 ∧ H2 o = some (.lst ws) ∧ WR K H2 l ws ∧ (∀ u ∈ l, u.1.wf ds.length n ∧ u.1.dep + u.2 ≤ 21 ∧ 1 ≤ u.2) ∧ sizes l ≤ t.size ∧ m = sizes l,
      ⟨_, [(t, 1)], [.ref T], none, none, none, ?_, s2, upd_same, ?_, ?_, ?_, rfl⟩, ?_⟩
    · simp [sizes]
      rfl
    · exact ⟨T, v, [], rfl, SqT.of (by rw [upd_ne (ne_of_none upd_same no)]; exact upd_same), TrAt.mono (Same.tups s2) hT, rfl⟩
    · intro u hu
      rw [List.mem_singleton.mp hu]
      exact ⟨hw, by show t.dep + 1 ≤ 21; omega, by show 1 ≤ 1; omega⟩
    · simp [sizes]
    · rintro m σ H2 ⟨l, ws, v7, v8, v9, rfl, sm, ho, hR, hu, hsz, rfl⟩
      refine ⟨_, rfl, o, _, rfl, .inl (SqL.of ho), _, _, rfl, rfl, _, rfl, ite2 (fun e => ?_) (fun e => ?_)⟩
      · -- a turn
        have e1 : (0 : Int) < (ws.length : Int) := of_decide_eq_true e
        cases l with
        | nil =>
          have := hR.len
          simp at this
          rw [this] at e1
          exact absurd e1 (by decide)
        | cons u r =>
          obtain ⟨u, d⟩ := u
          obtain ⟨p, x, wr, rfl, hp, hx, hr2⟩ := hR
          have hu0 := hu (u, d) List.mem_cons_self
          have hu1 := Tr.deep u
          have szu := Tr.size_pos u
          have esz : sizes ((u, d) :: r) = u.size + sizes r := by simp [sizes]
          have hw1 : u.wf ds.length n := hu0.1
          have hw2 : u.dep + d ≤ 21 := hu0.2.1
          have hw3 : 1 ≤ d := hu0.2.2
          refine ⟨fun σ' H' => ∃ (l' : List (Tr × Nat)) (ws : List V) (v7 v8 v9 : Option V), σ' = [some v, some (.ref a), some (.int 200), some (.int 20), some (.int n), some (.int ((t.size - sizes l' : Nat) : Int)), some (.ref o), v7, v8, v9] ∧ Same H H' ∧ H' o = some (.lst ws) ∧ WR K H' l' ws ∧ (∀ u ∈ l', u.1.wf ds.length n ∧ u.1.dep + u.2 ≤ 21 ∧ 1 ≤ u.2) ∧ sizes l' + 1 = sizes ((u, d) :: r), fun σ' H' ⟨l', ws', y7, y8, y9, z1, z2, z3, z4, z5, z6⟩ => ⟨sizes l', by omega, l', ws', y7, y8, y9, z1, z2, z3, z4, z5, by omega, rfl⟩, ?_⟩
          -- node, depth = waiting.pop()
          have tu1 : Tups K H2 (upd H2 o (.lst wr)) := tups_lst ho
          refine ⟨_, rfl, .inl ⟨rfl, _, SqL.of ho⟩, o, _, .ref p, rfl, rfl, ho, ?_, p, [x, .int d], rfl, ?_, rfl, x, [.int d], rfl, .int d, [], rfl, rfl, ?_⟩
          · simp
          · rw [List.dropLast_concat]
            exact tu1 _ _ hp
          rw [List.dropLast_concat]
          refine ⟨_, rfl, _, _, rfl, rfl, ?_⟩
          refine ⟨_, rfl, _, rfl, _, _, rfl, rfl, false, ?_, iteF ?_⟩
          · refine congrArg V.bl (decide_eq_false ?_)
            show ¬ (200 : Int) < ((t.size - sizes ((u, d) :: r) : Nat) : Int) + 1
            omega
          refine ⟨_, rfl, _, rfl, _, _, rfl, rfl, false, ?_, iteF ?_⟩
          · refine congrArg V.bl (decide_eq_false ?_)
            omega
          have sm1 : Same H (upd H2 o (.lst wr)) := Same.upd_out sm noH
          refine ⟨_, rfl, _, rfl, a, _, rfl, .inr (Same.sqT sm1 hA), _, rfl, x, u, ds.length, n, ?_, TrAt.mono tu1 hx, hw1, hd, hn12, by omega, fun H3 c ks s3 nc hc hk => ?_⟩
          · rw [List.length_map]
            rfl
          have nco : c ≠ o := (ne_of_none upd_same nc).symm
          have ho3 := s3 _ _ (upd_same (H := H2) (a := o) (o := .lst wr))
          have klen := hk.len
          have kle : u.kids.length ≤ 200 := by
            have h1 := Tr.size_kids u
            have h2 : ∀ l : List Tr, l.length ≤ (l.map Tr.size).sum := fun l => by
              induction l with
              | nil => simp
              | cons y r ih =>
                have := Tr.size_pos y
                simp only [List.length_cons, List.map_cons, List.sum_cons]
                omega
            have := h2 u.kids
            omega
          refine ⟨c, rfl, ⟨_, SqL.of hc⟩, for_list (K := K) (a := c) (xs := ks) (fun i σ' H' => ∃ (ws' : List V) (v9 : Option V), σ' = [some v, some (.ref a), some (.int 200), some (.int 20), some (.int n), some (.int (((t.size - sizes ((u, d) :: r) : Nat) : Int) + 1)), some (.ref o), some x, some (.int d), v9] ∧ Same H H' ∧ H' c = some (.lst ks) ∧ TrsAt K H' u.kids ks ∧ H' o = some (.lst ws') ∧ WR K H' (((u.kids.take i).reverse.map fun y => (y, d + 1)) ++ r) ws')
            ⟨wr, v9, rfl, sm1.trans s3, hc, hk, ho3, by simpa using WR.mono (fun b ys e => Same.sqT s3 (tu1 b ys e)) hr2⟩ (fun i σ' H' _ ⟨_, _, _, _, z, _⟩ => SqL.of z) ?_ ?_⟩
          · rintro i y σ' H' hy ⟨ws', v9', rfl, sm', hc', hk', ho', hR'⟩
            obtain ⟨ky, hky, hyT⟩ := hk'.get hy
            refine ⟨_, rfl, .inl ⟨rfl, _, SqL.of ho'⟩, _, rfl, _, rfl, _, _, rfl, rfl, (by show 2 ≤ sizeLine; decide), fun T2 nT2 => ?_⟩
            have noT2 : o ≠ T2 := ne_of_none ho' nT2
            have ho2 : (upd H' T2 (.tup [y, .int ((d : Int) + 1)])) o = some (.lst ws') := by
              rw [upd_ne noT2]
              exact ho'
            have hi : i < ks.length := (List.getElem?_eq_some_iff.mp hy).1
            have lR := hR'.len
            refine ⟨o, _, _, rfl, rfl, ho2, ?_, ?_⟩
            · rw [lR]
              simp only [List.length_append, List.length_map, List.length_reverse, List.length_take]
              have := len_sizes r
              exact small1000 (by omega)
            · have tuA : Tups K H' (upd H' T2 (.tup [y, .int ((d : Int) + 1)])) := Same.tups (same_new nT2)
              have tuB : Tups K (upd H' T2 (.tup [y, .int ((d : Int) + 1)])) (upd (upd H' T2 (.tup [y, .int ((d : Int) + 1)])) o (.lst (ws' ++ [.ref T2]))) := tups_lst ho2
              have tuC : Tups K H' (upd (upd H' T2 (.tup [y, .int ((d : Int) + 1)])) o (.lst (ws' ++ [.ref T2]))) := fun b ys e => tuB b ys (tuA b ys e)
              refine ⟨_, _, rfl, Same.upd_out (sm'.trans (same_new nT2)) noH, ?_, TrsAt.mono tuC hk', upd_same, ?_⟩
              · rw [upd_ne nco, upd_ne (ne_of_none hc' nT2)]
                exact hc'
              · rw [take_more hky, List.reverse_append, List.map_append, List.append_assoc]
                refine ⟨T2, y, ws', rfl, tuB _ _ (SqT.of upd_same), TrAt.mono tuC hyT, WR.mono tuC hR'⟩
          · rintro σ' H' ⟨ws', v9', rfl, sm', hc', hk', ho', hR'⟩
            rw [List.take_of_length_le (by omega)] at hR'
            have es2 : sizes ((u.kids.reverse.map fun y => (y, d + 1)) ++ r) + 1 = sizes ((u, d) :: r) := by
              rw [sizes_app, esz, Tr.size_kids u]
              have : sizes (u.kids.reverse.map fun y => (y, d + 1)) = (u.kids.map Tr.size).sum := by
                unfold sizes
                rw [List.map_map, List.map_reverse]
                exact List.sum_reverse _
              omega
            refine ⟨_, ws', some x, some (.int d), v9', ?_, sm', ho', hR', ?_, es2⟩
            · rw [show t.size - sizes ((u.kids.reverse.map fun y => (y, d + 1)) ++ r) = (t.size - sizes ((u, d) :: r)) + 1 by omega]
              rfl
            · intro y hy
              rcases List.mem_append.mp hy with h1 | h1
              · obtain ⟨y', hy', rfl⟩ := List.mem_map.mp h1
                have hm : y' ∈ u.kids := List.mem_reverse.mp hy'
                have := Tr.kid_dep hm
                exact ⟨Tr.kid_wf hm hw1, by show y'.dep + (d + 1) ≤ 21; omega, by show 1 ≤ d + 1; omega⟩
              · exact hu y (List.mem_cons_of_mem _ h1)
      · -- the end
        have e1 : ¬ (0 : Int) < (ws.length : Int) := fun z => e (decide_eq_true z)
        have l0 : l = [] := by
          have := hR.len
          cases l with
          | nil => rfl
          | cons y r => rw [this, List.length_cons] at e1; omega
        subst l0
        refine ⟨_, rfl, ?_⟩
        have e2 : ((t.size - sizes [] : Nat) : Int) = (t.size : Int) := by simp [sizes]
        rw [e2]
        exact q H2 sm
end
end Lk

namespace Lk
open PySem L2
/-! ### the numbers of a place along a tree -/
mutual
def pth : Tr → Int → List Int → List Int
  | .pl, _, _ => []
  | .key row hs t, c, x => (dotL row x + hs.getD c.toNat 0) :: pth t c x
  | .fork gs, c, x => pthG gs 0 c x
def pthG : Gs → Int → Int → List Int → List Int
  | .nil, _, _, _ => []
  | .cons cs t r, i, c, x => if c ∈ cs then i :: pth t c x else pthG r (i + 1) c x
end
theorem pthG_at : ∀ {g : Gs} {j : Nat} {cs : List Int} {t : Tr} (i c : Int) (x : List Int), g.heads[j]? = some cs → g.trees[j]? = some t → c ∈ cs → (∀ m cs', m < j → g.heads[m]? = some cs' → c ∉ cs') → pthG g i c x = (i + j) :: pth t c x
  | .nil, j, cs, t, i, c, x, h, _, _, _ => by simp [Gs.heads] at h
  | .cons c0 t0 r, 0, cs, t, i, c, x, h1, h2, h3, _ => by
    have e1 : c0 = cs := Option.some.inj h1
    have e2 : t0 = t := Option.some.inj h2
    subst e1 e2
    simp only [pthG]
    rw [if_pos h3]
    simp
  | .cons c0 t0 r, j + 1, cs, t, i, c, x, h1, h2, h3, h4 => by
    have h0 : c ∉ c0 := h4 0 c0 (by omega) rfl
    simp only [pthG]
    rw [if_neg h0, pthG_at (g := r) (j := j) (i + 1) c x (by simpa [Gs.heads] using h1) (by simpa [Gs.trees] using h2) h3 (fun m cs' hm hh => h4 (m + 1) cs' (by omega) (by simpa [Gs.heads] using hh))]
    congr 1
    omega
theorem first_of {c : Int} : ∀ {l : List (List Int)}, c ∈ l.flatten → ∃ (j : Nat) (cs : List Int), l[j]? = some cs ∧ c ∈ cs ∧ ∀ m cs', m < j → l[m]? = some cs' → c ∉ cs'
  | [], h => by simp at h
  | x :: r, h => by
    by_cases hx : c ∈ x
    · exact ⟨0, x, rfl, hx, fun m cs' hm => absurd hm (by omega)⟩
    · have h2 : c ∈ r.flatten := by
        rw [List.flatten_cons] at h
        rcases List.mem_append.mp h with e | e
        · exact absurd e hx
        · exact e
      obtain ⟨j, cs, a, b, d⟩ := first_of h2
      refine ⟨j + 1, cs, by simpa using a, b, fun m cs' hm hh => ?_⟩
      cases m with
      | zero =>
        have e : x = cs' := by simpa using hh
        exact e ▸ hx
      | succ m => exact d m cs' (by omega) (by simpa using hh)
theorem inV_ints (c : Int) : ∀ cs : List Int, inV (.int c) (cs.map V.int) = decide (c ∈ cs)
  | [] => by simp [inV]
  | x :: r => by
    have ih := inV_ints c r
    unfold inV at ih ⊢
    rw [List.map_cons, List.any_cons, ih]
    show ((x == c) || decide (c ∈ r)) = decide (c ∈ x :: r)
    by_cases e : c = x
    · subst e
      simp
    · have e' : ¬ x = c := fun z => e z.symm
      by_cases e2 : c ∈ r <;> simp [e, e', e2]
theorem mem_rng0 {c : Int} {n : Nat} (h0 : 0 ≤ c) (h1 : c < n) : c ∈ rng0 n := by
  unfold rng0
  exact List.mem_map.mpr ⟨c.toNat, List.mem_range.mpr (by omega), by omega⟩
def spGix (K : PySem.W.Frag) : Sp := fun vs H Q _ => ∃ (a : Addr) (ws : List V) (gs : Gs) (c : Int) (j : Nat) (cs : List Int), vs = [.ref a, .int c] ∧ SqT K H a ws ∧ GsAt K H gs ws ∧ ws.length ≤ 1000 ∧ gs.heads[j]? = some cs ∧ c ∈ cs ∧ (∀ m cs', m < j → gs.heads[m]? = some cs' → c ∉ cs') ∧
  ∀ H', Same H H' → Q (.int j) H'
def spTPath (K : PySem.W.Frag) : Sp := fun vs H Q _ => ∃ (v : V) (a c : Addr) (t : Tr) (ds ps : List Int) (n : Nat), vs = [v, .ref a, .ref c] ∧ TrAt K H t v ∧ SqT K H a (ds.map V.int) ∧ SqT K H c (ps.map V.int) ∧ ds.length = ps.length ∧ Divs ds ∧ ds.length ≤ 3 ∧ prodL ds = (n : Int) ∧ t.wf ds.length n ∧ t.dep ≤ 20 ∧
  ∀ H' p, Same H H' → H' p = some (.tup ((pth t (cls ds ps) ps).map V.int)) → Q (.ref p) H'
section
variable {P : Program} {w : World} {K : PySem.W.Frag} {mg : Str → Option Value} {base : Heap}
theorem ok_gix {f : Addr} {fd : FuncData} {k : Nat} (F : Fun K "group_index" "group_index" sGix f fd) : FnOk P w K mg base CX0 (k + 1) f fd ["groups", "number"] (spGix K) := by
  refine F.ok scGix (fun vs H Q E h => ?_) (fun cdv A outer s H vs Q E hr h => ?_)
  · obtain ⟨a, ws, gs, c, j, cs, rfl, _⟩ := h
    rfl
  · obtain ⟨a, ws, gs, c, j, cs, rfl, hS, hG, hl, hj, hc, hf, q⟩ := h
    refine ⟨_, pss_one (ps_ret (pe_bm PySem.F.plainAttrs_list PySem.F.slot_list_index PySem.F.type_list_index mt_index (pe_lc (own := [("group", 2)]) (g := gName 2) (te := tOp (rIn K false) (tVar 1) (tOp (rIxT K) (tVar 2) (tC (.int 0)))) (by rfl) scGix.nd (pi_tup (pv 0))
      (blkOk_by (own := [("group", 2)]) (N := ["groups", "number", "group"]) (sc := defScope sGix) (by decide +kernel)) (fun _ _ _ _ _ => pg_name (i := 2) scGix.nd rfl (Or.inl rfl)) (fun _ _ _ _ _ => pts_nil)
      (fun _ _ _ _ _ => pe_cmpR op_in_seq (pv 1) (pe_ix ix_tup (pv 2) pe_int (fun _ _ => rfl)) (by rfl))) (pa_cons pe_bl pa_nil))), ?_⟩
    refine ⟨_, rfl, a, rfl, ⟨_, hS⟩, fun D nD => ?_⟩
    refine lc_tup (K := K) (a := a) (xs := ws) (fun i H2 => Same H H2 ∧ H2 D = some (.lst ((gs.heads.take i).map fun cs => V.bl (decide (c ∈ cs))))) ⟨same_new nD, upd_same⟩ (fun i H2 _ ⟨sm, _⟩ => Same.sqT sm hS) ?_ ?_
    · rintro i x H2 hx ⟨sm, hD⟩
      obtain ⟨pa, ca, tv, cs', t, rfl, g1, g2, g3, g4, g5⟩ := hG.get hx
      have hi : i < ws.length := (List.getElem?_eq_some_iff.mp hx).1
      refine ⟨rfl, _, rfl, _, rfl, pa, _, _, _, rfl, rfl, Same.sqT sm g1, atI_nat (j := 0) rfl, ca, _, rfl, .inr (Same.sqT sm g2), rfl, ?_, _, hD, ?_, ?_, ?_⟩
      · rw [List.all_eq_true]
        intro y hy
        obtain ⟨z, _, rfl⟩ := List.mem_map.mp hy
        rfl
      · rw [List.length_map]
        exact small1000 (Nat.le_trans (List.length_take_le _ _) (by omega))
      · intro b u e
        rw [upd_ne (ne_of_none e nD)]
        exact sm b u e
      · rw [upd_same, take_more g4, List.map_append]
        show some (HO.lst (_ ++ [V.bl (inV (.int c) (cs'.map V.int))])) = _
        rw [inV_ints]
        rfl
    · rintro H2 ⟨sm, hD⟩
      rw [List.take_of_length_le (by rw [hG.len]; exact Nat.le_refl _)] at hD
      refine ⟨.inl ⟨rfl, _, SqL.of hD⟩, D, _, .bl true, j, .bl true, rfl, rfl, SqL.of hD, rfl, ?_, ?_, rfl, ?_, q H2 sm⟩
      · rw [List.all_eq_true]
        intro y hy
        obtain ⟨z, _, rfl⟩ := List.mem_map.mp hy
        rfl
      · rw [List.getElem?_map, hj]
        show some (V.bl (decide (c ∈ cs))) = _
        rw [decide_eq_true hc]
      · intro m z hm hz
        rw [List.getElem?_map] at hz
        cases e : gs.heads[m]? with
        | none =>
          rw [e] at hz
          cases hz
        | some cs' =>
          rw [e] at hz
          have e2 : z = V.bl (decide (c ∈ cs')) := (Option.some.inj hz).symm
          rw [e2, decide_eq_false (hf m cs' hm e)]
          rfl
theorem ok_tpath {f fC fD fG : Addr} {fd fdC fdD fdG : FuncData} {k : Nat} (F : Fun K "tree_path" "tree_path" sPath f fd) (mt : mg "tuple" = none)
    (GC : FnOk P w K mg base CX0 (k + 1) fC fdC ["divisors", "place"] (spClassAt K)) (kC : PySem.W.keepIn K (.ref fC) = true) (bC : Binds K fdC ["divisors", "place"] []) (gC : mg "class_at" = some (.ref fC))
    (GD : FnOk P w K mg base CX0 (k + 1) fD fdD ["row", "place"] (spDot K)) (kD : PySem.W.keepIn K (.ref fD) = true) (bD : Binds K fdD ["row", "place"] []) (gD : mg "dot" = some (.ref fD))
    (GG : FnOk P w K mg base CX0 (k + 1) fG fdG ["groups", "number"] (spGix K)) (kG : PySem.W.keepIn K (.ref fG) = true) (bG : Binds K fdG ["groups", "number"] []) (gG : mg "group_index" = some (.ref fG)) :
    FnOk P w K mg base CX0 (k + 2) f fd ["tree", "divisors", "place"] (spTPath K) := by
  refine F.ok scPath (fun vs H Q E h => ?_) (fun cdv A outer s H vs Q E hr h => ?_)
  · obtain ⟨v, a, c, t, ds, ps, n, rfl, _⟩ := h
    rfl
  · obtain ⟨v, a, c, t, ds, ps, n, rfl, hT, hA, hC, hl, hD, hd, hn, hw, hdp, q⟩ := h
    refine ⟨_, pss_cons (ps_set (i := 3) scPath.nd rfl (.inl rfl) (pe_call GC hr (by rfl) gC kC bC .nil pass0 (pa_cons (pv 1) (pa_cons (pv 2) pa_nil))))
      (pss_cons (ps_set (i := 4) scPath.nd rfl (.inl rfl) (pe_lst pa_nil))
      (pss_cons (ps_while PassesOwn.never (pt_cmpR op_ne (pe_ix ix_tup (pv 0) pe_int (fun _ _ => rfl)) pe_str (nomark _))
        (pss_one (ps_if (pt_cmpR op_eq (pe_ix ix_tup (pv 0) pe_int (fun _ _ => rfl)) pe_str (nomark _))
          (pss_cons (ps_expr (pe_bm PySem.F.plainAttrs_list PySem.F.slot_list_append PySem.F.type_list_append mt_append (pv 4) (pa_cons (pe_op op_add (pe_call GD hr (by rfl) gD kD bD .nil pass0 (pa_cons (pe_ix ix_tup (pv 0) pe_int (fun _ _ => rfl)) (pa_cons (pv 2) pa_nil))) (pe_ix ix_tup (pe_ix ix_tup (pv 0) pe_int (fun _ _ => rfl)) (pv 3) (fun _ _ => rfl))) pa_nil)))
            (pss_one (ps_set (i := 0) scPath.nd rfl (.inl rfl) (pe_ix ix_tup (pv 0) pe_int (fun _ _ => rfl)))))
          (pss_cons (ps_set (i := 5) scPath.nd rfl (.inl rfl) (pe_call GG hr (by rfl) gG kG bG .nil pass0 (pa_cons (pe_ix ix_tup (pv 0) pe_int (fun _ _ => rfl)) (pa_cons (pv 3) pa_nil))))
            (pss_cons (ps_expr (pe_bm PySem.F.plainAttrs_list PySem.F.slot_list_append PySem.F.type_list_append mt_append (pv 4) (pa_cons (pv 5) pa_nil)))
            (pss_one (ps_set (i := 0) scPath.nd rfl (.inl rfl) (pe_ix ix_tup (pe_ix ix_tup (pe_ix ix_tup (pv 0) pe_int (fun _ _ => rfl)) (pv 5) (fun _ _ => rfl)) pe_int (fun _ _ => rfl)))))))))
      (pss_one (ps_ret (pe_callTy call_tuple_of (by rfl) mt (by decide +kernel) (pa_cons (pv 4) pa_nil)))))), ?_⟩
    have bd := cls_bound hl hD.one (ds.zip ps).length
    rw [List.take_length, List.take_of_length_le (by rw [List.length_zip]; omega)] at bd
    have b0 : 0 ≤ cls ds ps := bd.1
    have b1 : cls ds ps < n := by have := bd.2; rw [hn] at this; exact this
    refine ⟨_, rfl, _, rfl, a, c, ds, ps, rfl, hA, hC, hl, hD, fun H1 sm1 => ?_⟩
    refine ⟨Nat.zero_le _, fun o no => ?_⟩
    have noH : H o = none := sm1.free no
    have sm2 := sm1.trans (same_new (o := .lst []) no)
    refine ⟨fun m σ H2 => ∃ (u : Tr) (x : V) (acc : List Int) (v5 : Option V), σ = [some x, some (.ref a), some (.ref c), some (.int (cls ds ps)), some (.ref o), v5] ∧ Same H H2 ∧ H2 o = some (.lst (acc.map V.int)) ∧ TrAt K H2 u x ∧ u.wf ds.length n ∧ pth t (cls ds ps) ps = acc ++ pth u (cls ds ps) ps ∧ acc.length + u.dep ≤ 30 ∧ m = u.dep,
      ⟨_, t, v, [], none, rfl, sm2, upd_same, TrAt.mono (Same.tups sm2) hT, hw, rfl, by simp; omega, rfl⟩, ?_⟩
    rintro m σ H2 ⟨u, x, acc, v5, rfl, sm, ho, hU, hwu, ep, hlen, rfl⟩
    have udp := (Tr.deep u).2
    have alen : (acc.map V.int).length < sizeLine := by
      rw [List.length_map]
      exact small1000 (by omega)
    cases u with
    | pl =>
      simp only [TrAt] at hU
      obtain ⟨p, rfl, h2⟩ := hU
      refine ⟨_, rfl, p, _, _, _, rfl, rfl, h2, atI_nat (j := 0) rfl, rfl, false, ?_, iteF ?_⟩
      · show V.bl (!decide (V.str "places" = V.str "places")) = V.bl false
        rw [decide_eq_true rfl]
        rfl
      refine ⟨_, rfl, o, _, rfl, .inl ⟨SqL.of ho, fun r nr => ?_⟩⟩
      refine q _ r (sm.trans (same_new nr)) ?_
      rw [upd_same, ep]
      simp [pth]
    | key row hs u =>
      simp only [TrAt] at hU
      simp only [Tr.wf] at hwu
      obtain ⟨p, ra, ha, tv, rfl, h2, h3, h4, h5⟩ := hU
      refine ⟨_, rfl, p, _, _, _, rfl, rfl, h2, atI_nat (j := 0) rfl, rfl, true, ?_, iteT ?_⟩
      · show V.bl (!decide (V.str "key" = V.str "places")) = V.bl true
        rw [decide_eq_false (by decide +kernel)]
        rfl
      refine ⟨fun σ' H' => ∃ (u' : Tr) (x : V) (acc : List Int) (v5 : Option V), σ' = [some x, some (.ref a), some (.ref c), some (.int (cls ds ps)), some (.ref o), v5] ∧ Same H H' ∧ H' o = some (.lst (acc.map V.int)) ∧ TrAt K H' u' x ∧ u'.wf ds.length n ∧ pth t (cls ds ps) ps = acc ++ pth u' (cls ds ps) ps ∧ acc.length + u'.dep ≤ 30 ∧ u'.dep < (Tr.key row hs u).dep,
        fun σ' H' ⟨u', y1, y2, y3, z1, z2, z3, z4, z5, z6, z7, z8⟩ => ⟨u'.dep, z8, u', y1, y2, y3, z1, z2, z3, z4, z5, z6, z7, rfl⟩, ?_⟩
      refine ⟨_, rfl, p, _, _, _, rfl, rfl, h2, atI_nat (j := 0) rfl, rfl, true, ?_, iteT ?_⟩
      · show V.bl (decide (V.str "key" = V.str "key")) = V.bl true
        rw [decide_eq_true rfl]
      have hcn : (cls ds ps).toNat < hs.length := by omega
      have hat : atI (hs.map V.int) (cls ds ps) = some (.int (hs.getD (cls ds ps).toNat 0)) := by
        refine at_of (j := (cls ds ps).toNat) (by omega) ?_
        rw [List.getElem?_map, List.getElem?_eq_getElem hcn, List.getD_eq_getElem?_getD, List.getElem?_eq_getElem hcn]
        rfl
      refine ⟨_, rfl, .inl ⟨rfl, _, SqL.of ho⟩, _, rfl, p, _, _, _, rfl, rfl, h2, atI_nat (j := 1) rfl, _, rfl, ra, c, row, ps, rfl, h3, Same.sqT sm hC, by omega, by omega, hwu.2.2.1, fun H3 s3 => ?_⟩
      refine ⟨_, rfl, p, _, _, _, rfl, rfl, Same.sqT s3 h2, atI_nat (j := 2) rfl, _, rfl, ha, _, _, _, rfl, rfl, Same.sqT s3 h4, hat, _, _, rfl, rfl, o, _, _, rfl, rfl, s3 _ _ ho, alen, ?_⟩
      have tu : Tups K H3 (upd H3 o (.lst (acc.map V.int ++ [.int (dotL row ps + hs.getD (cls ds ps).toNat 0)]))) := tups_lst (s3 _ _ ho)
      refine ⟨_, rfl, p, _, _, _, rfl, rfl, tu _ _ (Same.sqT s3 h2), atI_nat (j := 3) rfl, ?_⟩
      refine ⟨u, tv, acc ++ [dotL row ps + hs.getD (cls ds ps).toNat 0], _, rfl, Same.upd_out (sm.trans s3) noH, ?_, TrAt.mono tu (TrAt.mono (Same.tups s3) h5), hwu.2.2.2, ?_, ?_, ?_⟩
      · rw [upd_same, List.map_append]
        rfl
      · rw [ep, List.append_assoc]
        simp only [pth]
        rfl
      · simp only [Tr.dep] at hlen
        rw [List.length_append]
        simp
        omega
      · simp [Tr.dep]
    | fork gs =>
      simp only [TrAt] at hU
      simp only [Tr.wf] at hwu
      obtain ⟨p, ga, ws, rfl, h2, h3, h4⟩ := hU
      refine ⟨_, rfl, p, _, _, _, rfl, rfl, h2, atI_nat (j := 0) rfl, rfl, true, ?_, iteT ?_⟩
      · show V.bl (!decide (V.str "fork" = V.str "places")) = V.bl true
        rw [decide_eq_false (by decide +kernel)]
        rfl
      refine ⟨fun σ' H' => ∃ (u' : Tr) (x : V) (acc : List Int) (v5 : Option V), σ' = [some x, some (.ref a), some (.ref c), some (.int (cls ds ps)), some (.ref o), v5] ∧ Same H H' ∧ H' o = some (.lst (acc.map V.int)) ∧ TrAt K H' u' x ∧ u'.wf ds.length n ∧ pth t (cls ds ps) ps = acc ++ pth u' (cls ds ps) ps ∧ acc.length + u'.dep ≤ 30 ∧ u'.dep < (Tr.fork gs).dep,
        fun σ' H' ⟨u', y1, y2, y3, z1, z2, z3, z4, z5, z6, z7, z8⟩ => ⟨u'.dep, z8, u', y1, y2, y3, z1, z2, z3, z4, z5, z6, z7, rfl⟩, ?_⟩
      refine ⟨_, rfl, p, _, _, _, rfl, rfl, h2, atI_nat (j := 0) rfl, rfl, false, ?_, iteF ?_⟩
      · show V.bl (decide (V.str "fork" = V.str "key")) = V.bl false
        rw [decide_eq_false (by decide +kernel)]
      obtain ⟨j, cs, hj, hc, hf⟩ := first_of (c := cls ds ps) (l := gs.heads) (by
        rw [← Gs.flat]
        exact hwu.1.mem_iff.mpr (mem_rng0 b0 b1))
      have hn12 : n ≤ 12 := by have := hD.most; omega
      have hlw : ws.length ≤ 1000 := by
        have e1 : ∀ l : List (List Int), (∀ c ∈ l, c ≠ []) → l.length ≤ l.flatten.length := fun l => by
          induction l with
          | nil => intro _; simp
          | cons c r ih =>
            intro hc
            have h1 := ih fun x hx => hc x (List.mem_cons_of_mem _ hx)
            have h2 : 0 < c.length := List.length_pos_iff.mpr (hc c List.mem_cons_self)
            simp only [List.flatten_cons, List.length_append, List.length_cons]
            omega
        have e2 := e1 gs.heads fun c hc => (Gs.wf_heads hwu.2 c hc).1
        rw [← Gs.flat, hwu.1.length_eq, rng0_len] at e2
        rw [h4.len]
        omega
      have hjl : j < gs.heads.length := (List.getElem?_eq_some_iff.mp hj).1
      have hjw : j < ws.length := by rw [h4.len]; exact hjl
      obtain ⟨pa, ca, tv, cs', u, hy, g1, g2, g3, g4, g5⟩ := h4.get (List.getElem?_eq_getElem hjw)
      refine ⟨_, rfl, p, _, _, _, rfl, rfl, h2, atI_nat (j := 1) rfl, _, rfl, ga, ws, gs, _, j, cs, rfl, h3, h4, hlw, hj, hc, hf, fun H3 s3 => ?_⟩
      refine ⟨_, rfl, .inl ⟨rfl, _, SqL.of (s3 _ _ ho)⟩, _, rfl, o, _, _, rfl, rfl, s3 _ _ ho, alen, ?_⟩
      have tu : Tups K H3 (upd H3 o (.lst (acc.map V.int ++ [.int (j : Int)]))) := tups_lst (s3 _ _ ho)
      have tu2 : Tups K H2 (upd H3 o (.lst (acc.map V.int ++ [.int (j : Int)]))) := fun b ys e => tu b ys (Same.sqT s3 e)
      refine ⟨_, rfl, p, _, _, _, rfl, rfl, tu2 _ _ h2, atI_nat (j := 1) rfl, _, rfl, ga, ws, _, .ref pa, rfl, rfl, tu2 _ _ h3, at_of (j := j) rfl (by rw [List.getElem?_eq_getElem hjw, hy]), pa, _, _, _, rfl, rfl, tu2 _ _ g1, atI_nat (j := 1) rfl, ?_⟩
      have mt := List.mem_of_getElem? g5
      refine ⟨u, tv, acc ++ [(j : Int)], _, rfl, Same.upd_out (sm.trans s3) noH, ?_, TrAt.mono tu2 g3, Gs.wf_trees hwu.2 u mt, ?_, ?_, ?_⟩
      · rw [upd_same, List.map_append]
        rfl
      · rw [ep, List.append_assoc]
        simp only [pth]
        rw [pthG_at 0 _ _ hj g5 hc hf]
        simp
      · have := Gs.dep_trees gs u mt
        simp only [Tr.dep] at hlen
        rw [List.length_append]
        simp
        omega
      · have := Gs.dep_trees gs u mt
        simp only [Tr.dep]
        omega
end
end Lk

namespace Lk
open PySem L2
def HdsAt (K : PySem.W.Frag) (H : Hp) : List (List Int) → List V → Prop
  | [], ws => ws = []
  | c :: r, ws => ∃ a wr, ws = .ref a :: wr ∧ SqT K H a (c.map V.int) ∧ HdsAt K H r wr
theorem HdsAt.mono {K : PySem.W.Frag} {H H' : Hp} (e : Tups K H H') : ∀ {l : List (List Int)} {ws : List V}, HdsAt K H l ws → HdsAt K H' l ws
  | [], _, h => h
  | c :: r, _, ⟨a, wr, h1, h2, h3⟩ => ⟨a, wr, h1, e _ _ h2, HdsAt.mono e h3⟩
theorem HdsAt.app {K : PySem.W.Frag} {H : Hp} {c : List Int} {a : Addr} : ∀ {l : List (List Int)} {ws : List V}, HdsAt K H l ws → SqT K H a (c.map V.int) → HdsAt K H (l ++ [c]) (ws ++ [.ref a])
  | [], _, h, q => by
    have h : _ = [] := h
    subst h
    exact ⟨a, [], rfl, q, rfl⟩
  | x :: r, _, ⟨a', wr, h1, h2, h3⟩, q => ⟨a', wr ++ [.ref a], by rw [h1]; rfl, h2, HdsAt.app h3 q⟩
theorem HdsAt.get {K : PySem.W.Frag} {H : Hp} : ∀ {l : List (List Int)} {ws : List V} {i : Nat} {y : V}, HdsAt K H l ws → ws[i]? = some y → ∃ c a, l[i]? = some c ∧ y = .ref a ∧ SqT K H a (c.map V.int)
  | [], _, i, y, h, e => by
    have h : _ = [] := h
    rw [h] at e
    simp at e
  | c :: r, _, 0, y, ⟨a, wr, h1, h2, h3⟩, e => by
    rw [h1] at e
    exact ⟨c, a, rfl, (Option.some.inj e).symm, h2⟩
  | c :: r, _, i + 1, y, ⟨a, wr, h1, h2, h3⟩, e => by
    rw [h1] at e
    exact HdsAt.get (l := r) (ws := wr) (i := i) h3 (by simpa using e)
theorem HdsAt.len {K : PySem.W.Frag} {H : Hp} : ∀ {l : List (List Int)} {ws : List V}, HdsAt K H l ws → ws.length = l.length
  | [], _, h => by
    have h : _ = [] := h
    rw [h]
    rfl
  | c :: r, _, ⟨a, wr, h1, h2, h3⟩ => by rw [h1, List.length_cons, List.length_cons, HdsAt.len h3]
/-! ### the parts of the classes by marks -/
def sel (marks : List Int) (n : Nat) (m : Int) : List Int := (rng0 n).filter fun i => decide (marks.getD i.toNat 9 = m)
theorem pm2 {x : Int} {a b c : List Int} : (a ++ (b ++ x :: c)).Perm (x :: (a ++ (b ++ c))) := (List.Perm.append_left a List.perm_middle).trans List.perm_middle
theorem pm3 {x : Int} {a b c d : List Int} : (a ++ (b ++ (c ++ x :: d))).Perm (x :: (a ++ (b ++ (c ++ d)))) := (List.Perm.append_left a pm2).trans List.perm_middle
theorem pm4 {x : Int} {a b c d e : List Int} : (a ++ (b ++ (c ++ (d ++ x :: e)))).Perm (x :: (a ++ (b ++ (c ++ (d ++ e))))) := (List.Perm.append_left a pm3).trans List.perm_middle
theorem five {f : Int → Int} : ∀ l : List Int, (∀ x ∈ l, 0 ≤ f x ∧ f x < 5) → (([1, 4, 0, 3, 2] : List Int).map fun m => l.filter fun i => decide (f i = m)).flatten.Perm l
  | [], _ => by simp
  | x :: r, h => by
    have ih := five (f := f) r fun y hy => h y (List.mem_cons_of_mem _ hy)
    have hx := h x List.mem_cons_self
    simp only [List.map_cons, List.map_nil, List.flatten_cons, List.flatten_nil, List.append_nil] at ih ⊢
    have hc : f x = 0 ∨ f x = 1 ∨ f x = 2 ∨ f x = 3 ∨ f x = 4 := by omega
    rcases hc with e | e | e | e | e
    · simp only [List.filter_cons, e]
      simp only [show ((0 : Int) = 1) = False by simp, show ((0 : Int) = 4) = False by simp, show ((0 : Int) = 3) = False by simp, show ((0 : Int) = 2) = False by simp, decide_false, decide_true, if_true, Bool.false_eq_true, if_false]
      refine List.Perm.trans ?_ (List.Perm.cons x ih)
      exact pm2
    · simp only [List.filter_cons, e]
      simp only [show ((1 : Int) = 0) = False by simp, show ((1 : Int) = 4) = False by simp, show ((1 : Int) = 3) = False by simp, show ((1 : Int) = 2) = False by simp, decide_false, decide_true, if_true, Bool.false_eq_true, if_false]
      exact List.Perm.cons x ih
    · simp only [List.filter_cons, e]
      simp only [show ((2 : Int) = 0) = False by simp, show ((2 : Int) = 4) = False by simp, show ((2 : Int) = 3) = False by simp, show ((2 : Int) = 1) = False by simp, decide_false, decide_true, if_true, Bool.false_eq_true, if_false]
      refine List.Perm.trans ?_ (List.Perm.cons x ih)
      exact pm4
    · simp only [List.filter_cons, e]
      simp only [show ((3 : Int) = 0) = False by simp, show ((3 : Int) = 4) = False by simp, show ((3 : Int) = 2) = False by simp, show ((3 : Int) = 1) = False by simp, decide_false, decide_true, if_true, Bool.false_eq_true, if_false]
      refine List.Perm.trans ?_ (List.Perm.cons x ih)
      exact pm3
    · simp only [List.filter_cons, e]
      simp only [show ((4 : Int) = 0) = False by simp, show ((4 : Int) = 3) = False by simp, show ((4 : Int) = 2) = False by simp, show ((4 : Int) = 1) = False by simp, decide_false, decide_true, if_true, Bool.false_eq_true, if_false]
      refine List.Perm.trans ?_ (List.Perm.cons x ih)
      exact List.perm_middle
theorem flat_ne : ∀ l : List (List Int), (l.filter fun c => decide (c ≠ [])).flatten = l.flatten
  | [] => rfl
  | c :: r => by
    have ih := flat_ne r
    cases c with
    | nil =>
      rw [List.filter_cons, decide_eq_false (by simp), if_neg (by decide), ih]
      rfl
    | cons x c =>
      rw [List.filter_cons, decide_eq_true (by simp), if_pos rfl, List.flatten_cons, List.flatten_cons, ih]
theorem rng0_lt (n : Nat) : (rng0 n).Pairwise (· < ·) := by
  unfold rng0
  rw [List.pairwise_map]
  exact List.Pairwise.imp (fun h => by omega) (List.pairwise_lt_range (n := n))
theorem rng0_get {n i : Nat} (h : i < n) : (rng0 n)[i]? = some (i : Int) := by
  unfold rng0
  rw [List.getElem?_map, List.getElem?_range h]
  rfl
theorem rng0_take {n i : Nat} (h : i ≤ n) : (rng0 n).take i = rng0 i := by
  unfold rng0
  rw [← List.map_take, List.take_range]
  congr 2
  omega
theorem rng0_succ (i : Nat) : rng0 (i + 1) = rng0 i ++ [(i : Int)] := by
  unfold rng0
  rw [List.range_succ, List.map_append]
  rfl
def scMark : Scope := { kind := .function, names := [(Str.ofString ".0", .local), (Str.ofString "_law_mark", .cell), (Str.ofString "tuple", .globalImplicit), (Str.ofString "range", .globalImplicit), (Str.ofString "_law_many", .cell), (Str.ofString "_law_marks", .cell)], isGenerator := false, isCoroutine := false }
def spParts (K : PySem.W.Frag) : Sp := fun vs H Q _ => ∃ (b l : Addr) (n : Nat) (m : Int), vs = [.ref b, .int n, .int m] ∧ BagAt H b l ∧ n ≤ 12 ∧ 1 ≤ m ∧ m ≤ 5 ∧
  ∀ (hds : List (List Int)) (H' : Hp) (p : Addr) (ws : List V), hds.flatten.Perm (rng0 n) → (∀ cs ∈ hds, cs ≠ [] ∧ cs.Pairwise (· < ·)) → hds.length ≤ 5 → H p = none → H' p = some (.lst ws) → HdsAt K H' hds ws → BagAt H' b l → But b H H' → Q (.ref p) H'
section
variable {P : Program} {w : World} {K : PySem.W.Frag} {mg : Str → Option Value} {base : Heap}
theorem ok_parts {f fP : Addr} {fd fdP : FuncData} {k : Nat} (F : Fun K "_law_parts" "_law_parts" sParts f fd) (mt : mg "tuple" = none) (mr : mg "range" = none) (GP : FnOk P w K mg base CX0 (k + 1) fP fdP ["_law_bag_here", "_law_amount"] spPull)
    (kp : PySem.W.keepIn K (.ref fP) = true) (bP : Binds K fdP ["_law_bag_here", "_law_amount"] []) (gP : mg "_law_pull" = some (.ref fP)) :
    FnOk P w K mg base CX0 (k + 2) f fd ["_law_bag_here", "_law_many", "_law_most"] (spParts K) := by
  refine F.ok scParts (fun vs H Q E h => ?_) (fun cdv A outer s H vs Q E hr h => ?_)
  · obtain ⟨b, l, n, m, rfl, _⟩ := h
    rfl
  · obtain ⟨b, l, n, m, rfl, B, hn, m0, m1, q⟩ := h
    refine ⟨_, pss_cons (ps_set (i := 3) scParts.nd rfl (.inr rfl) (pe_lc (own := [("_law_number", 5)]) (g := gName 5) (by rfl) scParts.nd (pi_range1 (by rfl) mr (pa_cons (pv 1) pa_nil))
        (blkOk_by (own := [("_law_number", 5)]) (N := ["_law_bag_here", "_law_many", "_law_most", "_law_marks", "_law_found", "_law_number", "_law_mark", "_law_part"]) (sc := defScope sParts) (by decide +kernel))
        (fun _ _ _ _ _ => pg_name (i := 5) scParts.nd rfl (Or.inl rfl)) (fun _ _ _ _ _ => pts_nil)
        (fun _ _ _ _ _ => pe_call GP hr (by rfl) gP kp bP .nil pass0 (pa_cons (pv 0) (pa_cons (pv 2) pa_nil)))))
      (pss_cons (ps_setLc (i := 4) (own := [("_law_mark", 6)]) (g := gName 6) (by rfl) scParts.nd rfl rfl (sw_true rfl rfl rfl (by decide +kernel)) (pi_list (pe_lst (pa_cons pe_int (pa_cons pe_int (pa_cons pe_int (pa_cons pe_int (pa_cons pe_int pa_nil)))))))
        (blkOk_by (own := [("_law_mark", 6)]) (N := ["_law_bag_here", "_law_many", "_law_most", "_law_marks", "_law_found", "_law_number", "_law_mark", "_law_part"]) (sc := defScope sParts) (by decide +kernel))
        (fun _ _ _ _ _ => pg_name (i := 6) scParts.nd rfl (Or.inr rfl)) (fun _ _ _ _ _ => pts_nil)
        (te := tCB (fun xs H Q => ∃ p ys, xs = [.ref p] ∧ ((SqL K H p ys ∧ ∀ l, H l = none → Q (.ref l) (upd H l (.tup ys))) ∨ (SqT K H p ys ∧ Q (.ref p) H))) (tCons (tLc (iRng1 (tCons (tVar 1) tNil)) (gName 5) (tTest (tOp rEq (tOp (rIxL K) (tVar 3) (tVar 5)) (tVar 6))) (tVar 5) [5]) tNil))
        (fun _ _ _ _ _ => pe_callTy call_tuple_of (by rfl) mt (by decide +kernel) (pa_cons (pe_lc (own := [("_law_number", 5)]) (g := gName 5) (tt := tTest (tOp rEq (tOp (rIxL K) (tVar 3) (tVar 5)) (tVar 6))) (by rfl) scParts.nd (pi_range1 (by rfl) mr (pa_cons (pv 1) pa_nil))
          (blkOk_by (own := [("_law_number", 5)]) (N := ["_law_bag_here", "_law_many", "_law_most", "_law_marks", "_law_found", "_law_number", "_law_mark", "_law_part"]) (sc := scMark) (by decide +kernel))
          (fun _ _ _ _ _ => pg_name (i := 5) scParts.nd rfl (Or.inl rfl)) (fun _ _ _ _ _ => pts_one (pt_cmpR op_eq (pe_ix ix_list (pv 3) (pv 5) (fun _ _ => rfl)) (pv 6) (nomark _)))
          (fun _ _ _ _ _ => pv 5)) pa_nil)))
      (pss_one (ps_ret (pe_lc (own := [("_law_part", 7)]) (g := gName 7) (tt := tTest (tOp (rNeD K) (tVar 7) (tTup tNil))) (by rfl) scParts.nd (pi_list (pv 4))
        (blkOk_by (own := [("_law_part", 7)]) (N := ["_law_bag_here", "_law_many", "_law_most", "_law_marks", "_law_found", "_law_number", "_law_mark", "_law_part"]) (sc := defScope sParts) (by decide +kernel))
        (fun _ _ _ _ _ => pg_name (i := 7) scParts.nd rfl (Or.inl rfl)) (fun _ _ _ _ _ => pts_one (pt_cmpR (op_neD hr.units) (pv 7) (pe_tup pa_nil) (nomark _)))
        (fun _ _ _ _ _ => pv 7))))), ?_⟩
    -- the marks
    refine ⟨_, rfl, n, rfl, by omega, by omega, fun D nD => ?_⟩
    have nDb := B.nb nD
    have nDl := B.nl nD
    refine lc_range (lo := 0) (n := (n : Int).toNat) (fun i H2 => ∃ ms : List Int, ms.length = i ∧ (∀ z ∈ ms, 0 ≤ z ∧ z < m) ∧ H2 D = some (.lst (ms.map V.int)) ∧ BagAt H2 b l ∧ But b H H2) ⟨[], rfl, by simp, upd_same, B.new nD, new_but nD⟩ ?_ ?_
    · rintro i H2 hi ⟨ms, hl, hm, hD, B2, bt⟩
      refine ⟨rfl, _, rfl, _, rfl, b, l, m, rfl, B2, by omega, ?_, fun g H3 g0 g1 B3 bt3 => ?_⟩
      · have : m.natAbs < 10 := by omega
        exact Nat.lt_trans this (by decide)
      · have hD3 := bt3 D _ nDb hD
        refine ⟨_, hD3, ?_, ms ++ [g], ?_, ?_, ?_, B3.upd nDb nDl, ?_⟩
        · rw [List.length_map]
          exact small1000 (by omega)
        · rw [List.length_append, hl]
          rfl
        · intro z hz
          rcases List.mem_append.mp hz with h | h
          · exact hm z h
          · rw [List.mem_singleton.mp h]
            exact ⟨g0, g1⟩
        · rw [upd_same, List.map_append]
          rfl
        · intro a u na hu
          rw [upd_ne (ne_of_none hu nD)]
          exact bt3 a u na (bt a u na hu)
    rintro H2 ⟨ms, hl, hm, hD, B2, bt⟩
    have hl2 : ms.length = n := by omega
    -- the parts, empty ones too
    refine ⟨(by show 5 ≤ sizeLine; decide), fun L nL => ?_⟩
    have sL : Same H2 (upd H2 L (.lst [.int 1, .int 4, .int 0, .int 3, .int 2])) := same_new nL
    refine ⟨L, rfl, ⟨_, SqL.of upd_same⟩, fun D2 nD2 => ?_⟩
    have nD2H : H2 D2 = none := sL.free nD2
    refine lc_list (K := K) (a := L) (xs := ([1, 4, 0, 3, 2] : List Int).map V.int) (fun i H3 => Same (upd H2 L (.lst [.int 1, .int 4, .int 0, .int 3, .int 2])) H3 ∧ ∃ ws, H3 D2 = some (.lst ws) ∧ HdsAt K H3 ((([1, 4, 0, 3, 2] : List Int).map (sel ms n)).take i) ws)
      ⟨same_new nD2, [], upd_same, rfl⟩ (fun i H3 _ ⟨sm, _⟩ => SqL.of (sm _ _ upd_same)) ?_ ?_
    · rintro i y H3 hy ⟨sm, ws, hD2, hW⟩
      obtain ⟨mk, hmk, rfl⟩ := map_get hy
      have hi5 : i < 5 := (List.getElem?_eq_some_iff.mp hmk).1
      refine ⟨rfl, _, rfl, n, rfl, by omega, by omega, fun D3 nD3 => ?_⟩
      have smD : Same H2 H3 := sL.trans sm
      have hD' : H3 D = some (.lst (ms.map V.int)) := smD _ _ hD
      refine lc_range (lo := 0) (n := (n : Int).toNat) (fun j H4 => Same H3 H4 ∧ H4 D3 = some (.lst (((rng0 j).filter fun c => decide (ms.getD c.toNat 9 = mk)).map V.int))) ⟨same_new nD3, upd_same⟩ ?_ ?_
      · rintro j H4 hj ⟨s4, h3⟩
        have hjn : j < ms.length := by omega
        have ej : (0 : Int) + (j : Int) = (j : Int) := by omega
        have gj : (ms.map V.int)[j]? = some (.int (ms.getD j 9)) := by
          rw [List.getElem?_map, List.getElem?_eq_getElem hjn, List.getD_eq_getElem?_getD, List.getElem?_eq_getElem hjn]
          rfl
        refine ⟨rfl, _, rfl, _, rfl, D, _, _, _, rfl, rfl, SqL.of (s4 _ _ hD'), at_of (j := j) ej gj, _, rfl, rfl, _, rfl, ?_⟩
        have lenj : (((rng0 j).filter fun c => decide (ms.getD c.toNat 9 = mk)).map V.int).length < sizeLine := by
          rw [List.length_map]
          refine small1000 (Nat.le_trans (List.length_filter_le _ _) ?_)
          rw [rng0_len]
          omega
        refine ite2 (fun e => ?_) (fun e => ?_)
        · have e1 : ms.getD j 9 = mk := V.int.inj (of_decide_eq_true e)
          refine ⟨_, rfl, _, h3, lenj, fun a u hu => ?_, ?_⟩
          · rw [upd_ne (ne_of_none hu nD3)]
            exact s4 a u hu
          · rw [upd_same, rng0_succ, List.filter_append, List.map_append]
            have : ([(j : Int)].filter fun c => decide (ms.getD c.toNat 9 = mk)) = [(j : Int)] := by
              rw [List.filter_cons, decide_eq_true (by simpa using e1), if_pos rfl]
              rfl
            rw [this]
            show some (HO.lst (_ ++ [V.int ((0 : Int) + (j : Int))])) = _
            rw [ej]
            rfl
        · have e1 : ¬ ms.getD j 9 = mk := fun z => e (decide_eq_true (congrArg V.int z))
          refine ⟨s4, ?_⟩
          rw [rng0_succ, List.filter_append]
          have : ([(j : Int)].filter fun c => decide (ms.getD c.toNat 9 = mk)) = [] := by
            rw [List.filter_cons, decide_eq_false (by simpa using e1), if_neg (by decide)]
            rfl
          rw [this, List.append_nil]
          exact h3
      · rintro H4 ⟨s4, h3⟩
        rw [Int.toNat_natCast] at h3
        refine ⟨D3, _, rfl, .inl ⟨SqL.of h3, fun T nT => ?_⟩⟩
        have hD24 := s4 _ _ hD2
        have s5 := s4.trans (same_new (o := .tup (((rng0 n).filter fun c => decide (ms.getD c.toNat 9 = mk)).map V.int)) nT)
        have lw := hW.len
        refine ⟨ws, (by rw [upd_ne (ne_of_none hD24 nT)]; exact hD24), ?_, ?_, ws ++ [.ref T], upd_same, ?_⟩
        · rw [lw]
          exact small1000 (Nat.le_trans (List.length_take_le _ _) (by omega))
        · intro a u hu
          have h2 := sm a u hu
          have h4 := s4 a u h2
          rw [upd_ne (ne_of_none hu nD2), upd_ne (ne_of_none h4 nT)]
          exact h4
        · have gs : (([1, 4, 0, 3, 2] : List Int).map (sel ms n))[i]? = some (sel ms n mk) := by rw [List.getElem?_map, hmk]; rfl
          rw [take_more gs]
          have h5 : (upd H4 T (.tup (((rng0 n).filter fun c => decide (ms.getD c.toNat 9 = mk)).map V.int))) D2 = some (.lst ws) := by
            rw [upd_ne (ne_of_none hD24 nT)]
            exact hD24
          exact HdsAt.app (HdsAt.mono (fun a xs e => tups_lst h5 a xs (Same.sqT s5 e)) hW) (tups_lst h5 _ _ (SqT.of upd_same))
    rintro H3 ⟨sm, ws, hD2, hW⟩
    rw [List.take_of_length_le (by simp)] at hW
    have smD : Same H2 H3 := sL.trans sm
    -- those that are not empty
    refine ⟨_, rfl, D2, rfl, ⟨_, SqL.of hD2⟩, fun D4 nD4 => ?_⟩
    refine lc_list (K := K) (a := D2) (xs := ws) (fun i H4 => Same H3 H4 ∧ ∃ ws', H4 D4 = some (.lst ws') ∧ HdsAt K H4 (((([1, 4, 0, 3, 2] : List Int).map (sel ms n)).take i).filter fun c => decide (c ≠ [])) ws') ⟨same_new nD4, [], upd_same, rfl⟩ (fun i H4 _ ⟨s4, _⟩ => SqL.of (s4 _ _ hD2)) ?_ ?_
    · rintro i y H4 hy ⟨s4, ws', hD4, hW'⟩
      obtain ⟨c, a, hc, rfl, ha⟩ := hW.get hy
      have hi5 : i < 5 := by
        have := (List.getElem?_eq_some_iff.mp hc).1
        simpa using this
      have ha4 : SqT K H4 a (c.map V.int) := Same.sqT s4 ha
      refine ⟨rfl, _, rfl, (by show 0 ≤ sizeLine; decide), fun T nT => ?_⟩
      have sT := same_new (o := .tup []) nT
      refine ⟨.tuple (c.map .int), .tuple [], .tup (Same.sqT sT ha4) (dpInts _), .tup (SqT.of upd_same) .nil, ?_, by decide, _, rfl, ?_⟩
      · unfold SeqAt.shaped
        simp [PyData.canLay0, PyData.depth, canInts, depInts]
      have ev : PyData.eqv (.tuple (c.map .int)) (.tuple []) = decide (c = []) := by
        cases c with
        | nil => simp [PyData.eqv, PyData.eqvAll]
        | cons z r => simp [PyData.eqv, PyData.eqvAll]
      rw [ev, take_more hc, List.filter_append]
      have hD4T : (upd H4 T (.tup [])) D4 = some (.lst ws') := by
        rw [upd_ne (ne_of_none hD4 nT)]
        exact hD4
      refine ite2 (fun e => ?_) (fun e => ?_)
      · have e1 : c ≠ [] := fun z => by
          rw [z] at e
          exact absurd e (by decide)
        have ef : ([c].filter fun c => decide (c ≠ [])) = [c] := by
          rw [List.filter_cons, decide_eq_true e1, if_pos rfl]
          rfl
        rw [ef]
        refine ⟨_, rfl, ws', hD4T, ?_, ?_, ws' ++ [.ref a], upd_same, ?_⟩
        · rw [hW'.len]
          exact small1000 (Nat.le_trans (List.length_filter_le _ _) (Nat.le_trans (List.length_take_le _ _) (by omega)))
        · intro x u hu
          rw [upd_ne (ne_of_none hu nD4)]
          exact sT _ _ (s4 _ _ hu)
        · exact HdsAt.app (HdsAt.mono (fun x xs e => tups_lst hD4T x xs (Same.sqT sT e)) hW') (tups_lst hD4T _ _ (Same.sqT sT ha4))
      · have e1 : c = [] := by
          cases c with
          | nil => rfl
          | cons z r => exact absurd (by simp) e
        have ef : ([c].filter fun c => decide (c ≠ [])) = [] := by
          rw [e1]
          rfl
        rw [ef, List.append_nil]
        exact ⟨s4.trans sT, ws', hD4T, HdsAt.mono (Same.tups sT) hW'⟩
    · rintro H4 ⟨s4, ws', hD4, hW'⟩
      have lw : ws.length = 5 := by rw [hW.len]; rfl
      rw [List.take_of_length_le (by rw [lw]; simp)] at hW'
      have nD4H : H D4 = none := bt.free B B2 (smD.free nD4)
      have s24 : Same H2 H4 := smD.trans s4
      have B4 : BagAt H4 b l := by
        obtain ⟨x1, x2, x3, x4, Z⟩ := B2
        exact ⟨x1, x2, x3, x4, s24 _ _ Z.ob, s24 _ _ Z.ls, Z.i0, Z.i1, Z.g0, Z.s0, Z.s1⟩
      refine q _ H4 D4 ws' ?_ ?_ ?_ nD4H hD4 hW' B4 (bt.trans (But.same s24))
      · rw [flat_ne]
        refine five (f := fun c => ms.getD c.toNat 9) (rng0 n) fun x hx => ?_
        unfold rng0 at hx
        obtain ⟨j, hj, rfl⟩ := List.mem_map.mp hx
        have hj2 : j < ms.length := by rw [hl2]; exact List.mem_range.mp hj
        show 0 ≤ ms.getD (j : Int).toNat 9 ∧ ms.getD (j : Int).toNat 9 < 5
        rw [Int.toNat_natCast, List.getD_eq_getElem?_getD, List.getElem?_eq_getElem hj2]
        have := hm _ (List.getElem_mem hj2)
        show 0 ≤ ms[j] ∧ ms[j] < 5
        omega
      · intro cs hcs
        obtain ⟨h1, h2⟩ := List.mem_filter.mp hcs
        refine ⟨of_decide_eq_true h2, ?_⟩
        obtain ⟨mk, _, rfl⟩ := List.mem_map.mp h1
        exact List.Pairwise.filter _ (rng0_lt n)
      · exact Nat.le_trans (List.length_filter_le _ _) (by simp)
end
end Lk

namespace Lk
open PySem L2
def Gs.snoc : Gs → List Int → Tr → Gs
  | .nil, cs, t => .cons cs t .nil
  | .cons c u r, cs, t => .cons c u (r.snoc cs t)
theorem Gs.heads_snoc (cs : List Int) (t : Tr) : ∀ g : Gs, (g.snoc cs t).heads = g.heads ++ [cs]
  | .nil => rfl
  | .cons c u r => by simp [Gs.snoc, Gs.heads, Gs.heads_snoc cs t r]
theorem Gs.size_snoc (cs : List Int) (t : Tr) : ∀ g : Gs, (g.snoc cs t).size = g.size + t.size
  | .nil => by simp [Gs.snoc, Gs.size]
  | .cons c u r => by simp [Gs.snoc, Gs.size, Gs.size_snoc cs t r]; omega
theorem Gs.dep_snoc (cs : List Int) (t : Tr) : ∀ g : Gs, (g.snoc cs t).dep = max g.dep t.dep
  | .nil => by simp [Gs.snoc, Gs.dep]
  | .cons c u r => by simp only [Gs.snoc, Gs.dep, Gs.dep_snoc cs t r]; omega
theorem Gs.wf_snoc {d n : Nat} {cs : List Int} {t : Tr} (h : cs ≠ [] ∧ cs.Pairwise (· < ·)) (ht : t.wf d n) : ∀ {g : Gs}, g.wf d n → (g.snoc cs t).wf d n
  | .nil, _ => by
    simp only [Gs.snoc, Gs.wf]
    exact ⟨h, ht, trivial⟩
  | .cons c u r, w => by
    simp only [Gs.wf] at w
    simp only [Gs.snoc, Gs.wf]
    exact ⟨w.1, w.2.1, Gs.wf_snoc h ht w.2.2⟩
theorem GsAt.snoc {K : PySem.W.Frag} {H : Hp} {cs : List Int} {t : Tr} {pa ca : Addr} {tv : V} (h1 : SqT K H pa [.ref ca, tv]) (h2 : SqT K H ca (cs.map V.int)) (h3 : TrAt K H t tv) : ∀ {g : Gs} {ws : List V}, GsAt K H g ws → GsAt K H (g.snoc cs t) (ws ++ [.ref pa])
  | .nil, ws, h => by
    simp only [GsAt] at h
    subst h
    simp only [Gs.snoc, GsAt]
    exact ⟨pa, ca, tv, [], rfl, h1, h2, h3, rfl⟩
  | .cons c u r, ws, h => by
    simp only [GsAt] at h
    obtain ⟨pa', ca', tv', vr, rfl, a1, a2, a3, a4⟩ := h
    simp only [Gs.snoc, GsAt]
    exact ⟨pa', ca', tv', vr ++ [.ref pa], rfl, a1, a2, a3, GsAt.snoc h1 h2 h3 a4⟩
def szB : Nat → Nat
  | 0 => 1
  | n + 1 => 1 + 5 * szB n
theorem szB_pos : ∀ n, 1 ≤ szB n
  | 0 => Nat.le_refl _
  | n + 1 => by simp [szB]
def spTree (K : PySem.W.Frag) (m : Nat) : Sp := fun vs H Q _ => ∃ (b l a : Addr) (ds : List Int) (n : Nat), vs = [.ref b, .ref a, .int m] ∧ BagAt H b l ∧ SqT K H a (ds.map V.int) ∧ Divs ds ∧ ds.length ≤ 3 ∧ prodL ds = (n : Int) ∧
  ∀ (t : Tr) (v : V) (H' : Hp), t.wf ds.length n → t.dep ≤ m + 1 → t.size ≤ szB m → TrAt K H' t v → BagAt H' b l → But b H H' → Q v H'
def spScan (K : PySem.W.Frag) : Sp := fun vs H Q _ => ∃ (b l : Addr) (d : Int), vs = [.ref b, .int d] ∧ BagAt H b l ∧ 1 ≤ d ∧ d ≤ 3 ∧
  ∀ (ds : List Int) (n : Nat) (t : Tr) (a p : Addr) (v : V) (H' : Hp), (ds.length : Int) = d → Divs ds → prodL ds = (n : Int) → t.wf ds.length n → t.dep ≤ 4 → t.size ≤ 200 → SqT K H' a (ds.map V.int) → TrAt K H' t v → SqT K H' p [.ref a, v] → BagAt H' b l → But b H H' → Q (.ref p) H'
section
variable {P : Program} {w : World} {K : PySem.W.Frag} {mg : Str → Option Value} {base : Heap}
theorem ok_tree {f fP fC fO fA : Addr} {fd fdP fdC fdO fdA : FuncData} {k : Nat} (F : Fun K "_law_tree" "_law_tree" sTree f fd) (mt : mg "tuple" = none) (mr : mg "range" = none)
    (gF : mg "_law_tree" = some (.ref f)) (bF : Binds K fd ["_law_bag_here", "_law_divisors_here", "_law_depth"] [])
    (GP : FnOk P w K mg base CX0 (k + 1) fP fdP ["_law_bag_here", "_law_amount"] spPull) (kp : PySem.W.keepIn K (.ref fP) = true) (bP : Binds K fdP ["_law_bag_here", "_law_amount"] []) (gP : mg "_law_pull" = some (.ref fP))
    (GC : FnOk P w K mg base CX0 (k + 1) fC fdC ["_law_divisors_here"] (spCount K)) (kC : PySem.W.keepIn K (.ref fC) = true) (bC : Binds K fdC ["_law_divisors_here"] []) (gC : mg "_law_count" = some (.ref fC))
    (GO : FnOk P w K mg base CX0 (k + 2) fO fdO ["_law_bag_here", "_law_things"] (spOf K)) (kO : PySem.W.keepIn K (.ref fO) = true) (bO : Binds K fdO ["_law_bag_here", "_law_things"] []) (gO : mg "_law_of" = some (.ref fO))
    (GA : FnOk P w K mg base CX0 (k + 2) fA fdA ["_law_bag_here", "_law_many", "_law_most"] (spParts K)) (kA : PySem.W.keepIn K (.ref fA) = true) (bA : Binds K fdA ["_law_bag_here", "_law_many", "_law_most"] []) (gA : mg "_law_parts" = some (.ref fA)) :
    ∀ m : Nat, FnOk P w K mg base CX0 (k + 3 + m) f fd ["_law_bag_here", "_law_divisors_here", "_law_depth"] (spTree K m)
  | 0 => by
    refine F.ok (k := k + 2) scTree (fun vs H Q E h => ?_) (fun cdv A outer s H vs Q E hr h => ?_)
    · obtain ⟨b, l, a, ds, n, rfl, _⟩ := h
      rfl
    · obtain ⟨b, l, a, ds, n, rfl, B, hA, hD, hd, hn, q⟩ := h
      have hr1 : Room (k + 1) _ := hr.mono (by omega)
      refine ⟨_, pss_cons (ps_par (i := 3) (j := 4) (by rfl) scTree.nd rfl rfl (by decide) rfl rfl (pa_cons (pe_call GC hr1 (by rfl) gC kC bC .nil pass0 (pa_cons (pv 1) pa_nil)) (pa_cons (pe_call GP hr1 (by rfl) gP kp bP .nil pass0 (pa_cons (pv 0) (pa_cons pe_int pa_nil))) pa_nil)) (by rfl))
        (pss_cons (ps_if (PW.pt (pw_or (pt_cmpR op_eq (pv 2) pe_int (nomark _)) (pw_or1 (pt_cmpR op_eq (pv 4) pe_int (nomark _))))) (pss_one (ps_ret (pe_tup (pa_cons pe_str pa_nil)))) pss_nil) pss_never), ?_⟩
      refine ⟨_, rfl, a, ds, rfl, hA, hD, _, rfl, b, l, 4, rfl, B, by decide, by decide, fun g H1 g0 g1 B1 bt => ?_⟩
      refine ⟨_, _, rfl, ?_⟩
      refine ⟨_, rfl, rfl, true, rfl, iteT ?_⟩
      refine ⟨(by show 1 ≤ sizeLine; decide), fun p np => ?_⟩
      refine q .pl _ _ (by simp [Tr.wf]) (by simp [Tr.dep]) (by simp [Tr.size, szB]) ?_ (B1.new np) (bt.trans (new_but np))
      simp only [TrAt]
      exact ⟨p, rfl, SqT.of upd_same⟩
  | m + 1 => by
    have GT := ok_tree F mt mr gF bF GP kp bP gP GC kC bC gC GO kO bO gO GA kA bA gA m
    refine F.ok (k := k + 3 + m) scTree (fun vs H Q E h => ?_) (fun cdv A outer s H vs Q E hr h => ?_)
    · obtain ⟨b, l, a, ds, n, rfl, _⟩ := h
      rfl
    · obtain ⟨b, l, a, ds, n, rfl, B, hA, hD, hd, hn, q⟩ := h
      have hr1 : Room (k + 1) _ := hr.mono (by omega)
      have hr2 : Room (k + 2) _ := hr.mono (by omega)
      have hn12 : n ≤ 12 := by have := hD.most; omega
      refine ⟨_, pss_cons (ps_par (i := 3) (j := 4) (by rfl) scTree.nd rfl rfl (by decide) rfl rfl (pa_cons (pe_call GC hr1 (by rfl) gC kC bC .nil pass0 (pa_cons (pv 1) pa_nil)) (pa_cons (pe_call GP hr1 (by rfl) gP kp bP .nil pass0 (pa_cons (pv 0) (pa_cons pe_int pa_nil))) pa_nil)) (by rfl))
        (pss_cons (ps_if (PW.pt (pw_or (pt_cmpR op_eq (pv 2) pe_int (nomark _)) (pw_or1 (pt_cmpR op_eq (pv 4) pe_int (nomark _))))) (pss_one (ps_ret (pe_tup (pa_cons pe_str pa_nil)))) pss_nil)
        (pss_cons (ps_if (pt_cmpR op_eq (pv 4) pe_int (nomark _))
          (pss_cons (ps_set (i := 5) scTree.nd rfl (.inl rfl) (pe_call GA hr2 (by rfl) gA kA bA .nil pass0 (pa_cons (pv 0) (pa_cons (pv 3) (pa_cons (pe_ifExp (pt_cmpR op_eq (pv 2) pe_int (nomark _)) pe_int pe_int) pa_nil)))))
          (pss_one (ps_ret (pe_tup (pa_cons pe_str (pa_cons (pe_callTy call_tuple_of (by rfl) mt (by decide +kernel) (pa_cons (pe_lc (own := [("_law_part", 9)]) (g := gName 9) (by rfl) scTree.nd (pi_list (pv 5))
            (blkOk_by (own := [("_law_part", 9)]) (N := ["_law_bag_here", "_law_divisors_here", "_law_depth", "_law_many", "_law_pick", "_law_parts_here", "_law_size", "_law_row", "_law_heights", "_law_part", "_law_one", "_law_number"]) (sc := defScope sTree) (by decide +kernel))
            (fun _ _ _ _ _ => pg_name (i := 9) scTree.nd rfl (Or.inl rfl)) (fun _ _ _ _ _ => pts_nil)
            (fun _ _ _ _ _ => pe_tup (pa_cons (pv 9) (pa_cons (pe_call GT hr (by rfl) gF F.kp bF .nil pass0 (pa_cons (pv 0) (pa_cons (pv 1) (pa_cons (pe_op op_sub (pv 2) pe_int) pa_nil)))) pa_nil)))) pa_nil)) pa_nil)))))) pss_nil)
        (pss_cons (ps_set (i := 6) scTree.nd rfl (.inr rfl) (pe_call GO hr2 (by rfl) gO kO bO .nil pass0 (pa_cons (pv 0) (pa_cons (pe_lst (pa_cons pe_int (pa_cons pe_int (pa_cons pe_int (pa_cons (pe_op op_pow pe_int pe_int) pa_nil))))) pa_nil))))
        (pss_cons (ps_set (i := 7) scTree.nd rfl (.inl rfl) (pe_callTy call_tuple_of (by rfl) mt (by decide +kernel) (pa_cons (pe_lc (own := [("_law_one", 10)]) (g := gName 10) (by rfl) scTree.nd (pi_tup (pv 1))
            (blkOk_by (own := [("_law_one", 10)]) (N := ["_law_bag_here", "_law_divisors_here", "_law_depth", "_law_many", "_law_pick", "_law_parts_here", "_law_size", "_law_row", "_law_heights", "_law_part", "_law_one", "_law_number"]) (sc := defScope sTree) (by decide +kernel))
            (fun _ _ _ _ _ => pg_name (i := 10) scTree.nd rfl (Or.inl rfl)) (fun _ _ _ _ _ => pts_nil)
            (fun _ _ _ _ _ => pe_op op_sub (pe_call GP hr1 (by rfl) gP kp bP .nil pass0 (pa_cons (pv 0) (pa_cons (pe_op op_add (pe_op op_mul pe_int (pv 6)) pe_int) pa_nil))) (pv 6))) pa_nil)))
        (pss_cons (ps_set (i := 8) scTree.nd rfl (.inl rfl) (pe_callTy call_tuple_of (by rfl) mt (by decide +kernel) (pa_cons (pe_lc (own := [("_law_number", 11)]) (g := gName 11) (by rfl) scTree.nd (pi_range1 (by rfl) mr (pa_cons (pv 3) pa_nil))
            (blkOk_by (own := [("_law_number", 11)]) (N := ["_law_bag_here", "_law_divisors_here", "_law_depth", "_law_many", "_law_pick", "_law_parts_here", "_law_size", "_law_row", "_law_heights", "_law_part", "_law_one", "_law_number"]) (sc := defScope sTree) (by decide +kernel))
            (fun _ _ _ _ _ => pg_name (i := 11) scTree.nd rfl (Or.inl rfl)) (fun _ _ _ _ _ => pts_nil)
            (fun _ _ _ _ _ => pe_ifExp (pt_cmpR op_lt (pv 6) pe_int (nomark _)) (pe_op op_sub (pe_call GP hr1 (by rfl) gP kp bP .nil pass0 (pa_cons (pv 0) (pa_cons pe_int pa_nil))) pe_int)
              (pe_op op_sub (pe_call GP hr1 (by rfl) gP kp bP .nil pass0 (pa_cons (pv 0) (pa_cons (pe_op op_mul pe_int (pv 6)) pa_nil))) (pe_op op_mul pe_int (pv 6))))) pa_nil)))
        (pss_one (ps_ret (pe_tup (pa_cons pe_str (pa_cons (pv 7) (pa_cons (pv 8) (pa_cons (pe_call GT hr (by rfl) gF F.kp bF .nil pass0 (pa_cons (pv 0) (pa_cons (pv 1) (pa_cons (pe_op op_sub (pv 2) pe_int) pa_nil)))) pa_nil)))))))))))), ?_⟩
      refine ⟨_, rfl, a, ds, rfl, hA, hD, _, rfl, b, l, 4, rfl, B, by decide, by decide, fun g H1 g0 g1 B1 bt => ?_⟩
      refine ⟨_, _, rfl, ?_⟩
      rw [hn]
      refine ⟨_, rfl, rfl, false, ?_, iteF ?_⟩
      · refine congrArg V.bl (decide_eq_false fun e => ?_)
        have := V.int.inj e
        omega
      refine ⟨_, rfl, rfl, _, rfl, ite2 (fun e => ?_) (fun e => ?_)⟩
      · -- places
        refine ⟨(by show 1 ≤ sizeLine; decide), fun p np => ?_⟩
        refine q .pl _ _ (by simp [Tr.wf]) (by simp [Tr.dep]) (by show 1 ≤ szB (m + 1); exact szB_pos _) ?_ (B1.new np) (bt.trans (new_but np))
        simp only [TrAt]
        exact ⟨p, rfl, SqT.of upd_same⟩
      have hA1 : SqT K H1 a (ds.map V.int) := bt.sqT B hA
      have em : ((m + 1 : Nat) : Int) - 1 = (m : Int) := by omega
      refine ⟨_, rfl, rfl, _, rfl, ite2 (fun e2 => ?_) (fun e2 => ?_)⟩
      · -- a fork
        refine ⟨_, rfl, _, rfl, _, rfl, rfl, _, rfl, ite2 (fun _ => ?_) (fun _ => ?_)⟩
        all_goals
          refine ⟨b, l, n, _, rfl, B1, hn12, by decide, by decide, fun hds H2 c ws hp hh h5 nc hc hW B2 bt2 => ?_⟩
          have ncb : c ≠ b := (B1.nb nc)
          refine ⟨_, rfl, c, rfl, ⟨_, SqL.of hc⟩, fun D nD => ?_⟩
          have nDb := B2.nb nD
          have nDl := B2.nl nD
          have lw := hW.len
          refine lc_list (K := K) (a := c) (xs := ws) (fun i H3 => ∃ (gs : Gs) (vs : List V), gs.heads = hds.take i ∧ gs.wf ds.length n ∧ gs.dep ≤ m + 1 ∧ gs.size ≤ i * szB m ∧ H3 D = some (.lst vs) ∧ vs.length = i ∧ GsAt K H3 gs vs ∧ BagAt H3 b l ∧ But b H2 H3)
            ⟨.nil, [], rfl, by simp [Gs.wf], by simp [Gs.dep], by simp [Gs.size], upd_same, rfl, by simp [GsAt], B2.new nD, new_but nD⟩ (fun i H3 _ ⟨_, _, _, _, _, _, _, _, _, _, b3⟩ => SqL.of (b3 c _ ncb hc)) ?_ ?_
          · rintro i y H3 hy ⟨gs, vs, g1, g2, g3, g4, hD3, lv, hG, B3, b3⟩
            obtain ⟨cs, ca, hcs, rfl, hca⟩ := hW.get hy
            have hi : i < ws.length := (List.getElem?_eq_some_iff.mp hy).1
            have hA3 : SqT K H3 a (ds.map V.int) := b3.sqT B2 (bt2.sqT B1 hA1)
            refine ⟨rfl, _, rfl, _, rfl, _, rfl, _, rfl, _, _, rfl, rfl, ?_⟩
            refine ⟨b, l, a, ds, n, ?_, B3, hA3, hD, hd, hn, fun t v H4 t1 t2 t3 t4 B4 b4 => ?_⟩
            · show [V.ref b, V.ref a, V.int (((m + 1 : Nat) : Int) - 1)] = _
              rw [em]
            refine ⟨(by show 2 ≤ sizeLine; decide), fun T nT => ?_⟩
            have hD4 := b4 D _ nDb hD3
            have hDT : (upd H4 T (.tup [.ref ca, v])) D = some (.lst vs) := by
              rw [upd_ne (ne_of_none hD4 nT)]
              exact hD4
            have tA : Tups K H3 H4 := But.tups B3 b4
            have tB : Tups K H4 (upd H4 T (.tup [.ref ca, v])) := Same.tups (same_new nT)
            have tC : Tups K (upd H4 T (.tup [.ref ca, v])) (upd (upd H4 T (.tup [.ref ca, v])) D (.lst (vs ++ [.ref T]))) := tups_lst hDT
            have tBC : Tups K H4 (upd (upd H4 T (.tup [.ref ca, v])) D (.lst (vs ++ [.ref T]))) := fun x ys e => tC x ys (tB x ys e)
            refine ⟨vs, hDT, ?_, gs.snoc cs t, vs ++ [.ref T], ?_, Gs.wf_snoc (hh cs (List.mem_of_getElem? hcs)) t1 g2, ?_, ?_, upd_same, ?_, ?_, (B4.new nT).upd nDb nDl, ?_⟩
            · exact small1000 (by omega)
            · rw [Gs.heads_snoc, take_more hcs, g1]
            · rw [Gs.dep_snoc]
              omega
            · rw [Gs.size_snoc, Nat.succ_mul]
              omega
            · rw [List.length_append, lv]
              rfl
            · exact GsAt.snoc (tC _ _ (SqT.of upd_same)) (tBC _ _ (tA _ _ (b3.sqT B2 hca))) (TrAt.mono tBC t4) (GsAt.mono (fun x ys e => tBC x ys (tA x ys e)) hG)
            · intro x u nx hu
              have h3 := b3 x u nx hu
              have h4 := b4 x u nx h3
              rw [upd_ne (ne_of_none hu nD), upd_ne (ne_of_none h4 nT)]
              exact h4
          · rintro H3 ⟨gs, vs, g1, g2, g3, g4, hD3, lv, hG, B3, b3⟩
            rw [List.take_of_length_le (by omega)] at g1
            refine ⟨D, _, rfl, .inl ⟨SqL.of hD3, fun T nT => ?_⟩⟩
            refine ⟨(by show 2 ≤ sizeLine; decide), fun p np => ?_⟩
            have tA : Tups K H3 (upd H3 T (.tup vs)) := Same.tups (same_new nT)
            have tB : Tups K (upd H3 T (.tup vs)) (upd (upd H3 T (.tup vs)) p (.tup [.str "fork", .ref T])) := Same.tups (same_new np)
            refine q (.fork gs) _ _ ?_ ?_ ?_ ?_ ((B3.new nT).new np) (((bt.trans bt2).trans b3).trans ((new_but nT).trans (new_but np)))
            · simp only [Tr.wf]
              exact ⟨by rw [Gs.flat, g1]; exact hp, g2⟩
            · simp only [Tr.dep]
              omega
            · simp only [Tr.size]
              show gs.size + 1 ≤ 1 + 5 * szB m
              have : ws.length * szB m ≤ 5 * szB m := Nat.mul_le_mul_right _ (by omega)
              omega
            · simp only [TrAt]
              exact ⟨p, T, vs, rfl, SqT.of upd_same, tB _ _ (SqT.of upd_same), GsAt.mono (fun x ys e => tB x ys (tA x ys e)) hG⟩
      · -- a key
        refine ⟨_, rfl, _, _, rfl, rfl, ⟨by decide, by decide, by decide⟩, ?_⟩
        refine ⟨(by show 4 ≤ sizeLine; decide), fun c nc => ?_⟩
        refine ⟨b, l, c, _, rfl, B1.new nc, B1.nb nc, SqL.of upd_same, (by show 0 < 4; decide), (by show 4 < 1000; decide), fun v H2 hv B2 bt2 => ?_⟩
        have b12 : But b H1 H2 := (new_but nc).trans bt2
        obtain ⟨z, rfl, z1, z9⟩ : ∃ z : Int, v = .int z ∧ 1 ≤ z ∧ z ≤ 1000000000 := by
          rcases List.mem_cons.mp hv with e | hv
          · exact ⟨3, e, by decide, by decide⟩
          rcases List.mem_cons.mp hv with e | hv
          · exact ⟨3, e, by decide, by decide⟩
          rcases List.mem_cons.mp hv with e | hv
          · exact ⟨9, e, by decide, by decide⟩
          · exact ⟨10 ^ (9 : Int).toNat, List.mem_singleton.mp hv, by decide, by decide⟩
        have hA2 : SqT K H2 a (ds.map V.int) := b12.sqT B1 hA1
        -- the row
        refine ⟨_, rfl, a, rfl, ⟨_, hA2⟩, fun D nD => ?_⟩
        have nDb := B2.nb nD
        have nDl := B2.nl nD
        refine lc_tup (K := K) (a := a) (xs := ds.map V.int) (fun i H3 => ∃ rs : List Int, rs.length = i ∧ (∀ y ∈ rs, -(2 ^ 64) < y ∧ y < 2 ^ 64) ∧ H3 D = some (.lst (rs.map V.int)) ∧ BagAt H3 b l ∧ But b H2 H3) ⟨[], rfl, by simp, upd_same, B2.new nD, new_but nD⟩ (fun i H3 _ ⟨_, _, _, _, _, b3⟩ => b3.sqT B2 hA2) ?_ ?_
        · rintro i y H3 hy ⟨rs, rl, rb, hD3, B3, b3⟩
          have hi : i < (ds.map V.int).length := (List.getElem?_eq_some_iff.mp hy).1
          rw [List.length_map] at hi
          refine ⟨rfl, _, rfl, _, rfl, _, _, rfl, rfl, .inl ⟨by decide, by decide⟩, _, _, rfl, rfl, b, l, _, rfl, B3, by omega, ?_, fun g H4 g0 g1 B4 b4 => ?_⟩
          · have : ((2 * z + 1)).natAbs < 10000000000 := by omega
            exact Nat.lt_trans this (by decide)
          · have hD4 := b4 D _ nDb hD3
            refine ⟨_, rfl, _, _, rfl, rfl, _, hD4, ?_, rs ++ [g - z], ?_, ?_, ?_, B4.upd nDb nDl, ?_⟩
            · rw [List.length_map]
              exact small1000 (by omega)
            · rw [List.length_append, rl]
              rfl
            · intro x hx
              rcases List.mem_append.mp hx with h | h
              · exact rb x h
              · rw [List.mem_singleton.mp h]
                omega
            · rw [upd_same, List.map_append]
              rfl
            · intro x u nx hu
              rw [upd_ne (ne_of_none hu nD)]
              exact b4 x u nx (b3 x u nx hu)
        rintro H3 ⟨rs, rl, rb, hD3, B3, b3⟩
        rw [List.length_map] at rl
        refine ⟨D, _, rfl, .inl ⟨SqL.of hD3, fun R nR => ?_⟩⟩
        have B3R := B3.new (o := .tup (rs.map V.int)) nR
        have b3R : But b H2 (upd H3 R (.tup (rs.map V.int))) := b3.trans (new_but nR)
        -- the heights
        refine ⟨_, rfl, n, rfl, by omega, by omega, fun D2 nD2 => ?_⟩
        have nD2b := B3R.nb nD2
        have nD2l := B3R.nl nD2
        refine lc_range (lo := 0) (n := (n : Int).toNat) (fun i H4 => ∃ hs : List Int, hs.length = i ∧ H4 D2 = some (.lst (hs.map V.int)) ∧ BagAt H4 b l ∧ But b (upd H3 R (.tup (rs.map V.int))) H4) ⟨[], rfl, upd_same, B3R.new nD2, new_but nD2⟩ ?_ ?_
        · rintro i H4 hi ⟨hs, hl, hD4, B4, b4⟩
          have fin : ∀ (y : Int) (H5 : Hp), BagAt H5 b l → But b H4 H5 → ∃ acc, H5 D2 = some (.lst acc) ∧ acc.length < sizeLine ∧ ∃ hs' : List Int, hs'.length = i + 1 ∧ (upd H5 D2 (.lst (acc ++ [.int y]))) D2 = some (.lst (hs'.map V.int)) ∧ BagAt (upd H5 D2 (.lst (acc ++ [.int y]))) b l ∧ But b (upd H3 R (.tup (rs.map V.int))) (upd H5 D2 (.lst (acc ++ [.int y]))) := fun y H5 B5 b5 => by
            refine ⟨hs.map V.int, b5 D2 _ nD2b hD4, ?_, hs ++ [y], ?_, ?_, B5.upd nD2b nD2l, ?_⟩
            · rw [List.length_map]
              exact small1000 (by omega)
            · rw [List.length_append, hl]
              rfl
            · rw [upd_same, List.map_append]
              rfl
            · intro x u nx hu
              rw [upd_ne (ne_of_none hu nD2)]
              exact b5 x u nx (b4 x u nx hu)
          refine ⟨rfl, _, rfl, _, _, rfl, rfl, _, rfl, ite2 (fun e3 => ?_) (fun e3 => ?_)⟩
          · exact ⟨_, rfl, b, l, 9, rfl, B4, by decide, by decide, fun g H5 g0 g1 B5 b5 => ⟨_, _, rfl, rfl, fin _ H5 B5 b5⟩⟩
          · refine ⟨_, rfl, _, rfl, _, _, rfl, rfl, .inl ⟨by decide, by decide⟩, b, l, _, rfl, B4, by omega, ?_, fun g H5 g0 g1 B5 b5 => ?_⟩
            · have : ((4 * z)).natAbs < 10000000000 := by omega
              exact Nat.lt_trans this (by decide)
            · exact ⟨_, rfl, _, _, rfl, rfl, .inl ⟨by decide, by decide⟩, _, _, rfl, rfl, fin _ H5 B5 b5⟩
        rintro H4 ⟨hs, hl, hD4, B4, b4⟩
        refine ⟨D2, _, rfl, .inl ⟨SqL.of hD4, fun S nS => ?_⟩⟩
        have B4S := B4.new (o := .tup (hs.map V.int)) nS
        have hA4 : SqT K (upd H4 S (.tup (hs.map V.int))) a (ds.map V.int) := Same.sqT (same_new nS) (b4.sqT B3R (b3R.sqT B2 hA2))
        have hR4 : SqT K (upd H4 S (.tup (hs.map V.int))) R (rs.map V.int) := Same.sqT (same_new nS) (b4.sqT B3R (SqT.of upd_same))
        have hS4 : SqT K (upd H4 S (.tup (hs.map V.int))) S (hs.map V.int) := SqT.of upd_same
        refine ⟨_, rfl, _, rfl, _, rfl, _, rfl, _, rfl, _, _, rfl, rfl, ?_⟩
        refine ⟨b, l, a, ds, n, ?_, B4S, hA4, hD, hd, hn, fun t v H5 t1 t2 t3 t4 B5 b5 => ?_⟩
        · show [V.ref b, V.ref a, V.int (((m + 1 : Nat) : Int) - 1)] = _
          rw [em]
        refine ⟨(by show 4 ≤ sizeLine; decide), fun p np => ?_⟩
        have tN : Tups K H5 (upd H5 p (.tup [.str "key", .ref R, .ref S, v])) := Same.tups (same_new np)
        refine q (.key rs hs t) _ _ ?_ ?_ ?_ ?_ (B5.new np) (((((bt.trans b12).trans b3R).trans b4).trans (new_but nS)).trans (b5.trans (new_but np)))
        · simp only [Tr.wf]
          exact ⟨rl, by omega, rb, t1⟩
        · simp only [Tr.dep]
          omega
        · simp only [Tr.size]
          show t.size + 1 ≤ 1 + 5 * szB m
          omega
        · simp only [TrAt]
          exact ⟨p, R, S, v, rfl, SqT.of upd_same, tN _ _ (b5.sqT B4S hR4), tN _ _ (b5.sqT B4S hS4), TrAt.mono tN t4⟩
theorem ok_scan {f fD fT : Addr} {fd fdD fdT : FuncData} {k : Nat} (F : Fun K "_law_scan" "_law_scan" sScan f fd)
    (GD : FnOk P w K mg base CX0 (k + 3) fD fdD ["_law_bag_here", "_law_directions"] spDivisors) (kD : PySem.W.keepIn K (.ref fD) = true) (bD : Binds K fdD ["_law_bag_here", "_law_directions"] []) (gD : mg "_law_divisors" = some (.ref fD))
    (GT : FnOk P w K mg base CX0 (k + 6) fT fdT ["_law_bag_here", "_law_divisors_here", "_law_depth"] (spTree K 3)) (kT : PySem.W.keepIn K (.ref fT) = true) (bT : Binds K fdT ["_law_bag_here", "_law_divisors_here", "_law_depth"] []) (gT : mg "_law_tree" = some (.ref fT)) :
    FnOk P w K mg base CX0 (k + 7) f fd ["_law_bag_here", "_law_directions"] (spScan K) := by
  refine F.ok scScan (fun vs H Q E h => ?_) (fun cdv A outer s H vs Q E hr h => ?_)
  · obtain ⟨b, l, d, rfl, _⟩ := h
    rfl
  · obtain ⟨b, l, d, rfl, B, d0, d1, q⟩ := h
    have hr3 : Room (k + 3) _ := hr.mono (by omega)
    refine ⟨_, pss_cons (ps_set (i := 2) scScan.nd rfl (.inl rfl) (pe_call GD hr3 (by rfl) gD kD bD .nil pass0 (pa_cons (pv 0) (pa_cons (pv 1) pa_nil))))
      (pss_one (ps_ret (pe_tup (pa_cons (pv 2) (pa_cons (pe_call GT hr (by rfl) gT kT bT .nil pass0 (pa_cons (pv 0) (pa_cons (pv 2) (pa_cons pe_int pa_nil)))) pa_nil))))), ?_⟩
    refine ⟨_, rfl, _, rfl, b, l, d, rfl, B, d0, d1, fun ns H1 a ln D na ha B1 bt => ?_⟩
    have pp := prodL_pos D.one
    have en : prodL ns = (((prodL ns).toNat : Nat) : Int) := by omega
    refine ⟨_, rfl, _, rfl, _, rfl, b, l, a, ns, _, rfl, B1, SqT.of ha, D, by omega, en, fun t v H2 t1 t2 t3 t4 B2 bt2 => ?_⟩
    refine ⟨(by show 2 ≤ sizeLine; decide), fun p np => ?_⟩
    have s3 := same_new (o := .tup [.ref a, v]) np
    exact q ns _ t a p v _ ln D en t1 t2 (Nat.le_trans t3 (by decide)) (Same.sqT s3 (bt2.sqT B1 (SqT.of ha))) (TrAt.mono (Same.tups s3) t4) (SqT.of upd_same) (B2.new np) ((bt.trans bt2).trans (new_but np))
end
end Lk

namespace Lk
open PySem L2
/-! ### a scan -/
def sf (ct nt : Int) (a : Addr) (v : V) : List (Str × V) := putF "own_tree" v (putF "own_divisors" (.ref a) (putF "node_total" (.int nt) (putF "class_total" (.int ct) [])))
theorem putF_len (f : Str) (v : V) : ∀ fs : List (Str × V), (putF f v fs).length ≤ fs.length + 1
  | [] => by simp [putF]
  | (g, u) :: r => by
    have := putF_len f v r
    simp only [putF]
    split <;> simp <;> omega
theorem sf_div (ct nt : Int) (a : Addr) (v : V) : (sf ct nt a v).lookup ("own_divisors" : Str) = some (.ref a) := by
  unfold sf
  rw [lookup_putF, if_neg (by decide +kernel), lookup_putF, if_pos rfl]
theorem sf_tree (ct nt : Int) (a : Addr) (v : V) : (sf ct nt a v).lookup ("own_tree" : Str) = some v := by
  unfold sf
  rw [lookup_putF, if_pos rfl]
theorem sf_path (ct nt : Int) (a : Addr) (v : V) : (sf ct nt a v).lookup ("path" : Str) = none := by
  unfold sf
  rw [lookup_putF, if_neg (by decide +kernel), lookup_putF, if_neg (by decide +kernel), lookup_putF, if_neg (by decide +kernel), lookup_putF, if_neg (by decide +kernel)]
  rfl
/-- a Scan of divisors ds and tree t stands at p -/
structure ScanAt (K : PySem.W.Frag) (C : Addr) (H : Hp) (p : Addr) (ds : List Int) (n : Nat) (t : Tr) : Prop where
  ob : ∃ dx ct nt a v, H p = some (.ins C dx (sf ct nt a v)) ∧ SqT K H a (ds.map V.int) ∧ TrAt K H t v
  dv : Divs ds
  l1 : 1 ≤ ds.length
  l3 : ds.length ≤ 3
  pr : prodL ds = (n : Int)
  wf : t.wf ds.length n
  dp : t.dep ≤ 20
theorem ScanAt.same {K : PySem.W.Frag} {C : Addr} {H H' : Hp} {p : Addr} {ds : List Int} {n : Nat} {t : Tr} (S : ScanAt K C H p ds n t) (e : Same H H') : ScanAt K C H' p ds n t := by
  obtain ⟨⟨dx, ct, nt, a, v, h1, h2, h3⟩, r1, r2, r3, r4, r5, r6⟩ := S
  exact ⟨⟨dx, ct, nt, a, v, e _ _ h1, Same.sqT e h2, TrAt.mono (Same.tups e) h3⟩, r1, r2, r3, r4, r5, r6⟩
theorem ScanAt.but {K : PySem.W.Frag} {C b l : Addr} {H H' : Hp} {p : Addr} {ds : List Int} {n : Nat} {t : Tr} (S : ScanAt K C H p ds n t) (B : BagAt H b l) (e : But b H H') : ScanAt K C H' p ds n t := by
  obtain ⟨⟨dx, ct, nt, a, v, h1, h2, h3⟩, r1, r2, r3, r4, r5, r6⟩ := S
  obtain ⟨ys, hb⟩ := B.lst
  exact ⟨⟨dx, ct, nt, a, v, e _ _ (ne_of h1 hb (by intro z; cases z)) h1, e.sqT B h2, TrAt.mono (But.tups B e) h3⟩, r1, r2, r3, r4, r5, r6⟩
def full (ds : List Int) (t : Tr) (x : List Int) : List Int := pth t (cls ds x) x ++ x
structure Txt (K : PySem.W.Frag) (mg : Str → Option Value) (C : Addr) : Prop where
  cl : Cls K C
  n1 : NoAttr K C "class_total"
  n2 : NoAttr K C "node_total"
  n3 : NoAttr K C "own_divisors"
  n4 : NoAttr K C "own_tree"
  mgC : mg "Scan" = some (.ref C)
  rd : ClX.CRead K C (.type "type")
  c1 : ∃ u, ClX.CVal K C (.type "type") "MAX_NODES" (.int 200) u
  c2 : ∃ u, ClX.CVal K C (.type "type") "MAX_DEPTH" (.int 20) u
def spInit (K : PySem.W.Frag) (C : Addr) : Sp := fun vs H Q _ => ∃ (p dx a : Addr) (v : V) (ds : List Int) (n : Nat) (t : Tr), vs = [.ref p, .ref a, v] ∧ H p = some (.ins C dx []) ∧ SqT K H a (ds.map V.int) ∧ TrAt K H t v ∧ Divs ds ∧ 1 ≤ ds.length ∧ ds.length ≤ 3 ∧ prodL ds = (n : Int) ∧ t.wf ds.length n ∧ t.size ≤ 200 ∧ t.dep ≤ 20 ∧
  ∀ H' : Hp, ScanAt K C H' p ds n t → (∀ b o, H b = some o → b ≠ p → H' b = some o) → Q .non H'
def spSPath (K : PySem.W.Frag) (C : Addr) : Sp := fun vs H Q _ => ∃ (p c : Addr) (ds : List Int) (n : Nat) (t : Tr) (x : List Int), vs = [.ref p, .ref c] ∧ ScanAt K C H p ds n t ∧ SqT K H c (x.map V.int) ∧ x.length = ds.length ∧
  ∀ (H' : Hp) (q : Addr), Same H H' → SqT K H' q ((full ds t x).map V.int) → Q (.ref q) H'
def spCall (K : PySem.W.Frag) (C : Addr) : Sp := fun vs H Q _ => ∃ (p c d : Addr) (ds : List Int) (n : Nat) (t : Tr) (x y : List Int), vs = [.ref p, .ref c, .ref d] ∧ ScanAt K C H p ds n t ∧ SqT K H c (x.map V.int) ∧ SqT K H d (y.map V.int) ∧ x.length = ds.length ∧ y.length = ds.length ∧
  ∀ H' : Hp, Same H H' → Q (.bl (HT.lexLt (full ds t x) (full ds t y))) H'
theorem pth_len : ∀ (m : Nat) (t : Tr), t.dep ≤ m → ∀ (c : Int) (x : List Int), (pth t c x).length ≤ m := by
  have hG : ∀ (m : Nat) (g : Gs), (∀ t ∈ g.trees, ∀ (c : Int) (x : List Int), (pth t c x).length ≤ m) → ∀ (i c : Int) (x : List Int), (pthG g i c x).length ≤ m + 1 := by
    intro m g
    match g with
    | .nil => intro _ i c x; simp [pthG]
    | .cons cs t r =>
      intro h i c x
      simp only [pthG]
      split
      · have := h t List.mem_cons_self c x
        simp only [List.length_cons]
        omega
      · exact (by
          have aux : ∀ (g : Gs), (∀ t ∈ g.trees, ∀ (c : Int) (x : List Int), (pth t c x).length ≤ m) → ∀ (i c : Int) (x : List Int), (pthG g i c x).length ≤ m + 1 := by
            intro g
            induction g using Gs.rec (motive_1 := fun _ => True) with
            | pl => trivial
            | key _ _ _ _ => trivial
            | fork _ _ => trivial
            | nil => intro _ i c x; simp [pthG]
            | cons cs t r _ ih =>
              intro h i c x
              simp only [pthG]
              split
              · have := h t List.mem_cons_self c x
                simp only [List.length_cons]
                omega
              · exact ih (fun t ht => h t (List.mem_cons_of_mem _ ht)) (i + 1) c x
          exact aux r (fun t ht => h t (List.mem_cons_of_mem _ ht)) (i + 1) c x)
  intro m
  induction m with
  | zero =>
    intro t h
    have := (Tr.deep t).2
    omega
  | succ m ih =>
    intro t h c x
    cases t with
    | pl => simp [pth]
    | key row hs t =>
      simp only [Tr.dep] at h
      have := ih t (by omega) c x
      simp only [pth, List.length_cons]
      omega
    | fork g =>
      simp only [Tr.dep] at h
      simp only [pth]
      exact hG m g (fun t ht c x => ih t (by have := Gs.dep_trees g t ht; omega) c x) 0 c x
section
variable {P : Program} {w : World} {K : PySem.W.Frag} {mg : Str → Option Value} {base : Heap}
theorem ok_init {f fC fN C : Addr} {fd fdC fdN : FuncData} {dvs : List V} {k : Nat} (F : FunD K "__init__" "Scan.__init__" (defArgs sInit) (defBody sInit) (defScope sInit) dvs [] f fd) (T : Txt K mg C)
    (GC : FnOk P w K mg base CX0 (k + 5) fC fdC ["divisors"] (spClassCount K)) (kC : PySem.W.keepIn K (.ref fC) = true) (bC : Binds K fdC ["divisors"] []) (gC : mg "class_count" = some (.ref fC))
    (GN : FnOk P w K mg base CX0 (k + 7) fN fdN ["tree", "divisors", "most_nodes", "most_depth"] (spNodes K)) (kN : PySem.W.keepIn K (.ref fN) = true) (bN : Binds K fdN ["tree", "divisors", "most_nodes", "most_depth"] []) (gN : mg "count_nodes" = some (.ref fN)) :
    FnOk P w K mg base CX0 (k + 8) f fd ["self", "divisors", "tree"] (spInit K C) := by
  refine F.ok scInit (fun vs H Q E h => ?_) (fun cdv A outer s H vs Q E hr h => ?_)
  · obtain ⟨p, dx, a, v, ds, n, t, rfl, _⟩ := h
    rfl
  · obtain ⟨p, dx, a, v, ds, n, t, rfl, hp, hA, hT, hD, l1, l3, hn, hw, hz, hdp, q⟩ := h
    have hr5 : Room (k + 5) _ := hr.mono (by omega)
    obtain ⟨u1, c1⟩ := T.c1
    obtain ⟨u2, c2⟩ := T.c2
    refine ⟨_, PSs.nox (pss_cons (ps_fld (pv 0) (pe_call GC hr5 (by rfl) gC kC bC .nil pass0 (pa_cons (pv 1) pa_nil)) rfl)
      (pss_cons (ps_fld (pv 0) (pe_call GN hr (by rfl) gN kN bN .nil pass0 (pa_cons (pv 2) (pa_cons (pv 1) (pa_cons (ClX.pe_cval (pe_glob (v := .ref C) (by rfl) T.mgC rfl)) (pa_cons (ClX.pe_cval (pe_glob (v := .ref C) (by rfl) T.mgC rfl)) pa_nil))))) rfl)
      (pss_cons (ps_fld (pv 0) (pv 1) rfl) (pss_one (ps_fld (pv 0) (pv 2) rfl))))), ?_⟩
    refine ⟨_, rfl, a, ds, rfl, hA, l1, l3, hD, fun H1 s1 => ?_⟩
    have hp1 := s1 _ _ hp
    refine ⟨_, rfl, p, C, dx, [], rfl, hp1, T.cl, T.n1, (by show 0 < 1000; decide), ?_⟩
    have t1 : Tups K H1 (upd H1 p (.ins C dx (putF "class_total" (.int (prodL ds)) []))) := fun x ys e => by
      rcases e with (e | ⟨o, e⟩) | e
      · exact .inl (.inl (by rw [upd_ne (ne_of e hp1 (by intro z; cases z))]; exact e))
      · exact .inl (.inr ⟨o, by rw [upd_ne (ne_of e hp1 (by intro z; cases z))]; exact e⟩)
      · exact .inr e
    have t01 : Tups K H (upd H1 p (.ins C dx (putF "class_total" (.int (prodL ds)) []))) := fun x ys e => t1 x ys (Same.sqT s1 e)
    refine ⟨_, rfl, _, rfl, C, _, _, _, rfl, T.rd, c1, C, _, _, _, rfl, T.rd, c2, v, a, t, ds, n, rfl, TrAt.mono t01 hT, t01 _ _ hA, hD, l3, hn, hw, hz, hdp, fun H2 s2 => ?_⟩
    have hp2 := s2 _ _ (upd_same (H := H1) (a := p) (o := .ins C dx (putF "class_total" (.int (prodL ds)) [])))
    have e1 : (putF "class_total" (.int (prodL ds)) []).length ≤ 1 := putF_len _ _ _
    have e2 : (putF "node_total" (.int (t.size : Int)) (putF "class_total" (.int (prodL ds)) [])).length ≤ 2 := Nat.le_trans (putF_len _ _ _) (by omega)
    have e3 : (putF "own_divisors" (.ref a) (putF "node_total" (.int (t.size : Int)) (putF "class_total" (.int (prodL ds)) []))).length ≤ 3 := Nat.le_trans (putF_len _ _ _) (by omega)
    refine ⟨_, rfl, p, C, dx, _, rfl, hp2, T.cl, T.n2, by omega, ?_⟩
    refine ⟨_, rfl, _, rfl, p, C, dx, _, rfl, upd_same, T.cl, T.n3, by omega, ?_⟩
    refine ⟨_, rfl, _, rfl, p, C, dx, _, rfl, upd_same, T.cl, T.n4, by omega, ?_⟩
    rw [upd_upd, upd_upd]
    have t2 : Tups K H2 (upd H2 p (.ins C dx (sf (prodL ds) (t.size : Int) a v))) := fun x ys e => by
      rcases e with (e | ⟨o, e⟩) | e
      · exact .inl (.inl (by rw [upd_ne (ne_of e hp2 (by intro z; cases z))]; exact e))
      · exact .inl (.inr ⟨o, by rw [upd_ne (ne_of e hp2 (by intro z; cases z))]; exact e⟩)
      · exact .inr e
    have t02 : Tups K H (upd H2 p (.ins C dx (sf (prodL ds) (t.size : Int) a v))) := fun x ys e => t2 x ys (Same.sqT s2 (t01 x ys e))
    refine q _ ⟨⟨dx, _, _, a, v, upd_same, t02 _ _ hA, TrAt.mono t02 hT⟩, hD, l1, l3, hn, hw, hdp⟩ fun b o e hb => ?_
    rw [upd_ne hb]
    refine s2 _ _ ?_
    rw [upd_ne hb]
    exact s1 _ _ e
theorem ok_spath {f fC fT C : Addr} {fd fdC fdT : FuncData} {k : Nat} (F : Fun K "path" "Scan.path" sSPath f fd) (T : Txt K mg C) (ml : mg "len" = none)
    (GC : FnOk P w K mg base CX0 (k + 3) fC fdC ["place", "directions"] (spChkPlace K)) (kC : PySem.W.keepIn K (.ref fC) = true) (bC : Binds K fdC ["place", "directions"] []) (gC : mg "check_place" = some (.ref fC))
    (GT : FnOk P w K mg base CX0 (k + 2) fT fdT ["tree", "divisors", "place"] (spTPath K)) (kT : PySem.W.keepIn K (.ref fT) = true) (bT : Binds K fdT ["tree", "divisors", "place"] []) (gT : mg "tree_path" = some (.ref fT)) :
    FnOk P w K mg base CX0 (k + 4) f fd ["self", "place"] (spSPath K C) := by
  refine F.ok scSPath (fun vs H Q E h => ?_) (fun cdv A outer s H vs Q E hr h => ?_)
  · obtain ⟨p, c, ds, n, t, x, rfl, _⟩ := h
    rfl
  · obtain ⟨p, c, ds, n, t, x, rfl, S, hc, lx, q⟩ := h
    have hr2 : Room (k + 2) _ := hr.mono (by omega)
    refine ⟨_, pss_cons (ps_expr (pe_call GC hr (by rfl) gC kC bC .nil pass0 (pa_cons (pv 1) (pa_cons (pe_callB call_len_seq (by rfl) ml PySem.boot_len (pa_cons (pe_fld (pv 0) rfl) pa_nil)) pa_nil))))
      (pss_one (ps_ret (pe_op op_catA (pe_call GT hr2 (by rfl) gT kT bT .nil pass0 (pa_cons (pe_fld (pv 0) rfl) (pa_cons (pe_fld (pv 0) rfl) (pa_cons (pv 1) pa_nil)))) (pv 1)))), ?_⟩
    obtain ⟨⟨dx, ct, nt, a, v, h1, h2, h3⟩, hD, l1, l3, hn, hw, hdp⟩ := id S
    refine ⟨_, rfl, _, rfl, p, C, dx, _, _, rfl, h1, T.cl, T.n3, sf_div _ _ _ _, a, _, rfl, .inr h2, c, x, _, rfl, hc, ?_, by omega, fun H1 s1 => ?_⟩
    · rw [List.length_map, lx]
    have h1' := s1 _ _ h1
    refine ⟨_, rfl, p, C, dx, _, _, rfl, h1', T.cl, T.n4, sf_tree _ _ _ _, _, rfl, p, C, dx, _, _, rfl, h1', T.cl, T.n3, sf_div _ _ _ _, _, rfl, v, a, c, t, ds, x, n, rfl, TrAt.mono (Same.tups s1) h3, Same.sqT s1 h2, Same.sqT s1 hc, lx.symm, hD, l3, hn, hw, hdp, fun H2 r s2 hr2 => ?_⟩
    have s12 := s1.trans s2
    have hc2 : SqT K H2 c (x.map V.int) := Same.sqT s12 hc
    have pl := pth_len 20 t hdp (cls ds x) x
    refine ⟨_, rfl, r, c, _, _, rfl, rfl, SqT.of hr2, hc2, ?_, fun e => ?_, fun e1 e2 => ?_, fun e1 e2 z nz => ?_⟩
    · rw [List.length_map, List.length_map]
      exact Nat.le_of_lt (small1000 (by omega))
    · have e' : pth t (cls ds x) x = [] := List.map_eq_nil_iff.mp e
      refine q H2 c s12 ?_
      unfold full
      rw [e', List.nil_append]
      exact hc2
    · have e' : x = [] := List.map_eq_nil_iff.mp e2
      rw [e'] at lx
      have : ds.length = 0 := by rw [← lx]; rfl
      omega
    · refine q _ z (s12.trans (same_new nz)) (SqT.of ?_)
      rw [upd_same]
      unfold full
      rw [List.map_append]
theorem ok_call {f fP C : Addr} {fd fdP : FuncData} {k : Nat} (F : Fun K "__call__" "Scan.__call__" sCall f fd) (T : Txt K mg C)
    (GP : FnOk P w K mg base CX0 (k + 4) fP fdP ["self", "place"] (spSPath K C)) (bP : Binds K fdP ["self", "place"] []) (mP : Meth K C "path" fP) :
    FnOk P w K mg base CX0 (k + 5) f fd ["self", "one", "other"] (spCall K C) := by
  refine F.ok scCall (fun vs H Q E h => ?_) (fun cdv A outer s H vs Q E hr h => ?_)
  · obtain ⟨p, c, d, ds, n, t, x, y, rfl, _⟩ := h
    rfl
  · obtain ⟨p, c, d, ds, n, t, x, y, rfl, S, hc, hd, lx, ly, q⟩ := h
    refine ⟨_, pss_one (ps_ret (pe_cmpR (op_ltT hr.units0) (pe_meth (pv 0) T.cl mP GP hr bP .nil pass0 (pa_cons (pv 1) pa_nil)) (pe_meth (pv 0) T.cl mP GP hr bP .nil pass0 (pa_cons (pv 2) pa_nil)) (nomark _))), ?_⟩
    obtain ⟨⟨dx, ct, nt, a, v, h1, h2, h3⟩, _⟩ := id S
    refine ⟨_, rfl, p, dx, _, rfl, h1, sf_path _ _ _ _, _, rfl, p, c, ds, n, t, x, rfl, S, hc, lx, fun H1 r s1 hr1 => ?_⟩
    refine ⟨_, rfl, p, dx, _, rfl, s1 _ _ h1, sf_path _ _ _ _, _, rfl, p, d, ds, n, t, y, rfl, S.same s1, Same.sqT s1 hd, ly, fun H2 r2 s2 hr2 => ?_⟩
    exact ⟨r, r2, _, _, rfl, rfl, Same.sqT s2 hr1, hr2, q H2 (s1.trans s2)⟩
end
end Lk

namespace Lk
open PySem L2
abbrev lx := HT.lexLt
abbrev plus (x f : List Int) : List Int := List.zipWith (· + ·) x f
theorem lx_irr : ∀ x : List Int, lx x x = false
  | [] => rfl
  | a :: r => by
    show (if a = a then lx r r else decide (a < a)) = false
    rw [if_pos rfl]
    exact lx_irr r
theorem lx_trans : ∀ {x y z : List Int}, lx x y = true → lx y z = true → lx x z = true
  | [], [], _, h, _ => by cases h
  | [], _ :: _, [], _, h => by cases h
  | [], _ :: _, _ :: _, _, _ => rfl
  | _ :: _, [], _, h, _ => by cases h
  | _ :: _, _ :: _, [], _, h => by cases h
  | a :: x, b :: y, c :: z, h1, h2 => by
    have h1 : (if a = b then lx x y else decide (a < b)) = true := h1
    have h2 : (if b = c then lx y z else decide (b < c)) = true := h2
    show (if a = c then lx x z else decide (a < c)) = true
    by_cases e1 : a = b
    · rw [if_pos e1] at h1
      by_cases e2 : b = c
      · rw [if_pos e2] at h2
        rw [if_pos (e1.trans e2)]
        exact lx_trans h1 h2
      · rw [if_neg e2] at h2
        have := of_decide_eq_true h2
        rw [if_neg (by omega)]
        exact decide_eq_true (by omega)
    · rw [if_neg e1] at h1
      have a1 := of_decide_eq_true h1
      by_cases e2 : b = c
      · rw [if_neg (by omega)]
        exact decide_eq_true (by omega)
      · rw [if_neg e2] at h2
        have a2 := of_decide_eq_true h2
        rw [if_neg (by omega)]
        exact decide_eq_true (by omega)
theorem lx_total : ∀ {x y : List Int}, x ≠ y → lx x y = true ∨ lx y x = true
  | [], [], h => absurd rfl h
  | [], _ :: _, _ => .inl rfl
  | _ :: _, [], _ => .inr rfl
  | a :: x, b :: y, h => by
    show (if a = b then lx x y else decide (a < b)) = true ∨ (if b = a then lx y x else decide (b < a)) = true
    by_cases e : a = b
    · subst e
      rw [if_pos rfl, if_pos rfl]
      exact lx_total fun z => h (by rw [z])
    · rw [if_neg e, if_neg fun z => e z.symm]
      by_cases l : a < b
      · exact .inl (decide_eq_true l)
      · exact .inr (decide_eq_true (by omega))
theorem lx_shift : ∀ {x y f : List Int}, x.length = f.length → y.length = f.length → lx (plus x f) (plus y f) = lx x y
  | [], [], [], _, _ => rfl
  | a :: x, b :: y, c :: f, h1, h2 => by
    have ih := lx_shift (x := x) (y := y) (f := f) (by simpa using h1) (by simpa using h2)
    show (if a + c = b + c then lx (plus x f) (plus y f) else decide (a + c < b + c)) = (if a = b then lx x y else decide (a < b))
    rw [ih]
    by_cases e : a = b
    · rw [if_pos e, if_pos (by omega)]
    · rw [if_neg e, if_neg (by omega)]
      by_cases l : a < b
      · rw [decide_eq_true l, decide_eq_true (by omega)]
      · rw [decide_eq_false l, decide_eq_false (by omega)]
  | [], _, _ :: _, h, _ => by cases h
  | _ :: _, _, [], h, _ => by cases h
  | _, [], _ :: _, _, h => by cases h
  | _, _ :: _, [], _, h => by cases h
theorem dot_plus : ∀ {r x f : List Int}, x.length = f.length → dotL r (plus x f) = dotL r x + dotL r f
  | [], _, _, _ => by simp [dotL]
  | a :: r, [], [], _ => by simp [dotL, plus]
  | a :: r, b :: x, c :: f, h => by
    have ih := dot_plus (r := r) (x := x) (f := f) (by simpa using h)
    unfold dotL plus at ih ⊢
    simp only [List.zipWith_cons_cons, List.sum_cons]
    rw [ih, Int.mul_add]
    omega
  | _ :: _, [], _ :: _, h => by cases h
  | _ :: _, _ :: _, [], h => by cases h
theorem pthG_head : ∀ {g : Gs} {c : Int} (i : Int), c ∈ g.classes → ∃ (j : Int) (t : Tr), i ≤ j ∧ ∀ x, pthG g i c x = j :: pth t c x
  | .nil, c, i, h => by simp [Gs.classes] at h
  | .cons cs t r, c, i, h => by
    by_cases hc : c ∈ cs
    · exact ⟨i, t, Int.le_refl _, fun x => by simp only [pthG]; rw [if_pos hc]⟩
    · simp only [Gs.classes] at h
      have h2 : c ∈ r.classes := by
        rcases List.mem_append.mp h with e | e
        · exact absurd e hc
        · exact e
      obtain ⟨j, t', hj, e⟩ := pthG_head (g := r) (i + 1) h2
      exact ⟨j, t', by omega, fun x => by simp only [pthG]; rw [if_neg hc]; exact e x⟩
mutual
theorem pth_shift {d n : Nat} {c1 c2 : Int} (b1 : 0 ≤ c1 ∧ c1 < n) (b2 : 0 ≤ c2 ∧ c2 < n) {x y f : List Int} (hx : x.length = f.length) (hy : y.length = f.length) :
    ∀ t : Tr, t.wf d n → lx (pth t c1 (plus x f) ++ plus x f) (pth t c2 (plus y f) ++ plus y f) = lx (pth t c1 x ++ x) (pth t c2 y ++ y)
  | .pl, _ => by
    simp only [pth, List.nil_append]
    exact lx_shift hx hy
  | .key row hs t, w => by
    simp only [Tr.wf] at w
    have ih : HT.lexLt (pth t c1 (plus x f) ++ plus x f) (pth t c2 (plus y f) ++ plus y f) = HT.lexLt (pth t c1 x ++ x) (pth t c2 y ++ y) := pth_shift b1 b2 hx hy t w.2.2.2
    simp only [pth, List.cons_append]
    rw [dot_plus hx, dot_plus hy]
    show (if dotL row x + dotL row f + hs.getD c1.toNat 0 = dotL row y + dotL row f + hs.getD c2.toNat 0 then _ else decide (dotL row x + dotL row f + hs.getD c1.toNat 0 < dotL row y + dotL row f + hs.getD c2.toNat 0)) = (if dotL row x + hs.getD c1.toNat 0 = dotL row y + hs.getD c2.toNat 0 then _ else decide (dotL row x + hs.getD c1.toNat 0 < dotL row y + hs.getD c2.toNat 0))
    rw [ih]
    by_cases e : dotL row x + hs.getD c1.toNat 0 = dotL row y + hs.getD c2.toNat 0
    · rw [if_pos e, if_pos (by omega)]
    · rw [if_neg e, if_neg (by omega)]
      by_cases l : dotL row x + hs.getD c1.toNat 0 < dotL row y + hs.getD c2.toNat 0
      · rw [decide_eq_true l, decide_eq_true (by omega)]
      · rw [decide_eq_false l, decide_eq_false (by omega)]
  | .fork g, w => by
    simp only [Tr.wf] at w
    simp only [pth]
    exact pthG_shift b1 b2 hx hy g 0 (w.1.mem_iff.mpr (mem_rng0 b1.1 b1.2)) (w.1.mem_iff.mpr (mem_rng0 b2.1 b2.2)) w.2
theorem pthG_shift {d n : Nat} {c1 c2 : Int} (b1 : 0 ≤ c1 ∧ c1 < n) (b2 : 0 ≤ c2 ∧ c2 < n) {x y f : List Int} (hx : x.length = f.length) (hy : y.length = f.length) :
    ∀ (g : Gs) (i : Int), c1 ∈ g.classes → c2 ∈ g.classes → g.wf d n → lx (pthG g i c1 (plus x f) ++ plus x f) (pthG g i c2 (plus y f) ++ plus y f) = lx (pthG g i c1 x ++ x) (pthG g i c2 y ++ y)
  | .nil, i, h, _, _ => by simp [Gs.classes] at h
  | .cons cs t r, i, h1, h2, w => by
    simp only [Gs.wf] at w
    simp only [Gs.classes] at h1 h2
    simp only [pthG]
    by_cases m1 : c1 ∈ cs
    · by_cases m2 : c2 ∈ cs
      · rw [if_pos m1, if_pos m2, if_pos m1, if_pos m2]
        have ih := pth_shift b1 b2 hx hy t w.2.1
        simp only [List.cons_append]
        show (if i = i then _ else _) = (if i = i then _ else _)
        rw [if_pos rfl, if_pos rfl]
        exact ih
      · have h2' : c2 ∈ r.classes := by
          rcases List.mem_append.mp h2 with e | e
          · exact absurd e m2
          · exact e
        obtain ⟨j, t', hj, e⟩ := pthG_head (i + 1) h2'
        rw [if_pos m1, if_neg m2, if_pos m1, if_neg m2, e, e]
        simp only [List.cons_append]
        show (if i = j then _ else decide (i < j)) = (if i = j then _ else decide (i < j))
        rw [if_neg (by omega), if_neg (by omega)]
    · have h1' : c1 ∈ r.classes := by
        rcases List.mem_append.mp h1 with e | e
        · exact absurd e m1
        · exact e
      by_cases m2 : c2 ∈ cs
      · obtain ⟨j, t', hj, e⟩ := pthG_head (i + 1) h1'
        rw [if_neg m1, if_pos m2, if_neg m1, if_pos m2, e, e]
        simp only [List.cons_append]
        show (if j = i then _ else decide (j < i)) = (if j = i then _ else decide (j < i))
        rw [if_neg (by omega), if_neg (by omega)]
      · have h2' : c2 ∈ r.classes := by
          rcases List.mem_append.mp h2 with e | e
          · exact absurd e m2
          · exact e
        rw [if_neg m1, if_neg m2, if_neg m1, if_neg m2]
        exact pthG_shift b1 b2 hx hy r (i + 1) h1' h2' w.2.2
end
/-- far: each number a multiple of its divisor -/
def Far : List Int → List Int → Prop
  | [], [] => True
  | d :: ds, f :: fs => (∃ m, f = m * d) ∧ Far ds fs
  | _, _ => False
theorem Far.len : ∀ {ds fs : List Int}, Far ds fs → fs.length = ds.length
  | [], [], _ => rfl
  | _ :: _, _ :: _, h => by simp [Far.len h.2]
  | [], _ :: _, h => h.elim
  | _ :: _, [], h => h.elim
theorem Far.app {d m : Int} : ∀ {ds fs : List Int}, Far ds fs → Far (ds ++ [d]) (fs ++ [m * d])
  | [], [], _ => ⟨⟨m, rfl⟩, trivial⟩
  | _ :: _, _ :: _, h => ⟨h.1, Far.app h.2⟩
  | [], _ :: _, h => h.elim
  | _ :: _, [], h => h.elim
theorem cls_far : ∀ {ds x f : List Int}, Far ds f → x.length = ds.length → ∀ n, clsF (ds.zip (plus x f)) n = clsF (ds.zip x) n
  | [], _, _, _, _, n => by simp
  | d :: ds, [], _, _, h, n => by cases h
  | d :: ds, a :: x, [], h, _, n => h.elim
  | d :: ds, a :: x, c :: f, ⟨⟨m, hm⟩, h⟩, hl, n => by
    show clsF (ds.zip (plus x f)) (n * d + (a + c) % d) = clsF (ds.zip x) (n * d + a % d)
    rw [cls_far h (by simpa using hl), hm, Int.add_mul_emod_self_right]
theorem plus_len {x f : List Int} (h : x.length = f.length) : (plus x f).length = f.length := by
  unfold plus
  rw [List.length_zipWith, h]
  exact Nat.min_self _
theorem full_shift {ds : List Int} {n : Nat} {t : Tr} {x y f : List Int} (D : Divs ds) (hn : prodL ds = (n : Int)) (w : t.wf ds.length n) (F : Far ds f) (hx : x.length = ds.length) (hy : y.length = ds.length) :
    lx (full ds t (plus x f)) (full ds t (plus y f)) = lx (full ds t x) (full ds t y) := by
  have lf := F.len
  have bd : ∀ z : List Int, z.length = ds.length → 0 ≤ cls ds z ∧ cls ds z < n := fun z hz => by
    have b := cls_bound hz.symm D.one (ds.zip z).length
    rw [List.take_length, List.take_of_length_le (by rw [List.length_zip]; omega), hn] at b
    exact b
  unfold full
  have e1 : cls ds (plus x f) = cls ds x := cls_far F hx 0
  have e2 : cls ds (plus y f) = cls ds y := cls_far F hy 0
  rw [e1, e2]
  exact pth_shift (bd x hx) (bd y hy) (by omega) (by omega) t w
theorem full_ne {ds : List Int} {t : Tr} {x y : List Int} (hx : x.length = ds.length) (hy : y.length = ds.length) (h : x ≠ y) : full ds t x ≠ full ds t y := fun e => by
  unfold full at e
  exact h (List.append_inj_right' e (by omega))
theorem eqv_tup : ∀ xs ys : List Int, PyData.eqvAll (xs.map PyData.int) (ys.map PyData.int) = decide (xs = ys)
  | [], [] => by simp [PyData.eqvAll]
  | [], _ :: _ => by simp [PyData.eqvAll]
  | _ :: _, [] => by simp [PyData.eqvAll]
  | a :: r, b :: t => by
    simp only [List.map_cons, PyData.eqvAll, PyData.eqv, eqv_tup r t]
    by_cases h : a = b <;> by_cases h' : r = t <;> simp [h, h']
theorem shT (ns : List Int) : SeqAt.shaped (.tuple (ns.map PyData.int)) = true := by
  unfold SeqAt.shaped
  simp [PyData.canLay0, PyData.depth, canInts, depInts]
end Lk

namespace Lk
open PySem L2
def spLaw (K : PySem.W.Frag) : Sp := fun vs H Q _ => ∃ (a : Addr) (ns : List Int), vs = [.ref a] ∧ SqL K H a (ns.map V.int) ∧ ∀ H', Q (.bl true) H'
theorem BagAt.same {H H' : Hp} {b l : Addr} (B : BagAt H b l) (e : Same H H') : BagAt H' b l := by
  obtain ⟨x1, x2, x3, x4, Z⟩ := B
  exact ⟨x1, x2, x3, x4, e _ _ Z.ob, e _ _ Z.ls, Z.i0, Z.i1, Z.g0, Z.s0, Z.s1⟩
theorem callo {X : Cx} {K : PySem.W.Frag} {C x c d : Addr} {H : Hp} {ds : List Int} {n : Nat} {t : Tr} {xs ys : List Int} {Q : VK} {E : XK} (S : ScanAt K C H x ds n t) (hc : SqT K H c (xs.map V.int)) (hd : SqT K H d (ys.map V.int)) (h1 : xs.length = ds.length) (h2 : ys.length = ds.length)
    (h : ∀ H', Same H H' → Q (.bl (HT.lexLt (full ds t xs) (full ds t ys))) H') : StX.InsC X H x C ∧ spCall K C ([.ref x, .ref c, .ref d] ++ []) H Q E := by
  obtain ⟨⟨dx, ct, nt, a, v, g1, g2, g3⟩, _⟩ := id S
  exact ⟨.inr ⟨dx, _, g1⟩, x, c, d, ds, n, t, xs, ys, rfl, S, hc, hd, h1, h2, h⟩
section
variable {P : Program} {w : World} {K : PySem.W.Frag} {mg : Str → Option Value} {base : Heap}
theorem ok_law {f fB fP fS fL fA fI fC C : Addr} {fd fdB fdP fdS fdL fdA fdI fdC : FuncData} {k : Nat} (F : Fun K "law" "law" sLaw f fd) (T : Txt K mg C) (mr : mg "range" = none) (mt : mg "tuple" = none)
    (GB : FnOk P w K mg base CX0 (k + 1) fB fdB ["_law_script"] (spBag K)) (kB : PySem.W.keepIn K (.ref fB) = true) (bB : Binds K fdB ["_law_script"] []) (gB : mg "_law_bag" = some (.ref fB))
    (GP : FnOk P w K mg base CX0 (k + 1) fP fdP ["_law_bag_here", "_law_amount"] spPull) (kp : PySem.W.keepIn K (.ref fP) = true) (bP : Binds K fdP ["_law_bag_here", "_law_amount"] []) (gP : mg "_law_pull" = some (.ref fP))
    (GS : FnOk P w K mg base CX0 (k + 7) fS fdS ["_law_bag_here", "_law_directions"] (spScan K)) (kS : PySem.W.keepIn K (.ref fS) = true) (bS : Binds K fdS ["_law_bag_here", "_law_directions"] []) (gS : mg "_law_scan" = some (.ref fS))
    (GL : FnOk P w K mg base CX0 (k + 2) fL fdL ["_law_bag_here", "_law_directions", "_law_size"] spPlace) (kL : PySem.W.keepIn K (.ref fL) = true) (bL : Binds K fdL ["_law_bag_here", "_law_directions", "_law_size"] []) (gL : mg "_law_place" = some (.ref fL))
    (GA : FnOk P w K mg base CX0 (k + 1) fA fdA ["_law_one", "_law_other"] (spPlus K)) (kA : PySem.W.keepIn K (.ref fA) = true) (bA : Binds K fdA ["_law_one", "_law_other"] []) (gA : mg "_law_plus" = some (.ref fA))
    (GI : FnOk P w K mg base CX0 (k + 8) fI fdI ["self", "divisors", "tree"] (spInit K C)) (bI : Binds K fdI ["self", "divisors", "tree"] []) (MI : Mk K C fI)
    (GC : FnOk P w K mg base CX0 (k + 5) fC fdC ["self", "one", "other"] (spCall K C)) (bC : Binds K fdC ["self", "one", "other"] []) (cO : StX.CallO K C fC) :
    FnOk P w K mg base CX0 (k + 10) f fd ["_law_script"] (spLaw K) := by
  refine F.ok scLaw (fun vs H Q E h => ?_) (fun cdv A outer s H vs Q E hr h => ?_)
  · obtain ⟨a, ns, rfl, _⟩ := h
    rfl
  · obtain ⟨a0, ns, rfl, hS0, q⟩ := h
    have hr1 : Room (k + 1) _ := hr.mono (by omega)
    have hr2 : Room (k + 2) _ := hr.mono (by omega)
    have hr7 : Room (k + 7) _ := hr.mono (by omega)
    have hr9 : Room (k + 8 + 1) _ := hr.mono (by omega)
    have hr5 : Room (k + 5) _ := hr.mono (by omega)
    have GR := FnOk.raw GC bC (dvs := []) .nil
    refine ⟨_, pss_cons (ps_set (i := 1) scLaw.nd rfl (.inr rfl) (pe_call GB hr1 (by rfl) gB kB bB .nil pass0 (pa_cons (pv 0) pa_nil)))
      (pss_cons (ps_for PassesOwn.never rfl (pi_range1 (by rfl) mr (pa_cons pe_int pa_nil)) (pg_name (i := 2) scLaw.nd rfl (.inl rfl))
        (pss_cons (ps_set (i := 3) scLaw.nd rfl (.inl rfl) (pe_op op_add pe_int (pe_call GP hr1 (by rfl) gP kp bP .nil pass0 (pa_cons (pv 1) (pa_cons pe_int pa_nil)))))
        (pss_cons (ps_asg (pe_call GS hr7 (by rfl) gS kS bS .nil pass0 (pa_cons (pv 1) (pa_cons (pv 3) pa_nil))) (pg_tup rfl (pgs_cons (pg_name (i := 4) scLaw.nd rfl (.inl rfl)) (pgs_cons (pg_name (i := 5) scLaw.nd rfl (.inl rfl)) pgs_nil))))
        (pss_cons (ps_set (i := 6) scLaw.nd rfl (.inl rfl) (pe_make MI GI hr9 (by rfl) T.mgC bI .nil pass0 (pa_cons (pv 4) (pa_cons (pv 5) pa_nil))))
        (pss_one (ps_for PassesOwn.never rfl (pi_range1 (by rfl) mr (pa_cons pe_int pa_nil)) (pg_name (i := 7) scLaw.nd rfl (.inl rfl))
          (pss_cons (ps_par (i := 8) (j := 9) (by rfl) scLaw.nd rfl rfl (by decide) rfl rfl (pa_cons (pe_call GL hr2 (by rfl) gL kL bL .nil pass0 (pa_cons (pv 1) (pa_cons (pv 3) (pa_cons pe_int pa_nil)))) (pa_cons (pe_call GL hr2 (by rfl) gL kL bL .nil pass0 (pa_cons (pv 1) (pa_cons (pv 3) (pa_cons pe_int pa_nil)))) pa_nil)) (by rfl))
          (pss_cons (ps_set (i := 10) scLaw.nd rfl (.inl rfl) (pe_callTy call_tuple_of (by rfl) mt (by decide +kernel) (pa_cons (pe_lc (own := [("_law_side", 14)]) (g := gName 14) (by rfl) scLaw.nd (pi_tup (pv 4))
            (blkOk_by (own := [("_law_side", 14)]) (N := ["_law_script", "_law_bag_here", "_law_turn", "_law_directions", "_law_divisors_here", "_law_tree_here", "_law_scan_here", "_law_k", "_law_one", "_law_step", "_law_far", "_law_other", "_law_third", "_law_there", "_law_side"]) (sc := defScope sLaw) (by decide +kernel))
            (fun _ _ _ _ _ => pg_name (i := 14) scLaw.nd rfl (Or.inl rfl)) (fun _ _ _ _ _ => pts_nil)
            (fun _ _ _ _ _ => pe_op op_mul (pe_op op_sub (pe_call GP hr1 (by rfl) gP kp bP .nil pass0 (pa_cons (pv 1) (pa_cons (pe_op op_mul pe_int (pe_op op_pow pe_int pe_int)) pa_nil))) (pe_op op_pow pe_int pe_int)) (pv 14))) pa_nil)))
          (pss_cons (ps_par (i := 11) (j := 12) (by rfl) scLaw.nd rfl rfl (by decide) rfl rfl (pa_cons (pe_call GA hr1 (by rfl) gA kA bA .nil pass0 (pa_cons (pv 8) (pa_cons (pv 9) pa_nil))) (pa_cons (pe_call GL hr2 (by rfl) gL kL bL .nil pass0 (pa_cons (pv 1) (pa_cons (pv 3) (pa_cons pe_int pa_nil)))) pa_nil)) (by rfl))
          (pss_cons (ps_set (i := 13) scLaw.nd rfl (.inl rfl) (pe_call GA hr1 (by rfl) gA kA bA .nil pass0 (pa_cons (pv 8) (pa_cons (pv 10) pa_nil))))
          (pss_cons (ps_if (pt_cmpR op_ne (StX.pe_callO (pv 6) cO GR hr5 pass0 (pa_cons (pv 8) (pa_cons (pv 11) pa_nil))) (StX.pe_callO (pv 6) cO GR hr5 pass0 (pa_cons (pv 13) (pa_cons (pe_call GA hr1 (by rfl) gA kA bA .nil pass0 (pa_cons (pv 11) (pa_cons (pv 10) pa_nil))) pa_nil))) (nomark _)) (pss_one (ps_ret pe_bl)) pss_nil)
          (C8.pss_cut (ps_if (PW.pt (pw_and (pt_val (StX.pe_callO (pv 6) cO GR hr5 pass0 (pa_cons (pv 8) (pa_cons (pv 11) pa_nil)))) (pw_and (pt_val (StX.pe_callO (pv 6) cO GR hr5 pass0 (pa_cons (pv 11) (pa_cons (pv 12) pa_nil)))) (pw_and1 (pt_not (pt_val (StX.pe_callO (pv 6) cO GR hr5 pass0 (pa_cons (pv 8) (pa_cons (pv 12) pa_nil))))))))) (pss_one (ps_ret pe_bl)) pss_nil)
          (pss_one (ps_if (PW.pt (pw_or (PW.pt (pw_and (pt_val (StX.pe_callO (pv 6) cO GR hr5 pass0 (pa_cons (pv 8) (pa_cons (pv 11) pa_nil)))) (pw_and1 (pt_val (StX.pe_callO (pv 6) cO GR hr5 pass0 (pa_cons (pv 11) (pa_cons (pv 8) pa_nil))))))) (pw_or1 (PW.pt (pw_and (pt_cmpR (op_neD hr.units) (pv 8) (pv 11) (nomark _)) (pw_and (pt_not (pt_val (StX.pe_callO (pv 6) cO GR hr5 pass0 (pa_cons (pv 8) (pa_cons (pv 11) pa_nil))))) (pw_and1 (pt_not (pt_val (StX.pe_callO (pv 6) cO GR hr5 pass0 (pa_cons (pv 11) (pa_cons (pv 8) pa_nil)))))))))))) (pss_one (ps_ret pe_bl)) pss_nil))))))))))))))
      (pss_one (ps_ret pe_bl))), ?_⟩
    refine ⟨_, rfl, a0, ns, rfl, hS0, fun H1 b l s1 nb nl B => ?_⟩
    refine ⟨5, rfl, by decide, by decide, for_range (lo := 0) (n := (5 : Int).toNat) (fun i σ H2 => ∃ (v2 v3 v4 v5 v6 v7 v8 v9 v10 v11 v12 v13 : Option V), σ = [some (.ref a0), some (.ref b), v2, v3, v4, v5, v6, v7, v8, v9, v10, v11, v12, v13, none] ∧ BagAt H2 b l)
      ⟨none, none, none, none, none, none, none, none, none, none, none, none, rfl, B⟩ ?_ ?_⟩
    rotate_left
    · rintro σ H2 ⟨v2, v3, v4, v5, v6, v7, v8, v9, v10, v11, v12, v13, rfl, B2⟩
      exact q H2
    rintro i σ H2 hi ⟨v2, v3, v4, v5, v6, v7, v8, v9, v10, v11, v12, v13, rfl, B2⟩
    refine ⟨_, rfl, b, l, 3, rfl, B2, by decide, by decide, fun g H3 g0 g1 B3 bt3 => ?_⟩
    refine ⟨_, _, rfl, rfl, ?_⟩
    refine ⟨_, rfl, _, rfl, b, l, 1 + g, rfl, B3, by omega, by omega, fun ds n t a p v H4 ld D hn hw hdp hz ha ht hp B4 bt4 => ?_⟩
    refine ⟨p, [.ref a, v], rfl, hp, rfl, _, _, rfl, _, _, rfl, rfl, ?_⟩
    refine ⟨_, rfl, _, rfl, fun x dx nx ndx nex => ?_⟩
    have s4 : Same H4 (upd (upd H4 dx (.own x)) x (.ins C dx [])) := fun y o e => by
      rw [upd_ne (ne_of_none e nx), upd_ne (ne_of_none e ndx)]
      exact e
    refine ⟨x, dx, a, v, ds, n, t, rfl, upd_same, Same.sqT s4 ha, TrAt.mono (Same.tups s4) ht, D, by omega, by omega, hn, hw, hz, by omega, fun H5 S5 k5 => ⟨rfl, ?_⟩⟩
    have s45 : Same H4 H5 := L2.Same.made nx ndx k5
    refine ⟨10, rfl, by decide, by decide, for_range (lo := 0) (n := (10 : Int).toNat) (fun i σ H6 => ∃ (v2 v7 v8 v9 v10 v11 v12 v13 : Option V), σ = [some (.ref a0), some (.ref b), v2, some (.int (1 + g)), some (.ref a), some v, some (.ref x), v7, v8, v9, v10, v11, v12, v13, none] ∧ BagAt H6 b l ∧ ScanAt K C H6 x ds n t ∧ SqT K H6 a (ds.map V.int))
      ⟨_, _, _, _, _, _, _, _, rfl, BagAt.same B4 s45, S5, Same.sqT s45 ha⟩ ?_ ?_⟩
    rotate_left
    · rintro σ H6 ⟨v2, v7, v8, v9, v10, v11, v12, v13, rfl, B6, _⟩
      exact ⟨_, _, _, _, _, _, _, _, _, _, _, _, rfl, B6⟩
    rintro j σ H6 hj ⟨v2, v7, v8, v9, v10, v11, v12, v13, rfl, B6, S6, hA6⟩
    -- one, step
    refine ⟨_, rfl, _, rfl, b, l, 1 + g, 9, rfl, B6, by omega, by omega, by decide, by decide, fun xs H7 c1 lx1 nc1 hc1 B7 bt7 => ?_⟩
    refine ⟨_, rfl, _, rfl, b, l, 1 + g, 12, rfl, B7, by omega, by omega, by decide, by decide, fun ss H8 c2 lx2 nc2 hc2 B8 bt8 => ?_⟩
    refine ⟨_, _, rfl, ?_⟩
    have S8 := (S6.but B6 bt7).but B7 bt8
    have hA8 := bt8.sqT B7 (bt7.sqT B6 hA6)
    have h18 : SqT K H8 c1 (xs.map V.int) := bt8.sqT B7 (SqT.of hc1)
    have h28 : SqT K H8 c2 (ss.map V.int) := SqT.of hc2
    -- far
    refine ⟨_, rfl, a, rfl, ⟨_, hA8⟩, fun L nL => ?_⟩
    have nLb := B8.nb nL
    have nLl := B8.nl nL
    refine lc_tup (K := K) (a := a) (xs := ds.map V.int) (fun m H9 => ∃ fs : List Int, Far (ds.take m) fs ∧ H9 L = some (.lst (fs.map V.int)) ∧ BagAt H9 b l ∧ But b H8 H9) ⟨[], trivial, upd_same, B8.new nL, new_but nL⟩ (fun m H9 _ ⟨_, _, _, _, b9⟩ => b9.sqT B8 hA8) ?_ ?_
    · rintro m y H9 hy ⟨fs, hF, hL, B9, b9⟩
      obtain ⟨d, hd, rfl⟩ := map_get hy
      have hm : m < ds.length := (List.getElem?_eq_some_iff.mp hd).1
      have hd1 := D.one d (List.mem_of_getElem? hd)
      have hd12 : d ≤ 12 := by
        have p1 := D.part (m + 1)
        have p2 := D.part m
        rw [take_more hd, prodL_app] at p1
        have : 1 * d ≤ prodL (ds.take m) * d := Int.mul_le_mul_of_nonneg_right p2.1 (by omega)
        omega
      have lF := hF.len
      refine ⟨rfl, _, rfl, _, _, rfl, rfl, ⟨by decide, by decide, by decide⟩, _, _, rfl, rfl, .inl ⟨by decide, by decide⟩, b, l, _, rfl, B9, by decide, by decide, fun e H10 e0 e1 B10 b10 => ?_⟩
      have hL10 := b10 L _ nLb hL
      refine ⟨_, _, rfl, rfl, ⟨by decide, by decide, by decide⟩, _, _, rfl, rfl, _, rfl, _, _, rfl, rfl, .inr ⟨by omega, by omega⟩, _, hL10, ?_, fs ++ [(e - 10 ^ (28 : Int).toNat) * d], ?_, ?_, B10.upd nLb nLl, ?_⟩
      · rw [List.length_map, lF, List.length_take]
        exact small1000 (by omega)
      · rw [take_more hd]
        exact hF.app
      · rw [upd_same, List.map_append]
        rfl
      · intro y u ny hu
        rw [upd_ne (ne_of_none hu nL)]
        exact b10 y u ny (b9 y u ny hu)
    rintro H9 ⟨fs, hF, hL, B9, b9⟩
    rw [List.length_map, List.take_length] at hF
    have lF := hF.len
    refine ⟨L, _, rfl, .inl ⟨SqL.of hL, fun T2 nT2 => ?_⟩⟩
    have sT := same_new (o := .tup (fs.map V.int)) nT2
    have B10 := BagAt.same B9 sT
    have S10 := (S8.but B8 b9).same sT
    have hA10 : SqT K _ a (ds.map V.int) := Same.sqT sT (b9.sqT B8 hA8)
    have h110 : SqT K _ c1 (xs.map V.int) := Same.sqT sT (b9.sqT B8 h18)
    have h210 : SqT K _ c2 (ss.map V.int) := Same.sqT sT (b9.sqT B8 h28)
    have hF10 : SqT K (upd H9 T2 (.tup (fs.map V.int))) T2 (fs.map V.int) := SqT.of upd_same
    -- other, third
    refine ⟨_, rfl, _, rfl, c1, c2, xs, ss, rfl, h110, h210, by omega, by omega, fun H11 c3 s11 nc3 hc3 => ?_⟩
    have B11 := BagAt.same B10 s11
    refine ⟨_, rfl, _, rfl, b, l, 1 + g, 9, rfl, B11, by omega, by omega, by decide, by decide, fun zs H12 c4 lx4 nc4 hc4 B12 b12 => ?_⟩
    refine ⟨_, _, rfl, ?_⟩
    have S12 := (S10.same s11).but B11 b12
    have hA12 : SqT K H12 a (ds.map V.int) := b12.sqT B11 (Same.sqT s11 hA10)
    have h112 : SqT K H12 c1 (xs.map V.int) := b12.sqT B11 (Same.sqT s11 h110)
    have hF12 : SqT K H12 T2 (fs.map V.int) := b12.sqT B11 (Same.sqT s11 hF10)
    have h312 : SqT K H12 c3 ((plus xs ss).map V.int) := b12.sqT B11 (SqT.of hc3)
    have h412 : SqT K H12 c4 (zs.map V.int) := SqT.of hc4
    have lo : (plus xs ss).length = ds.length := by
      rw [plus_len (by omega)]
      omega
    -- there
    refine ⟨_, rfl, _, rfl, c1, T2, xs, fs, rfl, h112, hF12, by omega, by omega, fun H13 c5 s13 nc5 hc5 => ?_⟩
    have lt : (plus xs fs).length = ds.length := by
      rw [plus_len (by omega)]
      omega
    -- the same order far away
    refine ⟨_, rfl, x, rfl, _, rfl, _, rfl, callo (S12.same s13) (Same.sqT s13 h112) (Same.sqT s13 h312) (by omega) lo fun H14 s14 => ?_⟩
    have s1314 := s13.trans s14
    refine ⟨_, rfl, x, rfl, _, rfl, _, rfl, _, rfl, c3, T2, plus xs ss, fs, rfl, Same.sqT s1314 h312, Same.sqT s1314 hF12, by omega, by omega, fun H15 c6 s15 nc6 hc6 => ?_⟩
    have s1315 := s1314.trans s15
    have lof : (plus (plus xs ss) fs).length = ds.length := by
      rw [plus_len (by omega)]
      omega
    refine callo (S12.same s1315) (SqT.of (s15 _ _ (s14 _ _ hc5))) (SqT.of hc6) lt lof fun H16 s16 => ?_
    have e1 := full_shift D hn hw hF (show xs.length = ds.length by omega) lo
    refine ⟨rfl, _, rfl, iteNS (congrArg V.bl e1.symm) ?_⟩
    have s1216 := s1315.trans s16
    -- transitive
    refine ⟨fun σ' H' => σ' = [some (.ref a0), some (.ref b), v2, some (.int (1 + g)), some (.ref a), some v, some (.ref x), some (.int (0 + (j : Int))), some (.ref c1), some (.ref c2), some (.ref T2), some (.ref c3), some (.ref c4), some (.ref c5), none] ∧ Same H12 H', ?_, ?_⟩
    · refine ⟨_, rfl, x, rfl, _, rfl, _, rfl, callo (S12.same s1216) (Same.sqT s1216 h112) (Same.sqT s1216 h312) (by omega) lo fun H17 s17 => ⟨_, rfl, ite2 (fun z1 => ?_) (fun z1 => iteF ⟨rfl, s1216.trans s17⟩)⟩⟩
      have s1217 := s1216.trans s17
      refine ⟨_, rfl, x, rfl, _, rfl, _, rfl, callo (S12.same s1217) (Same.sqT s1217 h312) (Same.sqT s1217 h412) lo (by omega) fun H18 s18 => ⟨_, rfl, ite2 (fun z2 => ?_) (fun z2 => iteF ⟨rfl, s1217.trans s18⟩)⟩⟩
      have s1218 := s1217.trans s18
      refine ⟨_, rfl, x, rfl, _, rfl, _, rfl, callo (S12.same s1218) (Same.sqT s1218 h112) (Same.sqT s1218 h412) (by omega) (by omega) fun H19 s19 => ⟨_, rfl, ?_⟩⟩
      have e2 : HT.lexLt (full ds t xs) (full ds t zs) = true := lx_trans z1 z2
      rw [e2]
      exact iteF ⟨rfl, s1218.trans s19⟩
    · rintro σ' H17 ⟨rfl, s17⟩
      have fin : ∀ H', Same H17 H' → ∃ (v2' v7 v8 v9 v10 v11 v12 v13 : Option V), [some (V.ref a0), some (.ref b), v2, some (.int (1 + g)), some (.ref a), some v, some (.ref x), some (.int (0 + (j : Int))), some (.ref c1), some (.ref c2), some (.ref T2), some (.ref c3), some (.ref c4), some (.ref c5), none] = [some (.ref a0), some (.ref b), v2', some (.int (1 + g)), some (.ref a), some v, some (.ref x), v7, v8, v9, v10, v11, v12, v13, none] ∧ BagAt H' b l ∧ ScanAt K C H' x ds n t ∧ SqT K H' a (ds.map V.int) := fun H' sm =>
        ⟨_, _, _, _, _, _, _, _, rfl, BagAt.same B12 (s17.trans sm), S12.same (s17.trans sm), Same.sqT (s17.trans sm) hA12⟩
      -- the second half of the or
      have half : ∀ H18, Same H17 H18 → ¬ (HT.lexLt (full ds t xs) (full ds t (plus xs ss)) = true ∧ HT.lexLt (full ds t (plus xs ss)) (full ds t xs) = true) := fun H18 _ z => by
        have := lx_trans z.1 z.2
        rw [lx_irr] at this
        cases this
      have tot : xs ≠ plus xs ss → HT.lexLt (full ds t xs) (full ds t (plus xs ss)) = true ∨ HT.lexLt (full ds t (plus xs ss)) (full ds t xs) = true := fun ne => lx_total (full_ne (by omega) lo ne)
      refine ⟨_, rfl, x, rfl, _, rfl, _, rfl, callo (S12.same s17) (Same.sqT s17 h112) (Same.sqT s17 h312) (by omega) lo fun H18 s18 => ⟨_, rfl, ?_⟩⟩
      have evd : PyData.eqv (.tuple (xs.map .int)) (.tuple ((plus xs ss).map .int)) = decide (xs = plus xs ss) := by
        simp only [PyData.eqv]
        exact eqv_tup _ _
      have s1718 := s17.trans s18
      refine ite2 (fun z1 => ?_) (fun z1 => iteF ?_)
      · refine ⟨_, rfl, x, rfl, _, rfl, _, rfl, callo (S12.same s1718) (Same.sqT s1718 h312) (Same.sqT s1718 h112) lo (by omega) fun H19 s19 => ⟨_, rfl, ?_⟩⟩
        have s1719 := s1718.trans s19
        have z2 : HT.lexLt (full ds t (plus xs ss)) (full ds t xs) = false := by
          cases e : HT.lexLt (full ds t (plus xs ss)) (full ds t xs) with
          | false => rfl
          | true => exact absurd ⟨z1, e⟩ (half H17 (L2.Same.refl _))
        rw [z2]
        refine iteF ⟨_, rfl, _, rfl, .tuple (xs.map .int), .tuple ((plus xs ss).map .int), .tup (Same.sqT s1719 h112) (dpInts _), .tup (Same.sqT s1719 h312) (dpInts _), shT _, shT _, _, rfl, ite2 (fun z3 => ?_) (fun z3 => iteF (fin _ (s18.trans s19)))⟩
        refine ⟨_, rfl, x, rfl, _, rfl, _, rfl, callo (S12.same s1719) (Same.sqT s1719 h112) (Same.sqT s1719 h312) (by omega) lo fun H20 s20 => ⟨_, rfl, ?_⟩⟩
        rw [z1]
        exact iteF (iteF (fin _ ((s18.trans s19).trans s20)))
      · refine ⟨_, rfl, _, rfl, .tuple (xs.map .int), .tuple ((plus xs ss).map .int), .tup (Same.sqT s1718 h112) (dpInts _), .tup (Same.sqT s1718 h312) (dpInts _), shT _, shT _, _, rfl, ite2 (fun z3 => ?_) (fun z3 => iteF (fin _ s18))⟩
        rw [evd] at z3
        have ne : xs ≠ plus xs ss := fun z => by
          rw [decide_eq_true z] at z3
          cases z3
        have z2 : HT.lexLt (full ds t (plus xs ss)) (full ds t xs) = true := by
          rcases tot ne with e | e
          · exact absurd e z1
          · exact e
        have z1' : HT.lexLt (full ds t xs) (full ds t (plus xs ss)) = false := by
          cases e : HT.lexLt (full ds t xs) (full ds t (plus xs ss)) with
          | false => rfl
          | true => exact absurd e z1
        refine ⟨_, rfl, x, rfl, _, rfl, _, rfl, callo (S12.same s1718) (Same.sqT s1718 h112) (Same.sqT s1718 h312) (by omega) lo fun H19 s19 => ⟨_, rfl, ?_⟩⟩
        have s1719 := s1718.trans s19
        rw [z1']
        refine iteT ⟨_, rfl, x, rfl, _, rfl, _, rfl, callo (S12.same s1719) (Same.sqT s1719 h312) (Same.sqT s1719 h112) lo (by omega) fun H20 s20 => ⟨_, rfl, ?_⟩⟩
        rw [z2]
        exact iteF (fin _ ((s18.trans s19).trans s20))
end
end Lk

namespace Lk
open PySem L2
/-- what the top has written of a def -/
structure Def (K : PySem.W.Frag) (mg : Str → Option Value) (x : Str) (st : Stmt) (ps : List Str) (f : Addr) (fd : FuncData) : Prop where
  fn : Fun K x x st f fd
  at_ : mg x = some (.ref f)
  bd : Binds K fd ps []
theorem def_mk {K : PySem.W.Frag} {h : Heap} {mg : Str → Option Value} {x : Str} {st : Stmt} {ps : List Str} {f : Addr} {oc : Value} {od an : Option Addr} {sl : Array (Option Value)} {kV dc pm cd ct : Value} (X : K.In h) (G : h.Ns mainGlobals mg)
    (a : PySem.W.nsIn K mainGlobals x = some (some (.ref f))) (l : K.lookup f = some ⟨oc, od, .func (PySem.W.fnOf x x (defArgs st) (defBody st) (defScope st) .none kV dc pm an cd ct), sl⟩) (c : PySem.W.codeIn K cd x = true) (k : PySem.W.keepIn K (.ref f) = true)
    (hb : ∀ (kV doc pm : Value) (an : Option Addr) (cdv ct : Value) (us : List Value), us.length = ps.length → bindArgs (PySem.W.fnOf x x (defArgs st) (defBody st) (defScope st) .none kV doc pm an cdv ct) ⟨us, []⟩ = pure (ps.zip us)) :
    Def K mg x st ps f (PySem.W.fnOf x x (defArgs st) (defBody st) (defScope st) .none kV dc pm an cd ct) := by
  have F := fun_mk (st := st) l c k
  exact ⟨F, PySem.W.mg_of X G a, F.binds hb⟩
theorem all_mk {l : PySem.W.OpenLaw} {w : World} {K : PySem.W.Frag} {h : Heap} {mg : Str → Option Value} {fa C fI fP fC pA TD dd : Addr} {f0 f1 f2 f3 f4 f5 f6 f7 f8 f9 f10 f11 f12 f13 f14 f15 f16 f17 f18 f19 f20 f21 f22 f23 f24 f25 f26 f27 f28 : Addr} (X : K.In h) (G : h.Ns mainGlobals mg) (hfa : mg "law" = some (.ref fa))
    {od0 an0 od1 an1 od2 an2 od3 an3 od4 an4 od5 an5 od6 an6 od7 an7 od8 an8 od9 an9 od10 an10 od11 an11 od12 an12 od13 an13 od14 an14 od15 an15 od16 an16 od17 an17 od18 an18 od19 an19 od20 an20 od21 an21 od22 an22 od23 an23 od24 an24 od25 an25 od26 an26 od27 an27 od28 an28 od29 an29 od30 an30 od31 an31 : Option Addr} {sl0 sl1 sl2 sl3 sl4 sl5 sl6 sl7 sl8 sl9 sl10 sl11 sl12 sl13 sl14 sl15 sl16 sl17 sl18 sl19 sl20 sl21 sl22 sl23 sl24 sl25 sl26 sl27 sl28 sl29 sl30 sl31 slA slT : Array (Option Value)} {oc0 kV0 dc0 pm0 cd0 ct0 oc1 kV1 dc1 pm1 cd1 ct1 oc2 kV2 dc2 pm2 cd2 ct2 oc3 kV3 dc3 pm3 cd3 ct3 oc4 kV4 dc4 pm4 cd4 ct4 oc5 kV5 dc5 pm5 cd5 ct5 oc6 kV6 dc6 pm6 cd6 ct6 oc7 kV7 dc7 pm7 cd7 ct7 oc8 kV8 dc8 pm8 cd8 ct8 oc9 kV9 dc9 pm9 cd9 ct9 oc10 kV10 dc10 pm10 cd10 ct10 oc11 kV11 dc11 pm11 cd11 ct11 oc12 kV12 dc12 pm12 cd12 ct12 oc13 kV13 dc13 pm13 cd13 ct13 oc14 kV14 dc14 pm14 cd14 ct14 oc15 kV15 dc15 pm15 cd15 ct15 oc16 kV16 dc16 pm16 cd16 ct16 oc17 kV17 dc17 pm17 cd17 ct17 oc18 kV18 dc18 pm18 cd18 ct18 oc19 kV19 dc19 pm19 cd19 ct19 oc20 kV20 dc20 pm20 cd20 ct20 oc21 kV21 dc21 pm21 cd21 ct21 oc22 kV22 dc22 pm22 cd22 ct22 oc23 kV23 dc23 pm23 cd23 ct23 oc24 kV24 dc24 pm24 cd24 ct24 oc25 kV25 dc25 pm25 cd25 ct25 oc26 kV26 dc26 pm26 cd26 ct26 oc27 kV27 dc27 pm27 cd27 ct27 oc28 kV28 dc28 pm28 cd28 ct28 oc29 kV29 dc29 pm29 cd29 ct29 oc30 kV30 dc30 pm30 cd30 ct30 oc31 kV31 dc31 pm31 cd31 ct31 oT : Value} {t3 t12 t20 t200 tP : Tok} {dA dT : Option Addr} {nA nT : Nat}
    (a0 : PySem.W.nsIn K mainGlobals "dot" = some (some (.ref f0)))
    (l0 : K.lookup f0 = some ⟨oc0, od0, .func (PySem.W.fnOf "dot" "dot" (defArgs sDot) (defBody sDot) (defScope sDot) .none kV0 dc0 pm0 an0 cd0 ct0), sl0⟩)
    (c0 : PySem.W.codeIn K cd0 "dot" = true)
    (k0 : PySem.W.keepIn K (.ref f0) = true)
    (a1 : PySem.W.nsIn K mainGlobals "product" = some (some (.ref f1)))
    (l1 : K.lookup f1 = some ⟨oc1, od1, .func (PySem.W.fnOf "product" "product" (defArgs sProduct) (defBody sProduct) (defScope sProduct) .none kV1 dc1 pm1 an1 cd1 ct1), sl1⟩)
    (c1 : PySem.W.codeIn K cd1 "product" = true)
    (k1 : PySem.W.keepIn K (.ref f1) = true)
    (a2 : PySem.W.nsIn K mainGlobals "is_number" = some (some (.ref f2)))
    (l2 : K.lookup f2 = some ⟨oc2, od2, .func (PySem.W.fnOf "is_number" "is_number" (defArgs sIsNum) (defBody sIsNum) (defScope sIsNum) .none kV2 dc2 pm2 an2 cd2 ct2), sl2⟩)
    (c2 : PySem.W.codeIn K cd2 "is_number" = true)
    (k2 : PySem.W.keepIn K (.ref f2) = true)
    (a3 : PySem.W.nsIn K mainGlobals "are_numbers" = some (some (.ref f3)))
    (l3 : K.lookup f3 = some ⟨oc3, od3, .func (PySem.W.fnOf "are_numbers" "are_numbers" (defArgs sAreNums) (defBody sAreNums) (defScope sAreNums) .none kV3 dc3 pm3 an3 cd3 ct3), sl3⟩)
    (c3 : PySem.W.codeIn K cd3 "are_numbers" = true)
    (k3 : PySem.W.keepIn K (.ref f3) = true)
    (a4 : PySem.W.nsIn K mainGlobals "are_sides" = some (some (.ref f4)))
    (l4 : K.lookup f4 = some ⟨oc4, od4, .func (PySem.W.fnOf "are_sides" "are_sides" (defArgs sAreSides) (defBody sAreSides) (defScope sAreSides) .none kV4 dc4 pm4 an4 cd4 ct4), sl4⟩)
    (c4 : PySem.W.codeIn K cd4 "are_sides" = true)
    (k4 : PySem.W.keepIn K (.ref f4) = true)
    (a5 : PySem.W.nsIn K mainGlobals "check_place" = some (some (.ref f5)))
    (l5 : K.lookup f5 = some ⟨oc5, od5, .func (PySem.W.fnOf "check_place" "check_place" (defArgs sChkPlace) (defBody sChkPlace) (defScope sChkPlace) .none kV5 dc5 pm5 an5 cd5 ct5), sl5⟩)
    (c5 : PySem.W.codeIn K cd5 "check_place" = true)
    (k5 : PySem.W.keepIn K (.ref f5) = true)
    (a6 : PySem.W.nsIn K mainGlobals "check_divisors" = some (some (.ref f6)))
    (l6 : K.lookup f6 = some ⟨oc6, od6, .func (PySem.W.fnOf "check_divisors" "check_divisors" (defArgs sChkDiv) (defBody sChkDiv) (defScope sChkDiv) .none kV6 dc6 pm6 an6 cd6 ct6), sl6⟩)
    (c6 : PySem.W.codeIn K cd6 "check_divisors" = true)
    (k6 : PySem.W.keepIn K (.ref f6) = true)
    (a7 : PySem.W.nsIn K mainGlobals "class_at" = some (some (.ref f7)))
    (l7 : K.lookup f7 = some ⟨oc7, od7, .func (PySem.W.fnOf "class_at" "class_at" (defArgs sClassAt) (defBody sClassAt) (defScope sClassAt) .none kV7 dc7 pm7 an7 cd7 ct7), sl7⟩)
    (c7 : PySem.W.codeIn K cd7 "class_at" = true)
    (k7 : PySem.W.keepIn K (.ref f7) = true)
    (a8 : PySem.W.nsIn K mainGlobals "class_count" = some (some (.ref f8)))
    (l8 : K.lookup f8 = some ⟨oc8, od8, .func (PySem.W.fnOf "class_count" "class_count" (defArgs sClassCount) (defBody sClassCount) (defScope sClassCount) .none kV8 dc8 pm8 an8 cd8 ct8), sl8⟩)
    (c8 : PySem.W.codeIn K cd8 "class_count" = true)
    (k8 : PySem.W.keepIn K (.ref f8) = true)
    (a9 : PySem.W.nsIn K mainGlobals "is_ascending" = some (some (.ref f9)))
    (l9 : K.lookup f9 = some ⟨oc9, od9, .func (PySem.W.fnOf "is_ascending" "is_ascending" (defArgs sAsc) (defBody sAsc) (defScope sAsc) .none kV9 dc9 pm9 an9 cd9 ct9), sl9⟩)
    (c9 : PySem.W.codeIn K cd9 "is_ascending" = true)
    (k9 : PySem.W.keepIn K (.ref f9) = true)
    (a10 : PySem.W.nsIn K mainGlobals "are_groups" = some (some (.ref f10)))
    (l10 : K.lookup f10 = some ⟨oc10, od10, .func (PySem.W.fnOf "are_groups" "are_groups" (defArgs sGroups) (defBody sGroups) (defScope sGroups) .none kV10 dc10 pm10 an10 cd10 ct10), sl10⟩)
    (c10 : PySem.W.codeIn K cd10 "are_groups" = true)
    (k10 : PySem.W.keepIn K (.ref f10) = true)
    (a11 : PySem.W.nsIn K mainGlobals "is_key" = some (some (.ref f11)))
    (l11 : K.lookup f11 = some ⟨oc11, od11, .func (PySem.W.fnOf "is_key" "is_key" (defArgs sIsKey) (defBody sIsKey) (defScope sIsKey) .none kV11 dc11 pm11 an11 cd11 ct11), sl11⟩)
    (c11 : PySem.W.codeIn K cd11 "is_key" = true)
    (k11 : PySem.W.keepIn K (.ref f11) = true)
    (a12 : PySem.W.nsIn K mainGlobals "is_fork" = some (some (.ref f12)))
    (l12 : K.lookup f12 = some ⟨oc12, od12, .func (PySem.W.fnOf "is_fork" "is_fork" (defArgs sIsFork) (defBody sIsFork) (defScope sIsFork) .none kV12 dc12 pm12 an12 cd12 ct12), sl12⟩)
    (c12 : PySem.W.codeIn K cd12 "is_fork" = true)
    (k12 : PySem.W.keepIn K (.ref f12) = true)
    (a13 : PySem.W.nsIn K mainGlobals "inner_trees" = some (some (.ref f13)))
    (l13 : K.lookup f13 = some ⟨oc13, od13, .func (PySem.W.fnOf "inner_trees" "inner_trees" (defArgs sInner) (defBody sInner) (defScope sInner) .none kV13 dc13 pm13 an13 cd13 ct13), sl13⟩)
    (c13 : PySem.W.codeIn K cd13 "inner_trees" = true)
    (k13 : PySem.W.keepIn K (.ref f13) = true)
    (a14 : PySem.W.nsIn K mainGlobals "count_nodes" = some (some (.ref f14)))
    (l14 : K.lookup f14 = some ⟨oc14, od14, .func (PySem.W.fnOf "count_nodes" "count_nodes" (defArgs sNodes) (defBody sNodes) (defScope sNodes) .none kV14 dc14 pm14 an14 cd14 ct14), sl14⟩)
    (c14 : PySem.W.codeIn K cd14 "count_nodes" = true)
    (k14 : PySem.W.keepIn K (.ref f14) = true)
    (a15 : PySem.W.nsIn K mainGlobals "group_index" = some (some (.ref f15)))
    (l15 : K.lookup f15 = some ⟨oc15, od15, .func (PySem.W.fnOf "group_index" "group_index" (defArgs sGix) (defBody sGix) (defScope sGix) .none kV15 dc15 pm15 an15 cd15 ct15), sl15⟩)
    (c15 : PySem.W.codeIn K cd15 "group_index" = true)
    (k15 : PySem.W.keepIn K (.ref f15) = true)
    (a16 : PySem.W.nsIn K mainGlobals "tree_path" = some (some (.ref f16)))
    (l16 : K.lookup f16 = some ⟨oc16, od16, .func (PySem.W.fnOf "tree_path" "tree_path" (defArgs sPath) (defBody sPath) (defScope sPath) .none kV16 dc16 pm16 an16 cd16 ct16), sl16⟩)
    (c16 : PySem.W.codeIn K cd16 "tree_path" = true)
    (k16 : PySem.W.keepIn K (.ref f16) = true)
    (a17 : PySem.W.nsIn K mainGlobals "_law_bag" = some (some (.ref f17)))
    (l17 : K.lookup f17 = some ⟨oc17, od17, .func (PySem.W.fnOf "_law_bag" "_law_bag" (defArgs sBag) (defBody sBag) (defScope sBag) .none kV17 dc17 pm17 an17 cd17 ct17), sl17⟩)
    (c17 : PySem.W.codeIn K cd17 "_law_bag" = true)
    (k17 : PySem.W.keepIn K (.ref f17) = true)
    (a18 : PySem.W.nsIn K mainGlobals "_law_pull" = some (some (.ref f18)))
    (l18 : K.lookup f18 = some ⟨oc18, od18, .func (PySem.W.fnOf "_law_pull" "_law_pull" (defArgs sPull) (defBody sPull) (defScope sPull) .none kV18 dc18 pm18 an18 cd18 ct18), sl18⟩)
    (c18 : PySem.W.codeIn K cd18 "_law_pull" = true)
    (k18 : PySem.W.keepIn K (.ref f18) = true)
    (a19 : PySem.W.nsIn K mainGlobals "_law_of" = some (some (.ref f19)))
    (l19 : K.lookup f19 = some ⟨oc19, od19, .func (PySem.W.fnOf "_law_of" "_law_of" (defArgs sOf) (defBody sOf) (defScope sOf) .none kV19 dc19 pm19 an19 cd19 ct19), sl19⟩)
    (c19 : PySem.W.codeIn K cd19 "_law_of" = true)
    (k19 : PySem.W.keepIn K (.ref f19) = true)
    (a20 : PySem.W.nsIn K mainGlobals "_law_mixed" = some (some (.ref f20)))
    (l20 : K.lookup f20 = some ⟨oc20, od20, .func (PySem.W.fnOf "_law_mixed" "_law_mixed" (defArgs sMixed) (defBody sMixed) (defScope sMixed) .none kV20 dc20 pm20 an20 cd20 ct20), sl20⟩)
    (c20 : PySem.W.codeIn K cd20 "_law_mixed" = true)
    (k20 : PySem.W.keepIn K (.ref f20) = true)
    (a21 : PySem.W.nsIn K mainGlobals "_law_count" = some (some (.ref f21)))
    (l21 : K.lookup f21 = some ⟨oc21, od21, .func (PySem.W.fnOf "_law_count" "_law_count" (defArgs sCount) (defBody sCount) (defScope sCount) .none kV21 dc21 pm21 an21 cd21 ct21), sl21⟩)
    (c21 : PySem.W.codeIn K cd21 "_law_count" = true)
    (k21 : PySem.W.keepIn K (.ref f21) = true)
    (a22 : PySem.W.nsIn K mainGlobals "_law_plus" = some (some (.ref f22)))
    (l22 : K.lookup f22 = some ⟨oc22, od22, .func (PySem.W.fnOf "_law_plus" "_law_plus" (defArgs sPlus) (defBody sPlus) (defScope sPlus) .none kV22 dc22 pm22 an22 cd22 ct22), sl22⟩)
    (c22 : PySem.W.codeIn K cd22 "_law_plus" = true)
    (k22 : PySem.W.keepIn K (.ref f22) = true)
    (a23 : PySem.W.nsIn K mainGlobals "_law_divisors" = some (some (.ref f23)))
    (l23 : K.lookup f23 = some ⟨oc23, od23, .func (PySem.W.fnOf "_law_divisors" "_law_divisors" (defArgs sDivisors) (defBody sDivisors) (defScope sDivisors) .none kV23 dc23 pm23 an23 cd23 ct23), sl23⟩)
    (c23 : PySem.W.codeIn K cd23 "_law_divisors" = true)
    (k23 : PySem.W.keepIn K (.ref f23) = true)
    (a24 : PySem.W.nsIn K mainGlobals "_law_place" = some (some (.ref f24)))
    (l24 : K.lookup f24 = some ⟨oc24, od24, .func (PySem.W.fnOf "_law_place" "_law_place" (defArgs sPlace) (defBody sPlace) (defScope sPlace) .none kV24 dc24 pm24 an24 cd24 ct24), sl24⟩)
    (c24 : PySem.W.codeIn K cd24 "_law_place" = true)
    (k24 : PySem.W.keepIn K (.ref f24) = true)
    (a25 : PySem.W.nsIn K mainGlobals "_law_parts" = some (some (.ref f25)))
    (l25 : K.lookup f25 = some ⟨oc25, od25, .func (PySem.W.fnOf "_law_parts" "_law_parts" (defArgs sParts) (defBody sParts) (defScope sParts) .none kV25 dc25 pm25 an25 cd25 ct25), sl25⟩)
    (c25 : PySem.W.codeIn K cd25 "_law_parts" = true)
    (k25 : PySem.W.keepIn K (.ref f25) = true)
    (a26 : PySem.W.nsIn K mainGlobals "_law_tree" = some (some (.ref f26)))
    (l26 : K.lookup f26 = some ⟨oc26, od26, .func (PySem.W.fnOf "_law_tree" "_law_tree" (defArgs sTree) (defBody sTree) (defScope sTree) .none kV26 dc26 pm26 an26 cd26 ct26), sl26⟩)
    (c26 : PySem.W.codeIn K cd26 "_law_tree" = true)
    (k26 : PySem.W.keepIn K (.ref f26) = true)
    (a27 : PySem.W.nsIn K mainGlobals "_law_scan" = some (some (.ref f27)))
    (l27 : K.lookup f27 = some ⟨oc27, od27, .func (PySem.W.fnOf "_law_scan" "_law_scan" (defArgs sScan) (defBody sScan) (defScope sScan) .none kV27 dc27 pm27 an27 cd27 ct27), sl27⟩)
    (c27 : PySem.W.codeIn K cd27 "_law_scan" = true)
    (k27 : PySem.W.keepIn K (.ref f27) = true)
    (a28 : PySem.W.nsIn K mainGlobals "law" = some (some (.ref f28)))
    (l28 : K.lookup f28 = some ⟨oc28, od28, .func (PySem.W.fnOf "law" "law" (defArgs sLaw) (defBody sLaw) (defScope sLaw) .none kV28 dc28 pm28 an28 cd28 ct28), sl28⟩)
    (c28 : PySem.W.codeIn K cd28 "law" = true)
    (k28 : PySem.W.keepIn K (.ref f28) = true)
    (aC : PySem.W.nsIn K mainGlobals "Scan" = some (some (.ref C)))
    (aI : PySem.W.findIn K (.ref C) "__init__" = some (some (.ref fI)))
    (iI : PySem.W.isFn K (.ref fI) = true)
    (lI : K.lookup fI = some ⟨oc29, od29, .func (PySem.W.fnOf "__init__" "Scan.__init__" (defArgs sInit) (defBody sInit) (defScope sInit) (.ref TD) kV29 dc29 pm29 an29 cd29 ct29), sl29⟩)
    (cI : PySem.W.codeIn K cd29 "Scan.__init__" = true)
    (kI : PySem.W.keepIn K (.ref fI) = true)
    (lT : K.lookup TD = some ⟨oT, dT, .seq #[.ref dd] nT, slT⟩)
    (amP : PySem.W.findIn K (.ref C) "path" = some (some (.ref fP)))
    (imP : PySem.W.isFn K (.ref fP) = true)
    (lmP : K.lookup fP = some ⟨oc30, od30, .func (PySem.W.fnOf "path" "Scan.path" (defArgs sSPath) (defBody sSPath) (defScope sSPath) .none kV30 dc30 pm30 an30 cd30 ct30), sl30⟩)
    (cmP : PySem.W.codeIn K cd30 "Scan.path" = true)
    (kmP : PySem.W.keepIn K (.ref fP) = true)
    (amC : PySem.W.findIn K (.ref C) "__call__" = some (some (.ref fC)))
    (imC : PySem.W.isFn K (.ref fC) = true)
    (lmC : K.lookup fC = some ⟨oc31, od31, .func (PySem.W.fnOf "__call__" "Scan.__call__" (defArgs sCall) (defBody sCall) (defScope sCall) .none kV31 dc31 pm31 an31 cd31 ct31), sl31⟩)
    (cmC : PySem.W.codeIn K cd31 "Scan.__call__" = true)
    (kmC : PySem.W.keepIn K (.ref fC) = true)
    (fiC : PySem.W.fnIn K fC = true)
    (pg : PySem.W.plainGet K C Str.empty = true)
    (hd : PySem.W.hasDictIn K C = true)
    (po : PySem.W.plainOver K C = true)
    (sa : PySem.W.findIn K (.ref C) "__setattr__" = some (some (.builtin "object.__setattr__")))
    (mkC : PySem.W.makesIn K C = true)
    (kC : PySem.W.keepIn K (.ref C) = true)
    (nf0 : PySem.W.findIn K (.ref C) "class_total" = some none)
    (nf1 : PySem.W.findIn K (.ref C) "node_total" = some none)
    (nf2 : PySem.W.findIn K (.ref C) "own_divisors" = some none)
    (nf3 : PySem.W.findIn K (.ref C) "own_tree" = some none)
    (rd : PySem.W.readsIn K C (.type "type") = true)
    (ga : PySem.W.specialIn K (.ref C) "__getattribute__" = some (some (.builtin "type.__getattribute__")))
    (v1 : PySem.W.findCls K (.ref C) (.type "type") "MAX_NODES" = some (.val (.int 200 t200)))
    (v2 : PySem.W.findCls K (.ref C) (.type "type") "MAX_DEPTH" = some (.val (.int 20 t20)))
    (m3 : PySem.W.nsIn K mainGlobals "MAX_DIRECTIONS" = some (some (.int 3 t3)))
    (m12 : PySem.W.nsIn K mainGlobals "MAX_CLASSES" = some (some (.int 12 t12)))
    (aP : PySem.W.nsIn K mainGlobals "PLACES" = some (some (.ref pA)))
    (lA : K.lookup pA = some ⟨.type "tuple", dA, .seq #[.str "places" tP] nA, slA⟩)
    (z0 : PySem.W.nsIn K mainGlobals "len" = some none)
    (z1 : PySem.W.nsIn K mainGlobals "int" = some none)
    (z2 : PySem.W.nsIn K mainGlobals "list" = some none)
    (z3 : PySem.W.nsIn K mainGlobals "range" = some none)
    (z4 : PySem.W.nsIn K mainGlobals "tuple" = some none)
    (z5 : PySem.W.nsIn K mainGlobals "min" = some none)
    (z6 : PySem.W.nsIn K mainGlobals "zip" = some none)
    (z7 : PySem.W.nsIn K mainGlobals "isinstance" = some none)
    (z8 : PySem.W.nsIn K mainGlobals "bool" = some none)
    (z9 : PySem.W.nsIn K mainGlobals "all" = some none)
    (z10 : PySem.W.nsIn K mainGlobals "sum" = some none)
    (z11 : PySem.W.nsIn K mainGlobals "sorted" = some none) :
    ∃ fd : FuncData, (∀ (s : Shared) (v : Value), BindsTo s fd ⟨[v], []⟩ [("_law_script", v)]) ∧ ∀ base : Heap, K.In base → base.Ns mainGlobals mg → FnOk l.prog w K mg base CX0 10 fa fd ["_law_script"] (spLaw K) := by
  have e := hfa.symm.trans (PySem.W.mg_of X G a28)
  cases e
  have D0 := def_mk (st := sDot) (ps := ["row", "place"]) X G a0 l0 c0 k0 fun _ _ _ _ _ _ us hl => match us, hl with | [_, _], _ => rfl
  have D1 := def_mk (st := sProduct) (ps := ["numbers"]) X G a1 l1 c1 k1 fun _ _ _ _ _ _ us hl => match us, hl with | [_], _ => rfl
  have D2 := def_mk (st := sIsNum) (ps := ["value"]) X G a2 l2 c2 k2 fun _ _ _ _ _ _ us hl => match us, hl with | [_], _ => rfl
  have D3 := def_mk (st := sAreNums) (ps := ["value", "count"]) X G a3 l3 c3 k3 fun _ _ _ _ _ _ us hl => match us, hl with | [_, _], _ => rfl
  have D4 := def_mk (st := sAreSides) (ps := ["value", "least"]) X G a4 l4 c4 k4 fun _ _ _ _ _ _ us hl => match us, hl with | [_, _], _ => rfl
  have D5 := def_mk (st := sChkPlace) (ps := ["place", "directions"]) X G a5 l5 c5 k5 fun _ _ _ _ _ _ us hl => match us, hl with | [_, _], _ => rfl
  have D6 := def_mk (st := sChkDiv) (ps := ["divisors"]) X G a6 l6 c6 k6 fun _ _ _ _ _ _ us hl => match us, hl with | [_], _ => rfl
  have D7 := def_mk (st := sClassAt) (ps := ["divisors", "place"]) X G a7 l7 c7 k7 fun _ _ _ _ _ _ us hl => match us, hl with | [_, _], _ => rfl
  have D8 := def_mk (st := sClassCount) (ps := ["divisors"]) X G a8 l8 c8 k8 fun _ _ _ _ _ _ us hl => match us, hl with | [_], _ => rfl
  have D9 := def_mk (st := sAsc) (ps := ["value"]) X G a9 l9 c9 k9 fun _ _ _ _ _ _ us hl => match us, hl with | [_], _ => rfl
  have D10 := def_mk (st := sGroups) (ps := ["value", "classes"]) X G a10 l10 c10 k10 fun _ _ _ _ _ _ us hl => match us, hl with | [_, _], _ => rfl
  have D11 := def_mk (st := sIsKey) (ps := ["node", "directions", "classes"]) X G a11 l11 c11 k11 fun _ _ _ _ _ _ us hl => match us, hl with | [_, _, _], _ => rfl
  have D12 := def_mk (st := sIsFork) (ps := ["node", "classes"]) X G a12 l12 c12 k12 fun _ _ _ _ _ _ us hl => match us, hl with | [_, _], _ => rfl
  have D13 := def_mk (st := sInner) (ps := ["node", "directions", "classes"]) X G a13 l13 c13 k13 fun _ _ _ _ _ _ us hl => match us, hl with | [_, _, _], _ => rfl
  have D14 := def_mk (st := sNodes) (ps := ["tree", "divisors", "most_nodes", "most_depth"]) X G a14 l14 c14 k14 fun _ _ _ _ _ _ us hl => match us, hl with | [_, _, _, _], _ => rfl
  have D15 := def_mk (st := sGix) (ps := ["groups", "number"]) X G a15 l15 c15 k15 fun _ _ _ _ _ _ us hl => match us, hl with | [_, _], _ => rfl
  have D16 := def_mk (st := sPath) (ps := ["tree", "divisors", "place"]) X G a16 l16 c16 k16 fun _ _ _ _ _ _ us hl => match us, hl with | [_, _, _], _ => rfl
  have D17 := def_mk (st := sBag) (ps := ["_law_script"]) X G a17 l17 c17 k17 fun _ _ _ _ _ _ us hl => match us, hl with | [_], _ => rfl
  have D18 := def_mk (st := sPull) (ps := ["_law_bag_here", "_law_amount"]) X G a18 l18 c18 k18 fun _ _ _ _ _ _ us hl => match us, hl with | [_, _], _ => rfl
  have D19 := def_mk (st := sOf) (ps := ["_law_bag_here", "_law_things"]) X G a19 l19 c19 k19 fun _ _ _ _ _ _ us hl => match us, hl with | [_, _], _ => rfl
  have D20 := def_mk (st := sMixed) (ps := ["_law_bag_here", "_law_things"]) X G a20 l20 c20 k20 fun _ _ _ _ _ _ us hl => match us, hl with | [_, _], _ => rfl
  have D21 := def_mk (st := sCount) (ps := ["_law_divisors_here"]) X G a21 l21 c21 k21 fun _ _ _ _ _ _ us hl => match us, hl with | [_], _ => rfl
  have D22 := def_mk (st := sPlus) (ps := ["_law_one", "_law_other"]) X G a22 l22 c22 k22 fun _ _ _ _ _ _ us hl => match us, hl with | [_, _], _ => rfl
  have D23 := def_mk (st := sDivisors) (ps := ["_law_bag_here", "_law_directions"]) X G a23 l23 c23 k23 fun _ _ _ _ _ _ us hl => match us, hl with | [_, _], _ => rfl
  have D24 := def_mk (st := sPlace) (ps := ["_law_bag_here", "_law_directions", "_law_size"]) X G a24 l24 c24 k24 fun _ _ _ _ _ _ us hl => match us, hl with | [_, _, _], _ => rfl
  have D25 := def_mk (st := sParts) (ps := ["_law_bag_here", "_law_many", "_law_most"]) X G a25 l25 c25 k25 fun _ _ _ _ _ _ us hl => match us, hl with | [_, _, _], _ => rfl
  have D26 := def_mk (st := sTree) (ps := ["_law_bag_here", "_law_divisors_here", "_law_depth"]) X G a26 l26 c26 k26 fun _ _ _ _ _ _ us hl => match us, hl with | [_, _, _], _ => rfl
  have D27 := def_mk (st := sScan) (ps := ["_law_bag_here", "_law_directions"]) X G a27 l27 c27 k27 fun _ _ _ _ _ _ us hl => match us, hl with | [_, _], _ => rfl
  have D28 := def_mk (st := sLaw) (ps := ["_law_script"]) X G a28 l28 c28 k28 fun _ _ _ _ _ _ us hl => match us, hl with | [_], _ => rfl
  have b_len := PySem.W.mg_none_of X G z0
  have b_int := PySem.W.mg_none_of X G z1
  have b_list := PySem.W.mg_none_of X G z2
  have b_range := PySem.W.mg_none_of X G z3
  have b_tuple := PySem.W.mg_none_of X G z4
  have b_min := PySem.W.mg_none_of X G z5
  have b_zip := PySem.W.mg_none_of X G z6
  have b_isinstance := PySem.W.mg_none_of X G z7
  have b_bool := PySem.W.mg_none_of X G z8
  have b_all := PySem.W.mg_none_of X G z9
  have b_sum := PySem.W.mg_none_of X G z10
  have b_sorted := PySem.W.mg_none_of X G z11
  have T : Txt K mg C := ⟨⟨pg, hd, po, sa⟩, nf0, nf1, nf2, nf3, PySem.W.mg_of X G aC, ⟨rd, ga⟩, ⟨_, v1, ⟨_, rfl⟩⟩, ⟨_, v2, ⟨_, rfl⟩⟩⟩
  have hP : ∀ H, SqT K H pA [V.str "places"] := fun H => .inr ⟨_, _, _, lA, rfl, rfl, (by show 1 ≤ sizeLine; decide), .cons ⟨_, rfl⟩ .nil⟩
  have FI : FunD K "__init__" "Scan.__init__" (defArgs sInit) (defBody sInit) (defScope sInit) [V.ref dd] [] fI _ := ⟨⟨_, _, _, _, _, _, _, _, _, _, rfl, lI, cI, .inr ⟨by simp, TD, _, [.ref dd], _, rfl, lT, rfl, .cons rfl .nil⟩, .inl rfl⟩, kI⟩
  obtain ⟨dsI, rI, bI⟩ := FI.binds1 (ps := ["self", "divisors", "tree"]) 3 1 (by simp) rfl fun TT kV doc pm an cdv ct us its h1 h2 => match us, its, h1, h2 with | [_, _, _], [_], _, _ => ⟨_, rfl, rfl⟩
  have eI : dsI = [] := by
    cases rI
    rfl
  subst eI
  have FP := fun_mk (st := sSPath) lmP cmP kmP
  have FC := fun_mk (st := sCall) lmC cmC kmC
  have bP := FP.binds (ps := ["self", "place"]) fun _ _ _ _ _ _ us hl => match us, hl with | [_, _], _ => rfl
  have bC := FC.binds (ps := ["self", "one", "other"]) fun _ _ _ _ _ _ us hl => match us, hl with | [_, _, _], _ => rfl
  refine ⟨PySem.W.fnOf "law" "law" (defArgs sLaw) (defBody sLaw) (defScope sLaw) .none kV28 dc28 pm28 an28 cd28 ct28, fun s v => .of_eq rfl, fun base _ _ => ?_⟩
  have Gpull : FnOk l.prog w K mg base CX0 (0 + 1) _ _ ["_law_bag_here", "_law_amount"] spPull := ok_pull D18.fn b_len b_int
  have Gof := ok_of (k := 0) D19.fn b_len Gpull D18.fn.kp D18.bd D18.at_
  have Gmix := ok_mixed (k := 0) D20.fn b_len Gpull D18.fn.kp D18.bd D18.at_
  have Gbag := ok_bag (P := l.prog) (w := w) (base := base) (k := 0) D17.fn b_int b_list
  have Gcnt := ok_count (P := l.prog) (w := w) (mg := mg) (base := base) (k := 0) D21.fn
  have Gprod := ok_product (P := l.prog) (w := w) (mg := mg) (base := base) (k := 0) D1.fn
  have Gplus := ok_plus (P := l.prog) (w := w) (base := base) (k := 0) D22.fn b_tuple b_zip
  have Gplace := ok_place (k := 0) D24.fn b_tuple b_range Gpull D18.fn.kp D18.bd D18.at_
  have Gdiv := ok_divisors (k := 0) D23.fn b_tuple b_range b_min Gpull D18.fn.kp D18.bd D18.at_ Gmix D20.fn.kp D20.bd D20.at_
  have Gparts := ok_parts (k := 0) D25.fn b_tuple b_range Gpull D18.fn.kp D18.bd D18.at_
  have Gtree := ok_tree (k := 0) D26.fn b_tuple b_range D26.at_ D26.bd Gpull D18.fn.kp D18.bd D18.at_ Gcnt D21.fn.kp D21.bd D21.at_ Gof D19.fn.kp D19.bd D19.at_ Gparts D25.fn.kp D25.bd D25.at_ 3
  have Gscan := ok_scan (k := 0) D27.fn Gdiv D23.fn.kp D23.bd D23.at_ Gtree D26.fn.kp D26.bd D26.at_
  have Gnum := ok_isnum (P := l.prog) (w := w) (base := base) (k := 0) D2.fn b_int b_bool b_isinstance
  have Gnums := ok_nums (k := 0) D3.fn b_isinstance b_tuple b_len b_all Gnum D2.fn.kp D2.bd D2.at_
  have Gsides := ok_sides (k := 0) D4.fn b_isinstance b_tuple b_len b_min (PySem.W.mg_of X G m3) Gnums D3.fn.kp D3.bd D3.at_
  have Gchkp := ok_chkplace (k := 0) D5.fn Gnums D3.fn.kp D3.bd D3.at_
  have Gchkd := ok_chkdiv (k := 0) D6.fn (PySem.W.mg_of X G m12) Gsides D4.fn.kp D4.bd D4.at_ Gprod D1.fn.kp D1.bd D1.at_
  have Gcc := ok_classcount (k := 0) D8.fn Gchkd D6.fn.kp D6.bd D6.at_ Gprod D1.fn.kp D1.bd D1.at_
  have Gca := ok_classat (P := l.prog) (w := w) (base := base) (k := 0) D7.fn b_zip
  have Gdot := ok_dot (P := l.prog) (w := w) (base := base) (k := 0) D0.fn b_sum b_zip
  have Gasc := ok_asc (k := 0) D9.fn b_isinstance b_tuple b_len b_all b_zip Gnums D3.fn.kp D3.bd D3.at_
  have Ggr := ok_groups (k := 0) D10.fn b_isinstance b_tuple b_len b_sorted b_list b_range Gasc D9.fn.kp D9.bd D9.at_
  have Gik := ok_iskey (k := 0) D11.fn b_len Gnums D3.fn.kp D3.bd D3.at_
  have Gif := ok_isfork (k := 0) D12.fn b_len Ggr D10.fn.kp D10.bd D10.at_
  have Ginn := ok_inner (k := 0) D13.fn b_isinstance b_tuple (PySem.W.mg_of X G aP) hP Gik D11.fn.kp D11.bd D11.at_ Gif D12.fn.kp D12.bd D12.at_
  have Gnod := ok_nodes (k := 0) D14.fn b_len Gprod D1.fn.kp D1.bd D1.at_ Ginn D13.fn.kp D13.bd D13.at_
  have Ggix := ok_gix (P := l.prog) (w := w) (mg := mg) (base := base) (k := 0) D15.fn
  have Gtp := ok_tpath (k := 0) D16.fn b_tuple Gca D7.fn.kp D7.bd D7.at_ Gdot D0.fn.kp D0.bd D0.at_ Ggix D15.fn.kp D15.bd D15.at_
  have Gin := ok_init (k := 0) FI T Gcc D8.fn.kp D8.bd D8.at_ Gnod D14.fn.kp D14.bd D14.at_
  have Gsp := ok_spath (k := 0) FP T b_len Gchkp D5.fn.kp D5.bd D5.at_ Gtp D16.fn.kp D16.bd D16.at_
  have Gcl := ok_call (k := 0) FC T Gsp bP ⟨amP, imP, kmP⟩
  exact ok_law (k := 0) D28.fn T b_range b_tuple Gbag D17.fn.kp D17.bd D17.at_ Gpull D18.fn.kp D18.bd D18.at_ Gscan D27.fn.kp D27.bd D27.at_ Gplace D24.fn.kp D24.bd D24.at_ Gplus D22.fn.kp D22.bd D22.at_ Gin bI ⟨mkC, aI, iI, kC⟩ Gcl bC ⟨amC, imC, fiC⟩
end Lk
open PySem PySem.W PyProof.Rows
set_option maxRecDepth 100000 in
set_option maxHeartbeats 0 in
theorem PySem.Challenge.cw_lookscan_k06_whole_order_depends_on_clas_holds : PySem.Challenge.rw_lookscan_k06_whole_order_depends_on_clas.Holds := by
  w_on; o_law; k_head; (case hw => w_witness2)
  k_fill
  refine L2.walk_of (l := PySem.Challenge.rw_lookscan_k06_whole_order_depends_on_clas) (n := 63) (k := 10) (x := "_law_script") (CX := fun _ => L2.CX0) (sp := fun w => Lk.spLaw _) rfl (by decide) rfl ⟨rfl, by decide, by decide⟩ (fun w h Y => PySem.W.kIn_of Y) ?F (fun _ _ a ns hl _ hS => ⟨a, ns, rfl, hS, fun _ => rfl⟩) (fun _ _ _ _ _ h => h)
  case F =>
    intro w mg fa h KX G hmg
    refine' Lk.all_mk KX G hmg ?a0 ?l0 ?c0 ?k0 ?a1 ?l1 ?c1 ?k1 ?a2 ?l2 ?c2 ?k2 ?a3 ?l3 ?c3 ?k3 ?a4 ?l4 ?c4 ?k4 ?a5 ?l5 ?c5 ?k5 ?a6 ?l6 ?c6 ?k6 ?a7 ?l7 ?c7 ?k7 ?a8 ?l8 ?c8 ?k8 ?a9 ?l9 ?c9 ?k9 ?a10 ?l10 ?c10 ?k10 ?a11 ?l11 ?c11 ?k11 ?a12 ?l12 ?c12 ?k12 ?a13 ?l13 ?c13 ?k13 ?a14 ?l14 ?c14 ?k14 ?a15 ?l15 ?c15 ?k15 ?a16 ?l16 ?c16 ?k16 ?a17 ?l17 ?c17 ?k17 ?a18 ?l18 ?c18 ?k18 ?a19 ?l19 ?c19 ?k19 ?a20 ?l20 ?c20 ?k20 ?a21 ?l21 ?c21 ?k21 ?a22 ?l22 ?c22 ?k22 ?a23 ?l23 ?c23 ?k23 ?a24 ?l24 ?c24 ?k24 ?a25 ?l25 ?c25 ?k25 ?a26 ?l26 ?c26 ?k26 ?a27 ?l27 ?c27 ?k27 ?a28 ?l28 ?c28 ?k28 ?aC ?aI ?iI ?lI ?cI ?kI ?lT ?amP ?imP ?lmP ?cmP ?kmP ?amC ?imC ?lmC ?cmC ?kmC ?fiC ?pg ?hd ?po ?sa ?mkC ?kC ?nf0 ?nf1 ?nf2 ?nf3 ?rd ?ga ?v1 ?v2 ?m3 ?m12 ?aP ?lA ?z0 ?z1 ?z2 ?z3 ?z4 ?z5 ?z6 ?z7 ?z8 ?z9 ?z10 ?z11
    (case a0 => k_is)
    (case l0 => k_is)
    (case c0 => k_is)
    (case k0 => k_is)
    (case a1 => k_is)
    (case l1 => k_is)
    (case c1 => k_is)
    (case k1 => k_is)
    (case a2 => k_is)
    (case l2 => k_is)
    (case c2 => k_is)
    (case k2 => k_is)
    (case a3 => k_is)
    (case l3 => k_is)
    (case c3 => k_is)
    (case k3 => k_is)
    (case a4 => k_is)
    (case l4 => k_is)
    (case c4 => k_is)
    (case k4 => k_is)
    (case a5 => k_is)
    (case l5 => k_is)
    (case c5 => k_is)
    (case k5 => k_is)
    (case a6 => k_is)
    (case l6 => k_is)
    (case c6 => k_is)
    (case k6 => k_is)
    (case a7 => k_is)
    (case l7 => k_is)
    (case c7 => k_is)
    (case k7 => k_is)
    (case a8 => k_is)
    (case l8 => k_is)
    (case c8 => k_is)
    (case k8 => k_is)
    (case a9 => k_is)
    (case l9 => k_is)
    (case c9 => k_is)
    (case k9 => k_is)
    (case a10 => k_is)
    (case l10 => k_is)
    (case c10 => k_is)
    (case k10 => k_is)
    (case a11 => k_is)
    (case l11 => k_is)
    (case c11 => k_is)
    (case k11 => k_is)
    (case a12 => k_is)
    (case l12 => k_is)
    (case c12 => k_is)
    (case k12 => k_is)
    (case a13 => k_is)
    (case l13 => k_is)
    (case c13 => k_is)
    (case k13 => k_is)
    (case a14 => k_is)
    (case l14 => k_is)
    (case c14 => k_is)
    (case k14 => k_is)
    (case a15 => k_is)
    (case l15 => k_is)
    (case c15 => k_is)
    (case k15 => k_is)
    (case a16 => k_is)
    (case l16 => k_is)
    (case c16 => k_is)
    (case k16 => k_is)
    (case a17 => k_is)
    (case l17 => k_is)
    (case c17 => k_is)
    (case k17 => k_is)
    (case a18 => k_is)
    (case l18 => k_is)
    (case c18 => k_is)
    (case k18 => k_is)
    (case a19 => k_is)
    (case l19 => k_is)
    (case c19 => k_is)
    (case k19 => k_is)
    (case a20 => k_is)
    (case l20 => k_is)
    (case c20 => k_is)
    (case k20 => k_is)
    (case a21 => k_is)
    (case l21 => k_is)
    (case c21 => k_is)
    (case k21 => k_is)
    (case a22 => k_is)
    (case l22 => k_is)
    (case c22 => k_is)
    (case k22 => k_is)
    (case a23 => k_is)
    (case l23 => k_is)
    (case c23 => k_is)
    (case k23 => k_is)
    (case a24 => k_is)
    (case l24 => k_is)
    (case c24 => k_is)
    (case k24 => k_is)
    (case a25 => k_is)
    (case l25 => k_is)
    (case c25 => k_is)
    (case k25 => k_is)
    (case a26 => k_is)
    (case l26 => k_is)
    (case c26 => k_is)
    (case k26 => k_is)
    (case a27 => k_is)
    (case l27 => k_is)
    (case c27 => k_is)
    (case k27 => k_is)
    (case a28 => k_is)
    (case l28 => k_is)
    (case c28 => k_is)
    (case k28 => k_is)
    (case aC => k_is)
    (case aI => k_is)
    (case iI => k_is)
    (case lI => k_is)
    (case cI => k_is)
    (case kI => k_is)
    (case lT => k_is)
    (case amP => k_is)
    (case imP => k_is)
    (case lmP => k_is)
    (case cmP => k_is)
    (case kmP => k_is)
    (case amC => k_is)
    (case imC => k_is)
    (case lmC => k_is)
    (case cmC => k_is)
    (case kmC => k_is)
    (case fiC => k_is)
    (case pg => k_is)
    (case hd => k_is)
    (case po => k_is)
    (case sa => k_is)
    (case mkC => k_is)
    (case kC => k_is)
    (case nf0 => k_is)
    (case nf1 => k_is)
    (case nf2 => k_is)
    (case nf3 => k_is)
    (case rd => k_is)
    (case ga => k_is)
    (case v1 => k_is)
    (case v2 => k_is)
    (case m3 => k_is)
    (case m12 => k_is)
    (case aP => k_is)
    (case lA => k_is)
    (case z0 => k_is)
    (case z1 => k_is)
    (case z2 => k_is)
    (case z3 => k_is)
    (case z4 => k_is)
    (case z5 => k_is)
    (case z6 => k_is)
    (case z7 => k_is)
    (case z8 => k_is)
    (case z9 => k_is)
    (case z10 => k_is)
    (case z11 => k_is)
