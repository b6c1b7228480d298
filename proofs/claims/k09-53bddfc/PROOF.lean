import PyProof.Rows.All
import Wide.All
import OpenK.AllK
import Wide.FinOn
import HandS.ForMost
import HandS.Codes
import HandS.TupSets
import HandS.TupLe
import HandS.IsInst
import HandS.Wide
import KE.GoesMore
import PyProof.Draws
import PyProof.EnumMake
import PyProof.P3In
import HandS.TupAny
import HandS.ForExc
import HandS.ExcInit
import HandS.ExcField
import HandS.TryMany
import KE.DatumOrd
import KE.KTupSum
import HandS.SortKw
import HandS.CallLocal
import HandS.Walk
import KE.KExcSuper
import KE.RegKSuper
import HandS.TupMul
import PySem.Challenge.RW_sameround_k09_refusals_of_programs
set_option Elab.async false
set_option linter.all false
set_option maxRecDepth 100000
set_option maxHeartbeats 8000000
namespace Q
open PySem L2
def top (i : Nat) : Stmt := PySem.Challenge.pw_sameround_k09_refusals_of_programs.main.body.getD i (.Pass ⟨0, 0, 0, 0⟩)
abbrev sHand : Stmt := top 67
abbrev sTake : Stmt := top 68
abbrev sPick : Stmt := top 69
/-- what the built-in names still are -/
structure Bts (mg : Str → Option Value) : Prop where
  len : mg "len" = none
  int : mg "int" = none
  list : mg "list" = none
  range : mg "range" = none
  min : mg "min" = none
  max : mg "max" = none
  tuple : mg "tuple" = none
  sorted : mg "sorted" = none
  set : mg "set" = none
  isinstance : mg "isinstance" = none
  enumerate : mg "enumerate" = none
  bool : mg "bool" = none

def HL (l : Addr) (i : Nat) (r s c : Int) : List V := [.ref l, .int (i : Int), .int r, .int s, .int c]
/-- the drawing hand at p -/
structure HandX (H : Hp) (p l : Addr) (ns : List Int) (i : Nat) (r s c : Int) : Prop where
  at_ : H p = some (.lst (HL l i r s c))
  lst : H l = some (.lst (ns.map V.int))
  len : ns.length ≤ 63
  r0 : 0 ≤ r
  s0 : 0 ≤ s
  s1 : s < 2147483647
def HandAt (H : Hp) (p l : Addr) : Prop := ∃ ns i r s c, HandX H p l ns i r s c
/-- nothing is otherwise but at p -/
def But (p : Addr) (H H' : Hp) : Prop := ∀ b, b ≠ p → H' b = H b
theorem But.rfl' {p : Addr} {H : Hp} : But p H H := fun _ _ => rfl
theorem But.upd {p : Addr} {H H' : Hp} {o : HO} (h : But p H H') : But p H (upd H' p o) := fun b hb => by rw [upd_ne hb]; exact h b hb
theorem But.trans {p : Addr} {H H1 H2 : Hp} (h : But p H H1) (g : But p H1 H2) : But p H H2 := fun b hb => (g b hb).trans (h b hb)
theorem HandX.np {H : Hp} {p l : Addr} {ns : List Int} {i : Nat} {r s c : Int} (h : HandX H p l ns i r s c) : l ≠ p := fun e => by
  have h1 := h.at_
  rw [← e, h.lst] at h1
  have h2 := HO.lst.inj (Option.some.inj h1)
  cases ns with
  | nil => exact absurd h2 (by simp [HL])
  | cons a t =>
    rw [List.map_cons] at h2
    exact V.noConfusion (List.cons.inj h2).1
theorem HandX.put {H H' : Hp} {p l : Addr} {ns : List Int} {i i' : Nat} {r s c r' s' c' : Int} (h : HandX H p l ns i r s c) (e : H' p = some (.lst (HL l i' r' s' c'))) (b : But p H H') (h0 : 0 ≤ r') (h1 : 0 ≤ s') (h2 : s' < 2147483647) : HandX H' p l ns i' r' s' c' :=
  ⟨e, by rw [b l h.np]; exact h.lst, h.len, h0, h1, h2⟩
def spHand (K : PySem.W.Frag) : Sp := fun vs H Q _ => ∃ (a : Addr) (ns : List Int), vs = [.ref a] ∧ SqL K H a (ns.map V.int) ∧ ns.length ≤ 63 ∧
  ∀ (p l : Addr) (H' : Hp), HandAt H' p l → H p = none → H l = none → Same H H' → Q (.ref p) H'
def spTake : Sp := fun vs H Q _ => ∃ (p l : Addr) (m : Int), vs = [.ref p, .int m] ∧ HandAt H p l ∧ 0 < m ∧ m < 1099511627776 ∧ ∀ (d : Int) (H' : Hp), 0 ≤ d → d < m → HandAt H' p l → But p H H' → Q (.int d) H'
section
variable {P : Program} {w : World} {K : PySem.W.Frag} {mg : Str → Option Value} {base : Heap}
theorem scHand : FnScope ["script"] ["script"] (defScope sHand) := ⟨rfl, rfl, rfl, by decide +kernel, rfl, by decide +kernel, by decide +kernel⟩
theorem ok_hand {f : Addr} {fd : FuncData} (F : Fun K "_law_hand" "_law_hand" sHand f fd) (B : Bts mg) : FnOk P w K mg base CX0 1 f fd ["script"] (spHand K) := by
  refine F.ok scHand (fun vs H Q E h => ?_) (fun cdv A outer s H vs Q E hr h => ?_)
  · obtain ⟨a, ns, rfl, _⟩ := h
    rfl
  · obtain ⟨a, ns, rfl, hS, hlen, k⟩ := h
    refine ⟨_, pss_one (ps_ret (pe_lst (pa_cons (pe_callTy call_list_of (by rfl) B.list PyProof.Rows.boot_list (pa_cons (pv 0) pa_nil)) (pa_cons pe_int (pa_cons pe_int (pa_cons pe_int (pa_cons pe_int pa_nil))))))), ?_⟩
    refine ⟨_, rfl, a, _, rfl, .inl hS, fun l hl => ?_⟩
    refine ⟨(by show 5 ≤ sizeLine; decide), fun p hp => ?_⟩
    have npl : p ≠ l := fun e => by rw [e, upd_same] at hp; cases hp
    rw [upd_ne npl] at hp
    refine k p l _ ⟨ns, 0, 0, 1, 0, upd_same, ?_, hlen, by decide, by decide, by decide⟩ hp hl fun b o e => ?_
    · rw [upd_ne npl.symm, upd_same]
    · rw [upd_ne (ne_of_none e hp), upd_ne (ne_of_none e hl)]
      exact e
theorem scTake : FnScope ["hand", "many", "cell", "found", "number"] ["hand", "many"] (defScope sTake) := ⟨rfl, rfl, rfl, by decide +kernel, rfl, by decide +kernel, by decide +kernel⟩
theorem ok_take {f : Addr} {fd : FuncData} (F : Fun K "_law_take" "_law_take" sTake f fd) (B : Bts mg) : FnOk P w K mg base CX0 1 f fd ["hand", "many"] spTake := by
  refine F.ok scTake (fun vs H Q E h => ?_) (fun cdv A outer s H vs Q E hr h => ?_)
  · obtain ⟨p, l, m, rfl, _⟩ := h
    rfl
  · obtain ⟨p, l, m, rfl, ⟨ns, i, r, s, c, hx⟩, hm0, hm1, k⟩ := h
    have nd := scTake.nd
    refine ⟨_, pss_cons (ps_asg (pe_op op_add (pe_ix ix_list (pv 0) pe_int (fun _ _ => rfl)) pe_int) (pg_sub (pv 0) pe_int set_list))
      (C8.pss_cut (ps_if (PW.pt (pw_and (pt_cmpR op_eq (pe_ix ix_list (pv 0) pe_int (fun _ _ => rfl)) pe_int (nomark _))
            (pw_and1 (pt_cmpR op_lt (pe_ix ix_list (pv 0) pe_int (fun _ _ => rfl)) (pe_callB call_len_seq (by rfl) B.len PySem.boot_len (pa_cons (pe_ix ix_list (pv 0) pe_int (fun _ _ => rfl)) pa_nil)) (nomark _)))))
          (pss_cons (ps_set (i := 2) nd rfl (.inl rfl) (pe_callTy call_int1 (by rfl) B.int PyProof.Rows.boot_int (pa_cons (pe_ix ix_list (pe_ix ix_list (pv 0) pe_int (fun _ _ => rfl)) (pe_ix ix_list (pv 0) pe_int (fun _ _ => rfl)) (fun _ _ => rfl)) pa_nil)))
          (pss_cons (ps_asg (pe_op op_add (pe_ix ix_list (pv 0) pe_int (fun _ _ => rfl)) pe_int) (pg_sub (pv 0) pe_int set_list))
          (pss_one (ps_if (pt_cmpR op_ge (pv 2) (pe_op op_pow pe_int pe_int) (nomark _))
            (pss_one (ps_asg (pv 2) (pg_sub (pv 0) pe_int set_list)))
            (pss_one (ps_asg (pe_op op_mod (pe_callTy call_int1 (by rfl) B.int PyProof.Rows.boot_int (pa_cons (pe_op op_add (pe_op op_add (pe_op op_mul (pe_ix ix_list (pv 0) pe_int (fun _ _ => rfl)) pe_int) (pe_op op_mod (pe_callTy call_int1 (by rfl) B.int PyProof.Rows.boot_int (pa_cons (pv 2) pa_nil)) pe_int)) pe_int) pa_nil)) pe_int) (pg_sub (pv 0) pe_int set_list)))))))
          pss_nil)
      (pss_cons (ps_if (pt_cmpR op_gt (pe_ix ix_list (pv 0) pe_int (fun _ _ => rfl)) pe_int (nomark _))
          (pss_cons (ps_set (i := 3) nd rfl (.inl rfl) (pe_op op_mod (pe_callTy call_int1 (by rfl) B.int PyProof.Rows.boot_int (pa_cons (pe_ix ix_list (pv 0) pe_int (fun _ _ => rfl)) pa_nil)) (pv 1)))
          (pss_cons (ps_asg (pe_op op_fdivW (pe_callTy call_int1 (by rfl) B.int PyProof.Rows.boot_int (pa_cons (pe_ix ix_list (pv 0) pe_int (fun _ _ => rfl)) pa_nil)) (pv 1)) (pg_sub (pv 0) pe_int set_list))
          (pss_one (ps_ret (pv 3)))))
          pss_nil)
      (pss_cons (ps_asg (pe_op op_mod (pe_callTy call_int1 (by rfl) B.int PyProof.Rows.boot_int (pa_cons (pe_op op_add (pe_op op_mul (pe_ix ix_list (pv 0) pe_int (fun _ _ => rfl)) pe_int) (pe_op op_mul pe_int (pe_ix ix_list (pv 0) pe_int (fun _ _ => rfl)))) pa_nil)) pe_int) (pg_sub (pv 0) pe_int set_list))
      (pss_cons (ps_set (i := 4) nd rfl (.inl rfl) (pe_op op_mod (pe_callTy call_int1 (by rfl) B.int PyProof.Rows.boot_int (pa_cons (pe_op op_mul (pe_ix ix_list (pv 0) pe_int (fun _ _ => rfl)) (pe_op op_add (pe_op op_fdiv (pe_ix ix_list (pv 0) pe_int (fun _ _ => rfl)) pe_int) pe_int)) pa_nil)) pe_int))
      (pss_cons (ps_set (i := 4) nd rfl (.inl rfl) (pe_op op_mod (pe_callTy call_int1 (by rfl) B.int PyProof.Rows.boot_int (pa_cons (pe_op op_mul (pv 4) (pe_op op_add (pe_op op_fdiv (pv 4) pe_int) pe_int)) pa_nil)) pe_int))
      (pss_one (ps_ret (pe_op op_mod (pe_callTy call_int1 (by rfl) B.int PyProof.Rows.boot_int (pa_cons (pe_op op_fdiv (pv 4) pe_int) pa_nil)) (pv 1))))))))), ?_⟩
    -- hand[4] = hand[4] + 1
    refine ⟨_, rfl, p, _, 4, _, rfl, rfl, SqL.of hx.at_, rfl, _, _, rfl, rfl, _, rfl, p, _, 4, 4, rfl, rfl, hx.at_, rfl, ?_⟩
    have b1 : But p H (upd H p (.lst (HL l i r s (c + 1)))) := But.rfl'.upd
    have x1 : HandX (upd H p (.lst (HL l i r s (c + 1)))) p l ns i r s (c + 1) := hx.put upd_same b1 hx.r0 hx.s0 hx.s1
    show C8.tCut _ _ _ _ (upd H p (.lst (HL l i r s (c + 1))))
    revert b1 x1
    generalize upd H p (.lst (HL l i r s (c + 1))) = H1
    intro b1 x1
    refine ⟨fun σ H2 => ∃ x2 i r s c, σ = [some (.ref p), some (.int m), x2, none, none] ∧ HandX H2 p l ns i r s c ∧ But p H H2, ?_, ?_⟩
    · refine ⟨_, rfl, p, _, 2, _, rfl, rfl, SqL.of x1.at_, rfl, rfl, _, rfl, ?_⟩
      refine ite2 (fun _ => ?_) (fun _ => ?_)
      · refine ⟨_, rfl, p, _, 1, _, rfl, rfl, SqL.of x1.at_, rfl, _, rfl, p, _, 0, _, rfl, rfl, SqL.of x1.at_, rfl, l, _, rfl, .inl (SqL.of x1.lst), _, _, rfl, rfl, _, rfl, ?_⟩
        refine ite2 (fun c2 => ?_) (fun _ => ?_)
        · -- cell = int(hand[0][hand[1]])
          have hi : i < ns.length := by
            have z := of_decide_eq_true c2
            rw [List.length_map] at z
            omega
          have hg : atI (ns.map V.int) (i : Int) = some (V.int ns[i]) := atI_nat (by rw [List.getElem?_map, List.getElem?_eq_getElem hi]; rfl)
          refine ⟨_, rfl, p, _, 0, _, rfl, rfl, SqL.of x1.at_, rfl, _, rfl, p, _, 1, _, rfl, rfl, SqL.of x1.at_, rfl, l, _, _, _, rfl, rfl, SqL.of x1.lst, hg, .inl ⟨_, rfl, ?_⟩⟩
          -- hand[1] = hand[1] + 1
          refine ⟨_, rfl, p, _, 1, _, rfl, rfl, SqL.of x1.at_, rfl, _, _, rfl, rfl, _, rfl, p, _, 1, 1, rfl, rfl, x1.at_, rfl, ?_⟩
          have e1 : ((i : Int) + 1) = ((i + 1 : Nat) : Int) := by omega
          have b2 : But p H (upd H1 p (.lst (HL l (i + 1) r s (c + 1)))) := b1.upd
          have x2 : HandX (upd H1 p (.lst (HL l (i + 1) r s (c + 1)))) p l ns (i + 1) r s (c + 1) := x1.put upd_same But.rfl'.upd x1.r0 x1.s0 x1.s1
          have eH : upd H1 p (.lst ((HL l i r s (c + 1)).set 1 (V.int ((i : Int) + 1)))) = upd H1 p (.lst (HL l (i + 1) r s (c + 1))) := by
            rw [e1]
            rfl
          rw [eH]
          revert b2 x2
          generalize upd H1 p (.lst (HL l (i + 1) r s (c + 1))) = H2
          intro b2 x2
          refine ⟨_, rfl, _, _, rfl, rfl, ⟨by decide, by decide, by decide⟩, _, _, rfl, rfl, _, rfl, ?_⟩
          refine ite2 (fun c3 => ?_) (fun _ => ?_)
          · refine ⟨_, rfl, _, rfl, p, _, 2, 2, rfl, rfl, x2.at_, rfl, ?_⟩
            refine ⟨_, i + 1, ns[i], s, c + 1, rfl, x2.put upd_same But.rfl'.upd ?_ x2.s0 x2.s1, b2.upd⟩
            have z := of_decide_eq_true c3
            refine Int.le_trans ?_ z
            decide
          · refine ⟨_, rfl, p, _, 3, _, rfl, rfl, SqL.of x2.at_, rfl, _, _, rfl, rfl, .inr ⟨by decide, by decide⟩, _, rfl, .inl ⟨_, rfl, ?_⟩⟩
            refine ⟨_, _, rfl, rfl, (by decide : (0 : Int) < 2147483647), _, _, rfl, rfl, _, _, rfl, rfl, .inl ⟨_, rfl, ?_⟩⟩
            refine ⟨_, _, rfl, rfl, (by decide : (0 : Int) < 2147483647), _, rfl, p, _, 3, 3, rfl, rfl, x2.at_, rfl, ?_⟩
            exact ⟨_, i + 1, r, _, c + 1, rfl, x2.put upd_same But.rfl'.upd x2.r0 (Int.emod_nonneg _ (by decide)) (Int.emod_lt_of_pos _ (by decide)), b2.upd⟩
        · exact ⟨_, i, r, s, c + 1, rfl, x1, b1⟩
      · exact ⟨_, i, r, s, c + 1, rfl, x1, b1⟩
    · rintro σ H2 ⟨x2, i, r, s, c, rfl, y1, c1⟩
      refine ⟨_, rfl, p, _, 2, _, rfl, rfl, SqL.of y1.at_, rfl, _, _, rfl, rfl, _, rfl, ?_⟩
      refine ite2 (fun _ => ?_) (fun _ => ?_)
      · -- found = int(hand[2]) % many; hand[2] = int(hand[2]) // many; return found
        refine ⟨_, rfl, p, _, 2, _, rfl, rfl, SqL.of y1.at_, rfl, .inl ⟨_, rfl, ?_⟩⟩
        refine ⟨_, rfl, _, _, rfl, rfl, hm0, ?_⟩
        refine ⟨_, rfl, p, _, 2, _, rfl, rfl, SqL.of y1.at_, rfl, .inl ⟨_, rfl, ?_⟩⟩
        refine ⟨_, rfl, _, _, rfl, rfl, wide_div (b := 40) hm0 (by omega) (by decide) (by decide), _, rfl, p, _, 2, 2, rfl, rfl, y1.at_, rfl, ?_⟩
        refine ⟨_, rfl, k _ _ (Int.emod_nonneg _ (by omega)) (Int.emod_lt_of_pos _ hm0) ⟨ns, i, _, s, c, y1.put upd_same But.rfl'.upd (Int.ediv_nonneg y1.r0 (by omega)) y1.s0 y1.s1⟩ c1.upd⟩
      · -- hand[3] = int(hand[3] * 69621 + 7919 * hand[4]) % 2147483647
        refine ⟨_, rfl, p, _, 3, _, rfl, rfl, SqL.of y1.at_, rfl, _, _, rfl, rfl, .inr ⟨by decide, by decide⟩, _, rfl, p, _, 4, _, rfl, rfl, SqL.of y1.at_, rfl, _, _, rfl, rfl, .inl ⟨by decide, by decide⟩, _, _, rfl, rfl, .inl ⟨_, rfl, ?_⟩⟩
        refine ⟨_, _, rfl, rfl, (by decide : (0 : Int) < 2147483647), _, rfl, p, _, 3, 3, rfl, rfl, y1.at_, rfl, ?_⟩
        have z0 : 0 ≤ (s * 69621 + 7919 * c) % 2147483647 := Int.emod_nonneg _ (by decide)
        have z1 : (s * 69621 + 7919 * c) % 2147483647 < 2147483647 := Int.emod_lt_of_pos _ (by decide)
        have b2 : But p H (upd H2 p (.lst (HL l i r ((s * 69621 + 7919 * c) % 2147483647) c))) := c1.upd
        have y2 : HandX (upd H2 p (.lst (HL l i r ((s * 69621 + 7919 * c) % 2147483647) c))) p l ns i r ((s * 69621 + 7919 * c) % 2147483647) c := y1.put upd_same But.rfl'.upd y1.r0 z0 z1
        show tSeq _ _ _ _ (upd H2 p (.lst (HL l i r ((s * 69621 + 7919 * c) % 2147483647) c)))
        revert b2 y2
        generalize upd H2 p (.lst (HL l i r ((s * 69621 + 7919 * c) % 2147483647) c)) = H3
        revert z0 z1
        generalize (s * 69621 + 7919 * c) % 2147483647 = s2
        intro z0 z1 b2 y2
        refine ⟨_, rfl, p, _, 3, _, rfl, rfl, SqL.of y2.at_, rfl, _, rfl, p, _, 3, _, rfl, rfl, SqL.of y2.at_, rfl, _, _, rfl, rfl, ⟨by decide, by decide⟩, _, _, rfl, rfl, _, _, rfl, rfl, .inl ⟨by omega, by omega⟩, .inl ⟨_, rfl, ?_⟩⟩
        refine ⟨_, _, rfl, rfl, (by decide : (0 : Int) < 2147483647), ?_⟩
        have q0 : 0 ≤ (s2 * (s2 / 1009 + 69621)) % 2147483647 := Int.emod_nonneg _ (by decide)
        have q1 : (s2 * (s2 / 1009 + 69621)) % 2147483647 < 2147483647 := Int.emod_lt_of_pos _ (by decide)
        revert q0 q1
        generalize (s2 * (s2 / 1009 + 69621)) % 2147483647 = n1
        intro q0 q1
        refine ⟨_, rfl, _, rfl, _, _, rfl, rfl, ⟨by decide, by decide⟩, _, _, rfl, rfl, _, _, rfl, rfl, .inl ⟨by omega, by omega⟩, .inl ⟨_, rfl, ?_⟩⟩
        refine ⟨_, _, rfl, rfl, (by decide : (0 : Int) < 2147483399), ?_⟩
        refine ⟨_, rfl, _, _, rfl, rfl, ⟨by decide, by decide⟩, .inl ⟨_, rfl, ?_⟩⟩
        refine ⟨_, rfl, _, _, rfl, rfl, hm0, ?_⟩
        exact k _ _ (Int.emod_nonneg _ (by omega)) (Int.emod_lt_of_pos _ hm0) ⟨ns, i, r, s2, c, y2⟩ b2
end
end Q

namespace Q
open PySem L2
abbrev sTies : Stmt := top 73
/-- a def of the text: where it stands, how it is called -/
structure Df (K : PySem.W.Frag) (mg : Str → Option Value) (x : Str) (st : Stmt) (ps : List Str) (f : Addr) (fd : FuncData) : Prop where
  F : Fun K x x st f fd
  m : mg x = some (.ref f)
  b : Binds K fd ps []
theorem Df.k {K : PySem.W.Frag} {mg : Str → Option Value} {x : Str} {st : Stmt} {ps : List Str} {f : Addr} {fd : FuncData} (D : Df K mg x st ps f fd) : PySem.W.keepIn K (.ref f) = true := D.F.kp
theorem HandAt.stay {H : Hp} {p l q : Addr} {o : HO} (h : HandAt H p l) (n1 : q ≠ p) (n2 : q ≠ l) : HandAt (L2.upd H q o) p l := by
  obtain ⟨ns, i, r, s, c, x⟩ := h
  exact ⟨ns, i, r, s, c, (upd_ne n1.symm).trans x.at_, (upd_ne n2.symm).trans x.lst, x.len, x.r0, x.s0, x.s1⟩
theorem HandAt.new {H : Hp} {p l q : Addr} {o : HO} (h : HandAt H p l) (n : H q = none) : HandAt (L2.upd H q o) p l := by
  obtain ⟨ns, i, r, s, c, x⟩ := id h
  exact h.stay (fun e => by rw [e, x.at_] at n; cases n) (fun e => by rw [e, x.lst] at n; cases n)
/-- all that stood stands, but for p -/
def Ext (p : Addr) (H H' : Hp) : Prop := ∀ b o, H b = some o → b ≠ p → H' b = some o
theorem Ext.rfl' {p : Addr} {H : Hp} : Ext p H H := fun _ _ e _ => e
theorem Ext.trans {p : Addr} {H H1 H2 : Hp} (h : Ext p H H1) (g : Ext p H1 H2) : Ext p H H2 := fun b o e n => g b o (h b o e n) n
theorem Ext.but {p : Addr} {H H1 H2 : Hp} (h : Ext p H H1) (g : But p H1 H2) : Ext p H H2 := fun b o e n => by rw [g b n]; exact h b o e n
theorem Ext.upd {p q : Addr} {o : HO} {H H1 : Hp} (h : Ext p H H1) (n : H1 q = none) : Ext p H (L2.upd H1 q o) := fun b u e nb => by
  rw [upd_ne (ne_of_none (h b u e nb) n)]; exact h b u e nb
theorem min_ok {X : Int} (h : 0 ≤ X ∧ X ≤ 20) : 0 ≤ (if 1 < X then 1 else X) ∧ (if 1 < X then 1 else X) ≤ 20 := by
  split <;> omega
theorem HandAt.hp {H : Hp} {p l : Addr} (h : HandAt H p l) : ∃ xs, H p = Option.some (HO.lst (V.ref l :: xs)) := by
  obtain ⟨ns, i, r, s, c, x⟩ := h
  exact ⟨_, x.at_⟩
theorem HandAt.hl {H : Hp} {p l : Addr} (h : HandAt H p l) : ∃ ns : List Int, H l = some (.lst (ns.map V.int)) ∧ l ≠ p := by
  obtain ⟨ns, i, r, s, c, x⟩ := h
  exact ⟨_, x.lst, x.np⟩
theorem HandAt.ne {H : Hp} {p l q : Addr} (h : HandAt H p l) (n : H q = none) : q ≠ p ∧ q ≠ l := by
  obtain ⟨ns, i, r, s, c, x⟩ := h
  exact ⟨fun e => (by rw [e, x.at_] at n; cases n), fun e => (by rw [e, x.lst] at n; cases n)⟩
/-- a list at f of tuples of two ints -/
structure Pairs (m : Int) (H : Hp) (f : Addr) (ks : List (Addr × List Int)) : Prop where
  at_ : H f = some (.lst (ks.map fun p => V.ref p.1))
  tup : ∀ p ∈ ks, H p.1 = some (.tup (p.2.map V.int))
  ok : ∀ p ∈ ks, ∃ a b : Int, p.2 = [a, b] ∧ 0 ≤ a ∧ a < b ∧ b < m
theorem Pairs.but {m : Int} {H H' : Hp} {f p : Addr} {ks : List (Addr × List Int)} {l : Addr} (h : Pairs m H f ks) (g : HandAt H p l) (b : But p H H') (n : f ≠ p) : Pairs m H' f ks := by
  refine ⟨by rw [b f n]; exact h.at_, fun q hq => ?_, h.ok⟩
  obtain ⟨xs, e⟩ := g.hp
  rw [b q.1 (ne_of (h.tup q hq) e (fun z => by cases z))]
  exact h.tup q hq
theorem Pairs.add {m : Int} {H : Hp} {f t : Addr} {ks : List (Addr × List Int)} {a b : Int} (h : Pairs m H f ks) (ht : H t = none) (h0 : 0 ≤ a) (h1 : a < b) (h2 : b < m) :
    Pairs m (upd (upd H t (.tup [.int a, .int b])) f (.lst ((ks.map fun p => V.ref p.1) ++ [.ref t]))) f (ks ++ [(t, [a, b])]) := by
  have ntf : t ≠ f := fun e => by rw [e, h.at_] at ht; cases ht
  refine ⟨by rw [upd_same, List.map_append]; rfl, fun q hq => ?_, fun q hq => ?_⟩
  · rcases List.mem_append.mp hq with hq | hq
    · rw [upd_ne (ne_of (h.tup q hq) h.at_ (fun z => by cases z)), upd_ne (ne_of_none (h.tup q hq) ht)]
      exact h.tup q hq
    · obtain rfl := List.mem_singleton.mp hq
      rw [upd_ne ntf, upd_same]
      rfl
  · rcases List.mem_append.mp hq with hq | hq
    · exact h.ok q hq
    · obtain rfl := List.mem_singleton.mp hq
      exact ⟨a, b, rfl, h0, h1, h2⟩
/-- the order of pairs -/
def ltP (x y : List Int) : Prop := ∃ a b c d : Int, x = [a, b] ∧ y = [c, d] ∧ (a < c ∨ (a = c ∧ b < d))
/-- ties as they are drawn: ascending, joined -/
structure TiesAt (m : Int) (H : Hp) (q : Addr) (L : List (Addr × List Int)) : Prop where
  at_ : H q = some (.tup (L.map fun p => V.ref p.1))
  tup : ∀ p ∈ L, H p.1 = some (.tup (p.2.map V.int))
  ok : ∀ p ∈ L, ∃ a b : Int, p.2 = [a, b] ∧ 0 ≤ a ∧ a < b ∧ b < m
  asc : L.Pairwise (fun x y => ltP x.2 y.2)
  few : L.length < 64
  conn : ∀ h : Int, 1 ≤ h → h < m → ∃ p ∈ L, ∃ o : Int, p.2 = [o, h]
theorem asc_of {m : Int} (hm : m ≤ 40) : ∀ (L : List (Addr × List Int)), (∀ p ∈ L, ∃ a b : Int, p.2 = [a, b] ∧ 0 ≤ a ∧ a < b ∧ b < m) → (L.map (·.2)).Nodup → L.Pairwise (fun q r => TS.code 64 q.2 ≤ TS.code 64 r.2) → L.Pairwise (fun x y => ltP x.2 y.2)
  | [], _, _, _ => .nil
  | x :: r, hok, hnd, hpw => by
    rw [List.map_cons, List.nodup_cons] at hnd
    rw [List.pairwise_cons] at hpw
    refine List.pairwise_cons.mpr ⟨fun y hy => ?_, asc_of hm r (fun p hp => hok p (List.mem_cons_of_mem _ hp)) hnd.2 hpw.2⟩
    obtain ⟨a, b, e1, a0, ab, bm⟩ := hok x List.mem_cons_self
    obtain ⟨c, d, e2, c0, cd, dm⟩ := hok y (List.mem_cons_of_mem _ hy)
    have ne : ([a, b] : List Int) ≠ [c, d] := fun e => hnd.1 (by
      show x.2 ∈ r.map (·.2)
      rw [e1, e, ← e2]
      exact List.mem_map_of_mem hy)
    have le := hpw.1 y hy
    rw [e1, e2] at le
    exact ⟨a, b, c, d, e1, e2, pair_lt le ne ⟨by omega, by omega⟩ ⟨by omega, by omega⟩ ⟨by omega, by omega⟩ ⟨by omega, by omega⟩⟩
def spPick (K : PySem.W.Frag) : Sp := fun vs H Q _ => ∃ (p l t : Addr) (xs : List V), vs = [.ref p, .ref t] ∧ HandAt H p l ∧ H t = some (.lst xs) ∧ t ≠ p ∧ 0 < xs.length ∧ xs.length < 1000 ∧
  ∀ (v : V) (H' : Hp), v ∈ xs → HandAt H' p l → But p H H' → Q v H'
def spTies (K : PySem.W.Frag) : Sp := fun vs H Q _ => ∃ (p l : Addr) (m : Int), vs = [.ref p, .int m] ∧ HandAt H p l ∧ 1 ≤ m ∧ m ≤ 40 ∧
  ∀ (q : Addr) (L : List (Addr × List Int)) (H' : Hp), TiesAt m H' q L → HandAt H' p l → Ext p H H' → Q (.ref q) H'
section
variable {P : Program} {w : World} {K : PySem.W.Frag} {mg : Str → Option Value} {base : Heap}
theorem scPick : FnScope ["hand", "things"] ["hand", "things"] (defScope sPick) := ⟨rfl, rfl, rfl, by decide +kernel, rfl, by decide +kernel, by decide +kernel⟩
theorem ok_pick {f fT : Addr} {fd fdT : FuncData} (F : Fun K "_law_pick" "_law_pick" sPick f fd) (B : Bts mg) (DT : Df K mg "_law_take" sTake ["hand", "many"] fT fdT) : FnOk P w K mg base CX0 2 f fd ["hand", "things"] (spPick K) := by
  have GT : FnOk P w K mg base CX0 1 fT fdT ["hand", "many"] spTake := ok_take DT.F B
  refine F.ok scPick (fun vs H Q E h => ?_) (fun cdv A outer s H vs Q E hr h => ?_)
  · obtain ⟨p, l, t, xs, rfl, _⟩ := h
    rfl
  · obtain ⟨p, l, t, xs, rfl, hh, ht, ntp, h0, h1, k⟩ := h
    refine ⟨_, pss_one (ps_ret (pe_ix ix_list (pv 1) (pe_call GT hr rfl DT.m DT.k DT.b .nil pass0 (pa_cons (pv 0) (pa_cons (pe_callB call_len_seq (by rfl) B.len PySem.boot_len (pa_cons (pv 1) pa_nil)) pa_nil))) (fun _ _ => rfl))), ?_⟩
    refine ⟨_, rfl, _, rfl, _, rfl, t, _, rfl, .inl (SqL.of ht), p, l, _, rfl, hh, by omega, by omega, fun d H' d0 d1 hh' hb => ?_⟩
    have hd : d.toNat < xs.length := by omega
    have e1 : ((d.toNat : Nat) : Int) = d := Int.toNat_of_nonneg d0
    refine ⟨t, xs, d, xs[d.toNat], rfl, rfl, SqL.of (by rw [hb t ntp]; exact ht), ?_, k _ _ (List.getElem_mem hd) hh' hb⟩
    have z := atI_nat (xs := xs) (j := d.toNat) (List.getElem?_eq_getElem hd)
    rw [e1] at z
    exact z
theorem scTies : FnScope ["hand", "many", "found", "shape", "house", "other", "more", "k", "a", "b"] ["hand", "many"] (defScope sTies) := ⟨rfl, rfl, rfl, by decide +kernel, rfl, by decide +kernel, by decide +kernel⟩
theorem ok_ties {f fT : Addr} {fd fdT : FuncData} (F : Fun K "_law_ties" "_law_ties" sTies f fd) (B : Bts mg) (DT : Df K mg "_law_take" sTake ["hand", "many"] fT fdT) : FnOk P w K mg base CX0 2 f fd ["hand", "many"] (spTies K) := by
  have GT : FnOk P w K mg base CX0 1 fT fdT ["hand", "many"] spTake := ok_take DT.F B
  refine F.ok scTies (fun vs H Q E h => ?_) (fun cdv A outer s H vs Q E hr h => ?_)
  · obtain ⟨p, l, m, rfl, _⟩ := h
    rfl
  · obtain ⟨p, l, m, rfl, hh, hm1, hm40, k⟩ := h
    have nd := scTies.nd
    have hu := hr.units
    refine ⟨_, pss_cons (ps_set (i := 2) nd rfl (.inl rfl) (pe_lst pa_nil))
      (pss_cons (ps_set (i := 3) nd rfl (.inl rfl) (pe_call GT hr rfl DT.m DT.k DT.b .nil pass0 (pa_cons (pv 0) (pa_cons pe_int pa_nil))))
      (C8.pss_cut (ps_for PassesOwn.never rfl (pi_range2 rfl B.range (pa_cons pe_int (pa_cons (pv 1) pa_nil))) (pg_name (i := 4) nd rfl (.inl rfl))
        (pss_cons (ps_set (i := 5) nd rfl (.inl rfl) (pe_call GT hr rfl DT.m DT.k DT.b .nil pass0 (pa_cons (pv 0) (pa_cons (pv 4) pa_nil))))
        (C8.pss_cut (ps_if (pt_cmpR op_eq (pv 3) pe_int (nomark _)) (pss_one (ps_set (i := 5) nd rfl (.inl rfl) (pe_op op_sub (pv 4) pe_int))) pss_nil)
        (C8.pss_cut (ps_if (pt_cmpR op_eq (pv 3) pe_int (nomark _)) (pss_one (ps_set (i := 5) nd rfl (.inl rfl) pe_int)) pss_nil)
        (pss_one (ps_expr (pe_bm PySem.F.plainAttrs_list PySem.F.slot_list_append PySem.F.type_list_append mt_append (pv 2) (pa_cons (pe_tup (pa_cons (pv 5) (pa_cons (pv 4) pa_nil))) pa_nil))))))))
      (pss_cons (ps_set (i := 6) nd rfl (.inl rfl) (pe_op op_fdiv (pe_op op_mul (pe_call GT hr rfl DT.m DT.k DT.b .nil pass0 (pa_cons (pv 0) (pa_cons (pe_op op_add (pv 1) pe_int) pa_nil))) (pe_callTy call_int1 (by rfl) B.int PyProof.Rows.boot_int (pa_cons (pe_cmpR op_gt (pv 1) pe_int (nomark _)) pa_nil))) pe_int))
      (C8.pss_cut (ps_if (pt_cmpR op_eq (pe_call GT hr rfl DT.m DT.k DT.b .nil pass0 (pa_cons (pv 0) (pa_cons pe_int pa_nil))) pe_int (nomark _)) (pss_one (ps_set (i := 6) nd rfl (.inl rfl) (pe_callB (call_min2 rfl) (by rfl) B.min PyProof.Rows.boot_min (pa_cons (pv 6) (pa_cons pe_int pa_nil))))) pss_nil)
      (C8.pss_cut (ps_for PassesOwn.never rfl (pi_range1 rfl B.range (pa_cons (pv 6) pa_nil)) (pg_name (i := 7) nd rfl (.inl rfl))
        (pss_cons (ps_set (i := 8) nd rfl (.inl rfl) (pe_call GT hr rfl DT.m DT.k DT.b .nil pass0 (pa_cons (pv 0) (pa_cons (pv 1) pa_nil))))
        (pss_cons (ps_set (i := 9) nd rfl (.inl rfl) (pe_call GT hr rfl DT.m DT.k DT.b .nil pass0 (pa_cons (pv 0) (pa_cons (pv 1) pa_nil))))
        (pss_one (ps_if (pt_cmpR op_ne (pv 8) (pv 9) (nomark _))
          (pss_one (ps_expr (pe_bm PySem.F.plainAttrs_list PySem.F.slot_list_append PySem.F.type_list_append mt_append (pv 2) (pa_cons (pe_tup (pa_cons (pe_callB (call_min2 rfl) (by rfl) B.min PyProof.Rows.boot_min (pa_cons (pv 8) (pa_cons (pv 9) pa_nil))) (pa_cons (pe_callB (call_max2 rfl) (by rfl) B.max PyProof.Rows.boot_max (pa_cons (pv 8) (pa_cons (pv 9) pa_nil))) pa_nil))) pa_nil)))) pss_nil)))))
      (pss_one (ps_ret (pe_callTy call_tuple_of (by rfl) B.tuple PyProof.Rows.boot_tuple (pa_cons (pe_callB (cr_sortedT rfl) (by rfl) B.sorted PyProof.Rows.boot_sorted (pa_cons (pe_callTy (cr_setOfT rfl hu) (by rfl) B.set PyProof.Rows.boot_set (pa_cons (pv 2) pa_nil)) pa_nil)) pa_nil))))))))), ?_⟩
    refine ⟨Nat.zero_le _, fun fo hf0 => ?_⟩
    obtain ⟨npf, nlf⟩ := hh.ne hf0
    have x0 : Ext p H (upd H fo (.lst [])) := Ext.rfl'.upd hf0
    have hh0 : HandAt (upd H fo (.lst [])) p l := hh.new hf0
    have pr0 : Pairs m (upd H fo (.lst [])) fo [] := ⟨upd_same, fun q hq => absurd hq List.not_mem_nil, fun q hq => absurd hq List.not_mem_nil⟩
    refine ⟨_, rfl, p, l, 4, rfl, hh0, by decide, by decide, fun sh H1 s0 s1 g1 b1 => ?_⟩
    have pr1 := pr0.but hh0 b1 npf
    have x1 := x0.but b1
    refine ⟨fun σ H' => ∃ x4 x5 ks, σ = [some (.ref p), some (.int m), some (.ref fo), some (.int sh), x4, x5, none, none, none, none] ∧ Pairs m H' fo ks ∧ ks.length ≤ 39 ∧ (∀ h : Int, 1 ≤ h → h < m → ∃ q ∈ ks, ∃ o : Int, q.2 = [o, h]) ∧ HandAt H' p l ∧ Ext p H H', ?_, ?_⟩
    · refine ⟨_, rfl, 1, m, rfl, ⟨by decide, by decide, by omega, by omega⟩, for_range (lo := 1) (n := (m - 1).toNat) (fun i σ H' => ∃ x4 x5 ks, σ = [some (.ref p), some (.int m), some (.ref fo), some (.int sh), x4, x5, none, none, none, none] ∧ Pairs m H' fo ks ∧ ks.length = i ∧ (∀ h : Int, 1 ≤ h → h ≤ i → ∃ q ∈ ks, ∃ o : Int, q.2 = [o, h]) ∧ HandAt H' p l ∧ Ext p H H') ?_ ?_ ?_⟩
      · exact ⟨none, none, [], rfl, pr1, rfl, fun h a b => by omega, g1, x1⟩
      · rintro i σ H2 hi ⟨x4, x5, ks, rfl, pr2, hl, hc, g2, x2⟩
        refine ⟨_, rfl, _, rfl, p, l, 1 + (i : Int), rfl, g2, by omega, by omega, fun o H3 o0 o1 g3 b3 => ?_⟩
        have pr3 := pr2.but g2 b3 npf
        have x3 := x2.but b3
        refine ⟨fun σ H' => H' = H3 ∧ ∃ o : Int, 0 ≤ o ∧ o < 1 + (i : Int) ∧ σ = [some (.ref p), some (.int m), some (.ref fo), some (.int sh), some (.int (1 + (i : Int))), some (.int o), none, none, none, none], ?_, ?_⟩
        · refine ⟨_, rfl, rfl, _, rfl, ite2 (fun _ => ?_) (fun _ => ?_)⟩
          · exact ⟨_, rfl, _, _, rfl, rfl, rfl, 1 + (i : Int) - 1, by omega, by omega, rfl⟩
          · exact ⟨rfl, o, o0, o1, rfl⟩
        · rintro σ H3 ⟨rfl, o, o0, o1, rfl⟩
          refine ⟨fun σ H' => H' = H3 ∧ ∃ o : Int, 0 ≤ o ∧ o < 1 + (i : Int) ∧ σ = [some (.ref p), some (.int m), some (.ref fo), some (.int sh), some (.int (1 + (i : Int))), some (.int o), none, none, none, none], ?_, ?_⟩
          · refine ⟨_, rfl, rfl, _, rfl, ite2 (fun _ => ?_) (fun _ => ?_)⟩
            · exact ⟨rfl, 0, by omega, by omega, rfl⟩
            · exact ⟨rfl, o, o0, o1, rfl⟩
          · rintro σ H3 ⟨rfl, o, o0, o1, rfl⟩
            refine ⟨_, rfl, .inl ⟨rfl, _, SqL.of pr3.at_⟩, _, rfl, _, rfl, (by show 2 ≤ sizeLine; decide), fun t ht => ?_⟩
            have ntf : fo ≠ t := ne_of_none pr3.at_ ht
            refine ⟨fo, _, _, rfl, rfl, (by rw [upd_ne ntf]; exact pr3.at_), ?_, ?_⟩
            · rw [List.length_map, hl]
              refine Nat.lt_of_lt_of_le (m := 64) (by omega) (by decide)
            · refine ⟨_, _, _, rfl, pr3.add ht o0 o1 (by omega), by rw [List.length_append, hl]; rfl, fun h a b => ?_, ?_, ?_⟩
              · by_cases e : h ≤ (i : Int)
                · obtain ⟨q, hq, z⟩ := hc h a e
                  exact ⟨q, List.mem_append_left _ hq, z⟩
                · have e2 : h = 1 + (i : Int) := by omega
                  exact ⟨_, List.mem_append_right _ (List.mem_singleton.mpr rfl), o, by rw [e2]⟩
              · exact (g3.new ht).stay npf nlf
              · exact fun b o e nb => by rw [upd_ne (ne_of_none e hf0)]; exact (x3.upd ht) b o e nb
      · rintro σ H2 ⟨x4, x5, ks, rfl, pr2, hl, hc, g2, x2⟩
        exact ⟨x4, x5, ks, rfl, pr2, by omega, fun h a b => hc h a (by omega), g2, x2⟩
    · rintro σ H2 ⟨x4, x5, ks, rfl, pr2, hl, hc, g2, x2⟩
      refine ⟨_, rfl, _, rfl, _, _, rfl, rfl, p, l, m + 1, rfl, g2, by omega, by omega, fun d H3 d0 d1 g3 b3 => ?_⟩
      have pr3 := pr2.but g2 b3 npf
      have x3 := x2.but b3
      refine ⟨_, rfl, _, _, rfl, rfl, .inr ⟨_, rfl, ?_⟩⟩
      refine ⟨_, _, rfl, rfl, .inr (by split <;> constructor <;> decide), _, _, rfl, rfl, ⟨by decide, by decide⟩, ?_⟩
      have hmo : 0 ≤ d * (if decide (2 < m) = true then 1 else 0) / 2 ∧ d * (if decide (2 < m) = true then 1 else 0) / 2 ≤ 20 := by
        split
        · rw [Int.mul_one]; omega
        · rw [Int.mul_zero]; decide
      refine ⟨fun σ H' => ∃ x4 x5 mo ks, σ = [some (.ref p), some (.int m), some (.ref fo), some (.int sh), x4, x5, some (.int mo), none, none, none] ∧ 0 ≤ mo ∧ mo ≤ 20 ∧ Pairs m H' fo ks ∧ ks.length ≤ 39 ∧ (∀ h : Int, 1 ≤ h → h < m → ∃ q ∈ ks, ∃ o : Int, q.2 = [o, h]) ∧ HandAt H' p l ∧ Ext p H H', ?_, ?_⟩
      · refine ⟨_, rfl, p, l, 2, rfl, g3, by decide, by decide, fun d2 H4 e0 e1 g4 b4 => ?_⟩
        have pr4 := pr3.but g3 b4 npf
        have x4' := x3.but b4
        refine ⟨rfl, _, rfl, ite2 (fun _ => ?_) (fun _ => ?_)⟩
        · exact ⟨_, rfl, _, _, rfl, _, _, _, ks, rfl, (min_ok hmo).1, (min_ok hmo).2, pr4, hl, hc, g4, x4'⟩
        · exact ⟨_, _, _, ks, rfl, hmo.1, hmo.2, pr4, hl, hc, g4, x4'⟩
      · clear hmo
        clear hl hc pr2 pr3 x2 x3 g2 g3 b3
        rintro σ H4 ⟨x4, x5, mo, ks, rfl, m0, m20, pr4, hl, hc, g4, x4'⟩
        refine ⟨fun σ H' => ∃ x4 x5 x7 x8 x9 ks, σ = [some (.ref p), some (.int m), some (.ref fo), some (.int sh), x4, x5, some (.int mo), x7, x8, x9] ∧ Pairs m H' fo ks ∧ ks.length < 64 ∧ (∀ h : Int, 1 ≤ h → h < m → ∃ q ∈ ks, ∃ o : Int, q.2 = [o, h]) ∧ HandAt H' p l ∧ Ext p H H', ?_, ?_⟩
        · refine ⟨_, rfl, mo, rfl, by omega, by omega, for_range (lo := 0) (n := mo.toNat) (fun i σ H' => ∃ x4 x5 x7 x8 x9 ks, σ = [some (.ref p), some (.int m), some (.ref fo), some (.int sh), x4, x5, some (.int mo), x7, x8, x9] ∧ Pairs m H' fo ks ∧ ks.length ≤ 39 + i ∧ (∀ h : Int, 1 ≤ h → h < m → ∃ q ∈ ks, ∃ o : Int, q.2 = [o, h]) ∧ HandAt H' p l ∧ Ext p H H') ?_ ?_ ?_⟩
          · exact ⟨x4, x5, _, _, _, ks, rfl, pr4, hl, hc, g4, x4'⟩
          · rintro i σ H5 hi ⟨y4, y5, y7, y8, y9, ks, rfl, pr5, hl, hc, g5, x5'⟩
            refine ⟨_, rfl, _, rfl, p, l, m, rfl, g5, by omega, by omega, fun a H6 a0 a1 g6 b6 => ?_⟩
            refine ⟨_, rfl, _, rfl, p, l, m, rfl, g6, by omega, by omega, fun b H7 b0 b1 g7 b7 => ?_⟩
            have pr7 := (pr5.but g5 b6 npf).but g6 b7 npf
            have x7' := (x5'.but b6).but b7
            refine ⟨_, rfl, _, rfl, rfl, _, rfl, ite2 (fun c => ?_) (fun _ => ?_)⟩
            · have hab : a ≠ b := fun e => by rw [e] at c; simp at c
              refine ⟨_, rfl, .inl ⟨rfl, _, SqL.of pr7.at_⟩, _, rfl, _, rfl, _, _, rfl, _, rfl, _, rfl, _, _, rfl, (by show 2 ≤ sizeLine; decide), fun t ht => ?_⟩
              have ntf : fo ≠ t := ne_of_none pr7.at_ ht
              refine ⟨fo, _, _, rfl, rfl, (by rw [upd_ne ntf]; exact pr7.at_), ?_, ?_⟩
              · rw [List.length_map]
                refine Nat.lt_of_lt_of_le (m := 64) (by omega) (by decide)
              · have e1 : (if b < a then b else a) < (if b > a then b else a) := by split <;> split <;> omega
                have e0 : 0 ≤ (if b < a then b else a) := by split <;> omega
                have e2 : (if b > a then b else a) < m := by split <;> omega
                refine ⟨_, _, _, _, _, _, rfl, pr7.add ht e0 e1 e2, by rw [List.length_append, List.length_singleton]; omega, fun h u v => ?_, (g7.new ht).stay npf nlf, fun b o e nb => by rw [upd_ne (ne_of_none e hf0)]; exact (x7'.upd ht) b o e nb⟩
                obtain ⟨q, hq, z⟩ := hc h u v
                exact ⟨q, List.mem_append_left _ hq, z⟩
            · exact ⟨_, _, _, _, _, ks, rfl, pr7, by omega, hc, g7, x7'⟩
          · rintro σ H5 ⟨y4, y5, y7, y8, y9, ks, rfl, pr5, hl, hc, g5, x5'⟩
            exact ⟨_, _, _, _, _, ks, rfl, pr5, by omega, hc, g5, x5'⟩
        · clear hl hc pr4 g4 x4'
          rintro σ H5 ⟨y4, y5, y7, y8, y9, ks, rfl, pr5, hl, hc, g5, x5'⟩
          refine ⟨_, rfl, fo, ks, rfl, SqL.of pr5.at_, fun q hq => SqT.of (pr5.tup q hq), hl, fun a L ha hLk hkL => ?_⟩
          have t6 : ∀ q ∈ ks, upd H5 a (SetTO P w a L) q.1 = some (.tup (q.2.map V.int)) := fun q hq => by
            rw [upd_ne (ne_of_none (pr5.tup q hq) ha)]
            exact pr5.tup q hq
          refine ⟨a, L, 2, 64, rfl, upd_same, fun q hq => SqT.of (t6 q (hLk q hq)), by decide, fun q hq => ?_, fun L' q pm hnd few pw hq => ?_⟩
          · obtain ⟨u, v, e, h0, h1, h2⟩ := pr5.ok q (hLk q hq)
            rw [e]
            refine ⟨rfl, fun z hz => ?_⟩
            simp at hz
            omega
          · refine ⟨q, _, rfl, .inl ⟨SqL.of upd_same, fun t ht => ?_⟩⟩
            have mem : ∀ x ∈ L', x ∈ ks := fun x hx => hLk x (pm.mem_iff.mp hx)
            have ntq : t ≠ q := fun e => by rw [e, upd_same] at ht; cases ht
            have ht2 : upd H5 a (SetTO P w a L) t = none := by
              have z := ht
              rw [upd_ne ntq] at z
              exact z
            refine k t L' _ ⟨upd_same, fun x hx => ?_, fun x hx => pr5.ok x (mem x hx), ?_, few, fun h u v => ?_⟩ ?_ ?_
            · rw [upd_ne (ne_of_none (t6 x (mem x hx)) ht2), upd_ne (ne_of_none (t6 x (mem x hx)) hq)]
              exact t6 x (mem x hx)
            · exact asc_of hm40 L' (fun x hx => pr5.ok x (mem x hx)) hnd pw
            · obtain ⟨x, hx, o, e⟩ := hc h u v
              obtain ⟨y, hy, e2⟩ := List.mem_map.mp (hkL x hx)
              exact ⟨y, pm.mem_iff.mpr hy, o, e2.trans e⟩
            · exact (((g5.new ha).new hq).new (by rw [upd_ne ntq]; exact ht2))
            · exact ((x5'.upd ha).upd hq).upd (by rw [upd_ne ntq]; exact ht2)
end
end Q

/-! enumerate over a tuple -/
namespace Q
open PySem L2 PySem.Spec PyProof.Rows
open AutoSeq1 (wpAny_loadPart')
theorem en_new (tp : Addr) (xs : Array Value) (n : Nat) (dc : Option Addr) (sl : Array (Option Value)) :
    Meets (Builtin.«enumerate.__new__» ⟨[.type "enumerate", .ref tp], []⟩) (fun _ R s => s.heap.get? tp = some { cls := .type "tuple", dict := dc, data := .seq xs n, slots := sl } ∧ R (.ok (.ret (.ref (s.heap.push { cls := .type "tuple_iterator", data := .fields #[.ref tp, .int 0 0] }).objs.size)))
      { s with heap := (s.heap.push { cls := .type "tuple_iterator", data := .fields #[.ref tp, .int 0 0] }).push { cls := .type "enumerate", data := .fields #[.none, .bool false, .ref s.heap.objs.size, rawInt 0, .none, .none] } }) :=
  .of_wp fun P' w' A' R' s' h' => by
    obtain ⟨h0, g0, d0, t0, o0⟩ := s'
    obtain ⟨a1, a2⟩ := h'
    have zs := sub_enumerate
    have zt : Heap.IsTuple (Shared.heap ⟨h0, g0, d0, t0, o0⟩) tp xs := ⟨_, a1, rfl, n, rfl⟩
    wp_walk using wpAny_loadPart' a1
    refine wpAny_stack_any fun _ => wpAny_pure ?_
    split
    · rename_i c _ _ _ _ _
      cases (c == Value.type "enumerate")
      · wp_walk using wpAny_loadPart' a1, wpAny_pyIter_tuple zt
        exact ⟨_, rfl, a2⟩
      · wp_walk using wpAny_loadPart' a1, wpAny_pyIter_tuple zt
        exact ⟨_, rfl, a2⟩
    · wp_walk using wpAny_loadPart' a1, wpAny_pyIter_tuple zt
      exact ⟨_, rfl, a2⟩
theorem en_call {prog : Program} {w : World} {A : Around} {E : Value → Shared → Prop} {s : Shared} {tp : Addr} {xs : Array Value} {Q : Value → Shared → Prop} (ht : s.heap.IsTuple tp xs)
    (k : ∀ h', IsEnum h' (s.heap.objs.size + 1) s.heap.objs.size 0 .none → h'.IsTupleIter s.heap.objs.size tp 0 → (∀ b o, s.heap.get? b = some o → h'.get? b = some o) → Q (.ref (s.heap.objs.size + 1)) { s with heap := h' }) :
    wpAny (model prog w) A (call (.type "enumerate") [.ref tp]) Q E s := by
  obtain ⟨⟨c, dc, dt, sl⟩, a1, ac, n, ad⟩ := ht
  have ac' : c = .type "tuple" := ac
  have ad' : dt = .seq xs n := ad
  subst ac' ad'
  refine callType_new F.called_enumerate (by decide) (F.typeCall_enumerate_1 _) (F.newCall_enumerate_1 _) (fun ob => F.args_object_init_2 ob _) F.entry_enumerate_new (en_new tp xs n dc sl) ⟨a1, ?_⟩
  have sz : (s.heap.push { cls := .type "tuple_iterator", data := .fields #[.ref tp, .int 0 0] }).objs.size = s.heap.objs.size + 1 := Heap.size_push ..
  show _ ∧ _
  rw [sz]
  have en : IsEnum ((s.heap.push { cls := .type "tuple_iterator", data := .fields #[.ref tp, .int 0 0] }).push { cls := .type "enumerate", data := .fields #[.none, .bool false, .ref s.heap.objs.size, rawInt 0, .none, .none] }) (s.heap.objs.size + 1) s.heap.objs.size 0 .none := by
    have q := Heap.get?_push_size (s.heap.push { cls := .type "tuple_iterator", data := .fields #[.ref tp, .int 0 0] }) (o := { cls := .type "enumerate", data := .fields #[.none, .bool false, .ref s.heap.objs.size, rawInt 0, .none, .none] }) rfl
    rw [sz] at q
    exact q
  exact ⟨⟨_, en, rfl⟩, k _ en ⟨_, Heap.get?_push_of_some _ (Heap.get?_push_size _ rfl), rfl, rfl⟩ fun b o x => Heap.get?_push_of_some _ (Heap.get?_push_of_some _ x)⟩
/-- the tuple at a, each item in a new pair behind its number -/
def ItEt (K : PySem.W.Frag) (a : Addr) : It :=
  ⟨fun i H => ∃ (xs : List V) (x : V), SqT K H a xs ∧ xs[i]? = some x, fun i H v H' => ∃ T x, v = .ref T ∧ H T = none ∧ H' = upd H T (.tup [.int (i : Nat), x]) ∧ ∀ ys, SqT K H a ys → ys[i]? = some x, fun i H => ∃ xs : List V, SqT K H a xs ∧ xs.length = i⟩
theorem D_of {prog : Program} {w : World} {A : Around} (hh : A.handled = none) {it a : Addr} (n : a ≠ it) (items : Array Value) : Draws prog w A.in1 it [it, a] items.size (fun i v => items[i]? = some v) (fun i h => h.IsTupleIter it a i ∧ h.IsTuple a items) :=
  Draws.tuple (A := A.in1) hh it a n items
theorem en_turn {P : Program} {w : World} {K : PySem.W.Frag} {elts : List Expr} {kk : Nat} {tpos : Pos} (a e it : Addr) :
    Turn P w K (.Tuple elts kk tpos) (ItEt K a) [e, it] e (fun i h => (∃ u, IsEnum h e it ((i : Nat) : Int) u) ∧ h.IsTupleIter it a i ∧ e ≠ it ∧ a ≠ it ∧ a ≠ e) where
  mem := List.mem_cons_self
  obj := fun i h st b hb => by
    obtain ⟨⟨u, he⟩, ⟨o, ho, hc, hd⟩, _⟩ := st
    rcases List.mem_cons.mp hb with z | z
    · rw [z]; exact ⟨_, he, fun v q => nomatch q⟩
    · rw [List.mem_singleton.mp z]; exact ⟨o, ho, fun v q => by rw [hd] at q; cases q⟩
  keep := fun i h h' st k => let ⟨⟨u, he⟩, hi, n1, n2⟩ := st; ⟨⟨u, k e List.mem_cons_self _ he⟩, hi.at fun o q => k it (List.mem_cons_of_mem _ (List.mem_singleton.mpr rfl)) o q, n1, n2⟩
  item := by
    intro X eP ew eK hc i pins s σ H E I hf st hg
    subst eP ew eK
    obtain ⟨⟨u0, he⟩, hit, n1, n2, n3⟩ := st
    obtain ⟨xs, x, hq, hx⟩ := hg
    obtain ⟨its, rv, tp, hz⟩ := I.tuple hq
    obtain ⟨u, hu, ru⟩ := rv.get hx
    have lt : i < its.toArray.size := by
      have z := (List.getElem?_eq_some_iff.mp hu).1
      simpa using z
    have le : e < s.heap.objs.size := Heap.lt_size he
    have li : it < s.heap.objs.size := by obtain ⟨_, q, _⟩ := hit; exact Heap.lt_size q
    refine wpAny_pyNext_enum_itemD (D_of (I.ok.hd hc) n2 its.toArray) he ⟨hit, tp⟩ lt n1 (fun z => ?_) fun y h' tk hy ho hs' hT hsz hk => ?_
    · rcases List.mem_cons.mp z with z | z
      · exact n1 z
      · exact n3 (List.mem_singleton.mp z).symm
    have ey : y = u := by
      have z : its.toArray[i]? = some y := hy
      rw [List.getElem?_toArray, hu] at z
      exact (Option.some.inj z).symm
    subst ey
    refine ⟨_, rfl, wpAny_letOwnedTupleGo_enum (s := { s with heap := h', toks := tk + 1 }) ho fun h2 he2 sb => ?_⟩
    have hT2 : h2.get? s.heap.objs.size = some { cls := .type "tuple", data := .seq #[.int i tk, y] } := (sb.2 _ (Nat.ne_of_gt le)).trans hT
    have new : ObjOk X.prog X.w (upd H s.heap.objs.size (.tup [.int (i : Nat), x])) h2 s.heap.objs.size (.tup [.int (i : Nat), x]) :=
      ⟨by show 2 ≤ sizeLine; decide, [.int i tk, y], .cons ⟨_, rfl⟩ (.cons ru .nil), ⟨_, hT2, rfl, _, rfl⟩⟩
    have I1 : Inv X pins σ (upd H s.heap.objs.size (.tup [.int (i : Nat), x])) { s with heap := h2, toks := tk + 1 } :=
      I.turnedNew (ch := [e, it]) (fun b ob hb q => (sb.2 b (fun z => hb (by rw [z]; exact List.mem_cons_self))).trans (hk b ob (fun z => hb (by rw [z]; exact List.mem_cons_self)) (fun z => hb (by rw [z]; exact List.mem_cons_of_mem _ (List.mem_singleton.mpr rfl))) q)) hf (Nat.le_refl _) new
    refine ⟨.ref s.heap.objs.size, _, I1, rfl, ⟨_, x, rfl, I.hok.fresh (Nat.le_refl _), rfl, fun ys hy => by rw [I.tuple_inj hy hq]; exact hx⟩, ⟨⟨y, ?_⟩, hs'.1.at fun o q => (sb.2 it (Ne.symm n1)).trans q, n1, n2, n3⟩, fun b hb => ?_⟩
    · have e1 : ((i + 1 : Nat) : Int) = (i : Int) + 1 := by omega
      rw [e1]
      exact he2
    · have hb2 : b < s.heap.objs.size := by
        rcases List.mem_cons.mp hb with z | z
        · rw [z]; exact le
        · rw [List.mem_singleton.mp z]; exact li
      rw [upd_ne (Nat.ne_of_lt hb2)]
      exact (hf b hb).1
  done := by
    intro X eP ew eK hc i pins s σ H E I hf st hg
    subst eP ew eK
    obtain ⟨⟨u0, he⟩, hit, n1, n2, n3⟩ := st
    obtain ⟨xs, hq, hx⟩ := hg
    obtain ⟨its, rv, tp, hz⟩ := I.tuple hq
    obtain ⟨f0, f1, f2, f3, f4, f5⟩ := hf it (List.mem_cons_of_mem _ (List.mem_singleton.mpr rfl))
    have ls : xs.length = its.length := rv.length
    have ei : i = its.toArray.size := by
      rw [List.size_toArray]
      omega
    exact wpAny_pyNext_enum_endD (D_of (I.ok.hd hc) n2 its.toArray) he ⟨by rw [← ei]; exact hit, tp⟩ fun h' eb => ⟨rfl, I.turned (t' := s.toks) (fun b o hb q => eb b o hb q) f0 f1 f3 f4 f5⟩
  self := fun A i s Q E st h => let ⟨⟨_, he⟩, _⟩ := st; wpAny_pyIter_enum he h
def iEnT (K : PySem.W.Frag) (ta : TA) : TI := fun σ H R => ta σ H fun vs H1 => ∃ a xs, vs = [.ref a] ∧ SqT K H1 a xs ∧ R (ItEt K a) H1
theorem pi_enumT {X : Cx} {e : Expr} {ta : TA} {p pos tpos : Pos} {elts : List Expr} {kk : Nat} (hg : Gl X "enumerate") (hm : X.mg "enumerate" = none) (ha : PA X [e] ta) (hs : starEach [e] X.env = [(false, eval e X.env)] := by rfl) :
    PI X (.Tuple elts kk tpos) (.Call (.Name "enumerate" p) [e] [] pos) (iEnT X.K ta) := by
  refine ⟨fun pins s σ H R I h => ?_⟩
  refine Call_ (ld_blt I hg hm boot_enumerate (PyProof.Rows.callWith_type1 (thn (ha.run pos pins s σ H _ I h) fun us s1 ⟨vs, H1, I1, r1, q1⟩ => ?_) hs rfl))
  obtain ⟨a, xs, rfl, hq, q⟩ := q1
  cases r1 with
  | cons r rr =>
    cases rr
    cases r
    obtain ⟨its, rv, tp, hz⟩ := I1.tuple hq
    have la : a < s1.heap.objs.size := by obtain ⟨o, z, _⟩ := tp; exact Heap.lt_size z
    refine en_call tp fun h' he hit hk => wpAny_pyIter_enum he ?_
    have I2 : Inv X pins σ H1 { s1 with heap := h' } := I1.kept (t' := s1.toks) hk
    refine ⟨s1.heap.objs.size + 1, [s1.heap.objs.size + 1, s1.heap.objs.size], _, _, H1, rfl, I2, en_turn a (s1.heap.objs.size + 1) s1.heap.objs.size, ⟨⟨.none, he⟩, hit, Nat.succ_ne_self _, Nat.ne_of_lt la, Nat.ne_of_lt (Nat.lt_succ_of_lt la)⟩, fun b hb => ?_, q⟩
    have hle : s1.heap.objs.size ≤ b := by
      rcases List.mem_cons.mp hb with z | z
      · rw [z]; exact Nat.le_add_right _ _
      · rw [List.mem_singleton.mp z]; exact Nat.le_refl _
    exact I1.fpOk hle (I1.hok.fresh hle)
theorem for_enT {K : PySem.W.Frag} {a : Addr} {xs : List V} {g : TG} {tb : TS} {D : Ends} {σ : L2.St} {H : Hp} (Pv : Nat → L2.St → Hp → Prop) (h0 : Pv 0 σ H) (hl : ∀ i σ H, i ≤ xs.length → Pv i σ H → SqT K H a xs)
    (hs : ∀ (i : Nat) (x : V) (T : Addr) (σ : L2.St) (H : Hp), xs[i]? = some x → Pv i σ H → H T = none → g (.ref T) σ (upd H T (.tup [.int (i : Nat), x])) fun σ2 H2 => tb { D with nx := Pv (i + 1), ct := Pv (i + 1), bk := D.nx } σ2 H2) (hd : ∀ σ H, Pv xs.length σ H → D.nx σ H) :
    ∃ W : Nat → Nat → L2.St → Hp → Prop, (∃ m, W 0 m σ H) ∧ ∀ i m σ H, W i m σ H →
      ((ItEt K a).stop i H ∧ D.nx σ H) ∨ ((ItEt K a).go i H ∧ ∃ N : L2.St → Hp → Prop, (∀ σ' H', N σ' H' → ∃ m', m' < m ∧ W (i + 1) m' σ' H') ∧ ∀ v H', (ItEt K a).yld i H v H' → g v σ H' fun σ2 H2 => tb { D with nx := N, ct := N, bk := D.nx } σ2 H2) := by
  refine ⟨fun i m σ H => m = xs.length - i ∧ i ≤ xs.length ∧ Pv i σ H, ⟨xs.length, by omega, Nat.zero_le _, h0⟩, ?_⟩
  rintro i m σ H ⟨em, hi, p⟩
  have q := hl i σ H hi p
  by_cases lt : i < xs.length
  · refine .inr ⟨⟨xs, xs[i], q, List.getElem?_eq_getElem lt⟩, Pv (i + 1), fun σ' H' p' => ⟨xs.length - (i + 1), by omega, rfl, lt, p'⟩, ?_⟩
    rintro v H' ⟨T, x, rfl, hT, rfl, hx⟩
    exact hs i x T σ H (hx xs q) p hT
  · have e : i = xs.length := by omega
    subst e
    exact .inl ⟨⟨xs, q, rfl⟩, hd σ H p⟩
end Q

namespace Q
open PySem L2
abbrev sPlain : Stmt := top 9
abbrev sNum : Stmt := top 10
abbrev sTie : Stmt := top 15
abbrev sFirst : Stmt := top 16
abbrev kInt (K : PySem.W.Frag) (t : Value) (b : Bool) : Prop := PySem.W.kitOne K t (.type "int") = some b
abbrev kBool (K : PySem.W.Frag) (t : Value) (b : Bool) : Prop := PySem.W.kitOne K t (.type "bool") = some b
def spPlain (K : PySem.W.Frag) : Sp := fun vs H Q _ => ∃ (v : V) (t : Value) (b c : Bool), vs = [v] ∧ TyX K H v t ∧ kInt K t b ∧ kBool K t c ∧ Q (.bl (b && !c)) H
def NoInt (K : PySem.W.Frag) (H : Hp) (v : V) : Prop := ∃ (t : Value) (b c : Bool), TyX K H v t ∧ kInt K t b ∧ kBool K t c ∧ (b && !c) = false
def spNum (K : PySem.W.Frag) : Sp := fun vs H Q _ => ∃ (n : Int) (v : V), vs = [.int n, v] ∧ ((∃ i : Int, v = .int i ∧ Q (.bl (decide (0 ≤ i) && decide (i < n))) H) ∨ (NoInt K H v ∧ Q (.bl false) H))
def spTie : Sp := fun vs H Q _ => ∃ (m : Int) (t : Addr) (a b : Int), vs = [.int m, .ref t] ∧ H t = some (.tup [.int a, .int b]) ∧ 0 ≤ a ∧ a < b ∧ b < m ∧ Q (.bl true) H
def spFirst : Sp := fun vs H Q _ => ∃ (m : Int) (q : Addr) (L : List (Addr × List Int)), vs = [.int m, .ref q] ∧ TiesAt m H q L ∧ ∀ H', Same H H' → Q .non H'
theorem kInt_int {K : PySem.W.Frag} : kInt K (.type "int") true := kit_ty (by decide +kernel)
theorem kBool_int {K : PySem.W.Frag} : kBool K (.type "int") false := kit_ty (by decide +kernel)
section
variable {P : Program} {w : World} {K : PySem.W.Frag} {mg : Str → Option Value} {base : Heap}
theorem scPlain : FnScope ["thing"] ["thing"] (defScope sPlain) := ⟨rfl, rfl, rfl, by decide +kernel, rfl, by decide +kernel, by decide +kernel⟩
theorem ok_plain {f : Addr} {fd : FuncData} {x : Str} {st : Stmt} (F : Fun K "is_plain_int" "is_plain_int" sPlain f fd) (B : Bts mg) : FnOk P w K mg base CX0 1 f fd ["thing"] (spPlain K) := by
  refine F.ok scPlain (fun vs H Q E h => ?_) (fun cdv A outer s H vs Q E hr h => ?_)
  · obtain ⟨v, t, b, c, rfl, _⟩ := h
    rfl
  · obtain ⟨v, t, b, c, rfl, ty, kb, kc, k⟩ := h
    refine ⟨_, pss_one (ps_ret (pe_and (pe_callB call_isi (by rfl) B.isinstance PyProof.Rows.boot_isinstance (pa_cons (pv 0) (pa_cons (pe_bltn (v := .ty "int") rfl B.int PyProof.Rows.boot_int rfl) pa_nil)))
      (pe_one (pe_not (pe_callB call_isi (by rfl) B.isinstance PyProof.Rows.boot_isinstance (pa_cons (pv 0) (pa_cons (pe_bltn (v := .ty "bool") rfl B.bool (by decide +kernel) rfl) pa_nil))))))), ?_⟩
    refine ⟨_, rfl, v, .ty "int", t, .type "int", b, rfl, .ty _, ty, kb, _, rfl, ?_⟩
    cases b with
    | false => exact iteF k
    | true => exact iteT ⟨_, rfl, v, .ty "bool", t, .type "bool", c, rfl, .ty _, ty, kc, _, rfl, k⟩
theorem scNum : FnScope ["limit", "thing"] ["limit", "thing"] (defScope sNum) := ⟨rfl, rfl, rfl, by decide +kernel, rfl, by decide +kernel, by decide +kernel⟩
theorem ok_num {f fP : Addr} {fd fdP : FuncData} (F : Fun K "is_number_below" "is_number_below" sNum f fd) (B : Bts mg) (DP : Df K mg "is_plain_int" sPlain ["thing"] fP fdP) : FnOk P w K mg base CX0 2 f fd ["limit", "thing"] (spNum K) := by
  have GP : FnOk P w K mg base CX0 1 fP fdP ["thing"] (spPlain K) := ok_plain (x := "") (st := sPlain) DP.F B
  refine F.ok scNum (fun vs H Q E h => ?_) (fun cdv A outer s H vs Q E hr h => ?_)
  · obtain ⟨n, v, rfl, _⟩ := h
    rfl
  · obtain ⟨n, v, rfl, h⟩ := h
    refine ⟨_, pss_one (ps_ret (pe_and (pe_call GP hr rfl DP.m DP.k DP.b .nil pass0 (pa_cons (pv 1) pa_nil)) (pe_one (pe_chain op_le op_lt pe_int (pv 1) (pv 0))))), ?_⟩
    rcases h with ⟨i, rfl, k⟩ | ⟨⟨t, b, c, ty, kb, kc, e⟩, k⟩
    · refine ⟨_, rfl, .int i, .type "int", true, false, rfl, .base (.int _), kInt_int, kBool_int, _, rfl, iteT ?_⟩
      refine ⟨_, rfl, _, _, rfl, rfl, _, rfl, ?_⟩
      by_cases c : (0 : Int) ≤ i
      · rw [decide_eq_true c] at k ⊢
        exact iteT ⟨_, rfl, _, _, rfl, rfl, k⟩
      · rw [decide_eq_false c] at k ⊢
        exact iteF k
    · refine ⟨_, rfl, v, t, b, c, rfl, ty, kb, kc, _, rfl, ?_⟩
      rw [e]
      exact iteF k
theorem scTie : FnScope ["many", "thing", "low", "high"] ["many", "thing"] (defScope sTie) := ⟨rfl, rfl, rfl, by decide +kernel, rfl, by decide +kernel, by decide +kernel⟩
theorem ok_tie {f fP fN : Addr} {fd fdP fdN : FuncData} (F : Fun K "is_tie" "is_tie" sTie f fd) (B : Bts mg) (DP : Df K mg "is_plain_int" sPlain ["thing"] fP fdP) (DN : Df K mg "is_number_below" sNum ["limit", "thing"] fN fdN) : FnOk P w K mg base CX0 3 f fd ["many", "thing"] spTie := by
  have GN : FnOk P w K mg base CX0 2 fN fdN ["limit", "thing"] (spNum K) := ok_num DN.F B DP
  refine F.ok scTie (fun vs H Q E h => ?_) (fun cdv A outer s H vs Q E hr h => ?_)
  · obtain ⟨m, t, a, b, rfl, _⟩ := h
    rfl
  · obtain ⟨m, t, a, b, rfl, ht, h0, h1, h2, k⟩ := h
    have nd := scTie.nd
    refine ⟨_, pss_cons (ps_if (PW.pt (pw_or (pt_not (pt_val (pe_callB call_isi (by rfl) B.isinstance PyProof.Rows.boot_isinstance (pa_cons (pv 1) (pa_cons (pe_bltn (v := .ty "tuple") rfl B.tuple PyProof.Rows.boot_tuple rfl) pa_nil)))))
        (pw_or1 (pt_cmpR op_ne (pe_callB call_len_seq (by rfl) B.len PySem.boot_len (pa_cons (pv 1) pa_nil)) pe_int (nomark _))))) pss_never pss_nil)
      (pss_cons (ps_asg (pv 1) (pg_tup rfl (pgs_cons (pg_name (i := 2) nd rfl (.inl rfl)) (pgs_cons (pg_name (i := 3) nd rfl (.inl rfl)) pgs_nil))))
      (pss_one (ps_ret (pe_and (pe_call GN hr rfl DN.m DN.k DN.b .nil pass0 (pa_cons (pv 0) (pa_cons (pv 2) pa_nil)))
        (pe_and (pe_call GN hr rfl DN.m DN.k DN.b .nil pass0 (pa_cons (pv 0) (pa_cons (pv 3) pa_nil))) (pe_one (pe_cmpR op_lt (pv 2) (pv 3) (nomark _)))))))), ?_⟩
    refine ⟨_, rfl, .ref t, .ty "tuple", .type "tuple", .type "tuple", true, rfl, .ty _, .base (.tup ht), kit_ty (by decide +kernel), _, rfl, ?_⟩
    refine iteF ⟨_, rfl, t, _, rfl, .inr (SqT.of ht), rfl, _, rfl, ?_⟩
    refine iteF ?_
    refine ⟨_, rfl, t, _, rfl, SqT.of ht, rfl, _, _, rfl, _, _, rfl, rfl, ?_⟩
    refine ⟨_, rfl, _, rfl, m, _, rfl, .inl ⟨a, rfl, ?_⟩⟩
    rw [decide_eq_true h0, decide_eq_true (show a < m by omega)]
    refine ⟨_, rfl, iteT ?_⟩
    refine ⟨_, rfl, _, rfl, m, _, rfl, .inl ⟨b, rfl, ?_⟩⟩
    rw [decide_eq_true (show 0 ≤ b by omega), decide_eq_true h2]
    refine ⟨_, rfl, iteT ?_⟩
    refine ⟨_, rfl, _, rfl, _, _, rfl, rfl, ?_⟩
    have z : Q (V.bl (decide (a < b))) H := by
      rw [decide_eq_true h1]
      exact k
    exact z
theorem not_le_of {a b c d : Int} (h : ltP [c, d] [a, b]) : Ob.lexAt (fun j => decide (([a, b] : List Int).getD j 0 = ([c, d] : List Int).getD j 0)) (fun j => decide (([a, b] : List Int).getD j 0 ≤ ([c, d] : List Int).getD j 0)) (decide (([a, b] : List Int).length ≤ ([c, d] : List Int).length)) 0 (min ([a, b] : List Int).length ([c, d] : List Int).length) = false := by
  obtain ⟨x, y, z, u, e1, e2, h⟩ := h
  simp only [List.cons.injEq, and_true] at e1 e2
  obtain ⟨rfl, rfl⟩ := e1
  obtain ⟨rfl, rfl⟩ := e2
  show (if decide (a = c) = true then (if decide (b = d) = true then decide ((2 : Nat) ≤ 2) else decide (b ≤ d)) else decide (a ≤ c)) = false
  rcases h with h | ⟨h1, h2⟩
  · rw [decide_eq_false (show ¬ a = c by omega), if_neg Bool.false_ne_true]
    exact decide_eq_false (by omega)
  · rw [decide_eq_true (show a = c by omega), if_pos rfl, decide_eq_false (show ¬ b = d by omega), if_neg Bool.false_ne_true]
    exact decide_eq_false (by omega)
/-- what stood ahead of item i -/
def ahd (L : List (Addr × List Int)) : Nat → List Int
  | 0 => []
  | i + 1 => match L[i]? with
    | some p => p.2
    | none => []
theorem TiesAt.same {m : Int} {H H' : Hp} {q : Addr} {L : List (Addr × List Int)} (h : TiesAt m H q L) (s : Same H H') : TiesAt m H' q L :=
  ⟨s _ _ h.at_, fun p hp => s _ _ (h.tup p hp), h.ok, h.asc, h.few, h.conn⟩
theorem ahd_lt {L : List (Addr × List Int)} (asc : L.Pairwise (fun x y => ltP x.2 y.2)) {i : Nat} {p : Addr × List Int} (h : L[i + 1]? = some p) : ltP (ahd L (i + 1)) p.2 := by
  have h1 := (List.getElem?_eq_some_iff.mp h).1
  have e : L[i]? = some L[i] := List.getElem?_eq_getElem (by omega)
  have e2 := (List.getElem?_eq_some_iff.mp h).2
  show ltP (match L[i]? with | some p => p.2 | none => []) p.2
  rw [e]
  have z := List.pairwise_iff_getElem.mp asc i (i + 1) (by omega) h1 (by omega)
  rw [e2] at z
  exact z
theorem scFirst : FnScope ["many", "ties", "ahead", "at", "tie"] ["many", "ties"] (defScope sFirst) := ⟨rfl, rfl, rfl, by decide +kernel, rfl, by decide +kernel, by decide +kernel⟩
theorem ok_first {f fP fN fT : Addr} {fd fdP fdN fdT : FuncData} (F : Fun K "first_wrong_tie" "first_wrong_tie" sFirst f fd) (B : Bts mg) (DP : Df K mg "is_plain_int" sPlain ["thing"] fP fdP) (DN : Df K mg "is_number_below" sNum ["limit", "thing"] fN fdN)
    (DT : Df K mg "is_tie" sTie ["many", "thing"] fT fdT) : FnOk P w K mg base CX0 4 f fd ["many", "ties"] spFirst := by
  have GT : FnOk P w K mg base CX0 3 fT fdT ["many", "thing"] spTie := ok_tie DT.F B DP DN
  refine F.ok scFirst (fun vs H Q E h => ?_) (fun cdv A outer s H vs Q E hr h => ?_)
  · obtain ⟨m, q, L, rfl, _⟩ := h
    rfl
  · obtain ⟨m, q, L, rfl, tt, k⟩ := h
    have nd := scFirst.nd
    have hu := hr.units0
    refine ⟨_, pss_cons (ps_set (i := 2) nd rfl (.inl rfl) (pe_tup pa_nil))
      (pss_cons (ps_for PassesOwn.never rfl (pi_enumT rfl B.enumerate (pa_cons (pv 1) pa_nil)) (pg_tup rfl (pgs_cons (pg_name (i := 3) nd rfl (.inl rfl)) (pgs_cons (pg_name (i := 4) nd rfl (.inl rfl)) pgs_nil)))
        (pss_cons (ps_if (PW.pt (pw_or (pt_not (pt_val (pe_call GT hr rfl DT.m DT.k DT.b .nil pass0 (pa_cons (pv 0) (pa_cons (pv 4) pa_nil))))) (pw_or1 (pt_cmpR (op_leT hu) (pv 4) (pv 2) (nomark _))))) pss_never pss_nil)
        (pss_one (ps_set (i := 2) nd rfl (.inl rfl) (pv 4)))))
      (pss_one (ps_ret pe_non))), ?_⟩
    refine ⟨Nat.zero_le _, fun ah hah => ?_⟩
    have s0 : Same H (upd H ah (.tup [])) := fun b o e => by rw [upd_ne (ne_of_none e hah)]; exact e
    refine ⟨_, rfl, q, _, rfl, SqT.of (s0 _ _ tt.at_), for_enT (a := q) (xs := L.map fun p => V.ref p.1) (fun i σ H' => ∃ ah x3 x4, σ = [some (.int m), some (.ref q), some (.ref ah), x3, x4] ∧ Same H H' ∧ H' ah = some (.tup ((ahd L i).map V.int))) ?_ ?_ ?_ ?_⟩
    · exact ⟨ah, none, none, rfl, s0, upd_same⟩
    · rintro i σ H1 hi ⟨ah, x3, x4, rfl, s1, e⟩
      exact SqT.of (s1 _ _ tt.at_)
    · rintro i x T σ H1 hx ⟨ah, x3, x4, rfl, s1, e⟩ hT
      have s2 : Same H1 (upd H1 T (.tup [.int (i : Nat), x])) := fun b o e => by rw [upd_ne (ne_of_none e hT)]; exact e
      obtain ⟨p, hp, rfl⟩ : ∃ p, L[i]? = some p ∧ V.ref p.1 = x := by
        rw [List.getElem?_map] at hx
        cases z : L[i]? with
        | none => rw [z] at hx; cases hx
        | some p => rw [z] at hx; exact ⟨p, rfl, Option.some.inj hx⟩
      have hm : p ∈ L := List.mem_of_getElem? hp
      obtain ⟨a, b, e2, a0, ab, bm⟩ := tt.ok p hm
      have ht2 := s2 _ _ (s1 _ _ (tt.tup p hm))
      refine ⟨T, _, rfl, SqT.of upd_same, rfl, _, _, rfl, _, _, rfl, rfl, ?_⟩
      have ht3 := ht2
      rw [e2] at ht3
      refine ⟨_, rfl, _, rfl, m, p.1, a, b, rfl, ht3, a0, ab, bm, _, rfl, ?_⟩
      refine iteF ⟨_, rfl, _, rfl, p.1, ah, [a, b], ahd L i, rfl, rfl, SqT.of ht3, SqT.of (s2 _ _ e), _, rfl, ?_⟩
      have fl : Ob.lexAt (fun j => decide (([a, b] : List Int).getD j 0 = (ahd L i).getD j 0)) (fun j => decide (([a, b] : List Int).getD j 0 ≤ (ahd L i).getD j 0)) (decide (([a, b] : List Int).length ≤ (ahd L i).length)) 0 (min ([a, b] : List Int).length (ahd L i).length) = false := by
        cases i with
        | zero => rfl
        | succ i =>
          have z := ahd_lt tt.asc hp
          rw [e2] at z
          have z' := z
          obtain ⟨c, d, _, _, e3, _⟩ := z'
          rw [e3] at z ⊢
          exact not_le_of z
      rw [fl]
      refine iteF ⟨_, rfl, p.1, _, _, rfl, fun b o e => s2 _ _ (s1 _ _ e), ?_⟩
      have eah : ahd L (i + 1) = p.2 := by
        show (match L[i]? with | some p => p.2 | none => []) = p.2
        rw [hp]
      rw [eah]
      exact ht2
    · rintro σ H1 ⟨ah, x3, x4, rfl, s1, e⟩
      exact k _ s1
end
end Q

namespace Q
open PySem L2
abbrev sBeside : Stmt := top 17
def Edge (L : List (Addr × List Int)) (i j : Int) : Prop := ∃ p ∈ L, p.2 = [i, j] ∨ p.2 = [j, i]
/-- a list at D of n lists of ints -/
structure RowsL (H : Hp) (D : Addr) (bs : List Addr) (nb : Nat → List Int) (n : Nat) : Prop where
  at_ : H D = some (.lst (bs.map V.ref))
  len : bs.length = n
  nd : bs.Nodup
  nD : D ∉ bs
  row : ∀ (i : Nat) (a : Addr), bs[i]? = some a → H a = some (.lst ((nb i).map V.int))
theorem nd_get {l : List Addr} (h : l.Nodup) {i j : Nat} {a : Addr} (h1 : l[i]? = some a) (h2 : l[j]? = some a) : i = j := by
  obtain ⟨l1, e1⟩ := List.getElem?_eq_some_iff.mp h1
  obtain ⟨l2, e2⟩ := List.getElem?_eq_some_iff.mp h2
  rcases Nat.lt_trichotomy i j with c | c | c
  · exact absurd (e1.trans e2.symm) (List.pairwise_iff_getElem.mp h i j l1 l2 c)
  · exact c
  · exact absurd (e2.trans e1.symm) (List.pairwise_iff_getElem.mp h j i l2 l1 c)
theorem RowsL.add {H : Hp} {D : Addr} {bs : List Addr} {nb : Nat → List Int} {n i : Nat} {a : Addr} {j : Int} (h : RowsL H D bs nb n) (hi : bs[i]? = some a) :
    RowsL (upd H a (.lst ((nb i).map V.int ++ [.int j]))) D bs (fun k => if k = i then nb i ++ [j] else nb k) n := by
  have hm : a ∈ bs := List.mem_of_getElem? hi
  refine ⟨by rw [upd_ne (fun e => h.nD (by rw [e]; exact hm))]; exact h.at_, h.len, h.nd, h.nD, fun k b hk => ?_⟩
  show upd H a _ b = some (.lst ((if k = i then nb i ++ [j] else nb k).map V.int))
  by_cases e : b = a
  · subst e
    have ek := nd_get h.nd hk hi
    rw [if_pos ek, upd_same, List.map_append]
    rfl
  · have nk : ¬ k = i := fun ek => by
      rw [ek, hi] at hk
      exact e (Option.some.inj hk).symm
    rw [if_neg nk, upd_ne e]
    exact h.row k b hk
/-- a tuple at r of tuples of ints: the neighbours -/
structure RowsT (H : Hp) (r : Addr) (bs : List Addr) (nb : Nat → List Int) (n : Nat) : Prop where
  at_ : H r = some (.tup (bs.map V.ref))
  len : bs.length = n
  row : ∀ (i : Nat) (a : Addr), bs[i]? = some a → H a = some (.tup ((nb i).map V.int))
theorem RowsT.same {H H' : Hp} {r : Addr} {bs : List Addr} {nb : Nat → List Int} {n : Nat} (h : RowsT H r bs nb n) (s : Same H H') : RowsT H' r bs nb n := ⟨s _ _ h.at_, h.len, fun i a e => s _ _ (h.row i a e)⟩
def NbOf (L : List (Addr × List Int)) (n : Nat) (nb : Nat → List Int) : Prop := ∀ (i : Nat), i < n → ∀ j : Int, j ∈ nb i ↔ Edge L (i : Int) j
theorem sNew {H H1 : Hp} {p : Addr} {o : HO} (s : Same H H1) (n : H p = none) : Same H (upd H1 p o) := fun b u e => by
  rw [upd_ne (ne_of_none e n)]; exact s b u e
theorem sNew' {H H1 : Hp} {p : Addr} {o : HO} (s : Same H H1) (n : H1 p = none) : Same H (upd H1 p o) := fun b u e => by
  rw [upd_ne (ne_of_none (s b u e) n)]; exact s b u e
theorem sNo {H H1 : Hp} {p : Addr} (s : Same H H1) (n : H1 p = none) : H p = none := by
  cases e : H p with
  | none => rfl
  | some o =>
    rw [s _ _ e] at n
    cases n
/-- the rows ascend -/
def NbA (n : Nat) (nb : Nat → List Int) : Prop := ∀ i : Nat, i < n → (nb i).Pairwise (· < ·)
theorem asc_sort {l : List Int} (h : l.Pairwise (· ≤ ·)) (n : l.Nodup) : l.Pairwise (· < ·) := by
  induction l with
  | nil => exact .nil
  | cons a r ih =>
    rw [List.pairwise_cons] at h ⊢
    rw [List.nodup_cons] at n
    refine ⟨fun y hy => ?_, ih h.2 n.2⟩
    have := h.1 y hy
    have ne : a ≠ y := fun e => n.1 (by rw [e]; exact hy)
    omega
theorem asc_uniq : ∀ {l r : List Int}, l.Pairwise (· < ·) → r.Pairwise (· < ·) → (∀ j, j ∈ l ↔ j ∈ r) → l = r
  | [], [], _, _, _ => rfl
  | [], b :: _, _, _, h => absurd ((h b).mpr List.mem_cons_self) List.not_mem_nil
  | a :: _, [], _, _, h => absurd ((h a).mp List.mem_cons_self) List.not_mem_nil
  | a :: l, b :: r, h1, h2, h => by
    rw [List.pairwise_cons] at h1 h2
    have ha := (h a).mp List.mem_cons_self
    have hb := (h b).mpr List.mem_cons_self
    have e : a = b := by
      rcases List.mem_cons.mp ha with e | ha
      · exact e
      · rcases List.mem_cons.mp hb with e | hb
        · exact e.symm
        · have := h2.1 a ha
          have := h1.1 b hb
          omega
    subst e
    rw [asc_uniq h1.2 h2.2 fun j => ?_]
    constructor
    · intro hj
      rcases List.mem_cons.mp ((h j).mp (List.mem_cons_of_mem _ hj)) with e | z
      · have := h1.1 j hj
        omega
      · exact z
    · intro hj
      rcases List.mem_cons.mp ((h j).mpr (List.mem_cons_of_mem _ hj)) with e | z
      · have := h2.1 j hj
        omega
      · exact z
def spBeside : Sp := fun vs H Q _ => ∃ (m : Int) (q : Addr) (L : List (Addr × List Int)), vs = [.int m, .ref q] ∧ 1 ≤ m ∧ m ≤ 40 ∧ TiesAt m H q L ∧ ∀ (r : Addr) (bs : List Addr) (nb : Nat → List Int) (H' : Hp), RowsT H' r bs nb m.toNat → NbOf L m.toNat nb → NbA m.toNat nb → Same H H' → Q (.ref r) H'
theorem get_cast {ns : List V} {i : Int} {v : V} (h0 : 0 ≤ i) (h : ns[i.toNat]? = some v) : atI ns i = some v := by
  have z := atI_nat h
  rw [Int.toNat_of_nonneg h0] at z
  exact z
theorem map_get {l : List Addr} {i : Nat} {a : Addr} (h : l[i]? = some a) : (l.map V.ref)[i]? = some (V.ref a) := by
  rw [List.getElem?_map, h]
  rfl
theorem map_inv {α : Type} {f : α → V} {l : List α} {i : Nat} {v : V} (h : (l.map f)[i]? = some v) : ∃ a, l[i]? = some a ∧ v = f a := by
  rw [List.getElem?_map] at h
  cases e : l[i]? with
  | none => rw [e] at h; cases h
  | some a => rw [e] at h; exact ⟨a, rfl, (Option.some.inj h).symm⟩
theorem take_succ_mem {α : Type} {l : List α} {k : Nat} {x y : α} (h : l[k]? = some x) : y ∈ l.take (k + 1) ↔ y ∈ l.take k ∨ y = x := by
  rw [List.take_succ, h]
  simp
def rTupO (K : PySem.W.Frag) : List V → Hp → VK → Prop := fun xs H Q => ∃ (p : Addr) (ys : List V), xs = [.ref p] ∧ ((SqL K H p ys ∧ ∀ l, H l = none → Q (.ref l) (upd H l (.tup ys))) ∨ (SqT K H p ys ∧ Q (.ref p) H))
theorem cr_tupO {X : Cx} : CallR X (.type "tuple") (rTupO X.K) := call_tuple_of
section
variable {P : Program} {w : World} {K : PySem.W.Frag} {mg : Str → Option Value} {base : Heap}
theorem scBeside : FnScope ["many", "ties", "beside", "low", "high", "_", "houses"] ["many", "ties"] (defScope sBeside) := ⟨rfl, rfl, rfl, by decide +kernel, rfl, by decide +kernel, by decide +kernel⟩
theorem ok_beside {f : Addr} {fd : FuncData} (F : Fun K "houses_beside" "houses_beside" sBeside f fd) (B : Bts mg) : FnOk P w K mg base CX0 1 f fd ["many", "ties"] spBeside := by
  refine F.ok scBeside (fun vs H Q E h => ?_) (fun cdv A outer s H vs Q E hr h => ?_)
  · obtain ⟨m, q, L, rfl, _⟩ := h
    rfl
  · obtain ⟨m, q, L, rfl, m1, m40, tt, k⟩ := h
    have nd := scBeside.nd
    refine ⟨_, pss_cons (ps_setLc (i := 2) (own := [("_", 5)]) (g := gName 5) (tt := tYes) rfl nd rfl rfl (sw_true rfl rfl rfl (by decide +kernel)) (pi_range1 rfl B.range (pa_cons (pv 0) pa_nil))
        (blkOk_by (N := ["many", "ties", "beside", "low", "high", "_", "houses"]) (sc := defScope sBeside) (by decide +kernel)) (fun _ _ _ _ _ => pg_name (i := 5) nd rfl (.inl rfl)) (fun _ _ _ _ _ => pts_nil) (fun _ _ _ _ _ => pe_lst pa_nil))
      (pss_cons (ps_for PassesOwn.never rfl (pi_tup (pv 1)) (pg_tup rfl (pgs_cons (pg_name (i := 3) nd rfl (.inl rfl)) (pgs_cons (pg_name (i := 4) nd rfl (.inl rfl)) pgs_nil)))
        (pss_cons (ps_expr (pe_bm PySem.F.plainAttrs_list PySem.F.slot_list_append PySem.F.type_list_append mt_append (pe_ix ix_list (pv 2) (pv 3) (fun _ _ => rfl)) (pa_cons (pv 4) pa_nil)))
        (pss_one (ps_expr (pe_bm PySem.F.plainAttrs_list PySem.F.slot_list_append PySem.F.type_list_append mt_append (pe_ix ix_list (pv 2) (pv 4) (fun _ _ => rfl)) (pa_cons (pv 3) pa_nil))))))
      (pss_one (ps_ret (pe_callTy call_tuple_of (by rfl) B.tuple PyProof.Rows.boot_tuple (pa_cons (pe_lc (own := [("houses", 6)]) (g := gName 6) (tt := tYes) rfl nd (pi_list (pv 2))
        (blkOk_by (N := ["many", "ties", "beside", "low", "high", "_", "houses"]) (sc := defScope sBeside) (by decide +kernel)) (fun _ _ _ _ _ => pg_name (i := 6) nd rfl (.inl rfl)) (fun _ _ _ _ _ => pts_nil)
        (fun _ _ _ _ _ => pe_callTy (r := rTupO K) cr_tupO (by rfl) B.tuple PyProof.Rows.boot_tuple (pa_cons (pe_callB (r := rSorted K) cr_sorted (by rfl) B.sorted PyProof.Rows.boot_sorted (pa_cons (pv 6) pa_nil)) pa_nil))) pa_nil))))), ?_⟩
    -- beside = [[] for _ in range(many)]
    refine ⟨_, rfl, m, rfl, by omega, by omega, fun D hD => lc_range (lo := 0) (n := m.toNat) (fun i H' => ∃ bs : List Addr, H' D = some (.lst (bs.map V.ref)) ∧ bs.length = i ∧ bs.Nodup ∧ D ∉ bs ∧ (∀ a ∈ bs, H' a = some (.lst []) ∧ H a = none) ∧ Same H H') ?_ ?_ ?_⟩
    · exact ⟨[], upd_same, rfl, List.nodup_nil, List.not_mem_nil, fun a ha => absurd ha List.not_mem_nil, sNew (fun _ _ e => e) hD⟩
    · rintro i H1 hi ⟨bs, e1, hl, hn, hd, hb, s1⟩
      refine ⟨rfl, Nat.zero_le _, fun a ha => ?_⟩
      have nDa : D ≠ a := ne_of_none e1 ha
      have ea : upd H1 a (.lst []) D = some (.lst (bs.map V.ref)) := by rw [upd_ne nDa]; exact e1
      have na : a ∉ bs := fun hm => by
        rw [(hb a hm).1] at ha
        cases ha
      refine ⟨_, ea, ?_, bs ++ [a], ?_, ?_, ?_, ?_, ?_, ?_⟩
      · rw [List.length_map, hl]
        exact Nat.lt_of_lt_of_le (m := 64) (by omega) (by decide)
      · rw [upd_same, List.map_append]
        rfl
      · rw [List.length_append, hl]
        rfl
      · exact nd_snoc hn na
      · intro hm
        rcases List.mem_append.mp hm with hm | hm
        · exact hd hm
        · exact nDa (List.mem_singleton.mp hm)
      · intro b hm
        rcases List.mem_append.mp hm with hm | hm
        · refine ⟨?_, (hb b hm).2⟩
          rw [upd_ne (fun e => hd (by rw [← e]; exact hm)), upd_ne (fun e => na (by rw [← e]; exact hm))]
          exact (hb b hm).1
        · obtain rfl := List.mem_singleton.mp hm
          refine ⟨?_, sNo s1 ha⟩
          rw [upd_ne nDa.symm, upd_same]
      · exact sNew (sNew' s1 ha) hD
    · rintro H1 ⟨bs, e1, hl, hn, hd, hb, s1⟩
      have r1 : RowsL H1 D bs (fun _ => []) m.toNat := ⟨e1, hl, hn, hd, fun i a hi => (hb a (List.mem_of_getElem? hi)).1⟩
      have hfr : ∀ a ∈ bs, H a = none := fun a ha => (hb a ha).2
      clear e1 hl hn hd hb
      refine ⟨_, rfl, q, rfl, ⟨_, SqT.of (s1 _ _ tt.at_)⟩, for_tup (K := K) (a := q) (xs := L.map fun p => V.ref p.1) (fun k σ H' => ∃ x3 x4 nb, σ = [some (.int m), some (.ref q), some (.ref D), x3, x4, none, none] ∧ RowsL H' D bs nb m.toNat ∧ (∀ i : Nat, i < m.toNat → ∀ j : Int, j ∈ nb i ↔ Edge (L.take k) (i : Int) j) ∧ (∀ i, (nb i).length ≤ k) ∧ (∀ i, (nb i).Nodup) ∧ Same H H') ?_ ?_ ?_ ?_⟩
      · exact ⟨none, none, _, rfl, r1, fun i hi j => ⟨fun h => absurd h List.not_mem_nil, fun ⟨p, hp, _⟩ => absurd hp (by simp)⟩, fun i => Nat.le_refl _, fun i => List.nodup_nil, s1⟩
      · rintro k σ H2 hk ⟨x3, x4, nb, rfl, r2, he, hlen, hnod, s2⟩
        exact SqT.of (s2 _ _ tt.at_)
      · rintro k x σ H2 hx ⟨x3, x4, nb, rfl, r2, he, hlen, hnod, s2⟩
        obtain ⟨p, hp, rfl⟩ := map_inv hx
        have hk64 : k < 64 := Nat.lt_of_lt_of_le (List.getElem?_eq_some_iff.mp hp).1 (Nat.le_of_lt tt.few)
        obtain ⟨a, b, e2, a0, ab, bm⟩ := tt.ok p (List.mem_of_getElem? hp)
        have ht := s2 _ _ (tt.tup p (List.mem_of_getElem? hp))
        rw [e2] at ht
        have la : a.toNat < bs.length := by rw [r2.len]; omega
        have lb : b.toNat < bs.length := by rw [r2.len]; omega
        have ga : bs[a.toNat]? = some bs[a.toNat] := List.getElem?_eq_getElem la
        have gb : bs[b.toNat]? = some bs[b.toNat] := List.getElem?_eq_getElem lb
        refine ⟨p.1, _, rfl, SqT.of ht, rfl, _, _, rfl, _, _, rfl, rfl, ?_⟩
        have ra := r2.row _ _ ga
        refine ⟨_, rfl, _, rfl, D, _, a, _, rfl, rfl, SqL.of r2.at_, get_cast a0 (map_get ga), .inl ⟨rfl, _, SqL.of ra⟩, _, rfl, bs[a.toNat], _, _, rfl, rfl, ra, ?_, ?_⟩
        · rw [List.length_map]
          exact Nat.lt_of_le_of_lt (hlen _) (Nat.lt_of_lt_of_le hk64 (by decide))
        · have r3 := r2.add (j := b) ga
          have rb := r3.row _ _ gb
          have nab : ¬ b.toNat = a.toNat := by omega
          rw [if_neg nab] at rb
          refine ⟨_, rfl, _, rfl, D, _, b, _, rfl, rfl, SqL.of r3.at_, get_cast (by omega) (map_get gb), .inl ⟨rfl, _, SqL.of rb⟩, _, rfl, bs[b.toNat], _, _, rfl, rfl, rb, ?_, ?_⟩
          · rw [List.length_map]
            exact Nat.lt_of_le_of_lt (hlen _) (Nat.lt_of_lt_of_le hk64 (by decide))
          · have r4 := r3.add (j := a) gb
            simp only [if_neg nab] at r4
            refine ⟨_, _, _, rfl, r4, ?_, ?_, ?nod, ?_⟩
            · intro i hi j
              have hz := he i hi j
              show j ∈ (if i = b.toNat then nb b.toNat ++ [a] else if i = a.toNat then nb a.toNat ++ [b] else nb i) ↔ _
              have ste : Edge (L.take (k + 1)) (i : Int) j ↔ Edge (L.take k) (i : Int) j ∨ (((i : Int) = a ∧ j = b) ∨ ((i : Int) = b ∧ j = a)) := by
                constructor
                · rintro ⟨y, hy, e⟩
                  rcases (take_succ_mem hp).mp hy with hy | rfl
                  · exact .inl ⟨y, hy, e⟩
                  · rw [e2] at e
                    simp only [List.cons.injEq, and_true] at e
                    omega
                · rintro (⟨y, hy, e⟩ | h)
                  · exact ⟨y, (take_succ_mem hp).mpr (.inl hy), e⟩
                  · refine ⟨p, (take_succ_mem hp).mpr (.inr rfl), ?_⟩
                    rw [e2]
                    simp only [List.cons.injEq, and_true]
                    omega
              rw [ste, ← hz]
              by_cases c1 : i = b.toNat
              · rw [if_pos c1, c1, List.mem_append, List.mem_singleton]
                constructor
                · rintro (h | h)
                  · exact .inl h
                  · exact .inr (.inr ⟨by omega, h⟩)
                · rintro (h | ⟨h, _⟩ | ⟨_, h⟩)
                  · exact .inl h
                  · omega
                  · exact .inr h
              · rw [if_neg c1]
                by_cases c2 : i = a.toNat
                · rw [if_pos c2, c2, List.mem_append, List.mem_singleton]
                  constructor
                  · rintro (h | h)
                    · exact .inl h
                    · exact .inr (.inl ⟨by omega, h⟩)
                  · rintro (h | ⟨_, h⟩ | ⟨h, _⟩)
                    · exact .inl h
                    · exact .inr h
                    · omega
                · rw [if_neg c2]
                  constructor
                  · exact .inl
                  · rintro (h | ⟨h, _⟩ | ⟨h, _⟩)
                    · exact h
                    · omega
                    · omega
            · intro i
              show (if i = b.toNat then nb b.toNat ++ [a] else if i = a.toNat then nb a.toNat ++ [b] else nb i).length ≤ k + 1
              have l1 := hlen i
              have l2 := hlen a.toNat
              have l3 := hlen b.toNat
              split
              · rw [List.length_append, List.length_singleton]; omega
              · split
                · rw [List.length_append, List.length_singleton]; omega
                · omega
            case nod =>
              have fresh : ∀ {u v : Int}, (([u, v] : List Int) = [a, b] ∨ ([u, v] : List Int) = [b, a]) → 0 ≤ u → u < m → v ∉ nb u.toNat := fun {u v} huv u0 um hv => by
                obtain ⟨y, hy, e⟩ := (he u.toNat (by omega) v).mp hv
                rw [Int.toNat_of_nonneg u0] at e
                have hlt : ltP y.2 p.2 := by
                  obtain ⟨j, hj, ej⟩ := List.mem_take_iff_getElem.mp hy
                  have hkl := (List.getElem?_eq_some_iff.mp hp)
                  obtain ⟨hkl, ek⟩ := hkl
                  have z := List.pairwise_iff_getElem.mp tt.asc j k (by omega) hkl (by omega)
                  rw [ej, ek] at z
                  exact z
                obtain ⟨y1, y2, z1, z2, ey, ep, hz⟩ := hlt
                obtain ⟨c1, c2, ey2, _, c12, _⟩ := tt.ok y (List.mem_of_mem_take hy)
                rw [e2] at ep
                rw [ey] at e ey2
                simp only [List.cons.injEq, and_true] at e ep ey2 huv
                omega
              intro i
              show (if i = b.toNat then nb b.toNat ++ [a] else if i = a.toNat then nb a.toNat ++ [b] else nb i).Nodup
              have nda : (nb b.toNat ++ [a]).Nodup := nd_snoc (hnod _) (fresh (.inr rfl) (by omega) (by omega))
              have ndb : (nb a.toNat ++ [b]).Nodup := nd_snoc (hnod _) (fresh (.inl rfl) (by omega) (by omega))
              split
              · exact nda
              · split
                · exact ndb
                · exact hnod i
            · intro y o e
              have za := hfr _ (List.mem_of_getElem? ga)
              have zb := hfr _ (List.mem_of_getElem? gb)
              rw [upd_ne (ne_of_none e zb), upd_ne (ne_of_none e za)]
              exact s2 y o e
      · rintro σ H2 ⟨x3, x4, nb, rfl, r2, he, hlen, hnod, s2⟩
        have few := tt.few
        rw [List.length_map] at he hlen
        rw [List.take_length] at he
        refine ⟨_, rfl, D, rfl, ⟨_, SqL.of r2.at_⟩, fun D2 hD2 => lc_list (K := K) (a := D) (xs := bs.map V.ref) (fun k H' => ∃ (ts : List Addr) (rs : Nat → List Int), H' D2 = some (.lst (ts.map V.ref)) ∧ ts.length = k ∧ (∀ (i : Nat) (a : Addr), ts[i]? = some a → H' a = some (.tup ((rs i).map V.int)) ∧ (rs i).Perm (nb i) ∧ (rs i).Pairwise (· ≤ ·)) ∧ Same H2 H') ?_ ?_ ?_ ?_⟩
        · exact ⟨[], fun _ => [], upd_same, rfl, fun i a h => by simp at h, sNew (fun _ _ e => e) hD2⟩
        · rintro i H3 hi ⟨ts, rs, e1, hl, hr, s3⟩
          exact SqL.of (s3 _ _ r2.at_)
        · rintro i x H3 hx ⟨ts, rs, e1, hl, hrw, s3⟩
          obtain ⟨a, ha, rfl⟩ := map_inv hx
          refine ⟨rfl, ?_⟩
          refine ⟨_, rfl, a, nb i, rfl, SqL.of (s3 _ _ (r2.row i a ha)), Nat.lt_of_le_of_lt (hlen i) few, fun ns p pm pw hp => ?_⟩
          refine ⟨p, _, rfl, .inl ⟨SqL.of upd_same, fun t ht => ?_⟩⟩
          have hil : i < bs.length := (List.getElem?_eq_some_iff.mp ha).1
          have ntp : t ≠ p := fun e => by rw [e, upd_same] at ht; cases ht
          have ht3 : H3 t = none := by
            have z := ht
            rw [upd_ne ntp] at z
            exact z
          have nD2p : D2 ≠ p := ne_of_none e1 hp
          have nD2t : D2 ≠ t := ne_of_none e1 ht3
          refine ⟨ts.map V.ref, ?_, ?_, ts ++ [t], fun k => if k = i then ns else rs k, ?_, ?_, ?_, ?_⟩
          · rw [upd_ne nD2t, upd_ne nD2p]
            exact e1
          · rw [List.length_map, hl]
            refine Nat.lt_of_lt_of_le (m := 64) ?_ (by decide)
            rw [r2.len] at hil
            omega
          · rw [upd_same, List.map_append]
            rfl
          · rw [List.length_append, hl]
            rfl
          · intro k b hb
            show _ = some (HO.tup ((if k = i then ns else rs k).map V.int)) ∧ (if k = i then ns else rs k).Perm (nb k) ∧ (if k = i then ns else rs k).Pairwise (· ≤ ·)
            by_cases c : k < ts.length
            · rw [List.getElem?_append_left c] at hb
              obtain ⟨z1, z2⟩ := hrw k b hb
              rw [if_neg (by omega)]
              refine ⟨?_, z2⟩
              rw [upd_ne (ne_of z1 e1 (fun z => by cases z)), upd_ne (ne_of_none z1 ht3), upd_ne (ne_of_none z1 hp)]
              exact z1
            · rw [List.getElem?_append_right (by omega)] at hb
              have ek : k = i := by
                have z := (List.getElem?_eq_some_iff.mp hb).1
                rw [List.length_singleton] at z
                omega
              subst ek
              rw [hl, Nat.sub_self] at hb
              obtain rfl : t = b := Option.some.inj hb
              rw [if_pos rfl]
              refine ⟨?_, pm, pw⟩
              rw [upd_ne nD2t.symm, upd_same]
          · exact sNew (sNew' (sNew' s3 hp) (by rw [upd_ne ntp]; exact ht3)) hD2
        · rintro H3 ⟨ts, rs, e1, hl, hrw, s3⟩
          refine ⟨D2, _, rfl, .inl ⟨SqL.of e1, fun t ht => ?_⟩⟩
          have s4 : Same H3 (upd H3 t (.tup (ts.map V.ref))) := fun b o e => by rw [upd_ne (ne_of_none e ht)]; exact e
          rw [List.length_map, r2.len] at hl
          refine k t ts rs _ ⟨upd_same, hl, fun i a h => s4 _ _ (hrw i a h).1⟩ (fun i hi j => ?_) (fun i hi => ?asc) (fun b o e => s4 _ _ (s3 _ _ (s2 _ _ e)))
          case asc =>
            have hit : i < ts.length := by rw [hl]; exact hi
            obtain ⟨_, pm, pw⟩ := hrw i _ (List.getElem?_eq_getElem hit)
            exact asc_sort pw (pm.nodup_iff.mpr (hnod i))
          have hit : i < ts.length := by rw [hl]; exact hi
          have pm := (hrw i _ (List.getElem?_eq_getElem hit)).2.1
          rw [pm.mem_iff]
          exact he i hi j
end
end Q

/-! Ways through a graph: the mathematics, in plain Lean. -/
namespace QM
inductive Rch (G : Nat → Nat → Prop) (s : Nat) : Nat → Nat → Prop
  | zero : Rch G s 0 s
  | succ {k u v : Nat} : Rch G s k u → G u v → Rch G s (k + 1) v
def Dist (G : Nat → Nat → Prop) (s v d : Nat) : Prop := Rch G s d v ∧ ∀ e, e < d → ¬ Rch G s e v
variable {G : Nat → Nat → Prop} {s : Nat}
theorem Dist.uniq {v d e : Nat} (h : Dist G s v d) (g : Dist G s v e) : d = e := by
  rcases Nat.lt_trichotomy d e with c | c | c
  · exact absurd h.1 (g.2 d c)
  · exact c
  · exact absurd g.1 (h.2 e c)
theorem Rch.dist {v k : Nat} (h : Rch G s k v) : ∃ d, d ≤ k ∧ Dist G s v d := by
  induction k using Nat.strongRecOn with
  | _ k ih =>
    by_cases c : ∃ e, e < k ∧ Rch G s e v
    · obtain ⟨e, he, r⟩ := c
      obtain ⟨d, hd, q⟩ := ih e he r
      exact ⟨d, Nat.le_trans hd (Nat.le_of_lt he), q⟩
    · exact ⟨k, Nat.le_refl _, h, fun e he r => c ⟨e, he, r⟩⟩
theorem Dist.zero : Dist G s s 0 := ⟨.zero, fun e he => absurd he (Nat.not_lt_zero e)⟩
theorem Dist.of_zero {v : Nat} (h : Dist G s v 0) : v = s := by
  have z := h.1
  cases z
  rfl
theorem Dist.pred {v t : Nat} (h : Dist G s v (t + 1)) : ∃ u, Dist G s u t ∧ G u v := by
  have z := h.1
  cases z with
  | succ r g => exact ⟨_, ⟨r, fun e he r' => h.2 (e + 1) (by omega) (.succ r' g)⟩, g⟩
theorem Dist.next {u v t : Nat} (no : ∀ d, d ≤ t → ¬ Dist G s v d) (h : Dist G s u t) (g : G u v) : Dist G s v (t + 1) := by
  refine ⟨.succ h.1 g, fun e he r => ?_⟩
  obtain ⟨d, hd, q⟩ := r.dist
  exact no d (by omega) q
theorem Dist.chain {v d : Nat} (h : Dist G s v d) : ∀ e, e ≤ d → ∃ u, Dist G s u e := by
  induction d generalizing v with
  | zero =>
    intro e he
    obtain rfl : e = 0 := by omega
    exact ⟨v, h⟩
  | succ d ih =>
    intro e he
    by_cases c : e = d + 1
    · exact ⟨v, by rw [c]; exact h⟩
    · obtain ⟨u, hu, _⟩ := h.pred
      exact ih hu e (by omega)
theorem Rch.front {a b k : Nat} (g : G a b) {c : Nat} (h : Rch G b k c) : Rch G a (k + 1) c := by
  induction h with
  | zero => exact .succ .zero g
  | succ _ e ih => exact .succ ih e
theorem Rch.back (sym : ∀ a b, G a b → G b a) {v k : Nat} (h : Rch G s k v) : Rch G v k s := by
  induction h with
  | zero => exact .zero
  | succ _ e ih => exact Rch.front (sym _ _ e) ih
theorem Dist.back (sym : ∀ a b, G a b → G b a) {v d : Nat} (h : Dist G s v d) : Dist G v s d := ⟨h.1.back sym, fun e he r => h.2 e he (r.back sym)⟩
theorem nodup_le : ∀ (n : Nat) (l : List Nat), l.Nodup → (∀ x, x ∈ l → x < n) → l.length ≤ n
  | 0, [], _, _ => Nat.le_refl _
  | 0, x :: _, _, h => absurd (h x List.mem_cons_self) (Nat.not_lt_zero _)
  | n + 1, l, hn, h => by
    by_cases c : n ∈ l
    · have e1 := List.length_erase_of_mem c
      have z := nodup_le n (l.erase n) (hn.erase n) fun x hx => by
        have h1 := h x (List.mem_of_mem_erase hx)
        have h2 : x ≠ n := fun e => by
          rw [e] at hx
          exact (List.Nodup.not_mem_erase hn) hx
        omega
      omega
    · have z := nodup_le n l hn fun x hx => by
        have h1 := h x hx
        have h2 : x ≠ n := fun e => c (by rw [← e]; exact hx)
        omega
      omega
/-- a way's length is less than how many there are -/
theorem Dist.lt {n v d : Nat} (hs : s < n) (hG : ∀ a b, G a b → b < n) (h : Dist G s v d) : d < n := by
  have key : ∀ e, e ≤ d + 1 → ∃ l : List Nat, l.length = e ∧ l.Nodup ∧ ∀ x, x ∈ l → x < n ∧ ∃ k, k < e ∧ Dist G s x k := by
    intro e
    induction e with
    | zero => exact fun _ => ⟨[], rfl, List.nodup_nil, fun x hx => absurd hx List.not_mem_nil⟩
    | succ e ih =>
      intro he
      obtain ⟨l, hl, hn, hx⟩ := ih (by omega)
      obtain ⟨u, hu⟩ := h.chain e (by omega)
      have un : u < n := by
        cases e with
        | zero => rw [hu.of_zero]; exact hs
        | succ e =>
          obtain ⟨_, _, g⟩ := hu.pred
          exact hG _ _ g
      refine ⟨u :: l, by rw [List.length_cons, hl], List.nodup_cons.mpr ⟨fun hm => ?_, hn⟩, fun x hm => ?_⟩
      · obtain ⟨_, k, hk, q⟩ := hx u hm
        have := q.uniq hu
        omega
      · rcases List.mem_cons.mp hm with rfl | hm
        · exact ⟨un, e, by omega, hu⟩
        · obtain ⟨z1, k, hk, q⟩ := hx x hm
          exact ⟨z1, k, by omega, q⟩
  obtain ⟨l, hl, hn, hx⟩ := key (d + 1) (Nat.le_refl _)
  have z := nodup_le n l hn fun x hm => (hx x hm).1
  omega
end QM

namespace Q
open PySem L2 QM
abbrev sSteps : Stmt := top 18
def nI (v : Nat) : V := .int (v : Int)
def nn (cs : List V) : Nat := cs.countP fun v => decide (v = .non)
theorem nn_set : ∀ {cs : List V} {v : Nat} {z : Int}, cs[v]? = some .non → nn (cs.set v (.int z)) + 1 = nn cs
  | [], _, _, h => by simp at h
  | c :: r, 0, z, h => by
    have e : c = .non := Option.some.inj h
    subst e
    show (V.int z :: r).countP _ + 1 = (V.non :: r).countP _
    rw [List.countP_cons_of_neg (by simp), List.countP_cons_of_pos (by simp)]
  | c :: r, v + 1, z, h => by
    have ih := nn_set (cs := r) (v := v) (z := z) h
    show (c :: r.set v (V.int z)).countP _ + 1 = (c :: r).countP _
    unfold nn at ih
    rw [List.countP_cons, List.countP_cons, ← ih]
    omega
section
variable {G : Nat → Nat → Prop} {s n t : Nat}
structure Lev (G : Nat → Nat → Prop) (s n t : Nat) (cs : List V) : Prop where
  len : cs.length = n
  cell : ∀ v, v < n → (∃ d, d ≤ t ∧ cs[v]? = some (nI d) ∧ Dist G s v d) ∨ (cs[v]? = some .non ∧ ∀ d, d ≤ t → ¬ Dist G s v d)
structure Mid (G : Nat → Nat → Prop) (s n t : Nat) (Dn : Nat → Prop) (N0 : Nat) (cs : List V) (cm : List Nat) : Prop where
  len : cs.length = n
  cell : ∀ v, v < n → (∃ d, d ≤ t ∧ cs[v]? = some (nI d) ∧ Dist G s v d) ∨ (cs[v]? = some (nI (t + 1)) ∧ Dist G s v (t + 1) ∧ v ∈ cm) ∨ (cs[v]? = some .non ∧ (∀ d, d ≤ t → ¬ Dist G s v d) ∧ ¬ Dn v)
  cmok : ∀ x, x ∈ cm → x < n ∧ Dist G s x (t + 1)
  cnt : nn cs + cm.length = N0
/-- all ways found -/
structure Cells (G : Nat → Nat → Prop) (s n : Nat) (cs : List V) : Prop where
  len : cs.length = n
  cell : ∀ v, v < n → (∃ d, cs[v]? = some (nI d) ∧ Dist G s v d) ∨ (cs[v]? = some .non ∧ ∀ d, ¬ Dist G s v d)
theorem Mid.mono {Dn Dn' : Nat → Prop} {N0 : Nat} {cs : List V} {cm : List Nat} (h : Mid G s n t Dn N0 cs cm) (k : ∀ v, v < n → Dn' v → Dn v) : Mid G s n t Dn' N0 cs cm :=
  ⟨h.len, fun v hv => by
    rcases h.cell v hv with a | a | ⟨a, b, c⟩
    · exact .inl a
    · exact .inr (.inl a)
    · exact .inr (.inr ⟨a, b, fun d => c (k v hv d)⟩), h.cmok, h.cnt⟩
theorem Mid.start {cs : List V} (h : Lev G s n t cs) : Mid G s n t (fun _ => False) (nn cs) cs [] :=
  ⟨h.len, fun v hv => by
    rcases h.cell v hv with a | ⟨a, b⟩
    · exact .inl a
    · exact .inr (.inr ⟨a, b, id⟩), fun x hx => absurd hx List.not_mem_nil, rfl⟩
theorem Mid.house {Dn : Nat → Prop} {N0 u : Nat} {cs : List V} {cm : List Nat} (h : Mid G s n t Dn N0 cs cm) (hu : u < n) (d : Dist G s u t) : cs[u]? = some (nI t) := by
  rcases h.cell u hu with ⟨e, _, a, b⟩ | ⟨_, b, _⟩ | ⟨_, b, _⟩
  · rw [d.uniq b]; exact a
  · have := d.uniq b
    omega
  · exact absurd d (b t (Nat.le_refl _))
theorem Mid.skip {Dn : Nat → Prop} {N0 v : Nat} {cs : List V} {cm : List Nat} {c : V} (h : Mid G s n t Dn N0 cs cm) (hc : cs[v]? = some c) (ne : c ≠ .non) : Mid G s n t (fun x => Dn x ∨ x = v) N0 cs cm :=
  ⟨h.len, fun x hx => by
    rcases h.cell x hx with a | a | ⟨a, b, k⟩
    · exact .inl a
    · exact .inr (.inl a)
    · refine .inr (.inr ⟨a, b, ?_⟩)
      rintro (z | z)
      · exact k z
      · rw [z, hc] at a
        exact ne (Option.some.inj a), h.cmok, h.cnt⟩
theorem Mid.more {Dn : Nat → Prop} {N0 u v : Nat} {cs : List V} {cm : List Nat} (h : Mid G s n t Dn N0 cs cm) (hv : v < n) (hc : cs[v]? = some .non) (d : Dist G s u t) (g : G u v) :
    Mid G s n t (fun x => Dn x ∨ x = v) N0 (cs.set v (nI (t + 1))) (cm ++ [v]) := by
  have hl : v < cs.length := by rw [h.len]; exact hv
  have no : ∀ d, d ≤ t → ¬ Dist G s v d := by
    rcases h.cell v hv with ⟨_, _, a, _⟩ | ⟨a, _⟩ | ⟨_, b, _⟩
    · rw [hc] at a; cases a
    · rw [hc] at a; cases a
    · exact b
  have dv : Dist G s v (t + 1) := Dist.next no d g
  refine ⟨by rw [List.length_set]; exact h.len, fun x hx => ?_, fun x hx => ?_, ?_⟩
  · by_cases e : v = x
    · subst e
      rw [List.getElem?_set_self hl]
      exact .inr (.inl ⟨rfl, dv, List.mem_append_right _ (List.mem_singleton.mpr rfl)⟩)
    · rw [List.getElem?_set_ne e]
      rcases h.cell x hx with a | ⟨a, b, c⟩ | ⟨a, b, k⟩
      · exact .inl a
      · exact .inr (.inl ⟨a, b, List.mem_append_left _ c⟩)
      · exact .inr (.inr ⟨a, b, fun z => z.elim k fun z => e z.symm⟩)
  · rcases List.mem_append.mp hx with hx | hx
    · exact h.cmok x hx
    · rw [List.mem_singleton.mp hx]
      exact ⟨hv, dv⟩
  · have z := nn_set (z := ((t + 1 : Nat) : Int)) hc
    have c := h.cnt
    rw [List.length_append, List.length_singleton]
    have e : nn (cs.set v (nI (t + 1))) = nn (cs.set v (.int ((t + 1 : Nat) : Int))) := rfl
    omega
theorem Mid.fin {Dn : Nat → Prop} {N0 : Nat} {cs : List V} {cm : List Nat} (h : Mid G s n t Dn N0 cs cm) (hG : ∀ a b, G a b → b < n) (all : ∀ u v, Dist G s u t → G u v → Dn v) :
    Lev G s n (t + 1) cs ∧ ∀ x, Dist G s x (t + 1) → x ∈ cm := by
  have key : ∀ v, v < n → Dist G s v (t + 1) → cs[v]? = some (nI (t + 1)) ∧ v ∈ cm := by
    intro v hv d
    rcases h.cell v hv with ⟨e, he, _, b⟩ | ⟨a, _, c⟩ | ⟨_, _, k⟩
    · have := d.uniq b
      omega
    · exact ⟨a, c⟩
    · obtain ⟨u, hu, g⟩ := d.pred
      exact absurd (all u v hu g) k
  refine ⟨⟨h.len, fun v hv => ?_⟩, fun x d => ?_⟩
  · rcases h.cell v hv with ⟨e, he, a, b⟩ | ⟨a, b, _⟩ | ⟨a, b, _⟩
    · exact .inl ⟨e, by omega, a, b⟩
    · exact .inl ⟨t + 1, Nat.le_refl _, a, b⟩
    · refine .inr ⟨a, fun d hd q => ?_⟩
      by_cases c : d ≤ t
      · exact b d c q
      · obtain rfl : d = t + 1 := by omega
        have z := (key v hv q).1
        rw [a] at z
        cases z
  · obtain ⟨u, hu, g⟩ := d.pred
    exact (key x (hG u x g) d).2
theorem Lev.all {cs : List V} (h : Lev G s n t cs) (no : ∀ x, ¬ Dist G s x t) : Cells G s n cs :=
  ⟨h.len, fun v hv => by
    rcases h.cell v hv with ⟨d, _, a, b⟩ | ⟨a, b⟩
    · exact .inl ⟨d, a, b⟩
    · refine .inr ⟨a, fun d q => ?_⟩
      by_cases c : d ≤ t
      · exact b d c q
      · obtain ⟨u, hu⟩ := q.chain t (by omega)
        exact no u hu⟩
theorem lev_zero (hs : s < n) : Lev G s n 0 ((List.replicate n V.non).set s (nI 0)) := by
  refine ⟨by rw [List.length_set, List.length_replicate], fun v hv => ?_⟩
  by_cases e : s = v
  · subst e
    rw [List.getElem?_set_self (by rw [List.length_replicate]; exact hs)]
    exact .inl ⟨0, Nat.le_refl _, rfl, .zero⟩
  · rw [List.getElem?_set_ne e, List.getElem?_replicate, if_pos hv]
    refine .inr ⟨rfl, fun d hd q => ?_⟩
    obtain rfl : d = 0 := by omega
    exact e q.of_zero.symm
end

def NbG (G : Nat → Nat → Prop) (n : Nat) (nb : Nat → List Int) : Prop := ∀ i, i < n → ∀ j : Int, j ∈ nb i ↔ ∃ v : Nat, j = (v : Int) ∧ G i v
def spSteps : Sp := fun vs H Q _ => ∃ (r : Addr) (bs : List Addr) (nb : Nat → List Int) (n : Nat) (G : Nat → Nat → Prop) (st : Nat), vs = [.ref r, .int (st : Int)] ∧ RowsT H r bs nb n ∧ n ≤ 40 ∧ st < n ∧ NbG G n nb ∧ (∀ a b, G a b → b < n) ∧
  ∀ (p : Addr) (cs : List V) (H' : Hp), H' p = some (.lst cs) → Cells G st n cs → Same H H' → Q (.ref p) H'
theorem ixN_nat {N v : Nat} (h : v < N) : ixN N (v : Int) = some v := by
  unfold ixN
  rw [if_pos (Int.natCast_nonneg v), if_pos (by omega), Int.toNat_natCast]
/-- between two turns of the waves -/
def stW (H : Hp) (r sp : Addr) (G : Nat → Nat → Prop) (st n m : Nat) (σ : L2.St) (H' : Hp) : Prop := ∃ (t : Nat) (re : Addr) (rs : List Nat) (cs : List V) (x4 x5 x6 : Option V),
  σ = [some (.ref r), some (.int (st : Int)), some (.ref sp), some (.ref re), x4, x5, x6] ∧ H' sp = some (.lst cs) ∧ H' re = some (.lst (rs.map nI)) ∧ sp ≠ re ∧ Lev G st n t cs ∧
    (∀ x, x ∈ rs → x < n ∧ Dist G st x t) ∧ (∀ x, Dist G st x t → x ∈ rs) ∧ Same H H' ∧ m = nn cs + (if rs.isEmpty = true then 0 else 1)
theorem size_ok {k : Nat} (h : k ≤ 64) : k < sizeLine := Nat.lt_of_le_of_lt h (by decide)
theorem size_le {k : Nat} (h : k ≤ 64) : k ≤ sizeLine := Nat.le_trans h (by decide)
theorem nn_le (cs : List V) : nn cs ≤ cs.length := List.countP_le_length
section
variable {P : Program} {w : World} {K : PySem.W.Frag} {mg : Str → Option Value} {base : Heap}
theorem scSteps : FnScope ["beside", "start", "steps", "reached", "coming", "house", "other"] ["beside", "start"] (defScope sSteps) := ⟨rfl, rfl, rfl, by decide +kernel, rfl, by decide +kernel, by decide +kernel⟩
theorem ok_steps {f : Addr} {fd : FuncData} (F : Fun K "steps_from" "steps_from" sSteps f fd) (B : Bts mg) : FnOk P w K mg base CX0 1 f fd ["beside", "start"] spSteps := by
  refine F.ok scSteps (fun vs H Q E h => ?_) (fun cdv A outer s H vs Q E hr h => ?_)
  · obtain ⟨r, bs, nb, n, G, st, rfl, _⟩ := h
    rfl
  · obtain ⟨r, bs, nb, n, G, st, rfl, rt, n40, hst, hnb, hG, k⟩ := h
    have nd := scSteps.nd
    refine ⟨_, pss_cons (ps_set (i := 2) nd rfl (.inl rfl) (pe_op op_rep (pe_lst (pa_cons pe_non pa_nil)) (pe_callB call_len_seq (by rfl) B.len PySem.boot_len (pa_cons (pv 0) pa_nil))))
      (pss_cons (ps_asg pe_int (pg_sub (pv 2) (pv 1) set_list))
      (pss_cons (ps_set (i := 3) nd rfl (.inl rfl) (pe_lst (pa_cons (pv 1) pa_nil)))
      (pss_cons (ps_while PassesOwn.never (pt_truth (pv 3) (fun _ => rfl))
        (pss_cons (ps_set (i := 4) nd rfl (.inl rfl) (pe_lst pa_nil))
        (pss_cons (ps_for PassesOwn.never rfl (pi_list (pv 3)) (pg_name (i := 5) nd rfl (.inl rfl))
          (pss_one (ps_for PassesOwn.never rfl (pi_tup (pe_ix ix_tup (pv 0) (pv 5) (fun _ _ => rfl))) (pg_name (i := 6) nd rfl (.inl rfl))
            (pss_one (ps_if (pt_cmp (pc_isN (pe_ix ix_list (pv 2) (pv 6) (fun _ _ => rfl))))
              (pss_cons (ps_asg (pe_op op_add (pe_ix ix_list (pv 2) (pv 5) (fun _ _ => rfl)) pe_int) (pg_sub (pv 2) (pv 6) set_list))
              (pss_one (ps_expr (pe_bm PySem.F.plainAttrs_list PySem.F.slot_list_append PySem.F.type_list_append mt_append (pv 4) (pa_cons (pv 6) pa_nil))))) pss_nil)))))
        (pss_one (ps_set (i := 3) nd rfl (.inl rfl) (pv 4))))))
      (pss_one (ps_ret (pv 2)))))), ?_⟩
    -- steps = [None] * len(beside); steps[start] = 0; reached = [start]
    refine ⟨(by show 1 ≤ sizeLine; decide), fun l hl => ?_⟩
    have sl : Same H (upd H l (.lst [.non])) := sNew (fun _ _ e => e) hl
    have el : (bs.map V.ref).length = n := by rw [List.length_map, rt.len]
    refine ⟨_, rfl, r, _, rfl, .inr (SqT.of (sl _ _ rt.at_)), l, _, _, rfl, rfl, upd_same, ?_, ?_, ?_, fun sp hsp => ?_⟩
    · omega
    · rw [el]; omega
    · rw [el]; exact size_le (by show 1 * (n : Int).toNat ≤ 64; omega)
    · have hsp0 : H sp = none := sNo sl hsp
      have ef : (List.replicate (((bs.map V.ref).length : Nat) : Int).toNat [V.non]).flatten = List.replicate n V.non := by
        rw [el, Int.toNat_natCast, List.flatten_replicate_singleton]
      rw [ef]
      refine ⟨_, rfl, _, rfl, sp, _, (st : Int), st, rfl, rfl, upd_same, ixN_nat (by rw [List.length_replicate]; exact hst), ?_⟩
      refine ⟨_, rfl, (by show 1 ≤ sizeLine; decide), fun re hre => ?_⟩
      have nsr : sp ≠ re := fun e => by rw [← e, upd_same] at hre; cases hre
      have s1 : Same H (upd (upd (upd H l (.lst [.non])) sp (.lst (List.replicate n V.non))) sp (.lst ((List.replicate n V.non).set st (.int 0)))) := sNew (sNew sl hsp0) hsp0
      have hre0 : H re = none := sNo s1 hre
      refine ⟨stW H r sp G st n, ⟨_, 0, re, [st], _, none, none, none, rfl, by rw [upd_ne nsr, upd_same]; rfl, upd_same, nsr, lev_zero hst, ?_, ?_, sNew s1 hre0, rfl⟩, ?_⟩
      · intro x hx
        rw [List.mem_singleton.mp hx]
        exact ⟨hst, .zero⟩
      · intro x d
        rw [d.of_zero]
        exact List.mem_singleton.mpr rfl
      · clear nsr s1 hre0 hre re ef sl hsp el
        rintro m σ H1 ⟨t, re, rs, cs, x4, x5, x6, rfl, e1, e2, nsr, lv, hin, hall, s1, em⟩
        cases hb : (!(rs.map nI).isEmpty) with
        | false =>
          have er : rs = [] := by
            cases rs with
            | nil => rfl
            | cons u v => exact absurd hb (by simp)
          subst er
          exact ⟨_, rfl, false, .inl ⟨_, SqL.of e2, rfl⟩, iteF ⟨_, rfl, k sp cs _ e1 (lv.all fun x d => absurd (hall x d) List.not_mem_nil) s1⟩⟩
        | true =>
          have er : rs.isEmpty = false := by
            cases rs with
            | nil => exact absurd hb (by simp)
            | cons u v => rfl
          rw [er, if_neg Bool.false_ne_true] at em
          refine ⟨_, rfl, true, .inl ⟨_, SqL.of e2, hb.symm⟩, iteT ⟨fun σ' H' => ∃ m', m' < m ∧ stW H r sp G st n m' σ' H', fun _ _ z => z, ?_⟩⟩
          -- coming = []
          refine ⟨Nat.zero_le _, fun co hco => ?_⟩
          have nsc : sp ≠ co := ne_of_none e1 hco
          have nrc : re ≠ co := ne_of_none e2 hco
          have hco0 : H co = none := sNo s1 hco
          refine ⟨_, rfl, re, rfl, ⟨_, SqL.of (by rw [upd_ne nrc]; exact e2)⟩, for_list (K := K) (a := re) (xs := rs.map nI) (fun i σ H' => ∃ (cs' : List V) (cm : List Nat) (x5 x6 : Option V),
            σ = [some (.ref r), some (.int (st : Int)), some (.ref sp), some (.ref re), some (.ref co), x5, x6] ∧ H' sp = some (.lst cs') ∧ H' co = some (.lst (cm.map nI)) ∧ H' re = some (.lst (rs.map nI)) ∧
              Mid G st n t (fun v => ∃ u ∈ rs.take i, G u v) (nn cs) cs' cm ∧ Same H H') ?_ ?_ ?_ ?_⟩
          · exact ⟨cs, [], x5, x6, rfl, by rw [upd_ne nsc]; exact e1, upd_same, by rw [upd_ne nrc]; exact e2, (Mid.start lv).mono (fun v hv ⟨u, hu, _⟩ => absurd hu (by simp)), sNew s1 hco0⟩
          · rintro i σ H2 hi ⟨cs', cm, y5, y6, rfl, f1, f2, f3, md, s2⟩
            exact SqL.of f3
          · rintro i x σ H2 hx ⟨cs', cm, y5, y6, rfl, f1, f2, f3, md, s2⟩
            obtain ⟨u, hu, rfl⟩ := map_inv hx
            obtain ⟨un, du⟩ := hin u (List.mem_of_getElem? hu)
            have ul : u < bs.length := by rw [rt.len]; exact un
            have gu : bs[u]? = some bs[u] := List.getElem?_eq_getElem ul
            refine ⟨_, rfl, _, rfl, r, _, (u : Int), _, rfl, rfl, SqT.of (s2 _ _ rt.at_), atI_nat (map_get gu), bs[u], rfl, ⟨_, SqT.of (s2 _ _ (rt.row u _ gu))⟩, for_tup (K := K) (a := bs[u]) (xs := (nb u).map V.int) (fun j σ H' => ∃ (cs' : List V) (cm : List Nat) (x6 : Option V),
              σ = [some (.ref r), some (.int (st : Int)), some (.ref sp), some (.ref re), some (.ref co), some (nI u), x6] ∧ H' sp = some (.lst cs') ∧ H' co = some (.lst (cm.map nI)) ∧ H' re = some (.lst (rs.map nI)) ∧
                Mid G st n t (fun v => (∃ u ∈ rs.take i, G u v) ∨ (v : Int) ∈ (nb u).take j) (nn cs) cs' cm ∧ Same H H') ?_ ?_ ?_ ?_⟩
            · exact ⟨cs', cm, _, rfl, f1, f2, f3, md.mono (fun v hv z => z.elim id fun z => absurd z (by simp)), s2⟩
            · rintro j σ H3 hj ⟨cs3, cm3, z6, rfl, g1, g2, g3, md3, s3⟩
              exact SqT.of (s3 _ _ (rt.row u _ gu))
            · rintro j y σ H3 hy ⟨cs3, cm3, z6, rfl, g1, g2, g3, md3, s3⟩
              obtain ⟨w, hw, rfl⟩ := map_inv hy
              obtain ⟨v, rfl, guv⟩ := (hnb u un w).mp (List.mem_of_getElem? hw)
              have vn : v < n := hG _ _ guv
              have vl : v < cs3.length := by rw [md3.len]; exact vn
              have hcv : cs3[v]? = some cs3[v] := List.getElem?_eq_getElem vl
              have hcu := md3.house un du
              have dn : ∀ x, ((∃ u ∈ rs.take i, G u x) ∨ (x : Int) ∈ (nb u).take (j + 1)) → ((∃ u ∈ rs.take i, G u x) ∨ (x : Int) ∈ (nb u).take j) ∨ x = v := by
                rintro x (z | z)
                · exact .inl (.inl z)
                · rcases (take_succ_mem hw).mp z with z | z
                  · exact .inl (.inr z)
                  · exact .inr (by omega)
              refine ⟨_, rfl, _, rfl, sp, cs3, (v : Int), _, rfl, rfl, SqL.of g1, atI_nat hcv, _, rfl, ite2 (fun c => ?_) (fun c => ?_)⟩
              · have ec : cs3[v] = .non := of_decide_eq_true c
                rw [ec] at hcv
                have cl : cm3.length ≤ 40 := by
                  have z := md3.cnt
                  have z2 := nn_le cs
                  rw [lv.len] at z2
                  omega
                refine ⟨_, rfl, _, rfl, sp, cs3, (u : Int), _, rfl, rfl, SqL.of g1, atI_nat hcu, _, _, rfl, rfl, _, rfl, _, rfl, sp, cs3, (v : Int), v, rfl, rfl, g1, ixN_nat vl, ?_⟩
                have g2' : upd H3 sp (.lst (cs3.set v (nI (t + 1)))) co = some (.lst (cm3.map nI)) := by rw [upd_ne nsc.symm]; exact g2
                refine ⟨_, rfl, .inl ⟨rfl, _, SqL.of g2'⟩, _, rfl, co, _, _, rfl, rfl, g2', ?_, ?_⟩
                · rw [List.length_map]
                  exact size_ok (by omega)
                · refine ⟨cs3.set v (nI (t + 1)), cm3 ++ [v], _, rfl, ?_, ?_, ?_, (md3.more vn hcv du guv).mono (fun x _ z => dn x z), ?_⟩
                  · rw [upd_ne nsc, upd_same]
                    rfl
                  · rw [upd_same, List.map_append]
                    rfl
                  · rw [upd_ne nrc, upd_ne nsr.symm]
                    exact g3
                  · exact sNew (sNew s3 hsp0) hco0
              · exact ⟨cs3, cm3, _, rfl, g1, g2, g3, (md3.skip hcv (fun e => c (decide_eq_true e))).mono (fun x _ z => dn x z), s3⟩
            · rintro σ H3 ⟨cs3, cm3, z6, rfl, g1, g2, g3, md3, s3⟩
              refine ⟨cs3, cm3, _, _, rfl, g1, g2, g3, md3.mono ?_, s3⟩
              rintro v hv ⟨u', hu', g⟩
              rcases (take_succ_mem hu).mp hu' with z | rfl
              · exact .inl ⟨u', z, g⟩
              · refine .inr ?_
                rw [List.length_map, List.take_length]
                exact (hnb u' un _).mpr ⟨v, rfl, g⟩
          · rintro σ H2 ⟨cs', cm, y5, y6, rfl, f1, f2, f3, md, s2⟩
            obtain ⟨lv2, all2⟩ := md.fin hG fun u v d g => ⟨u, by rw [List.length_map, List.take_length]; exact hall u d, g⟩
            refine ⟨_, rfl, nn cs' + (if cm.isEmpty = true then 0 else 1), ?_, t + 1, co, cm, cs', _, _, _, rfl, f1, f2, nsc, lv2, md.cmok, all2, s2, rfl⟩
            have z := md.cnt
            cases cm with
            | nil =>
              rw [if_pos (show ([] : List Nat).isEmpty = true from rfl)]
              rw [List.length_nil] at z
              omega
            | cons a b =>
              rw [if_neg (show ¬ ((a :: b).isEmpty = true) from Bool.false_ne_true)]
              rw [List.length_cons] at z
              omega
end
end Q

namespace Q
open PySem L2 QM
abbrev sWeb : Stmt := inClass (top 14) 0
abbrev sFar : Stmt := top 9999
/-- the way from tie to tie -/
def GL (L : List (Addr × List Int)) (u v : Nat) : Prop := Edge L (u : Int) (v : Int)
structure TL (m : Int) (L : List (Addr × List Int)) : Prop where
  ok : ∀ p ∈ L, ∃ a b : Int, p.2 = [a, b] ∧ 0 ≤ a ∧ a < b ∧ b < m
  conn : ∀ h : Int, 1 ≤ h → h < m → ∃ p ∈ L, ∃ o : Int, p.2 = [o, h]
  m1 : 1 ≤ m
  m40 : m ≤ 40
section
variable {m : Int} {L : List (Addr × List Int)}
theorem Edge.sym {i j : Int} (h : Edge L i j) : Edge L j i := by
  obtain ⟨p, hp, e | e⟩ := h
  · exact ⟨p, hp, .inr e⟩
  · exact ⟨p, hp, .inl e⟩
theorem TL.in2 (T : TL m L) {i j : Int} (h : Edge L i j) : 0 ≤ j ∧ j < m := by
  obtain ⟨p, hp, e⟩ := h
  obtain ⟨a, b, e2, h0, h1, h2⟩ := T.ok p hp
  rw [e2] at e
  simp only [List.cons.injEq, and_true] at e
  omega
theorem TL.lt (T : TL m L) (a b : Nat) (h : GL L a b) : b < m.toNat := by
  have := T.in2 h
  omega
theorem TL.nb (T : TL m L) {nb : Nat → List Int} (h : NbOf L m.toNat nb) : NbG (GL L) m.toNat nb := fun i hi j => by
  rw [h i hi j]
  constructor
  · intro e
    have z := T.in2 e
    exact ⟨j.toNat, by omega, by show Edge L (i : Int) ((j.toNat : Nat) : Int); rw [Int.toNat_of_nonneg z.1]; exact e⟩
  · rintro ⟨v, rfl, e⟩
    exact e
theorem TL.sym (a b : Nat) (h : GL L a b) : GL L b a := Edge.sym h
theorem TL.from0 (T : TL m L) : ∀ v, v < m.toNat → ∃ k, Rch (GL L) 0 k v := by
  intro v
  induction v using Nat.strongRecOn with
  | _ v ih =>
    intro hv
    by_cases c : v = 0
    · exact ⟨0, by rw [c]; exact .zero⟩
    · obtain ⟨p, hp, o, e⟩ := T.conn (v : Int) (by omega) (by omega)
      obtain ⟨a, b, e2, h0, h1, h2⟩ := T.ok p hp
      rw [e2] at e
      simp only [List.cons.injEq, and_true] at e
      obtain ⟨k, hk⟩ := ih a.toNat (by omega) (by omega)
      refine ⟨k + 1, .succ hk ⟨p, hp, .inl ?_⟩⟩
      rw [e2, Int.toNat_of_nonneg h0, e.2]
theorem Rch.trans {G : Nat → Nat → Prop} {a b c j k : Nat} (h : Rch G a j b) (g : Rch G b k c) : ∃ i, Rch G a i c := by
  induction g with
  | zero => exact ⟨j, h⟩
  | succ _ e ih =>
    obtain ⟨i, hi⟩ := ih
    exact ⟨i + 1, .succ hi e⟩
theorem TL.dist (T : TL m L) {s v : Nat} (hs : s < m.toNat) (hv : v < m.toNat) : ∃ d, Dist (GL L) s v d := by
  obtain ⟨j, hj⟩ := T.from0 s hs
  obtain ⟨k, hk⟩ := T.from0 v hv
  obtain ⟨i, hi⟩ := Rch.trans (hj.back TL.sym) hk
  obtain ⟨d, _, q⟩ := hi.dist
  exact ⟨d, q⟩
/-- on a joined web each cell is an int -/
theorem TL.ints (T : TL m L) {s : Nat} {cs : List V} (hs : s < m.toNat) (h : Cells (GL L) s m.toNat cs) : ∃ ds : List Nat, cs = ds.map nI ∧ ds.length = m.toNat ∧ ∀ (v d : Nat), ds[v]? = some d → Dist (GL L) s v d := by
  have key : ∀ (cs : List V) (k : Nat), (∀ (v : Nat) (c : V), cs[v]? = some c → ∃ d, c = nI d ∧ Dist (GL L) s (v + k) d) → ∃ ds : List Nat, cs = ds.map nI ∧ ∀ (v d : Nat), ds[v]? = some d → Dist (GL L) s (v + k) d := by
    intro cs
    induction cs with
    | nil => exact fun _ _ => ⟨[], rfl, fun v d h => by simp at h⟩
    | cons c r ih =>
      intro k h
      obtain ⟨d, rfl, hd⟩ := h 0 c rfl
      obtain ⟨ds, rfl, hds⟩ := ih (k + 1) fun v c hc => by
        obtain ⟨d, e, q⟩ := h (v + 1) c (by simpa using hc)
        exact ⟨d, e, by rw [show v + (k + 1) = v + 1 + k by omega]; exact q⟩
      refine ⟨d :: ds, rfl, fun v e hv => ?_⟩
      cases v with
      | zero =>
        obtain rfl : d = e := Option.some.inj hv
        exact hd
      | succ v =>
        have z := hds v e (by simpa using hv)
        rw [show v + 1 + k = v + (k + 1) by omega]
        exact z
  obtain ⟨ds, e, hds⟩ := key cs 0 fun v c hc => by
    have hv : v < m.toNat := by
      have z := (List.getElem?_eq_some_iff.mp hc).1
      rw [h.len] at z
      exact z
    rcases h.cell v hv with ⟨d, a, b⟩ | ⟨_, b⟩
    · rw [hc] at a
      exact ⟨d, Option.some.inj a, b⟩
    · obtain ⟨d, q⟩ := T.dist hs hv
      exact absurd q (b d)
  refine ⟨ds, e, ?_, hds⟩
  have z := h.len
  rw [e, List.length_map] at z
  exact z
end
theorem no_none : ∀ ds : List Nat, inV .non (ds.map nI) = false
  | [] => rfl
  | d :: r => by
    have ih := no_none r
    unfold inV at ih ⊢
    rw [List.map_cons, List.any_cons, ih]
    rfl
theorem flat_nI : ∀ ds : List Nat, (ds.map nI).all flatV = true
  | [] => rfl
  | d :: r => by
    rw [List.map_cons, List.all_cons, flat_nI r]
    rfl
/-! ### a web's attributes -/
def wf (m : Int) (q r : Addr) : List (Str × V) := putF "_beside" (.ref r) (putF "ties" (.ref q) (putF "many" (.int m) []))
theorem ne_tm : ¬ (("ties" : Str) = "many") := by decide +kernel
theorem ne_bt : ¬ (("_beside" : Str) = "ties") := by decide +kernel
theorem ne_bm : ¬ (("_beside" : Str) = "many") := by decide +kernel
theorem wf_many (m : Int) (q r : Addr) : (wf m q r).lookup ("many" : Str) = some (.int m) := by
  unfold wf
  rw [lookup_putF, if_neg (fun e => ne_bm e.symm), lookup_putF, if_neg (fun e => ne_tm e.symm), lookup_putF, if_pos rfl]
theorem wf_ties (m : Int) (q r : Addr) : (wf m q r).lookup ("ties" : Str) = some (.ref q) := by
  unfold wf
  rw [lookup_putF, if_neg (fun e => ne_bt e.symm), lookup_putF, if_pos rfl]
theorem wf_beside (m : Int) (q r : Addr) : (wf m q r).lookup ("_beside" : Str) = some (.ref r) := by
  unfold wf
  rw [lookup_putF, if_pos rfl]
/-- what the top says of Web -/
structure WTxt (K : PySem.W.Frag) (mg : Str → Option Value) (C : Addr) : Prop where
  cl : Cls K C
  nM : NoAttr K C "many"
  nT : NoAttr K C "ties"
  nB : NoAttr K C "_beside"
  mgC : mg "Web" = some (.ref C)
  most : ∃ t, mg "MOST_HOUSES" = some (.int 40 t)
/-- a web stands at w -/
structure WebIn (C : Addr) (m : Int) (L : List (Addr × List Int)) (H : Hp) (w dx q r : Addr) (bs : List Addr) (nb : Nat → List Int) : Prop where
  at_ : H w = some (.ins C dx (wf m q r))
  rows : RowsT H r bs nb m.toNat
  asc : NbA m.toNat nb
  nb : NbOf L m.toNat nb
def WebAt (C : Addr) (m : Int) (L : List (Addr × List Int)) (H : Hp) (w : Addr) : Prop := ∃ dx q r bs nb, WebIn C m L H w dx q r bs nb
theorem WebAt.same {C : Addr} {m : Int} {L : List (Addr × List Int)} {H H' : Hp} {w : Addr} (h : WebAt C m L H w) (s : Same H H') : WebAt C m L H' w := by
  obtain ⟨dx, q, r, bs, nb, x⟩ := h
  exact ⟨dx, q, r, bs, nb, s _ _ x.at_, x.rows.same s, x.asc, x.nb⟩
theorem WebAt.ext {C : Addr} {m : Int} {L : List (Addr × List Int)} {H H' : Hp} {w p l : Addr} (h : WebAt C m L H w) (g : HandAt H p l) (s : Ext p H H') : WebAt C m L H' w := by
  obtain ⟨dx, q, r, bs, nb, x⟩ := h
  obtain ⟨xs, e⟩ := g.hp
  refine ⟨dx, q, r, bs, nb, s _ _ x.at_ (ne_of x.at_ e (fun z => by cases z)), ⟨s _ _ x.rows.at_ (ne_of x.rows.at_ e (fun z => by cases z)), x.rows.len, fun i a hi => ?_⟩, x.asc, x.nb⟩
  have z := x.rows.row i a hi
  exact s _ _ z (ne_of z e (fun z => by cases z))
def spWeb (C : Addr) : Sp := fun vs H Q _ => ∃ (p dx : Addr) (m : Int) (q : Addr) (L : List (Addr × List Int)), vs = [.ref p, .int m, .ref q] ∧ H p = some (.ins C dx []) ∧ TiesAt m H q L ∧ 1 ≤ m ∧ m ≤ 40 ∧
  ∀ (r : Addr) (bs : List Addr) (nb : Nat → List Int) (H' : Hp), WebIn C m L H' p dx q r bs nb → Ext p H H' → Q .non H'
section
variable {P : Program} {w : World} {K : PySem.W.Frag} {mg : Str → Option Value} {base : Heap}
/-- the defs that a web leans on -/
structure WDefs (K : PySem.W.Frag) (mg : Str → Option Value) where
  fP : Addr
  dP : FuncData
  DP : Df K mg "is_plain_int" sPlain ["thing"] fP dP
  fN : Addr
  dN : FuncData
  DN : Df K mg "is_number_below" sNum ["limit", "thing"] fN dN
  fT : Addr
  dT : FuncData
  DT : Df K mg "is_tie" sTie ["many", "thing"] fT dT
  fF : Addr
  dF : FuncData
  DF : Df K mg "first_wrong_tie" sFirst ["many", "ties"] fF dF
  fB : Addr
  dB : FuncData
  DB : Df K mg "houses_beside" sBeside ["many", "ties"] fB dB
  fS : Addr
  dS : FuncData
  DS : Df K mg "steps_from" sSteps ["beside", "start"] fS dS
theorem scWeb : FnScope ["self", "many", "ties", "wrong", "beside"] ["self", "many", "ties"] (defScope sWeb) := ⟨rfl, rfl, rfl, by decide +kernel, rfl, by decide +kernel, by decide +kernel⟩
theorem ok_web {f C : Addr} {fd : FuncData} (F : Fun K "__init__" "Web.__init__" sWeb f fd) (B : Bts mg) (T : WTxt K mg C) (D : WDefs K mg) : FnOk P w K mg base CX0 5 f fd ["self", "many", "ties"] (spWeb C) := by
  have GP : FnOk P w K mg base CX0 1 D.fP D.dP ["thing"] (spPlain K) := ok_plain (x := "") (st := sPlain) D.DP.F B
  have GF : FnOk P w K mg base CX0 4 D.fF D.dF ["many", "ties"] spFirst := ok_first D.DF.F B D.DP D.DN D.DT
  have GB : FnOk P w K mg base CX0 1 D.fB D.dB ["many", "ties"] spBeside := ok_beside D.DB.F B
  have GS : FnOk P w K mg base CX0 1 D.fS D.dS ["beside", "start"] spSteps := ok_steps D.DS.F B
  refine F.ok scWeb (fun vs H Q E h => ?_) (fun cdv A outer s H vs Q E hr h => ?_)
  · obtain ⟨p, dx, m, q, L, rfl, _⟩ := h
    rfl
  · obtain ⟨p, dx, m, q, L, rfl, hp, tt, m1, m40, k⟩ := h
    have nd := scWeb.nd
    obtain ⟨tm, hmost⟩ := T.most
    have hr1 : Room 1 _ := hr.mono (by decide)
    refine ⟨_, pss_cons (ps_if (PW.pt (pw_or (pt_not (pt_val (pe_call GP hr1 rfl D.DP.m D.DP.k D.DP.b .nil pass0 (pa_cons (pv 1) pa_nil)))) (pw_or1 (pt_not (pt_chain op_le op_le pe_int (pv 1) (pe_glob (v := .int 40) rfl hmost ⟨_, rfl⟩)))))) pss_never pss_nil)
      (pss_cons (ps_if (pt_not (pt_val (pe_callB call_isi (by rfl) B.isinstance PyProof.Rows.boot_isinstance (pa_cons (pv 2) (pa_cons (pe_bltn (v := .ty "tuple") rfl B.tuple PyProof.Rows.boot_tuple rfl) pa_nil))))) pss_never pss_nil)
      (pss_cons (ps_set (i := 3) nd rfl (.inl rfl) (pe_call GF hr rfl D.DF.m D.DF.k D.DF.b .nil pass0 (pa_cons (pv 1) (pa_cons (pv 2) pa_nil))))
      (pss_cons (ps_if (pt_cmp (pc_notN (pv 3))) pss_never pss_nil)
      (pss_cons (ps_set (i := 4) nd rfl (.inl rfl) (pe_call GB hr1 rfl D.DB.m D.DB.k D.DB.b .nil pass0 (pa_cons (pv 1) (pa_cons (pv 2) pa_nil))))
      (pss_cons (ps_if (pt_cmpR op_in_seq pe_non (pe_call GS hr1 rfl D.DS.m D.DS.k D.DS.b .nil pass0 (pa_cons (pv 4) (pa_cons pe_int pa_nil))) rfl) pss_never pss_nil)
      (pss_cons (ps_fld (pv 0) (pv 1) rfl)
      (pss_cons (ps_fld (pv 0) (pv 2) rfl)
      (pss_one (ps_fld (pv 0) (pv 4) rfl))))))))), ?_⟩
    refine ⟨_, rfl, .int m, .type "int", true, false, rfl, .base (.int _), kInt_int, kBool_int, _, rfl, ?_⟩
    refine iteF ⟨_, rfl, _, _, rfl, rfl, _, rfl, ite2 (fun _ => ?_) (fun c => absurd (decide_eq_true m1) c)⟩
    refine ⟨_, _, rfl, rfl, _, rfl, ite2 (fun c => ?_) (fun _ => ?_)⟩
    · rw [decide_eq_true m40] at c
      exact absurd c (by decide)
    refine ⟨_, rfl, .ref q, .ty "tuple", .type "tuple", .type "tuple", true, rfl, .ty _, .base (.tup tt.at_), kit_ty (by decide +kernel), _, rfl, iteF ?_⟩
    refine ⟨_, rfl, _, rfl, m, q, L, rfl, tt, fun H1 s1 => ?_⟩
    refine ⟨_, rfl, _, rfl, ite2 (fun c => absurd c (by simp)) (fun _ => ?_)⟩
    refine ⟨_, rfl, _, rfl, m, q, L, rfl, m1, m40, tt.same s1, fun r bs nb H2 rt hnb hasc s2 => ?_⟩
    have TT : TL m L := ⟨tt.ok, tt.conn, m1, m40⟩
    refine ⟨_, rfl, r, bs, nb, m.toNat, GL L, 0, rfl, rt, by omega, by omega, TT.nb hnb, TT.lt, fun sp cs H3 hsp cells s3 => ?_⟩
    obtain ⟨ds, rfl, _, _⟩ := TT.ints (by omega) cells
    refine ⟨sp, _, rfl, .inl (SqL.of hsp), rfl, flat_nI ds, _, rfl, ?_⟩
    have en : (if false = true then !inV V.non (ds.map nI) else inV V.non (ds.map nI)) = false := no_none ds
    rw [en]
    refine iteF ?_
    have s4 : Same H H3 := fun b o e => s3 _ _ (s2 _ _ (s1 _ _ e))
    refine ⟨_, rfl, _, rfl, p, C, dx, _, rfl, s4 _ _ hp, T.cl, T.nM, (by show 0 < 1000; decide), ?_⟩
    refine ⟨_, rfl, _, rfl, p, C, dx, _, rfl, upd_same, T.cl, T.nT, (by show 1 < 1000; decide), ?_⟩
    refine ⟨_, rfl, _, rfl, p, C, dx, _, rfl, upd_same, T.cl, T.nB, (by show 2 < 1000; decide), ?_⟩
    have rt3 := rt.same s3
    have np : ∀ {b : Addr} {xs : List V}, H3 b = some (.tup xs) → b ≠ p := fun e => ne_of e (s4 _ _ hp) (fun z => by cases z)
    refine k r bs nb _ ⟨upd_same, ⟨?_, rt3.len, fun i a hi => ?_⟩, hasc, hnb⟩ fun b o e nb => ?_
    · rw [upd_ne (np rt3.at_), upd_ne (np rt3.at_), upd_ne (np rt3.at_)]
      exact rt3.at_
    · have z := rt3.row i a hi
      rw [upd_ne (np z), upd_ne (np z), upd_ne (np z)]
      exact z
    · rw [upd_ne nb, upd_ne nb, upd_ne nb]
      exact s4 _ _ e
end
end Q

namespace Q
open PySem L2 QM
/-- a pair as data -/
def pT (l : List Int) : PyData := .tuple (l.map .int)
theorem lay_ints : ∀ l : List Int, PyData.canLayAll0 (l.map PyData.int) = true
  | [] => by simp [PyData.canLayAll0]
  | a :: r => by
    have ih := lay_ints r
    simp only [List.map_cons, PyData.canLayAll0, PyData.canLay0, ih, Bool.and_self]
theorem lay_pT (l : List Int) : PyData.canLay0 (pT l) = true := by
  unfold pT
  simp only [PyData.canLay0, lay_ints]
theorem lay_all : ∀ L : List (Addr × List Int), PyData.canLayAll0 (L.map fun p => pT p.2) = true
  | [] => by simp [PyData.canLayAll0]
  | p :: r => by
    have ih := lay_all r
    simp only [List.map_cons, PyData.canLayAll0, lay_pT, ih, Bool.and_self]
theorem eqv_ints : ∀ x y : List Int, PyData.eqvAll (x.map PyData.int) (y.map PyData.int) = decide (x = y)
  | [], [] => by simp [PyData.eqvAll]
  | [], _ :: _ => by simp [PyData.eqvAll]
  | _ :: _, [] => by simp [PyData.eqvAll]
  | a :: x, b :: y => by
    have ih := eqv_ints x y
    simp only [List.map_cons, PyData.eqvAll, PyData.eqv, ih]
    by_cases c : a = b
    · subst c
      simp
    · simp [c]
theorem any_pT (l : List Int) : ∀ L : List (Addr × List Int), ((L.map fun p => pT p.2).any fun z => PyData.eqv z (pT l)) = decide (l ∈ L.map (·.2))
  | [] => by simp
  | p :: r => by
    have ih := any_pT l r
    rw [List.map_cons, List.any_cons, ih]
    unfold pT
    simp only [PyData.eqv, eqv_ints, List.map_cons, List.mem_cons]
    by_cases c : p.2 = l
    · simp [c]
    · have c' : ¬ l = p.2 := fun e => c e.symm
      simp [c, c']
theorem dp_ints {K : PySem.W.Frag} {H : Hp} : ∀ l : List Int, DpAll K H (l.map V.int) (l.map PyData.int)
  | [] => .nil
  | a :: r => .cons (.int a) (dp_ints r)
theorem dp_all {K : PySem.W.Frag} {H : Hp} : ∀ L : List (Addr × List Int), (∀ p ∈ L, H p.1 = some (.tup (p.2.map V.int))) → DpAll K H (L.map fun p => V.ref p.1) (L.map fun p => pT p.2)
  | [], _ => .nil
  | p :: r, h => .cons (.tup (SqT.of (h p List.mem_cons_self)) (dp_ints p.2)) (dp_all r fun q hq => h q (List.mem_cons_of_mem _ hq))
def rInP : R2 := fun x y H Q => ∃ (T q : Addr) (l : List Int) (L : List (Addr × List Int)), x = .ref T ∧ y = .ref q ∧ H T = some (.tup (l.map V.int)) ∧ H q = some (.tup (L.map fun p => V.ref p.1)) ∧ (∀ p ∈ L, H p.1 = some (.tup (p.2.map V.int))) ∧ Q (.bl (decide (l ∈ L.map (·.2)))) H
theorem depth_ints : ∀ l : List Int, PyData.depthAll (l.map PyData.int) = 0
  | [] => by simp [PyData.depthAll]
  | a :: r => by
    have ih := depth_ints r
    simp only [List.map_cons, PyData.depthAll, PyData.depth, ih, Nat.max_self]
theorem depth_pT (l : List Int) : (pT l).depth = 1 := by
  unfold pT
  simp only [PyData.depth, depth_ints]
theorem op_inP {X : Cx} (hu : X.A.units + 64 < cLine) : OpR X (compareOp .In) rInP := by
  intro pins s σ H x y v u Q I rx ry h
  obtain ⟨T, q, l, L, rfl, rfl, hT, hq, hp, k⟩ := h
  obtain ⟨as, r1⟩ := Dp.reads I (pT l) _ v (.tup (SqT.of hT) (dp_ints l)) rx
  obtain ⟨bs, r2⟩ := Dp.reads I (.tuple (L.map fun p => pT p.2)) _ u (.tup (SqT.of hq) (dp_all L hp)) ry
  refine SeqAt.in_tuple_reads r2 r1 (lay_all L) (lay_pT l) ?_ ?_
  · rw [depth_pT]
    have z := Nat.min_le_right (PyData.depthAll (L.map fun p => pT p.2)) 1
    omega
  · rw [any_pT]
    exact ⟨.bl _, H, I, rfl, k⟩
end Q

namespace Q
open PySem L2
theorem NoInt.int {K : PySem.W.Frag} {H : Hp} {i : Int} (n : NoInt K H (.int i)) : False := by
  obtain ⟨t, b, c, ty, k1, k2, e⟩ := n
  cases ty with
  | base ty =>
    cases ty
    have z1 : some b = some true := k1.symm.trans kInt_int
    have z2 : some c = some false := k2.symm.trans kBool_int
    cases z1
    cases z2
    cases e
/-- a thing whose kind is known -/
inductive Kd (H : Hp) : V → Prop
  | int (i : Int) : Kd H (.int i)
  | non : Kd H .non
  | bl (b : Bool) : Kd H (.bl b)
  | str (z : Str) : Kd H (.str z)
  | tup {a : Addr} {xs : List V} (e : H a = some (.tup xs)) : Kd H (.ref a)
  | lst {a : Addr} {xs : List V} (e : H a = some (.lst xs)) : Kd H (.ref a)
  | dk {a : Addr} {kvs : List (Key × V)} (e : H a = some (.dK kvs)) : Kd H (.ref a)
theorem Kd.same {H H' : Hp} {v : V} (h : Kd H v) (s : Same H H') : Kd H' v := by
  cases h with
  | int i => exact .int i
  | non => exact .non
  | bl b => exact .bl b
  | str z => exact .str z
  | tup e => exact .tup (s _ _ e)
  | lst e => exact .lst (s _ _ e)
  | dk e => exact .dk (s _ _ e)
theorem Kd.ext {H H' : Hp} {v : V} {p l : Addr} (h : Kd H v) (g : HandAt H p l) (g' : HandAt H' p l) (x : Ext p H H') : Kd H' v := by
  obtain ⟨xs0, e0⟩ := g.hp
  obtain ⟨xs1, e1⟩ := g'.hp
  cases h with
  | int i => exact .int i
  | non => exact .non
  | bl b => exact .bl b
  | str z => exact .str z
  | tup e => exact .tup (x _ _ e (ne_of e e0 (fun z => by cases z)))
  | @lst a xs e =>
    by_cases c : a = p
    · rw [c]
      exact .lst e1
    · exact .lst (x _ _ e c)
  | dk e => exact .dk (x _ _ e (ne_of e e0 (fun z => by cases z)))
theorem Kd.cl {K : PySem.W.Frag} {H : Hp} {v : V} (h : Kd H v) : (∃ i : Int, v = .int i) ∨ NoInt K H v := by
  cases h with
  | int i => exact .inl ⟨i, rfl⟩
  | non => exact .inr ⟨_, false, false, .base .non, kit_ty (by decide +kernel), kit_ty (by decide +kernel), rfl⟩
  | bl b => exact .inr ⟨_, true, true, .base (.bl b), kit_ty (by decide +kernel), kit_ty (by decide +kernel), rfl⟩
  | str z => exact .inr ⟨_, false, false, .base (.str z), kit_ty (by decide +kernel), kit_ty (by decide +kernel), rfl⟩
  | tup e => exact .inr ⟨_, false, false, .base (.tup e), kit_ty (by decide +kernel), kit_ty (by decide +kernel), rfl⟩
  | lst e => exact .inr ⟨_, false, false, .base (.lst e), kit_ty (by decide +kernel), kit_ty (by decide +kernel), rfl⟩
  | dk e => exact .inr ⟨_, false, false, .base (.dK e), kit_ty (by decide +kernel), kit_ty (by decide +kernel), rfl⟩
theorem Kd.tyT {K : PySem.W.Frag} {H : Hp} {v : V} (h : Kd H v) : ∃ (t : Value) (b : Bool), TyX K H v t ∧ PySem.W.kitOne K t (.type "tuple") = some b ∧ ((b = true ∧ ∃ a xs, v = .ref a ∧ H a = some (.tup xs)) ∨ (b = false ∧ ∀ a xs, v = .ref a → H a = some (.tup xs) → False)) := by
  cases h with
  | int i => exact ⟨_, false, .base (.int _), kit_ty (by decide +kernel), .inr ⟨rfl, fun a xs e => nomatch e⟩⟩
  | non => exact ⟨_, false, .base .non, kit_ty (by decide +kernel), .inr ⟨rfl, fun a xs e => nomatch e⟩⟩
  | bl b => exact ⟨_, false, .base (.bl b), kit_ty (by decide +kernel), .inr ⟨rfl, fun a xs e => nomatch e⟩⟩
  | str z => exact ⟨_, false, .base (.str z), kit_ty (by decide +kernel), .inr ⟨rfl, fun a xs e => nomatch e⟩⟩
  | tup e => exact ⟨_, true, .base (.tup e), kit_ty (by decide +kernel), .inl ⟨rfl, _, _, rfl, e⟩⟩
  | lst e => exact ⟨_, false, .base (.lst e), kit_ty (by decide +kernel), .inr ⟨rfl, fun a xs e1 e2 => by
      cases e1
      rw [e] at e2
      cases e2⟩⟩
  | dk e => exact ⟨_, false, .base (.dK e), kit_ty (by decide +kernel), .inr ⟨rfl, fun a xs e1 e2 => by
      cases e1
      rw [e] at e2
      cases e2⟩⟩
theorem Kd.at_ {H : Hp} {a : Addr} (h : Kd H (.ref a)) : ∃ o, H a = some o := by
  cases h with
  | tup e => exact ⟨_, e⟩
  | lst e => exact ⟨_, e⟩
  | dk e => exact ⟨_, e⟩
end Q

namespace Q
open PySem L2
theorem sN {H : Hp} {q : Addr} {o : HO} (n : H q = none) : Same H (upd H q o) := sNew (fun _ _ e => e) n
theorem sT {H H1 H2 : Hp} (a : Same H H1) (b : Same H1 H2) : Same H H2 := fun c o h => b c o (a c o h)
theorem HandAt.same {H H' : Hp} {p l : Addr} (h : HandAt H p l) (s : Same H H') : HandAt H' p l := by
  obtain ⟨ns, i, r, z, c, x⟩ := h
  exact ⟨ns, i, r, z, c, s _ _ x.at_, s _ _ x.lst, x.len, x.r0, x.s0, x.s1⟩
theorem Ext.same {p : Addr} {H H1 H2 : Hp} (h : Ext p H H1) (s : Same H1 H2) : Ext p H H2 := fun b o e n => s _ _ (h b o e n)
theorem hand_no {H : Hp} {p l : Addr} (g : HandAt H p l) : ∀ xs, H p ≠ some (.tup xs) := fun xs e => by
  obtain ⟨zs, z⟩ := g.hp
  rw [z] at e
  cases e
/-- the texts that are drawn -/
def txtL : List Str := ["me", "many", "ties", "round", "other", "heard", "sum", "least", "most", "add", "sub", "mul", "min", "max", "less", "same", "and", "or", "rest", "if", "number", "cell", "Add", "0", ""]
def TxtOk (v : V) : Prop := ∀ z, v = .str z → z ∈ txtL
/-- of known kinds, to nesting n -/
def Kt (H : Hp) : Nat → V → Prop
  | 0 => fun _ => True
  | n + 1 => fun v => (Kd H v ∧ TxtOk v) ∧ ∀ a xs, v = .ref a → H a = some (.tup xs) → xs.length ≤ 200 ∧ ∀ x ∈ xs, Kt H n x
def Wh (H : Hp) (v : V) : Prop := ∀ n, Kt H n v
theorem Wh.kd {H : Hp} {v : V} (h : Wh H v) : Kd H v := (h 1).1.1
theorem Wh.txt {H : Hp} {z : Str} (h : Wh H (.str z)) : z ∈ txtL := (h 1).1.2 z rfl
theorem Wh.items {H : Hp} {a : Addr} {xs : List V} (h : Wh H (.ref a)) (e : H a = some (.tup xs)) : xs.length ≤ 200 ∧ ∀ x ∈ xs, Wh H x :=
  ⟨((h 1).2 a xs rfl e).1, fun x hx n => ((h (n + 1)).2 a xs rfl e).2 x hx⟩
theorem Wh.tup {H : Hp} {a : Addr} {xs : List V} (e : H a = some (.tup xs)) (hl : xs.length ≤ 200) (h : ∀ x ∈ xs, Wh H x) : Wh H (.ref a)
  | 0 => trivial
  | n + 1 => ⟨⟨.tup e, fun z e => nomatch e⟩, fun a' ys e1 e2 => by
    cases e1
    rw [e] at e2
    cases e2
    exact ⟨hl, fun x hx => h x hx n⟩⟩
theorem Wh.nt {H : Hp} {v : V} (k : Kd H v) (tx : TxtOk v) (no : ∀ a xs, v = .ref a → H a = some (.tup xs) → False) : Wh H v
  | 0 => trivial
  | n + 1 => ⟨⟨k, tx⟩, fun a xs e1 e2 => (no a xs e1 e2).elim⟩
theorem Wh.int {H : Hp} (i : Int) : Wh H (.int i) := .nt (.int i) (fun _ e => nomatch e) fun _ _ e => nomatch e
theorem Wh.non {H : Hp} : Wh H .non := .nt .non (fun _ e => nomatch e) fun _ _ e => nomatch e
theorem Wh.bl {H : Hp} (b : Bool) : Wh H (.bl b) := .nt (.bl b) (fun _ e => nomatch e) fun _ _ e => nomatch e
theorem Wh.str {H : Hp} {z : Str} (h : z ∈ txtL) : Wh H (.str z) := .nt (.str z) (fun y e => by cases e; exact h) fun _ _ e => nomatch e
theorem Wh.lst {H : Hp} {a : Addr} {xs : List V} (e : H a = some (.lst xs)) : Wh H (.ref a) := .nt (.lst e) (fun _ e => nomatch e) fun a' _ e1 e2 => by
  cases e1
  rw [e] at e2
  cases e2
theorem Wh.dk {H : Hp} {a : Addr} {xs : List (Key × V)} (e : H a = some (.dK xs)) : Wh H (.ref a) := .nt (.dk e) (fun _ e => nomatch e) fun a' _ e1 e2 => by
  cases e1
  rw [e] at e2
  cases e2
theorem Kt.ext {H H' : Hp} {p l : Addr} (g : HandAt H p l) (g' : HandAt H' p l) (s : Ext p H H') : ∀ {n : Nat} {v : V}, Kt H n v → Kt H' n v
  | 0, _, _ => trivial
  | n + 1, v, h => ⟨⟨h.1.1.ext g g' s, h.1.2⟩, fun a xs e1 e2 => by
    subst e1
    obtain ⟨o, eo⟩ := h.1.1.at_
    obtain ⟨zs, ez⟩ := g'.hp
    have ne : a ≠ p := ne_of e2 ez (fun z => by cases z)
    rw [s _ _ eo ne] at e2
    cases e2
    obtain ⟨h1, h2⟩ := h.2 a xs rfl eo
    exact ⟨h1, fun x hx => (h2 x hx).ext g g' s⟩⟩
theorem Wh.ext {H H' : Hp} {p l : Addr} {v : V} (h : Wh H v) (g : HandAt H p l) (g' : HandAt H' p l) (s : Ext p H H') : Wh H' v := fun n => (h n).ext g g' s
theorem Kt.same {H H' : Hp} (s : Same H H') : ∀ {n : Nat} {v : V}, Kt H n v → Kt H' n v
  | 0, _, _ => trivial
  | n + 1, v, h => ⟨⟨h.1.1.same s, h.1.2⟩, fun a xs e1 e2 => by
    subst e1
    obtain ⟨o, eo⟩ := h.1.1.at_
    rw [s _ _ eo] at e2
    cases e2
    obtain ⟨h1, h2⟩ := h.2 a xs rfl eo
    exact ⟨h1, fun x hx => (h2 x hx).same s⟩⟩
theorem Wh.same {H H' : Hp} {v : V} (h : Wh H v) (s : Same H H') : Wh H' v := fun n => (h n).same s
theorem wh_nil {H : Hp} : ∀ x ∈ ([] : List V), Wh H x := fun _ h => absurd h List.not_mem_nil
theorem wh_cons {H : Hp} {v : V} {xs : List V} (h : Wh H v) (k : ∀ x ∈ xs, Wh H x) : ∀ x ∈ v :: xs, Wh H x := fun x hx => (List.mem_cons.mp hx).elim (fun e => by rw [e]; exact h) (k x)
theorem wh_same {H H' : Hp} {xs : List V} (h : ∀ x ∈ xs, Wh H x) (s : Same H H') : ∀ x ∈ xs, Wh H' x := fun x hx => (h x hx).same s
theorem wh_ext {H H' : Hp} {p l : Addr} {xs : List V} (h : ∀ x ∈ xs, Wh H x) (g : HandAt H p l) (g' : HandAt H' p l) (s : Ext p H H') : ∀ x ∈ xs, Wh H' x := fun x hx => (h x hx).ext g g' s
theorem wh_app {H : Hp} {xs ys : List V} (h : ∀ x ∈ xs, Wh H x) (k : ∀ x ∈ ys, Wh H x) : ∀ x ∈ xs ++ ys, Wh H x := fun x hx => (List.mem_append.mp hx).elim (h x) (k x)
theorem wh_sub {H : Hp} {xs ys : List V} (h : ∀ x ∈ xs, Wh H x) (s : ∀ x ∈ ys, x ∈ xs) : ∀ x ∈ ys, Wh H x := fun x hx => h x (s x hx)
/-! ### what an expression is -/
def opsL : List Str := ["add", "sub", "mul", "min", "max", "less", "same", "and", "or", "rest"]
/-- the head at v is well; ks: the expressions behind its word -/
def Node (H : Hp) (W : List Str) (c : Int) (v : V) (ks : List V) : Prop := ∃ (a : Addr) (s : Str) (r : List V), v = .ref a ∧ H a = some (.tup (.str s :: r)) ∧
  ((s = "number" ∧ ks = [] ∧ ∃ i : Int, r = [.int i] ∧ -2147483648 ≤ i ∧ i ≤ 2147483647) ∨ (s = "cell" ∧ ks = [] ∧ ∃ i : Int, r = [.int i] ∧ 0 ≤ i ∧ i < c) ∨ (s ∈ W ∧ r = [] ∧ ks = []) ∨ (s = "if" ∧ r.length = 3 ∧ ks = r) ∨ (s ∈ opsL ∧ r.length = 2 ∧ ks = r))
/-- words that stand alone -/
structure Alone (W : List Str) : Prop where
  number : ¬ ("number" : Str) ∈ W
  cell : ¬ ("cell" : Str) ∈ W
  iff : ¬ ("if" : Str) ∈ W
  ops : ∀ s ∈ opsL, ¬ s ∈ W
theorem ops_number : ¬ ("number" : Str) ∈ opsL := by decide +kernel
theorem ops_cell : ¬ ("cell" : Str) ∈ opsL := by decide +kernel
theorem ops_if : ¬ ("if" : Str) ∈ opsL := by decide +kernel
theorem ne_nc : ("number" : Str) ≠ "cell" := by decide +kernel
theorem ne_ni : ("number" : Str) ≠ "if" := by decide +kernel
theorem ne_ci : ("cell" : Str) ≠ "if" := by decide +kernel
theorem Node.uniq {H : Hp} {W : List Str} {c : Int} {v : V} {ks ks' : List V} (h : Node H W c v ks) (g : Node H W c v ks') : ks = ks' := by
  obtain ⟨a, s, r, rfl, e, h⟩ := h
  obtain ⟨a', s', r', e1, e', g⟩ := g
  cases e1
  rw [e] at e'
  simp only [Option.some.injEq, HO.tup.injEq, List.cons.injEq, V.str.injEq] at e'
  obtain ⟨rfl, rfl⟩ := e'
  have key : ∀ {k : List V}, ((s = "number" ∧ k = [] ∧ ∃ i : Int, r = [.int i] ∧ -2147483648 ≤ i ∧ i ≤ 2147483647) ∨ (s = "cell" ∧ k = [] ∧ ∃ i : Int, r = [.int i] ∧ 0 ≤ i ∧ i < c) ∨ (s ∈ W ∧ r = [] ∧ k = []) ∨ (s = "if" ∧ r.length = 3 ∧ k = r) ∨ (s ∈ opsL ∧ r.length = 2 ∧ k = r)) → k = if r.length ≤ 1 then [] else r := fun h => by
    rcases h with ⟨_, rfl, i, rfl, _⟩ | ⟨_, rfl, i, rfl, _⟩ | ⟨_, rfl, rfl⟩ | ⟨_, hl, rfl⟩ | ⟨_, hl, rfl⟩
    · rfl
    · rfl
    · rfl
    · rw [if_neg (by omega)]
    · rw [if_neg (by omega)]
  exact (key h).trans (key g).symm
/-- right to nesting n, of k expressions -/
def TS (H : Hp) (W : List Str) (c : Int) : Nat → V → Nat → Prop
  | 0 => fun _ _ => False
  | n + 1 => fun v k => ∃ ks, Node H W c v ks ∧ ∃ szs : List Nat, Paired (TS H W c n) ks szs ∧ k = 1 + szs.sum
theorem paired_uniq {R : V → Nat → Prop} (u : ∀ x k k', R x k → R x k' → k = k') : ∀ {xs : List V} {as bs : List Nat}, Paired R xs as → Paired R xs bs → as = bs
  | _, _, _, .nil, .nil => rfl
  | _, _, _, .cons h t, .cons g s => by
    have e1 := u _ _ _ h g
    have e2 := paired_uniq u t s
    subst e1
    subst e2
    rfl
theorem TS.uniq {H : Hp} {W : List Str} {c : Int} : ∀ {n : Nat} {v : V} {k k' : Nat}, TS H W c n v k → TS H W c n v k' → k = k'
  | 0, _, _, _, h, _ => h.elim
  | n + 1, v, k, k', ⟨ks, a, szs, p, e⟩, ⟨ks', a', szs', p', e'⟩ => by
    obtain rfl := a.uniq a'
    have z := paired_uniq (R := TS H W c n) (fun x k k' h g => TS.uniq h g) p p'
    rw [e, e', z]
def Right (H : Hp) (W : List Str) (c : Int) (v : V) : Prop := ∃ k, TS H W c 12 v k ∧ k ≤ 60
theorem Node.same {H H' : Hp} {W : List Str} {c : Int} {v : V} {ks : List V} (h : Node H W c v ks) (s : Same H H') : Node H' W c v ks := by
  obtain ⟨a, z, r, e1, e2, h⟩ := h
  exact ⟨a, z, r, e1, s _ _ e2, h⟩
theorem Node.ext {H H' : Hp} {W : List Str} {c : Int} {v : V} {ks : List V} {p l : Addr} (h : Node H W c v ks) (g : HandAt H p l) (s : Ext p H H') : Node H' W c v ks := by
  obtain ⟨a, z, r, e1, e2, h⟩ := h
  exact ⟨a, z, r, e1, s _ _ e2 (fun e => hand_no g _ (by rw [← e]; exact e2)), h⟩
theorem Node.back {H H' : Hp} {W : List Str} {c : Int} {v : V} {ks : List V} (w : Kd H v) (h : Node H' W c v ks) (s : Same H H') : Node H W c v ks := by
  obtain ⟨a, z, r, rfl, e2, h⟩ := h
  obtain ⟨o, eo⟩ := w.at_
  have y := s _ _ eo
  rw [e2] at y
  cases y
  exact ⟨a, z, r, rfl, eo, h⟩
theorem paired_mono {R R' : V → Nat → Prop} {xs : List V} {as : List Nat} (h : ∀ x k, x ∈ xs → R x k → R' x k) (p : Paired R xs as) : Paired R' xs as := by
  induction p with
  | nil => exact .nil
  | cons a _ ih => exact .cons (h _ _ List.mem_cons_self a) (ih fun x k hx => h x k (List.mem_cons_of_mem _ hx))
theorem TS.same {H H' : Hp} {W : List Str} {c : Int} (s : Same H H') : ∀ {n : Nat} {v : V} {k : Nat}, TS H W c n v k → TS H' W c n v k
  | 0, _, _, h => h.elim
  | n + 1, v, k, ⟨ks, a, szs, p, e⟩ => ⟨ks, a.same s, szs, paired_mono (fun x k _ h => h.same s) p, e⟩
theorem TS.ext {H H' : Hp} {W : List Str} {c : Int} {p l : Addr} (g : HandAt H p l) (s : Ext p H H') : ∀ {n : Nat} {v : V} {k : Nat}, TS H W c n v k → TS H' W c n v k
  | 0, _, _, h => h.elim
  | n + 1, v, k, ⟨ks, a, szs, q, e⟩ => ⟨ks, a.ext g s, szs, paired_mono (fun x k _ h => h.ext g s) q, e⟩
theorem Node.kids {H : Hp} {W : List Str} {c : Int} {v : V} {ks : List V} (w : Wh H v) (h : Node H W c v ks) : ∀ x ∈ ks, Wh H x := by
  obtain ⟨a, z, r, rfl, e2, h⟩ := h
  have it := (w.items e2).2
  have hr : ∀ x ∈ r, Wh H x := fun x hx => it x (List.mem_cons_of_mem _ hx)
  rcases h with ⟨_, rfl, _⟩ | ⟨_, rfl, _⟩ | ⟨_, _, rfl⟩ | ⟨_, _, rfl⟩ | ⟨_, _, rfl⟩
  · exact wh_nil
  · exact wh_nil
  · exact wh_nil
  · exact hr
  · exact hr
theorem TS.back {H H' : Hp} {W : List Str} {c : Int} (s : Same H H') : ∀ {n : Nat} {v : V} {k : Nat}, Wh H v → TS H' W c n v k → TS H W c n v k
  | 0, _, _, _, h => h.elim
  | n + 1, v, k, w, ⟨ks, a, szs, q, e⟩ => by
    have a' := a.back w.kd s
    exact ⟨ks, a', szs, paired_mono (fun x k hx h => h.back s (a'.kids w x hx)) q, e⟩
theorem right_iff {H H' : Hp} {W : List Str} {c : Int} {v : V} (w : Wh H v) (s : Same H H') : Right H W c v ↔ Right H' W c v :=
  ⟨fun ⟨k, h, l⟩ => ⟨k, h.same s, l⟩, fun ⟨k, h, l⟩ => ⟨k, h.back s w, l⟩⟩
theorem TS.mono {H : Hp} {W : List Str} {c : Int} : ∀ {n m : Nat} {v : V} {k : Nat}, n ≤ m → TS H W c n v k → TS H W c m v k
  | 0, _, _, _, _, h => h.elim
  | n + 1, 0, _, _, l, _ => absurd l (by omega)
  | n + 1, m + 1, v, k, l, ⟨ks, a, szs, q, e⟩ => ⟨ks, a, szs, paired_mono (fun x k _ h => h.mono (by omega)) q, e⟩
theorem TS.pos {H : Hp} {W : List Str} {c : Int} {n : Nat} {v : V} {k : Nat} (h : TS H W c n v k) : 1 ≤ k := by
  cases n with
  | zero => exact h.elim
  | succ n =>
    obtain ⟨ks, _, szs, _, e⟩ := h
    omega
end Q

namespace Q
open PySem L2
abbrev sSmall : Stmt := top 11
abbrev sBegins : Stmt := top 64
abbrev sInner : Stmt := top 65
def zeroL : List Str := ["me", "many", "ties", "round", "other", "heard", "sum", "least", "most"]
def noneL : List Str := ["Add", "0", ""]
/-- a tuple of texts in the written part -/
def KTup (K : PySem.W.Frag) (a : Addr) (xs : List V) : Prop := ∃ (o : Obj) (its : Array Value) (n : Nat), K.lookup a = some o ∧ o.cls = .type "tuple" ∧ o.data = .seq its n ∧ its.size ≤ sizeLine ∧ Vals xs its.toList
theorem KTup.sq {K : PySem.W.Frag} {a : Addr} {xs : List V} (h : KTup K a xs) (H : Hp) : SqT K H a xs := .inr h
/-- what is barred, and what is let -/
structure BarOk (bs W : List Str) (cells cw : Int) : Prop where
  al : Alone W
  sub : ∀ s ∈ W, s ∈ zeroL
  zero : ∀ s ∈ zeroL, (s ∈ W ↔ ¬ s ∈ bs)
  num : ¬ ("number" : Str) ∈ bs
  iff : ¬ ("if" : Str) ∈ bs
  ops : ∀ s ∈ opsL, ¬ s ∈ bs
  cell : (("cell" : Str) ∈ bs ∧ cw ≤ 0) ∨ (¬ ("cell" : Str) ∈ bs ∧ cw = cells)
/-- the words and how much stands behind each -/
structure Parts (K : PySem.W.Frag) (w : World) (mg : Str → Option Value) : Prop where
  ex : ∃ (d : Addr) (es : Array DictEntry) (n : Nat), KDict K w d es n ∧ mg "PARTS" = some (.ref d) ∧ (∀ s ∈ zeroL, ∃ t, PySem.W.nsIn K d s = some (some (.int 0 t))) ∧ (∀ s ∈ opsL, ∃ t, PySem.W.nsIn K d s = some (some (.int 2 t))) ∧
    (∃ t, PySem.W.nsIn K d "if" = some (some (.int 3 t))) ∧ (∀ s ∈ noneL, PySem.W.nsIn K d s = some none)
theorem Kd.tyS {K : PySem.W.Frag} {H : Hp} {v : V} (h : Kd H v) : ∃ (t : Value) (b : Bool), TyX K H v t ∧ PySem.W.kitOne K t (.type "str") = some b ∧ ((b = true ∧ ∃ z, v = .str z) ∨ (b = false ∧ ∀ z, v ≠ .str z)) := by
  cases h with
  | int i => exact ⟨_, false, .base (.int _), kit_ty (by decide +kernel), .inr ⟨rfl, fun z e => nomatch e⟩⟩
  | non => exact ⟨_, false, .base .non, kit_ty (by decide +kernel), .inr ⟨rfl, fun z e => nomatch e⟩⟩
  | bl b => exact ⟨_, false, .base (.bl b), kit_ty (by decide +kernel), .inr ⟨rfl, fun z e => nomatch e⟩⟩
  | str z => exact ⟨_, true, .base (.str z), kit_ty (by decide +kernel), .inl ⟨rfl, z, rfl⟩⟩
  | tup e => exact ⟨_, false, .base (.tup e), kit_ty (by decide +kernel), .inr ⟨rfl, fun z e => nomatch e⟩⟩
  | lst e => exact ⟨_, false, .base (.lst e), kit_ty (by decide +kernel), .inr ⟨rfl, fun z e => nomatch e⟩⟩
  | dk e => exact ⟨_, false, .base (.dK e), kit_ty (by decide +kernel), .inr ⟨rfl, fun z e => nomatch e⟩⟩
theorem inV_str (s : Str) : ∀ bs : List Str, inV (.str s) (bs.map V.str) = decide (s ∈ bs)
  | [] => by simp [inV]
  | b :: r => by
    have ih := inV_str s r
    unfold inV at ih ⊢
    rw [List.map_cons, List.any_cons, ih]
    have e : eqV (.str b) (.str s) = decide (s = b) := by
      show (b == s) = decide (s = b)
      by_cases c : s = b
      · rw [c, decide_eq_true rfl]
        simp
      · rw [decide_eq_false c]
        exact beq_eq_false_iff_ne.mpr fun z => c z.symm
    rw [e]
    by_cases c : s = b
    · simp [c]
    · simp [c]
theorem flat_str : ∀ bs : List Str, (bs.map V.str).all flatV = true
  | [] => rfl
  | b :: r => by
    rw [List.map_cons, List.all_cons, flat_str r]
    rfl
def spSmall : Sp := fun vs H Q _ => ∃ v : V, vs = [v] ∧ Kd H v ∧ ∀ b : Bool, (b = true ↔ ∃ i : Int, v = .int i ∧ -2147483648 ≤ i ∧ i ≤ 2147483647) → Q (.bl b) H
def spBegins (K : PySem.W.Frag) : Sp := fun vs H Q _ => ∃ (bA : Addr) (bs W : List Str) (cells cw : Int) (v : V), vs = [.ref bA, .int cells, v] ∧ KTup K bA (bs.map V.str) ∧ BarOk bs W cells cw ∧ Wh H v ∧ ∀ b : Bool, (b = true ↔ ∃ ks, Node H W cw v ks) → Q (.bl b) H
def spInner : Sp := fun vs H Q _ => ∃ (W : List Str) (cw : Int) (v : V) (ks : List V), vs = [v] ∧ Alone W ∧ Node H W cw v ks ∧ Wh H v ∧ ∀ t H', Same H H' → H' t = some (.tup ks) → Q (.ref t) H'
section
variable {P : Program} {w : World} {K : PySem.W.Frag} {mg : Str → Option Value} {base : Heap}
theorem scSmall : FnScope ["thing"] ["thing"] (defScope sSmall) := ⟨rfl, rfl, rfl, by decide +kernel, rfl, by decide +kernel, by decide +kernel⟩
theorem ok_small {f fP : Addr} {fd fdP : FuncData} (F : Fun K "is_small" "is_small" sSmall f fd) (B : Bts mg) (DP : Df K mg "is_plain_int" sPlain ["thing"] fP fdP) : FnOk P w K mg base CX0 2 f fd ["thing"] spSmall := by
  have GP : FnOk P w K mg base CX0 1 fP fdP ["thing"] (spPlain K) := ok_plain (x := "") (st := sPlain) DP.F B
  refine F.ok scSmall (fun vs H Q E h => ?_) (fun cdv A outer s H vs Q E hr h => ?_)
  · obtain ⟨v, rfl, _⟩ := h
    rfl
  · obtain ⟨v, rfl, kd, k⟩ := h
    refine ⟨_, pss_one (ps_ret (pe_and (pe_call GP hr rfl DP.m DP.k DP.b .nil pass0 (pa_cons (pv 0) pa_nil)) (pe_one (pe_chain op_le op_lt (pe_un un_neg (pe_op op_pow pe_int pe_int)) (pv 0) (pe_op op_pow pe_int pe_int))))), ?_⟩
    rcases kd.cl (K := K) with ⟨i, rfl⟩ | n
    · refine ⟨_, rfl, .int i, .type "int", true, false, rfl, .base (.int _), kInt_int, kBool_int, _, rfl, iteT ?_⟩
      refine ⟨_, _, rfl, rfl, ⟨by decide, by decide, by decide⟩, _, rfl, _, rfl, _, _, rfl, rfl, _, rfl, ?_⟩
      have e1 : (-(2 : Int) ^ (31 : Int).toNat) = -2147483648 := by decide
      have e2 : ((2 : Int) ^ (31 : Int).toNat) = 2147483648 := by decide
      refine ite2 (fun c => ?_) (fun c => ?_)
      · refine ⟨_, _, rfl, rfl, ⟨by decide, by decide, by decide⟩, _, _, rfl, rfl, ?_⟩
        refine k _ ⟨fun z => ⟨i, rfl, ?_, ?_⟩, fun ⟨j, e, a, b⟩ => ?_⟩
        · have := of_decide_eq_true c
          omega
        · have := of_decide_eq_true z
          omega
        · cases e
          exact decide_eq_true (by omega)
      · refine k false ⟨fun z => (nomatch z), fun ⟨j, e, a, b⟩ => (c ?_).elim⟩
        cases e
        exact decide_eq_true (by omega)
    · obtain ⟨t, b, c, ty, kb, kc, e0⟩ := id n
      refine ⟨_, rfl, v, t, b, c, rfl, ty, kb, kc, _, rfl, ?_⟩
      rw [e0]
      refine iteF (k false ⟨fun z => (nomatch z), fun ⟨j, e, _⟩ => ?_⟩)
      subst e
      exact n.int.elim
end
end Q

namespace Q
open PySem L2
theorem zero_not {s : Str} (h : s ∈ zeroL) : s ≠ "number" ∧ s ≠ "cell" ∧ s ≠ "if" ∧ ¬ s ∈ opsL := by
  have key : ∀ s ∈ zeroL, s ≠ "number" ∧ s ≠ "cell" ∧ s ≠ "if" ∧ ¬ s ∈ opsL := by decide +kernel
  exact key s h
theorem ops_not {s : Str} (h : s ∈ opsL) : s ≠ "number" ∧ s ≠ "cell" ∧ s ≠ "if" ∧ ¬ s ∈ zeroL := by
  have key : ∀ s ∈ opsL, s ≠ "number" ∧ s ≠ "cell" ∧ s ≠ "if" ∧ ¬ s ∈ zeroL := by decide +kernel
  exact key s h
theorem none_not {s : Str} (h : s ∈ noneL) : s ≠ "number" ∧ s ≠ "cell" ∧ s ≠ "if" ∧ ¬ s ∈ zeroL ∧ ¬ s ∈ opsL := by
  have key : ∀ s ∈ noneL, s ≠ "number" ∧ s ≠ "cell" ∧ s ≠ "if" ∧ ¬ s ∈ zeroL ∧ ¬ s ∈ opsL := by decide +kernel
  exact key s h
theorem txt_cases {s : Str} (h : s ∈ txtL) : s = "number" ∨ s = "cell" ∨ s = "if" ∨ s ∈ zeroL ∨ s ∈ opsL ∨ s ∈ noneL := by
  have key : ∀ s ∈ txtL, s = "number" ∨ s = "cell" ∨ s = "if" ∨ s ∈ zeroL ∨ s ∈ opsL ∨ s ∈ noneL := by decide +kernel
  exact key s h
/-- the head of a node, split -/
theorem node_iff {H : Hp} {W : List Str} {c : Int} {a : Addr} {s : Str} {r : List V} (e : H a = some (.tup (.str s :: r))) (ks : List V) : Node H W c (.ref a) ks ↔
    ((s = "number" ∧ ks = [] ∧ ∃ i : Int, r = [.int i] ∧ -2147483648 ≤ i ∧ i ≤ 2147483647) ∨ (s = "cell" ∧ ks = [] ∧ ∃ i : Int, r = [.int i] ∧ 0 ≤ i ∧ i < c) ∨ (s ∈ W ∧ r = [] ∧ ks = []) ∨ (s = "if" ∧ r.length = 3 ∧ ks = r) ∨ (s ∈ opsL ∧ r.length = 2 ∧ ks = r)) := by
  constructor
  · rintro ⟨a', s', r', e1, e2, h⟩
    cases e1
    rw [e] at e2
    simp only [Option.some.injEq, HO.tup.injEq, List.cons.injEq, V.str.injEq] at e2
    obtain ⟨rfl, rfl⟩ := e2
    exact h
  · exact fun h => ⟨a, s, r, rfl, e, h⟩
theorem at0 (x : V) (r : List V) : atI (x :: r) 0 = some x := atI_nat (xs := x :: r) (j := 0) rfl
theorem at1 (x y : V) (r : List V) : atI (x :: y :: r) 1 = some y := atI_nat (xs := x :: y :: r) (j := 1) rfl
theorem len_dec (n k : Nat) : decide (V.int ((n : Nat) : Int) = V.int ((k : Nat) : Int)) = decide (n = k) := by
  by_cases c : n = k
  · rw [c, decide_eq_true rfl, decide_eq_true rfl]
  · rw [decide_eq_false c, decide_eq_false fun z => c (by
      have z2 := V.int.inj z
      omega)]
section
variable {P : Program} {w : World} {K : PySem.W.Frag} {mg : Str → Option Value} {base : Heap}
theorem scBegins : FnScope ["barred", "cells", "thing", "word"] ["barred", "cells", "thing"] (defScope sBegins) := ⟨rfl, rfl, rfl, by decide +kernel, rfl, by decide +kernel, by decide +kernel⟩
theorem ok_begins {f fP fN fS : Addr} {fd fdP fdN fdS : FuncData} (F : Fun K "begins_well" "begins_well" sBegins f fd) (B : Bts mg) (hs : mg "str" = none) (T : Parts K w mg) (DP : Df K mg "is_plain_int" sPlain ["thing"] fP fdP) (DN : Df K mg "is_number_below" sNum ["limit", "thing"] fN fdN) (DS : Df K mg "is_small" sSmall ["thing"] fS fdS) :
    FnOk P w K mg base CX0 3 f fd ["barred", "cells", "thing"] (spBegins K) := by
  have GN : FnOk P w K mg base CX0 2 fN fdN ["limit", "thing"] (spNum K) := ok_num DN.F B DP
  have GS : FnOk P w K mg base CX0 2 fS fdS ["thing"] spSmall := ok_small DS.F B DP
  obtain ⟨d, es, n, KD, hm, z0, z2, ⟨t3, z3⟩, zn⟩ := T.ex
  refine F.ok scBegins (fun vs H Q E h => ?_) (fun cdv A outer s H vs Q E hr h => ?_)
  · obtain ⟨bA, bs, W, cells, cw, v, rfl, _⟩ := h
    rfl
  · obtain ⟨bA, bs, W, cells, cw, v, rfl, kt, bo, wh, k⟩ := h
    have nd := scBegins.nd
    refine ⟨_, pss_cons (ps_if (PW.pt (pw_or (pt_not (pt_val (pe_callB call_isi (by rfl) B.isinstance PyProof.Rows.boot_isinstance (pa_cons (pv 2) (pa_cons (pe_bltn (v := .ty "tuple") rfl B.tuple PyProof.Rows.boot_tuple rfl) pa_nil)))))
        (pw_or (pt_not (pt_truth (pv 2) (fun _ => rfl))) (pw_or1 (pt_not (pt_val (pe_callB call_isi (by rfl) B.isinstance PyProof.Rows.boot_isinstance (pa_cons (pe_ix ix_tup (pv 2) pe_int (fun _ _ => rfl)) (pa_cons (pe_bltn (v := .ty "str") rfl hs PyProof.Rows.boot_str rfl) pa_nil))))))))) (pss_one (ps_ret pe_bl)) pss_nil)
      (pss_cons (ps_set (i := 3) nd rfl (.inl rfl) (pe_ix ix_tup (pv 2) pe_int (fun _ _ => rfl)))
      (pss_cons (ps_if (pt_cmpR op_in_seq (pv 3) (pv 0) rfl) (pss_one (ps_ret pe_bl)) pss_nil)
      (pss_cons (ps_if (pt_cmpR op_eq (pv 3) pe_str (nomark _)) (pss_one (ps_ret (pe_and (pe_cmpR op_eq (pe_callB call_len_seq (by rfl) B.len PySem.boot_len (pa_cons (pv 2) pa_nil)) pe_int (nomark _)) (pe_one (pe_call GS hr rfl DS.m DS.k DS.b .nil pass0 (pa_cons (pe_ix ix_tup (pv 2) pe_int (fun _ _ => rfl)) pa_nil)))))) pss_nil)
      (pss_cons (ps_if (pt_cmpR op_eq (pv 3) pe_str (nomark _)) (pss_one (ps_ret (pe_and (pe_cmpR op_eq (pe_callB call_len_seq (by rfl) B.len PySem.boot_len (pa_cons (pv 2) pa_nil)) pe_int (nomark _)) (pe_one (pe_call GN hr rfl DN.m DN.k DN.b .nil pass0 (pa_cons (pv 1) (pa_cons (pe_ix ix_tup (pv 2) pe_int (fun _ _ => rfl)) pa_nil))))))) pss_nil)
      (pss_one (ps_ret (pe_and (pe_cmpR (op_in_kd KD) (pv 3) (pe_glob (v := .ref d) rfl hm rfl) rfl) (pe_one (pe_cmpR op_eq (pe_callB call_len_seq (by rfl) B.len PySem.boot_len (pa_cons (pv 2) pa_nil)) (pe_op op_add (pe_ix ix_kdict (pe_glob (v := .ref d) rfl hm rfl) (pv 3) (fun _ _ => rfl)) pe_int) (nomark _)))))))))), ?_⟩
    obtain ⟨t, bt, ty, kt0, h⟩ := wh.kd.tyT (K := K)
    refine ⟨_, rfl, v, .ty "tuple", t, .type "tuple", bt, rfl, .ty _, ty, kt0, _, rfl, ?_⟩
    rcases h with ⟨rfl, a, xs, rfl, ht⟩ | ⟨rfl, no⟩
    rotate_left
    · exact iteT (k false ⟨fun z => (nomatch z), fun ⟨ks, a, s, r, e1, e2, _⟩ => (no a _ e1 e2).elim⟩)
    obtain ⟨hl, its⟩ := wh.items ht
    refine iteF ⟨_, rfl, !xs.isEmpty, .inr (.inl ⟨xs, SqT.of ht, rfl⟩), ?_⟩
    cases xs with
    | nil =>
      refine iteT (k false ⟨fun z => (nomatch z), fun ⟨ks, a', s, r, e1, e2, _⟩ => ?_⟩)
      cases e1
      rw [ht] at e2
      cases e2
    | cons x r =>
      refine iteF ⟨_, rfl, a, x :: r, 0, x, rfl, rfl, SqT.of ht, at0 _ _, ?_⟩
      obtain ⟨tx, bx, tyx, ktx, hx⟩ := (its x List.mem_cons_self).kd.tyS (K := K)
      refine ⟨x, .ty "str", tx, .type "str", bx, rfl, .ty _, tyx, ktx, _, rfl, ?_⟩
      rcases hx with ⟨rfl, s, rfl⟩ | ⟨rfl, no⟩
      rotate_left
      · refine iteT (k false ⟨fun z => (nomatch z), fun ⟨ks, a', s, r', e1, e2, _⟩ => ?_⟩)
        cases e1
        rw [ht] at e2
        simp only [Option.some.injEq, HO.tup.injEq, List.cons.injEq] at e2
        exact (no s e2.1).elim
      have hst : s ∈ txtL := (its _ List.mem_cons_self).txt
      refine iteF ⟨_, rfl, a, _, 0, .str s, rfl, rfl, SqT.of ht, at0 _ _, ?_⟩
      refine ⟨_, rfl, _, rfl, bA, _, rfl, .inr (kt.sq _), rfl, flat_str bs, _, rfl, ?_⟩
      have en : (if false = true then !inV (V.str s) (bs.map V.str) else inV (V.str s) (bs.map V.str)) = decide (s ∈ bs) := inV_str s bs
      rw [en]
      refine ite2 (fun c => ?_) (fun c => ?_)
      · have hb : s ∈ bs := of_decide_eq_true c
        refine k false ⟨fun z => (nomatch z), fun ⟨ks, g⟩ => ?_⟩
        rcases (node_iff ht ks).mp g with ⟨rfl, _⟩ | ⟨rfl, _, i, _, h0, h1⟩ | ⟨hw, _⟩ | ⟨rfl, _⟩ | ⟨ho, _⟩
        · exact (bo.num hb).elim
        · rcases bo.cell with ⟨_, z⟩ | ⟨z, _⟩
          · omega
          · exact (z hb).elim
        · exact ((bo.zero s (bo.sub s hw)).mp hw hb).elim
        · exact (bo.iff hb).elim
        · exact (bo.ops s ho hb).elim
      · have hb : ¬ s ∈ bs := fun z => c (decide_eq_true z)
        refine ⟨_, rfl, rfl, _, rfl, ite2 (fun c1 => ?_) (fun c1 => ?_)⟩
        · have es : s = "number" := V.str.inj (of_decide_eq_true c1)
          subst es
          refine ⟨_, rfl, a, _, rfl, .inr (SqT.of ht), rfl, _, rfl, ?_⟩
          rw [show decide (V.int (((V.str "number" :: r).length : Nat) : Int) = V.int 2) = decide ((V.str "number" :: r).length = 2) from len_dec _ 2]
          cases r with
          | nil =>
            refine iteF (k false ⟨fun z => (nomatch z), fun ⟨ks, g⟩ => ?_⟩)
            rcases (node_iff ht ks).mp g with ⟨_, _, i, e, _⟩ | ⟨e, _⟩ | ⟨hw, _⟩ | ⟨e, _⟩ | ⟨ho, _⟩
            · cases e
            · exact (ne_nc e).elim
            · exact (bo.al.number hw).elim
            · exact (ne_ni e).elim
            · exact (ops_number ho).elim
          | cons y r2 =>
            cases r2 with
            | cons y2 r3 =>
              refine ite2 (fun c2 => absurd (of_decide_eq_true c2) (by simp)) (fun _ => k false ⟨fun z => (nomatch z), fun ⟨ks, g⟩ => ?_⟩)
              rcases (node_iff ht ks).mp g with ⟨_, _, i, e, _⟩ | ⟨e, _⟩ | ⟨hw, _⟩ | ⟨e, _⟩ | ⟨ho, _⟩
              · cases e
              · exact (ne_nc e).elim
              · exact (bo.al.number hw).elim
              · exact (ne_ni e).elim
              · exact (ops_number ho).elim
            | nil =>
              refine iteT ⟨_, rfl, a, _, 1, y, rfl, rfl, SqT.of ht, at1 _ _ _, y, rfl, (its y (by simp)).kd, fun b hb' => k b (hb'.trans ⟨fun ⟨i, e, h0, h1⟩ => ⟨[], (node_iff ht []).mpr (.inl ⟨rfl, rfl, i, by rw [e], h0, h1⟩)⟩, fun ⟨ks, g⟩ => ?_⟩)⟩
              rcases (node_iff ht ks).mp g with ⟨_, _, i, e, h0, h1⟩ | ⟨e, _⟩ | ⟨hw, _⟩ | ⟨e, _⟩ | ⟨ho, _⟩
              · cases e
                exact ⟨i, rfl, h0, h1⟩
              · exact (ne_nc e).elim
              · exact (bo.al.number hw).elim
              · exact (ne_ni e).elim
              · exact (ops_number ho).elim
        · have n1 : s ≠ "number" := fun z => c1 (by rw [z]; exact decide_eq_true rfl)
          refine ⟨_, rfl, rfl, _, rfl, ite2 (fun c2 => ?_) (fun c2 => ?_)⟩
          · have es : s = "cell" := V.str.inj (of_decide_eq_true c2)
            subst es
            have ecw : cw = cells := by
              rcases bo.cell with ⟨z, _⟩ | ⟨_, z⟩
              · exact (hb z).elim
              · exact z
            have out : ∀ {ks : List V}, Node H W cw (.ref a) ks → ∃ i : Int, r = [.int i] ∧ 0 ≤ i ∧ i < cw := fun {ks} g => by
              rcases (node_iff ht ks).mp g with ⟨e, _⟩ | ⟨_, _, z⟩ | ⟨hw, _⟩ | ⟨e, _⟩ | ⟨ho, _⟩
              · exact (n1 e).elim
              · exact z
              · exact (bo.al.cell hw).elim
              · exact (ne_ci e).elim
              · exact (ops_cell ho).elim
            refine ⟨_, rfl, a, _, rfl, .inr (SqT.of ht), rfl, _, rfl, ?_⟩
            rw [show decide (V.int (((V.str "cell" :: r).length : Nat) : Int) = V.int 2) = decide ((V.str "cell" :: r).length = 2) from len_dec _ 2]
            by_cases hl2 : r.length = 1
            · obtain ⟨y, rfl⟩ : ∃ y, r = [y] := by
                match r, hl2 with
                | [y], _ => exact ⟨y, rfl⟩
              refine iteT ⟨_, rfl, _, rfl, a, _, 1, y, rfl, rfl, SqT.of ht, at1 _ _ _, cells, y, rfl, ?_⟩
              rcases (its y (by simp)).kd.cl (K := K) with ⟨i, rfl⟩ | ny
              · refine .inl ⟨i, rfl, k _ ⟨fun z => ?_, fun ⟨ks, g⟩ => ?_⟩⟩
                · rw [Bool.and_eq_true] at z
                  exact ⟨[], (node_iff ht []).mpr (.inr (.inl ⟨rfl, rfl, i, rfl, of_decide_eq_true z.1, by rw [ecw]; exact of_decide_eq_true z.2⟩))⟩
                · obtain ⟨j, e, h0, h1⟩ := out g
                  cases e
                  rw [Bool.and_eq_true]
                  exact ⟨decide_eq_true h0, decide_eq_true (by rw [← ecw]; exact h1)⟩
              · refine .inr ⟨ny, k false ⟨fun z => (nomatch z), fun ⟨ks, g⟩ => ?_⟩⟩
                obtain ⟨j, e, _⟩ := out g
                cases e
                exact ny.int.elim
            · refine ite2 (fun c3 => absurd (of_decide_eq_true c3) (by simp; omega)) (fun _ => k false ⟨fun z => (nomatch z), fun ⟨ks, g⟩ => ?_⟩)
              obtain ⟨j, e, _⟩ := out g
              rw [e] at hl2
              exact absurd rfl hl2
          · have n2 : s ≠ "cell" := fun z => c2 (by rw [z]; exact decide_eq_true rfl)
            have out : ∀ {ks : List V}, Node H W cw (.ref a) ks → (s ∈ W ∧ r = [] ∧ ks = []) ∨ (s = "if" ∧ r.length = 3 ∧ ks = r) ∨ (s ∈ opsL ∧ r.length = 2 ∧ ks = r) := fun {ks} g => by
              rcases (node_iff ht ks).mp g with ⟨e, _⟩ | ⟨e, _⟩ | z
              · exact (n1 e).elim
              · exact (n2 e).elim
              · exact z
            have len3 : ∀ (q : Nat), (V.str s :: r).length = q + 1 ↔ r.length = q := fun q => by
              rw [List.length_cons]
              omega
            rcases txt_cases hst with e | e | e | hz | ho | hn
            · exact (n1 e).elim
            · exact (n2 e).elim
            · subst e
              refine ⟨_, rfl, _, _, rfl, rfl, z3, _, rfl, iteT ?_⟩
              refine ⟨_, rfl, a, _, rfl, .inr (SqT.of ht), _, rfl, d, _, .int 3, rfl, rfl, ⟨es, n, _, KD.at_, KD.lit, z3, ⟨_, rfl⟩⟩, _, _, rfl, rfl, rfl, ?_⟩
              rw [show decide (V.int (((V.str "if" :: r).length : Nat) : Int) = V.int (3 + 1)) = decide ((V.str "if" :: r).length = 4) from len_dec _ 4]
              refine k _ ⟨fun z => ⟨r, (node_iff ht r).mpr (.inr (.inr (.inr (.inl ⟨rfl, (len3 3).mp (of_decide_eq_true z), rfl⟩))))⟩, fun ⟨ks, g⟩ => ?_⟩
              rcases out g with ⟨hw, _⟩ | ⟨_, z, _⟩ | ⟨ho, _⟩
              · exact (bo.al.iff hw).elim
              · exact decide_eq_true ((len3 3).mpr z)
              · exact (ops_if ho).elim
            · obtain ⟨t0, hq⟩ := z0 s hz
              have hw : s ∈ W := (bo.zero s hz).mpr hb
              refine ⟨_, rfl, _, _, rfl, rfl, hq, _, rfl, iteT ?_⟩
              refine ⟨_, rfl, a, _, rfl, .inr (SqT.of ht), _, rfl, d, _, .int 0, rfl, rfl, ⟨es, n, _, KD.at_, KD.lit, hq, ⟨_, rfl⟩⟩, _, _, rfl, rfl, rfl, ?_⟩
              rw [show decide (V.int (((V.str s :: r).length : Nat) : Int) = V.int (0 + 1)) = decide ((V.str s :: r).length = 1) from len_dec _ 1]
              refine k _ ⟨fun z => ⟨[], (node_iff ht []).mpr (.inr (.inr (.inl ⟨hw, List.length_eq_zero_iff.mp ((len3 0).mp (of_decide_eq_true z)), rfl⟩)))⟩, fun ⟨ks, g⟩ => ?_⟩
              rcases out g with ⟨_, z, _⟩ | ⟨e, _⟩ | ⟨ho, _⟩
              · exact decide_eq_true ((len3 0).mpr (by rw [z]; rfl))
              · exact ((zero_not hz).2.2.1 e).elim
              · exact ((zero_not hz).2.2.2 ho).elim
            · obtain ⟨t2, hq⟩ := z2 s ho
              refine ⟨_, rfl, _, _, rfl, rfl, hq, _, rfl, iteT ?_⟩
              refine ⟨_, rfl, a, _, rfl, .inr (SqT.of ht), _, rfl, d, _, .int 2, rfl, rfl, ⟨es, n, _, KD.at_, KD.lit, hq, ⟨_, rfl⟩⟩, _, _, rfl, rfl, rfl, ?_⟩
              rw [show decide (V.int (((V.str s :: r).length : Nat) : Int) = V.int (2 + 1)) = decide ((V.str s :: r).length = 3) from len_dec _ 3]
              refine k _ ⟨fun z => ⟨r, (node_iff ht r).mpr (.inr (.inr (.inr (.inr ⟨ho, (len3 2).mp (of_decide_eq_true z), rfl⟩))))⟩, fun ⟨ks, g⟩ => ?_⟩
              rcases out g with ⟨hw, _⟩ | ⟨e, _⟩ | ⟨_, z, _⟩
              · exact (bo.al.ops s ho hw).elim
              · exact ((ops_not ho).2.2.1 e).elim
              · exact decide_eq_true ((len3 2).mpr z)
            · refine ⟨_, rfl, _, _, rfl, rfl, zn s hn, _, rfl, iteF ?_⟩
              refine k false ⟨fun z => (nomatch z), fun ⟨ks, g⟩ => ?_⟩
              rcases out g with ⟨hw, _⟩ | ⟨e, _⟩ | ⟨ho, _⟩
              · exact ((none_not hn).2.2.2.1 (bo.sub s hw)).elim
              · exact ((none_not hn).2.2.1 e).elim
              · exact ((none_not hn).2.2.2.2 ho).elim
end
end Q

namespace Q
open PySem L2
abbrev sIsEx : Stmt := top 63
/-- t[lo:hi], its items -/
def rSlC : V → Option Int → Option Int → Hp → VK → Prop := fun x lo hi H Q => ∃ a xs, x = .ref a ∧ H a = some (.tup xs) ∧ ∀ z H', Same H H' → H' z = some (.tup (cutV xs lo hi)) → Q (.ref z) H'
theorem sl_C {X : Cx} : SlR X rSlC := by
  intro pins s σ H x v vl vu lo hi sl Q I rx hs pl pu h
  obtain ⟨a, xs, rfl, ha, k⟩ := h
  refine sl_tupA pins s σ H _ v vl vu lo hi sl Q I rx hs pl pu ⟨a, xs, rfl, SqT.of ha, fun e => k a H (fun _ _ e => e) ?_, fun _ p hp => k p _ (sN hp) upd_same⟩
  rw [ha]
  congr 2
  unfold cutV
  rw [e.1, e.2]
  simp
theorem cut_tail (x : V) (r : List V) : cutV (x :: r) (some 1) none = r := by
  unfold cutV
  have e1 : HT.sIx (x :: r).length 0 (some ((1 : Nat) : Int)) = min 1 (x :: r).length := HT.sIx_nat _ _ 1
  have e2 : HT.sIx (x :: r).length (x :: r).length none = (x :: r).length := rfl
  show ((x :: r).drop (HT.sIx (x :: r).length 0 (some ((1 : Nat) : Int)))).take (HT.sIx (x :: r).length (x :: r).length none - HT.sIx (x :: r).length 0 (some ((1 : Nat) : Int))) = r
  rw [e1, e2, List.length_cons]
  rw [show min 1 (r.length + 1) = 1 by omega]
  simp
/-! ### the walk -/
abbrev Pt := Addr × V × Nat
def Good (H : Hp) (W : List Str) (c : Int) (ps : List Pt) (m : Nat) : Prop := ∃ szs : List Nat, Paired (fun (p : Pt) k => TS H W c (13 - p.2.2) p.2.1 k) ps szs ∧ m + szs.sum ≤ 60
theorem paired_app {α β : Type} {R : α → β → Prop} : ∀ {xs ys : List α} {as : List β}, Paired R (xs ++ ys) as → ∃ a1 a2, as = a1 ++ a2 ∧ Paired R xs a1 ∧ Paired R ys a2
  | [], _, as, h => ⟨[], as, rfl, .nil, h⟩
  | x :: xs, _, _, .cons h t => by
    obtain ⟨a1, a2, rfl, p1, p2⟩ := paired_app t
    exact ⟨_ :: a1, a2, rfl, .cons h p1, p2⟩
theorem app_paired {α β : Type} {R : α → β → Prop} {xs ys : List α} {a1 a2 : List β} (p1 : Paired R xs a1) (p2 : Paired R ys a2) : Paired R (xs ++ ys) (a1 ++ a2) := by
  induction p1 with
  | nil => exact p2
  | cons h _ ih => exact .cons h ih
theorem paired_kids {H : Hp} {W : List Str} {c : Int} {d : Nat} : ∀ {zs : List Pt} {ks : List V} {szs : List Nat}, zs.map (fun p => p.2) = ks.map (fun x => (x, d + 1)) → (Paired (fun (p : Pt) k => TS H W c (13 - p.2.2) p.2.1 k) zs szs ↔ Paired (TS H W c (12 - d)) ks szs)
  | [], [], szs, _ => ⟨fun h => by cases h; exact .nil, fun h => by cases h; exact .nil⟩
  | [], _ :: _, _, e => by simp at e
  | _ :: _, [], _, e => by simp at e
  | p :: zs, x :: ks, szs, e => by
    simp only [List.map_cons, List.cons.injEq] at e
    obtain ⟨e1, e2⟩ := e
    have ep : 13 - p.2.2 = 12 - d := by rw [e1]; show 13 - (d + 1) = 12 - d; omega
    have ev : p.2.1 = x := by rw [e1]
    constructor
    · intro h
      cases h with
      | cons a t =>
        rw [ep, ev] at a
        exact .cons a ((paired_kids e2).mp t)
    · intro h
      cases h with
      | cons a t =>
        refine .cons ?_ ((paired_kids e2).mpr t)
        rw [ep, ev]
        exact a
theorem Good.one {H : Hp} {W : List Str} {c : Int} {a : Addr} {v : V} : Good H W c [(a, v, 1)] 0 ↔ Right H W c v := by
  constructor
  · rintro ⟨szs, p, l⟩
    cases p with
    | cons h t =>
      cases t
      exact ⟨_, h, by simpa using l⟩
  · rintro ⟨k, h, l⟩
    exact ⟨[k], .cons h .nil, by simpa using l⟩
theorem Good.step {H : Hp} {W : List Str} {c : Int} {qs zs : List Pt} {p : Pt} {ks : List V} {m : Nat} (n : Node H W c p.2.1 ks) (hd : p.2.2 ≤ 12) (hz : zs.map (fun p => p.2) = ks.map (fun x => (x, p.2.2 + 1))) : Good H W c (qs ++ [p]) m ↔ Good H W c (qs ++ zs) (m + 1) := by
  have ef : 13 - p.2.2 = (12 - p.2.2) + 1 := by omega
  constructor
  · rintro ⟨szs, pp, l⟩
    obtain ⟨a1, a2, rfl, p1, p2⟩ := paired_app pp
    cases p2 with
    | cons h t =>
      cases t
      rw [ef] at h
      obtain ⟨ks', n', s2, q, e⟩ := h
      obtain rfl := n.uniq n'
      refine ⟨a1 ++ s2, app_paired p1 ((paired_kids hz).mpr q), ?_⟩
      simp only [List.sum_append, List.sum_cons, List.sum_nil] at l ⊢
      omega
  · rintro ⟨szs, pp, l⟩
    obtain ⟨a1, a2, rfl, p1, p2⟩ := paired_app pp
    refine ⟨a1 ++ [1 + a2.sum], app_paired p1 (.cons ?_ .nil), ?_⟩
    · show TS H W c (13 - p.2.2) p.2.1 (1 + a2.sum)
      rw [ef]
      exact ⟨ks, n, a2, (paired_kids hz).mp p2, rfl⟩
    · simp only [List.sum_append, List.sum_cons, List.sum_nil] at l ⊢
      omega
theorem Good.bad {H : Hp} {W : List Str} {c : Int} {qs : List Pt} {p : Pt} {m : Nat} (h : m + 1 > 60 ∨ p.2.2 > 12 ∨ ¬ ∃ ks, Node H W c p.2.1 ks) : ¬ Good H W c (qs ++ [p]) m := by
  rintro ⟨szs, pp, l⟩
  obtain ⟨a1, a2, rfl, p1, p2⟩ := paired_app pp
  cases p2 with
  | cons g t =>
    cases t
    have pos := g.pos
    simp only [List.sum_append, List.sum_cons, List.sum_nil] at l
    rcases h with h | h | h
    · omega
    · rw [show 13 - p.2.2 = 0 by omega] at g
      exact g
    · cases e : 13 - p.2.2 with
      | zero =>
        rw [e] at g
        exact g
      | succ n =>
        rw [e] at g
        obtain ⟨ks, n', _⟩ := g
        exact h ⟨ks, n'⟩
def spIsEx (K : PySem.W.Frag) : Sp := fun vs H Q _ => ∃ (bA : Addr) (bs W : List Str) (cells cw : Int) (v : V), vs = [.ref bA, .int cells, v] ∧ KTup K bA (bs.map V.str) ∧ BarOk bs W cells cw ∧ Wh H v ∧ ∀ (b : Bool) H', Same H H' → (b = true ↔ Right H W cw v) → Q (.bl b) H'
structure Lim (mg : Str → Option Value) : Prop where
  one : ∃ t, mg "MOST_IN_ONE" = some (.int 60 t)
  deep : ∃ t, mg "MOST_DEEP" = some (.int 12 t)
  starts : ∃ t, mg "MOST_STARTS" = some (.int 4 t)
section
variable {P : Program} {w : World} {K : PySem.W.Frag} {mg : Str → Option Value} {base : Heap}
theorem scInner : FnScope ["expression"] ["expression"] (defScope sInner) := ⟨rfl, rfl, rfl, by decide +kernel, rfl, by decide +kernel, by decide +kernel⟩
theorem ok_inner {f : Addr} {fd : FuncData} (F : Fun K "inner_parts" "inner_parts" sInner f fd) (B : Bts mg) : FnOk P w K mg base CX0 1 f fd ["expression"] spInner := by
  refine F.ok scInner (fun vs H Q E h => ?_) (fun cdv A outer s H vs Q E hr h => ?_)
  · obtain ⟨W, cw, v, ks, rfl, _⟩ := h
    rfl
  · obtain ⟨W, cw, v, ks, rfl, al, ⟨a, s, r, rfl, e, h⟩, wh, k⟩ := h
    refine ⟨_, pss_cons (ps_if (pt_cmpR op_in_seq (pe_ix ix_tup (pv 0) pe_int (fun _ _ => rfl)) (pe_tup (pa_cons pe_str (pa_cons pe_str pa_nil))) rfl) (pss_one (ps_ret (pe_tup pa_nil))) pss_nil)
      (pss_one (ps_ret (pe_slice sl_C (pv 0) (po_some pe_int) po_none))), ?_⟩
    refine ⟨_, rfl, a, _, 0, .str s, rfl, rfl, SqT.of e, at0 _ _, (by show 2 ≤ sizeLine; decide), fun t ht => ?_⟩
    have s1 := sN (o := .tup [.str "number", .str "cell"]) ht
    refine ⟨t, _, rfl, .inr (SqT.of upd_same), rfl, flat_str ["number", "cell"], _, rfl, ?_⟩
    have en : (if false = true then !inV (V.str s) [.str "number", .str "cell"] else inV (V.str s) [.str "number", .str "cell"]) = decide (s ∈ (["number", "cell"] : List Str)) := inV_str s ["number", "cell"]
    rw [en]
    refine ite2 (fun c => ?_) (fun c => ?_)
    · have hs : s = "number" ∨ s = "cell" := by simpa using of_decide_eq_true c
      have ek : ks = [] := by
        rcases h with ⟨_, z, _⟩ | ⟨_, z, _⟩ | ⟨_, _, z⟩ | ⟨e1, _⟩ | ⟨ho, _⟩
        · exact z
        · exact z
        · exact z
        · rcases hs with rfl | rfl
          · exact (ne_ni e1).elim
          · exact (ne_ci e1).elim
        · rcases hs with rfl | rfl
          · exact (ops_number ho).elim
          · exact (ops_cell ho).elim
      refine ⟨Nat.zero_le _, fun t2 ht2 => k t2 _ (sT s1 (sN ht2)) ?_⟩
      rw [upd_same, ek]
    · have hs : s ≠ "number" ∧ s ≠ "cell" := ⟨fun z => c (decide_eq_true (by rw [z]; simp)), fun z => c (decide_eq_true (by rw [z]; simp))⟩
      have ek : ks = r := by
        rcases h with ⟨z, _⟩ | ⟨z, _⟩ | ⟨_, z1, z2⟩ | ⟨_, _, z⟩ | ⟨_, _, z⟩
        · exact (hs.1 z).elim
        · exact (hs.2 z).elim
        · rw [z1, z2]
        · exact z
        · exact z
      refine ⟨_, rfl, _, rfl, a, _, rfl, s1 _ _ e, fun z H2 s2 e2 => k z H2 (sT s1 s2) ?_⟩
      rw [e2, ek]
      exact congrArg (fun l => some (HO.tup l)) (cut_tail _ _)
end
end Q

namespace Q
open PySem L2
section
variable {P : Program} {w : World} {K : PySem.W.Frag} {mg : Str → Option Value} {base : Heap}
theorem scIsEx : FnScope ["barred", "cells", "thing", "many", "waiting", "part", "deep", "inner"] ["barred", "cells", "thing"] (defScope sIsEx) := ⟨rfl, rfl, rfl, by decide +kernel, rfl, by decide +kernel, by decide +kernel⟩
theorem ok_isex {f fP fN fS fB fI : Addr} {fd fdP fdN fdS fdB fdI : FuncData} (F : Fun K "is_expression" "is_expression" sIsEx f fd) (B : Bts mg) (hs : mg "str" = none) (T : Parts K w mg) (LM : Lim mg) (DP : Df K mg "is_plain_int" sPlain ["thing"] fP fdP) (DN : Df K mg "is_number_below" sNum ["limit", "thing"] fN fdN) (DS : Df K mg "is_small" sSmall ["thing"] fS fdS)
    (DB : Df K mg "begins_well" sBegins ["barred", "cells", "thing"] fB fdB) (DI : Df K mg "inner_parts" sInner ["expression"] fI fdI) :
    FnOk P w K mg base CX0 4 f fd ["barred", "cells", "thing"] (spIsEx K) := by
  have GB : FnOk P w K mg base CX0 3 fB fdB ["barred", "cells", "thing"] (spBegins K) := ok_begins DB.F B hs T DP DN DS
  have GI : FnOk P w K mg base CX0 1 fI fdI ["expression"] spInner := ok_inner DI.F B
  obtain ⟨t1, hone⟩ := LM.one
  obtain ⟨t2, hdeep⟩ := LM.deep
  refine F.ok scIsEx (fun vs H Q E h => ?_) (fun cdv A outer s H vs Q E hr h => ?_)
  · obtain ⟨bA, bs, W, cells, cw, v, rfl, _⟩ := h
    rfl
  · obtain ⟨bA, bs, W, cells, cw, v, rfl, kt, bo, wh, k⟩ := h
    have nd := scIsEx.nd
    have hr1 : Room 1 _ := hr.mono (by decide)
    refine ⟨_, pss_cons (ps_set (i := 3) nd rfl (.inl rfl) pe_int)
      (pss_cons (ps_set (i := 4) nd rfl (.inl rfl) (pe_lst (pa_cons (pe_tup (pa_cons (pv 2) (pa_cons pe_int pa_nil))) pa_nil)))
      (pss_cons (ps_while PassesOwn.never (pt_truth (pv 4) (fun _ => rfl))
        (pss_cons (ps_asg (pe_bm0 PySem.F.plainAttrs_list PySem.F.slot_list_pop PySem.F.type_list_pop mt_pop (pv 4)) (pg_tup rfl (pgs_cons (pg_name (i := 5) nd rfl (.inl rfl)) (pgs_cons (pg_name (i := 6) nd rfl (.inr rfl)) pgs_nil))))
        (pss_cons (ps_aug (i := 3) nd rfl (.inl rfl) pe_int ip_add)
        (pss_cons (ps_if (PW.pt (pw_or (pt_cmpR op_gt (pv 3) (pe_glob (v := .int 60) rfl hone ⟨_, rfl⟩) (nomark _)) (pw_or (pt_cmpR op_gt (pv 6) (pe_glob (v := .int 12) rfl hdeep ⟨_, rfl⟩) (nomark _))
          (pw_or1 (pt_not (pt_val (pe_call GB hr rfl DB.m DB.k DB.b .nil pass0 (pa_cons (pv 0) (pa_cons (pv 1) (pa_cons (pv 5) pa_nil)))))))))) (pss_one (ps_ret pe_bl)) pss_nil)
        (pss_one (ps_expr (pe_bm PySem.F.plainAttrs_list PySem.F.slot_list_extend PySem.F.type_list_extend mt_extend (pv 4) (pa_cons (pe_lc (own := [("inner", 7)]) (g := gName 7) (tt := tYes) rfl nd (pi_tup (pe_call GI hr1 rfl DI.m DI.k DI.b .nil pass0 (pa_cons (pv 5) pa_nil)))
          (blkOk_by (N := ["barred", "cells", "thing", "many", "waiting", "part", "deep", "inner"]) (sc := defScope sIsEx) (by decide +kernel)) (fun _ _ _ _ _ => pg_name (i := 7) nd rfl (.inl rfl)) (fun _ _ _ _ _ => pts_nil)
          (fun _ _ _ _ _ => pe_tup (pa_cons (pv 7) (pa_cons (pe_op op_add (pv 6) pe_int) pa_nil)))) pa_nil))))))))
      (pss_one (ps_ret pe_bl)))), ?_⟩
    refine ⟨_, rfl, (by show 2 ≤ sizeLine; decide), fun t0 n0 => ?_⟩
    refine ⟨(by show 1 ≤ sizeLine; decide), fun wl nwl => ?_⟩
    have s0 := sN (o := .tup [v, .int 1]) n0
    have nwl0 : H wl = none := by
      by_cases e : wl = t0
      · rw [e, upd_same] at nwl
        cases nwl
      · rw [upd_ne e] at nwl
        exact nwl
    refine ⟨fun n σ H' => ∃ (many : Nat) (ps : List Pt) (x5 x6 : Option V), n = 61 - many ∧ σ = [some (.ref bA), some (.int cells), some v, some (.int (many : Int)), some (.ref wl), x5, x6, none] ∧ H' wl = some (.lst (ps.map fun p => V.ref p.1)) ∧
      (∀ p ∈ ps, H' p.1 = some (.tup [p.2.1, .int (p.2.2 : Int)]) ∧ Wh H p.2.1) ∧ ps.length ≤ 1 + 2 * many ∧ many ≤ 60 ∧ Same H H' ∧ (Good H W cw ps many ↔ Right H W cw v), ⟨61, 0, [(t0, v, 1)], none, none, rfl, rfl, upd_same, ?_, (by show 1 ≤ 1; decide), by decide, sT s0 (sN nwl), Good.one⟩, ?_⟩
    · intro p hp
      rw [List.mem_singleton.mp hp]
      refine ⟨?_, wh⟩
      rw [upd_ne (fun e => by rw [← e, upd_same] at nwl; cases nwl), upd_same]
      rfl
    · rintro n σ H1 ⟨many, ps, x5, x6, rfl, rfl, ewl, hps, hlen, hm, s1, iff⟩
      by_cases hemp : ps = []
      · subst hemp
        refine ⟨_, rfl, false, .inl ⟨_, SqL.of ewl, rfl⟩, iteF ?_⟩
        exact k true H1 s1 ⟨fun _ => iff.mp ⟨[], .nil, by simpa using hm⟩, fun _ => rfl⟩
      · obtain ⟨qs, p, rfl⟩ : ∃ qs p, ps = qs ++ [p] := ⟨ps.dropLast, ps.getLast hemp, (List.dropLast_concat_getLast hemp).symm⟩
        have hne : (!((qs ++ [p]).map fun p : Pt => V.ref p.1).isEmpty) = true := by simp
        refine ⟨_, rfl, true, .inl ⟨_, SqL.of ewl, hne.symm⟩, iteT ⟨fun σ' H' => ∃ m', m' < 61 - many ∧ ∃ (many : Nat) (ps : List Pt) (x5 x6 : Option V), m' = 61 - many ∧ σ' = [some (.ref bA), some (.int cells), some v, some (.int (many : Int)), some (.ref wl), x5, x6, none] ∧ H' wl = some (.lst (ps.map fun p => V.ref p.1)) ∧
          (∀ p ∈ ps, H' p.1 = some (.tup [p.2.1, .int (p.2.2 : Int)]) ∧ Wh H p.2.1) ∧ ps.length ≤ 1 + 2 * many ∧ many ≤ 60 ∧ Same H H' ∧ (Good H W cw ps many ↔ Right H W cw v), fun σ' H' ⟨m', a, b⟩ => ⟨m', a, b⟩, ?_⟩⟩
        obtain ⟨ep, wp⟩ := hps p (by simp)
        have npw : p.1 ≠ wl := ne_of ep ewl (fun z => by cases z)
        have elast : ((qs ++ [p]).map fun p : Pt => V.ref p.1)[((qs ++ [p]).map fun p : Pt => V.ref p.1).length - 1]? = some (.ref p.1) := by simp
        have edrop : ((qs ++ [p]).map fun p : Pt => V.ref p.1).dropLast = qs.map fun p : Pt => V.ref p.1 := by simp
        refine ⟨_, rfl, .inl ⟨rfl, _, SqL.of ewl⟩, wl, _, .ref p.1, rfl, rfl, ewl, elast, ?_⟩
        rw [edrop]
        have s2 : Same H (upd H1 wl (.lst (qs.map fun p : Pt => V.ref p.1))) := sNew s1 nwl0
        have keep : ∀ z : Pt, z ∈ qs → upd H1 wl (.lst (qs.map fun p : Pt => V.ref p.1)) z.1 = some (.tup [z.2.1, .int (z.2.2 : Int)]) ∧ Wh H z.2.1 := fun z hz => by
          obtain ⟨a, b⟩ := hps z (List.mem_append_left _ hz)
          exact ⟨by rw [upd_ne (ne_of a ewl (fun z => by cases z))]; exact a, b⟩
        refine ⟨p.1, _, rfl, SqT.of (by rw [upd_ne npw]; exact ep), rfl, _, _, rfl, _, _, rfl, rfl, ?_⟩
        refine ⟨_, rfl, _, _, rfl, rfl, ?_⟩
        have stop : (many + 1 > 60 ∨ p.2.2 > 12 ∨ ¬ ∃ ks, Node H W cw p.2.1 ks) → Q (.bl false) (upd H1 wl (.lst (qs.map fun p : Pt => V.ref p.1))) := fun h => k false _ s2 ⟨fun z => (nomatch z), fun z => (Good.bad h (iff.mpr z)).elim⟩
        refine ⟨_, rfl, _, _, rfl, rfl, _, rfl, ite2 (fun c => ?_) (fun c1 => ?_)⟩
        · exact stop (.inl (by
            have z : (60 : Int) < (many : Int) + 1 := of_decide_eq_true c
            omega))
        have h60 : many + 1 ≤ 60 := by
          by_cases z : many + 1 ≤ 60
          · exact z
          · exact absurd (decide_eq_true (show (60 : Int) < (many : Int) + 1 by omega)) c1
        refine ⟨_, rfl, _, _, rfl, rfl, _, rfl, ite2 (fun c => ?_) (fun c2 => ?_)⟩
        · exact stop (.inr (.inl (by
            have z : (12 : Int) < (p.2.2 : Int) := of_decide_eq_true c
            omega)))
        have h12 : p.2.2 ≤ 12 := by
          by_cases z : p.2.2 ≤ 12
          · exact z
          · exact absurd (decide_eq_true (show (12 : Int) < (p.2.2 : Int) by omega)) c2
        refine ⟨_, rfl, _, rfl, _, rfl, bA, bs, W, cells, cw, p.2.1, rfl, kt, bo, wp.same s2, fun b hb => ⟨_, rfl, ?_⟩⟩
        cases b with
        | false => exact iteT (stop (.inr (.inr fun ⟨ks, g⟩ => absurd (hb.mpr ⟨ks, g.same s2⟩) Bool.false_ne_true)))
        | true =>
          obtain ⟨ks, g2⟩ := hb.mp rfl
          have g := g2.back wp.kd s2
          have hk3 : ks.length ≤ 3 := by
            obtain ⟨_, _, r, _, _, h⟩ := g
            rcases h with ⟨_, e, _⟩ | ⟨_, e, _⟩ | ⟨_, _, e⟩ | ⟨_, l, e⟩ | ⟨_, l, e⟩
            · rw [e]; decide
            · rw [e]; decide
            · rw [e]; decide
            · rw [e]; omega
            · rw [e]; omega
          refine iteF ⟨_, rfl, .inl ⟨rfl, _, SqL.of upd_same⟩, _, rfl, W, cw, p.2.1, ks, rfl, bo.al, g2, wp.same s2, fun tt H2 s3 ett => ?_⟩
          have e2 : H2 wl = some (.lst (qs.map fun p : Pt => V.ref p.1)) := s3 _ _ upd_same
          refine ⟨tt, rfl, ⟨_, SqT.of ett⟩, fun D hD => lc_tup (K := K) (a := tt) (xs := ks) (fun i H' => ∃ zs : List Pt, H' D = some (.lst (zs.map fun p => V.ref p.1)) ∧ zs.map (fun p => p.2) = (ks.take i).map (fun x => (x, p.2.2 + 1)) ∧ (∀ z ∈ zs, H' z.1 = some (.tup [z.2.1, .int (z.2.2 : Int)])) ∧ Same H2 H') ?_ ?_ ?_ ?_⟩
          · exact ⟨[], upd_same, rfl, fun z hz => absurd hz List.not_mem_nil, sN hD⟩
          · rintro i H3 hi ⟨zs, _, _, _, s4⟩
            exact SqT.of (s4 _ _ ett)
          · rintro i x H3 hx ⟨zs, eD, emap, hz, s4⟩
            have hik : i < ks.length := (List.getElem?_eq_some_iff.mp hx).1
            have hlz : zs.length = i := by
              have z := congrArg List.length emap
              simp only [List.length_map, List.length_take] at z
              omega
            refine ⟨rfl, ?_⟩
            refine ⟨_, rfl, _, rfl, _, _, rfl, rfl, (by show 2 ≤ sizeLine; decide), fun z nz => ?_⟩
            have nDz : D ≠ z := ne_of_none eD nz
            refine ⟨zs.map (fun p => V.ref p.1), by rw [upd_ne nDz]; exact eD, ?_, zs ++ [(z, x, p.2.2 + 1)], ?_, ?_, ?_, ?_⟩
            · rw [List.length_map, hlz]
              exact Nat.lt_of_lt_of_le (show i < 64 by omega) (by decide)
            · rw [upd_same, List.map_append]
              rfl
            · rw [List.map_append, emap, List.take_add_one, hx, List.map_append]
              rfl
            · intro y hy
              rcases List.mem_append.mp hy with hy | hy
              · have ey := hz y hy
                rw [upd_ne (ne_of ey eD (fun z => by cases z)), upd_ne (ne_of_none ey nz)]
                exact ey
              · rw [List.mem_singleton.mp hy]
                rw [upd_ne nDz.symm, upd_same]
                rfl
            · intro b o e
              have e3 := s4 _ _ e
              rw [upd_ne (ne_of_none e hD), upd_ne (ne_of_none e3 nz)]
              exact e3
          · rintro H3 ⟨zs, eD, emap, hz, s4⟩
            rw [List.take_length] at emap
            have hlz : zs.length = ks.length := by
              have z := congrArg List.length emap
              simpa using z
            have nwD : D ≠ wl := fun e => by
              rw [e, e2] at hD
              cases hD
            refine ⟨wl, D, _, _, rfl, rfl, s4 _ _ e2, eD, ?_, ?_⟩
            · rw [List.length_map, List.length_map, hlz]
              rw [List.length_append, List.length_singleton] at hlen
              exact Nat.le_trans (show qs.length + ks.length ≤ 200 by omega) (by decide)
            · refine ⟨61 - (many + 1), by omega, many + 1, qs ++ zs, _, _, rfl, rfl, ?_, ?_, ?_, h60, ?_, ?_⟩
              · rw [upd_same, List.map_append]
              · intro y hy
                rcases List.mem_append.mp hy with hy | hy
                · obtain ⟨a, b⟩ := keep y hy
                  have a3 := s4 _ _ (s3 _ _ a)
                  exact ⟨by rw [upd_ne (ne_of a3 (s4 _ _ e2) (fun z => by cases z))]; exact a3, b⟩
                · have a3 := hz y hy
                  refine ⟨by rw [upd_ne (ne_of a3 (s4 _ _ e2) (fun z => by cases z))]; exact a3, ?_⟩
                  have hmem : y.2 ∈ ks.map (fun x => (x, p.2.2 + 1)) := by
                    rw [← emap]
                    exact List.mem_map_of_mem (f := fun p : Pt => p.2) hy
                  obtain ⟨x, hx, e⟩ := List.mem_map.mp hmem
                  rw [← e]
                  exact g.kids wp x hx
              · rw [List.length_append, hlz]
                rw [List.length_append, List.length_singleton] at hlen
                omega
              · exact sNew (sT s2 (sT s3 s4)) nwl0
              · exact (Good.step g h12 emap).symm.trans iff
end
end Q

namespace Q
open PySem L2
abbrev sPart : Stmt := inClass (top 4) 0
abbrev sAre : Stmt := top 62
def xdP (y : V) : HO := .xd [("part", y)]
def spPart (CB : Addr) : Sp := fun vs H Q _ => ∃ (a : Addr) (y : V), vs = [.ref a, y] ∧ H a = some (exo a CB none) ∧ ∀ d, H d = none → d ≠ a → Q .non (upd (upd H d (exd d [("part", y)])) a (exo a CB (some d)))
/-- what the top says of BadProgram -/
structure BTxt (K : PySem.W.Frag) (mg : Str → Option Value) (CB fI : Addr) (fd : FuncData) : Prop where
  ox : OexC K CB
  iC : PySem.W.findIn K (.ref CB) "__init__" = some (some (.ref fI))
  tI : PySem.W.typeIn K (.ref fI) = some (.type "function")
  F : Fun K "__init__" "BadProgram.__init__" sPart fI fd
  b : Binds K fd ["self", "part"] []
  no : PySem.W.findIn K (.ref CB) "part" = some none
  g : mg "BadProgram" = some (.ref CB)
  ex : PySem.W.exmOne K (.ref CB) (.ref CB) = some true
  xf : XfC K CB
section
variable {P : Program} {w : World} {K : PySem.W.Frag} {mg : Str → Option Value} {base : Heap}
theorem scPart : FnScope ["self", "part"] ["self", "part"] (defScope sPart) := ⟨rfl, rfl, rfl, by decide +kernel, rfl, by decide +kernel, by decide +kernel⟩
theorem ok_part {CB fI : Addr} {fd : FuncData} (T : BTxt K mg CB fI fd) (B : Bts mg) : FnOk P w K mg base CX0 1 fI fd ["self", "part"] (spPart CB) := by
  refine T.F.ok scPart (fun vs H Q E h => ?_) (fun cdv A outer s H vs Q E hr h => ?_)
  · obtain ⟨a, y, rfl, _⟩ := h
    rfl
  · obtain ⟨a, y, rfl, e, k⟩ := h
    refine ⟨_, pss_one (ps_ost (pv 0) (pv 1)), ?_⟩
    exact ⟨_, rfl, _, rfl, a, CB, rfl, T.ox, T.no, .inl ⟨e, fun d n ne => k d n ne⟩⟩
/-- raise BadProgram(y) -/
theorem bad_raise {CB : Addr} {H H1 : Hp} {y : V} {E : XK} (s : Same H H1) (k : ∀ d H', H' d = some (xdP y) → Same H H' → E (.ref CB) (some d) H') :
    [y].length ≤ 1000 ∧ ∀ a, H1 a = none → spPart CB (.ref a :: ([y] ++ [])) (upd H1 a (exo a CB none)) (fun v H2 => v = .non ∧ ∃ (d : Addr) (fs : List (Str × V)), H2 a = some (exo a CB (some d)) ∧ H2 d = some (exd d fs) ∧ H1 d = none ∧ E (.ref CB) (some d) (upd (del H2 a) d (.xd fs))) (fun _ _ _ => False) := by
  refine ⟨(by show 1 ≤ 1000; decide), fun a ha => ⟨a, y, rfl, upd_same, fun d hd hda => ⟨rfl, d, _, upd_same, ?_, ?_, k d _ upd_same fun b o e => ?_⟩⟩⟩
  · rw [upd_ne hda, upd_same]
  · rw [upd_ne hda] at hd
    exact hd
  · have hb := s _ _ e
    have nba : b ≠ a := ne_of_none hb ha
    rw [upd_ne hda] at hd
    have nbd : b ≠ d := ne_of_none hb hd
    rw [upd_ne nbd, del_ne nba, upd_ne nba, upd_ne nbd, upd_ne nba]
    exact hb
end
section
variable {X : Cx} {CX : CXT} {k : Nat} {f C : Addr} {fd : FuncData} {ps : List Str} {sp : Sp} {E : St → XK} {x : Str} {p pos : Pos} {e : Expr} {es : List Expr} {t : TA}
def tMakeS (C : Addr) (sp : Sp) (E : St → XK) (t : TA) : TE := fun σ H Q => t σ H fun vs H1 => ∀ x dx, H1 x = none → H1 dx = none → dx ≠ x → sp (.ref x :: vs) (upd (upd H1 dx (.own x)) x (.ins C dx [])) (fun v H2 => v = .non ∧ Q (.ref x) H2) (E σ)
theorem run_makeS {pins : List (Addr × Obj)} {σ : St} {H : Hp} {s : Shared} {Q : VK} {us : List Value} {vs : List V} (M : Mk X.K C f) (F : FnOk X.prog X.w X.K X.mg X.base CX k f fd ps sp) (hr : Room (k + 1) X.A) (hb : Binds X.K fd ps [])
    (hx : PassesAt CX X σ (E σ)) (I : Inv X pins σ H s) (r : Vals vs us)
    (h : ∀ x dx, H x = none → H dx = none → dx ≠ x → sp (.ref x :: vs) (upd (upd H dx (.own x)) x (.ins C dx [])) (fun v H2 => v = .non ∧ Q (.ref x) H2) (E σ)) :
    wpAny (model X.prog X.w) X.A (call (.ref C) us) (EP X pins σ Q) X.xe s := by
  have hq := h (s.heap.objs.size + 1) s.heap.objs.size (I.hok.fresh (Nat.le_succ _)) (I.hok.fresh (Nat.le_refl _)) (Nat.ne_of_lt (Nat.lt_succ_self _))
  have I2 := Inv.made (C := C) I
  have r2 : Vals (V.ref (s.heap.objs.size + 1) :: vs) (Value.ref (s.heap.objs.size + 1) :: us) := .cons rfl r
  have hl : (Value.ref (s.heap.objs.size + 1) :: us).length = ps.length := by
    have e := r2.length
    rw [F.len _ _ _ _ hq] at e
    exact e.symm
  have bb := hb { heap := _, gens := _, drawn := _, toks := _, os := _ } (Value.ref (s.heap.objs.size + 1) :: us) I2.kIn (by rw [List.append_nil]; exact hl)
  rw [List.append_nil] at bb
  refine wpAny_call (make_map (f := f) I.kIn M.makes M.init (beq_iff_eq.mp M.fn) (codeAny_mono (F.run _ X.stack _ _ ⟨Value.ref (s.heap.objs.size + 1) :: us, []⟩ (Value.ref (s.heap.objs.size + 1) :: us) _ _ (E σ) (hr.make C us [])
    (I2.env0.make C us []) bb r2 hq) fun r s' hq' => ?_))
  cases r with
  | error e => exact hx pins _ _ e s' I2 hq'
  | ok fl =>
    cases fl with
    | ret u =>
      obtain ⟨v, H', I3, rv, ev, q3⟩ := I2.after hq'
      subst ev
      exact ⟨rv, ⟨V.ref (s.heap.objs.size + 1), H', I3, rfl, q3⟩⟩
    | next => exact False.elim hq'
    | brk => exact False.elim hq'
    | cont => exact False.elim hq'
theorem pe_makeS (M : Mk X.K C f) (F : FnOk X.prog X.w X.K X.mg X.base CX k f fd ps sp) (hr : Room (k + 1) X.A) (hg : Gl X x) (hm : X.mg x = some (.ref C)) (hb : Binds X.K fd ps []) (hx : ∀ σ, PassesAt CX X σ (E σ))
    (ha : PA X (e :: es) t) (hdb : (x == ("__debug__" : Str)) = false := by decide) (he : starEach (e :: es) X.env = (false, eval e X.env) :: starEach es X.env := by rfl) (hpl : (backTo pos (starEach es X.env)).any (·.1) = false := by rfl) :
    PE X (.Call (.Name x p) (e :: es) [] pos) (tMakeS C sp E t) := by
  refine ⟨fun pins s σ H Q I h => ?_⟩
  refine wpAny_Call_Name_kw (ld_glob I hg hm ?_ hdb)
  refine PySem.W.callWith_K (h₀ := X.base) I.ok.mod.kin M.kp (thn (ha.run pos pins s σ H _ I h) fun us s1 ⟨vs, H1, I1, r, q⟩ => ⟨I1.kIn, ?_⟩) he hpl
  exact run_makeS M F hr hb (hx σ) I1 r q
end
def spAre (K : PySem.W.Frag) : Sp := fun vs H Q _ => ∃ (bA : Addr) (bs W : List Str) (cells cw : Int) (q : Addr) (xs : List V), vs = [.ref bA, .int cells, .ref q] ∧ KTup K bA (bs.map V.str) ∧ BarOk bs W cells cw ∧ H q = some (.tup xs) ∧ xs.length ≤ 200 ∧ (∀ x ∈ xs, Wh H x) ∧ ∀ (b : Bool) H', Same H H' → (b = true ↔ ∀ x ∈ xs, Right H W cw x) → Q (.bl b) H'
section
variable {P : Program} {w : World} {K : PySem.W.Frag} {mg : Str → Option Value} {base : Heap}
theorem scAre : FnScope ["barred", "cells", "things", "thing"] ["barred", "cells", "things"] (defScope sAre) := ⟨rfl, rfl, rfl, by decide +kernel, rfl, by decide +kernel, by decide +kernel⟩
theorem ok_are {f fE : Addr} {fd fdE : FuncData} (F : Fun K "are_expressions" "are_expressions" sAre f fd) (hall : mg "all" = none) (DE : Df K mg "is_expression" sIsEx ["barred", "cells", "thing"] fE fdE)
    (GE : FnOk P w K mg base CX0 4 fE fdE ["barred", "cells", "thing"] (spIsEx K)) : FnOk P w K mg base CX0 5 f fd ["barred", "cells", "things"] (spAre K) := by
  refine F.ok scAre (fun vs H Q E h => ?_) (fun cdv A outer s H vs Q E hr h => ?_)
  · obtain ⟨bA, bs, W, cells, cw, q, xs, rfl, _⟩ := h
    rfl
  · obtain ⟨bA, bs, W, cells, cw, q, xs, rfl, kt, bo, hq, hl, wh, k⟩ := h
    have nd := scAre.nd
    refine ⟨_, pss_one (ps_ret (pe_callB (cr_all rfl) (by rfl) hall PyProof.Rows.boot_all (pa_cons (pe_lc (own := [("thing", 3)]) (g := gName 3) (tt := tYes) rfl nd (pi_tup (pv 2))
          (blkOk_by (N := ["barred", "cells", "things", "thing"]) (sc := defScope sAre) (by decide +kernel)) (fun _ _ _ _ _ => pg_name (i := 3) nd rfl (.inl rfl)) (fun _ _ _ _ _ => pts_nil)
          (fun _ _ _ _ _ => pe_call GE hr rfl DE.m DE.k DE.b .nil pass0 (pa_cons (pv 0) (pa_cons (pv 1) (pa_cons (pv 3) pa_nil))))) pa_nil))), ?_⟩
    refine ⟨_, rfl, q, rfl, ⟨_, SqT.of hq⟩, fun D hD => lc_tup (K := K) (a := q) (xs := xs) (fun i H' => ∃ bs : List Bool, H' D = some (.lst (bs.map V.bl)) ∧ bs.length = i ∧ (bs.all id = true ↔ ∀ x ∈ xs.take i, Right H W cw x) ∧ Same H H') ?_ ?_ ?_ ?_⟩
    · exact ⟨[], upd_same, rfl, ⟨fun _ x hx => absurd hx (by simp), fun _ => rfl⟩, sN hD⟩
    · rintro i H1 hi ⟨bs, _, _, _, s1⟩
      exact SqT.of (s1 _ _ hq)
    · rintro i x H1 hx ⟨bs', eD, hlb, iff, s1⟩
      have hix : i < xs.length := (List.getElem?_eq_some_iff.mp hx).1
      have hm := List.mem_of_getElem? hx
      refine ⟨rfl, ?_⟩
      refine ⟨_, rfl, _, rfl, _, rfl, bA, bs, W, cells, cw, x, rfl, kt, bo, (wh x hm).same s1, fun b H2 s2 hb => ?_⟩
      refine ⟨_, s2 _ _ eD, ?_, bs' ++ [b], ?_, ?_, ?_, ?_⟩
      · rw [List.length_map, hlb]
        exact Nat.lt_of_lt_of_le (show i < 200 by omega) (by decide)
      · rw [upd_same, List.map_append]
        rfl
      · rw [List.length_append, hlb]
        rfl
      · rw [List.all_append, Bool.and_eq_true, iff, List.take_add_one, hx]
        have e : ([b].all id = true) ↔ b = true := by simp
        rw [e, hb, ← right_iff (wh x hm) s1]
        constructor
        · rintro ⟨h1, h2⟩ y hy
          rcases List.mem_append.mp hy with hy | hy
          · exact h1 y hy
          · have ey : y = x := by simpa using hy
            rw [ey]
            exact h2
        · intro h
          exact ⟨fun y hy => h y (List.mem_append_left _ hy), h x (List.mem_append_right _ (by simp))⟩
      · exact sNew (sT s1 s2) hD
    · rintro H1 ⟨bs', eD, hlb, iff, s1⟩
      refine ⟨D, bs', rfl, SqL.of eD, k _ _ s1 ?_⟩
      rw [List.take_length] at iff
      exact iff
end
end Q

namespace Q
open PySem L2
abbrev sProg : Stmt := inClass (top 61) 0
def bS : List Str := ["cell", "round", "other", "heard", "sum", "least", "most"]
def bT : List Str := ["heard", "sum", "least", "most"]
def bN : List Str := ["other"]
def wS : List Str := ["me", "many", "ties"]
def wT : List Str := ["me", "many", "ties", "round", "other"]
def wN : List Str := ["me", "many", "ties", "round", "heard", "sum", "least", "most"]
theorem alS : Alone wS := ⟨by decide +kernel, by decide +kernel, by decide +kernel, by decide +kernel⟩
theorem alT : Alone wT := ⟨by decide +kernel, by decide +kernel, by decide +kernel, by decide +kernel⟩
theorem alN : Alone wN := ⟨by decide +kernel, by decide +kernel, by decide +kernel, by decide +kernel⟩
theorem boS (c : Int) : BarOk bS wS c 0 := ⟨alS, by decide +kernel, by decide +kernel, by decide +kernel, by decide +kernel, by decide +kernel, .inl ⟨by decide +kernel, by decide⟩⟩
theorem boT (c : Int) : BarOk bT wT c c := ⟨alT, by decide +kernel, by decide +kernel, by decide +kernel, by decide +kernel, by decide +kernel, .inr ⟨by decide +kernel, rfl⟩⟩
theorem boN (c : Int) : BarOk bN wN c c := ⟨alN, by decide +kernel, by decide +kernel, by decide +kernel, by decide +kernel, by decide +kernel, .inr ⟨by decide +kernel, rfl⟩⟩
/-- the starts are right -/
structure St (H : Hp) (s : V) (q : Addr) (xs : List V) : Prop where
  es : s = .ref q
  hq : H q = some (.tup xs)
  l1 : 1 ≤ xs.length
  l4 : xs.length ≤ 4
  rs : ∀ x ∈ xs, Right H wS 0 x
inductive BadP (H : Hp) (s t y n : V) : V → Prop
  | starts (no : ∀ q xs, ¬ St H s q xs) : BadP H s t y n (.str "starts")
  | to (q : Addr) (xs : List V) (st : St H s q xs) (no : ¬ Right H wT xs.length t) : BadP H s t y n (.str "to")
  | say (q : Addr) (xs : List V) (st : St H s q xs) (rt : Right H wT xs.length t) (no : ¬ Right H wT xs.length y) : BadP H s t y n (.str "say")
  | nexts (q : Addr) (xs : List V) (st : St H s q xs) (rt : Right H wT xs.length t) (ry : Right H wT xs.length y) (no : ∀ q' ns, n = .ref q' → H q' = some (.tup ns) → ns.length = xs.length → (∀ x ∈ ns, Right H wN xs.length x) → False) : BadP H s t y n (.str "nexts")
structure FineP (H : Hp) (s t y n : V) : Prop where
  ex : ∃ (q : Addr) (xs : List V) (q' : Addr) (ns : List V), St H s q xs ∧ Right H wT xs.length t ∧ Right H wT xs.length y ∧ n = .ref q' ∧ H q' = some (.tup ns) ∧ ns.length = xs.length ∧ ∀ x ∈ ns, Right H wN xs.length x
theorem St.uniq {H : Hp} {s : V} {q q' : Addr} {xs xs' : List V} (h : St H s q xs) (g : St H s q' xs') : xs = xs' := by
  have e := h.es.symm.trans g.es
  cases e
  have z := h.hq.symm.trans g.hq
  simpa using z
theorem BadP.uniq {H : Hp} {s t y n r r' : V} (h : BadP H s t y n r) (g : BadP H s t y n r') : r = r' := by
  cases h with
  | starts no => cases g with
    | starts => rfl
    | to q xs st => exact (no _ _ st).elim
    | say q xs st => exact (no _ _ st).elim
    | nexts q xs st => exact (no _ _ st).elim
  | to q xs st no => cases g with
    | starts no' => exact (no' _ _ st).elim
    | to => rfl
    | say q' xs' st' rt => cases st.uniq st'; exact (no rt).elim
    | nexts q' xs' st' rt => cases st.uniq st'; exact (no rt).elim
  | say q xs st rt no => cases g with
    | starts no' => exact (no' _ _ st).elim
    | to q' xs' st' no' => cases st.uniq st'; exact (no' rt).elim
    | say => rfl
    | nexts q' xs' st' rt' ry => cases st.uniq st'; exact (no ry).elim
  | nexts q xs st rt ry no => cases g with
    | starts no' => exact (no' _ _ st).elim
    | to q' xs' st' no' => cases st.uniq st'; exact (no' rt).elim
    | say q' xs' st' _ no' => cases st.uniq st'; exact (no' ry).elim
    | nexts => rfl
theorem FineP.not_bad {H : Hp} {s t y n r : V} (h : FineP H s t y n) (g : BadP H s t y n r) : False := by
  obtain ⟨q, xs, q', ns, st, rt, ry, en, hn, ln, rn⟩ := h.ex
  cases g with
  | starts no => exact no _ _ st
  | to q' xs' st' no => cases st.uniq st'; exact no rt
  | say q' xs' st' _ no => cases st.uniq st'; exact no ry
  | nexts q2 xs' st' _ _ no => cases st.uniq st'; exact no _ _ en hn ln rn
structure PreP (H : Hp) (s t y n : V) : Prop where
  s : Wh H s
  t : Wh H t
  y : Wh H y
  n : Wh H n
theorem PreP.same {H H' : Hp} {s t y n : V} (h : PreP H s t y n) (z : Same H H') : PreP H' s t y n := ⟨h.s.same z, h.t.same z, h.y.same z, h.n.same z⟩
theorem tup_back {H H' : Hp} {u : V} (k : Kd H u) (s : Same H H') {q : Addr} (e : u = .ref q) {ys : List V} (h : H' q = some (.tup ys)) : H q = some (.tup ys) := by
  rw [e] at k
  obtain ⟨o, eo⟩ := k.at_
  have z := s _ _ eo
  rw [h] at z
  rw [eo, z]
theorem st_iff {H H' : Hp} {s : V} {q : Addr} {xs : List V} (w : Wh H s) (z : Same H H') : St H s q xs ↔ St H' s q xs := by
  constructor
  · intro h
    have e := h.es
    subst e
    have it := (w.items h.hq).2
    exact ⟨rfl, z _ _ h.hq, h.l1, h.l4, fun x hx => (right_iff (it x hx) z).mp (h.rs x hx)⟩
  · intro h
    have hq := tup_back w.kd z h.es h.hq
    have e := h.es
    subst e
    have it := (w.items hq).2
    exact ⟨rfl, hq, h.l1, h.l4, fun x hx => (right_iff (it x hx) z).mpr (h.rs x hx)⟩
theorem BadP.back {H H' : Hp} {s t y n r : V} (p : PreP H s t y n) (z : Same H H') (h : BadP H' s t y n r) : BadP H s t y n r := by
  cases h with
  | starts no => exact .starts fun q xs st => no q xs ((st_iff p.s z).mp st)
  | to q xs st no => exact .to q xs ((st_iff p.s z).mpr st) fun h => no ((right_iff p.t z).mp h)
  | say q xs st rt no => exact .say q xs ((st_iff p.s z).mpr st) ((right_iff p.t z).mpr rt) fun h => no ((right_iff p.y z).mp h)
  | nexts q xs st rt ry no => exact .nexts q xs ((st_iff p.s z).mpr st) ((right_iff p.t z).mpr rt) ((right_iff p.y z).mpr ry) fun q' ns e hn hl hr => no q' ns e (z _ _ hn) hl fun x hx => (right_iff (((show Wh H (.ref q') from e ▸ p.n).items hn).2 x hx) z).mp (hr x hx)
theorem FineP.back {H H' : Hp} {s t y n : V} (p : PreP H s t y n) (z : Same H H') (h : FineP H' s t y n) : FineP H s t y n := by
  obtain ⟨q, xs, q', ns, st, rt, ry, en, hn, ln, rn⟩ := h.ex
  have hn' := tup_back p.n.kd z en hn
  have w := p.n
  rw [en] at w
  exact ⟨q, xs, q', ns, (st_iff p.s z).mpr st, (right_iff p.t z).mpr rt, (right_iff p.y z).mpr ry, en, hn', ln, fun x hx => (right_iff ((w.items hn').2 x hx) z).mpr (rn x hx)⟩
theorem FineP.same {H H' : Hp} {s t y n : V} (p : PreP H s t y n) (z : Same H H') (h : FineP H s t y n) : FineP H' s t y n := by
  obtain ⟨q, xs, q', ns, st, rt, ry, en, hn, ln, rn⟩ := h.ex
  have w := p.n
  rw [en] at w
  exact ⟨q, xs, q', ns, (st_iff p.s z).mp st, (right_iff p.t z).mp rt, (right_iff p.y z).mp ry, en, z _ _ hn, ln, fun x hx => (right_iff ((w.items hn).2 x hx) z).mp (rn x hx)⟩
/-! ### a program's attributes -/
def pf (s t y n : V) : List (Str × V) := putF "nexts" n (putF "say" y (putF "to" t (putF "starts" s [])))
theorem pf_starts (s t y n : V) : (pf s t y n).lookup ("starts" : Str) = some s := by
  unfold pf
  rw [lookup_putF, if_neg (by decide +kernel), lookup_putF, if_neg (by decide +kernel), lookup_putF, if_neg (by decide +kernel), lookup_putF, if_pos rfl]
theorem pf_to (s t y n : V) : (pf s t y n).lookup ("to" : Str) = some t := by
  unfold pf
  rw [lookup_putF, if_neg (by decide +kernel), lookup_putF, if_neg (by decide +kernel), lookup_putF, if_pos rfl]
theorem pf_say (s t y n : V) : (pf s t y n).lookup ("say" : Str) = some y := by
  unfold pf
  rw [lookup_putF, if_neg (by decide +kernel), lookup_putF, if_pos rfl]
theorem pf_nexts (s t y n : V) : (pf s t y n).lookup ("nexts" : Str) = some n := by
  unfold pf
  rw [lookup_putF, if_pos rfl]
end Q

namespace Q
open PySem L2
/-- what the top says of Program -/
structure PTxt (K : PySem.W.Frag) (mg : Str → Option Value) (C : Addr) : Prop where
  cl : Cls K C
  nS : NoAttr K C "starts"
  nT : NoAttr K C "to"
  nY : NoAttr K C "say"
  nN : NoAttr K C "nexts"
  mgC : mg "Program" = some (.ref C)
  kS : ∃ a, mg "NOT_IN_STARTS" = some (.ref a) ∧ KTup K a (bS.map V.str)
  kT : ∃ a, mg "NOT_IN_SAYINGS" = some (.ref a) ∧ KTup K a (bT.map V.str)
  kN : ∃ a, mg "NOT_IN_NEXTS" = some (.ref a) ∧ KTup K a (bN.map V.str)
/-- the defs that a program leans on -/
structure PDefs (K : PySem.W.Frag) (mg : Str → Option Value) where
  fP : Addr
  dP : FuncData
  DP : Df K mg "is_plain_int" sPlain ["thing"] fP dP
  fN : Addr
  dN : FuncData
  DN : Df K mg "is_number_below" sNum ["limit", "thing"] fN dN
  fS : Addr
  dS : FuncData
  DS : Df K mg "is_small" sSmall ["thing"] fS dS
  fB : Addr
  dB : FuncData
  DB : Df K mg "begins_well" sBegins ["barred", "cells", "thing"] fB dB
  fI : Addr
  dI : FuncData
  DI : Df K mg "inner_parts" sInner ["expression"] fI dI
  fE : Addr
  dE : FuncData
  DE : Df K mg "is_expression" sIsEx ["barred", "cells", "thing"] fE dE
  fA : Addr
  dA : FuncData
  DA : Df K mg "are_expressions" sAre ["barred", "cells", "things"] fA dA
/-- the names that stand for built-ins, and the limits -/
structure Oth (K : PySem.W.Frag) (w : World) (mg : Str → Option Value) : Prop where
  str : mg "str" = none
  all : mg "all" = none
  zip : mg "zip" = none
  parts : Parts K w mg
  lim : Lim mg
def spProgX (C CB : Addr) : Sp := fun vs H Q E => ∃ (p dx : Addr) (s t y n : V), vs = [.ref p, s, t, y, n] ∧ H p = some (.ins C dx []) ∧ PreP H s t y n ∧
  (∀ r d H', BadP H s t y n r → H' d = some (xdP r) → Same H H' → E (.ref CB) (some d) H') ∧ (FineP H s t y n → ∀ H', H' p = some (.ins C dx (pf s t y n)) → Ext p H H' → Q .non H')
theorem passF {X : Cx} : Passes (L2.CX X.prog X.w) X (fun _ _ _ => False) := fun _ _ _ _ _ _ _ h => by
  obtain ⟨_, _, _, _, _, _, _, _, _, _, _, _, _, _, z⟩ := h
section
variable {P : Program} {w : World} {K : PySem.W.Frag} {mg : Str → Option Value} {base : Heap}
theorem scProg : FnScope ["self", "starts", "to", "say", "nexts", "cells"] ["self", "starts", "to", "say", "nexts"] (defScope sProg) := ⟨rfl, rfl, rfl, by decide +kernel, rfl, by decide +kernel, by decide +kernel⟩
theorem ok_progX {f C CB fI : Addr} {fd fdI : FuncData} (F : Fun K "__init__" "Program.__init__" sProg f fd) (B : Bts mg) (O : Oth K w mg) (T : PTxt K mg C) (D : PDefs K mg) (BT : BTxt K mg CB fI fdI) : FnOk P w K mg base (L2.CX P w) 6 f fd ["self", "starts", "to", "say", "nexts"] (spProgX C CB) := by
  have GE : FnOk P w K mg base CX0 4 D.fE D.dE ["barred", "cells", "thing"] (spIsEx K) := ok_isex D.DE.F B O.str O.parts O.lim D.DP D.DN D.DS D.DB D.DI
  have GA : FnOk P w K mg base CX0 5 D.fA D.dA ["barred", "cells", "things"] (spAre K) := ok_are D.DA.F O.all D.DE GE
  have GI : FnOk P w K mg base CX0 1 fI fdI ["self", "part"] (spPart CB) := ok_part BT B
  obtain ⟨aS, gS, kS⟩ := T.kS
  obtain ⟨aT, gT, kT⟩ := T.kT
  obtain ⟨aN, gN, kN⟩ := T.kN
  obtain ⟨tm, hmost⟩ := O.lim.starts
  refine F.okX scProg (fun vs H Q E h => ?_) (fun cdv A outer s0 H vs Q E hr h => ?_)
  · obtain ⟨p, dx, s, t, y, n, rfl, _⟩ := h
    rfl
  · obtain ⟨p, dx, s, t, y, n, rfl, hp, pre, kE, k⟩ := h
    have nd := scProg.nd
    have hr2 : Room 2 _ := hr.mono (by decide)
    have hr4 : Room 4 _ := hr.mono (by decide)
    refine ⟨_, pss_cons (ps_if (PW.pt (pw_or (pt_not (pt_val (pe_callB call_isi (by rfl) B.isinstance PyProof.Rows.boot_isinstance (pa_cons (pv 1) (pa_cons (pe_bltn (v := .ty "tuple") rfl B.tuple PyProof.Rows.boot_tuple rfl) pa_nil)))))
        (pw_or1 (pt_not (pt_chain op_le op_le pe_int (pe_callB call_len_seq (by rfl) B.len PySem.boot_len (pa_cons (pv 1) pa_nil)) (pe_glob (v := .int 4) rfl hmost ⟨_, rfl⟩)))))) (pss_one (ps_raise rfl (takes_of rfl rfl rfl rfl) (pmk_oex BT.ox BT.iC BT.tI GI hr2 BT.b .nil pass0 rfl BT.g (pa_cons pe_str pa_nil)))) pss_nil)
      (pss_cons (ps_set (i := 5) nd rfl (.inl rfl) (pe_callB call_len_seq (by rfl) B.len PySem.boot_len (pa_cons (pv 1) pa_nil)))
      (pss_cons (ps_if (pt_not (pt_val (pe_call GA hr rfl D.DA.m D.DA.k D.DA.b .nil pass0 (pa_cons (pe_glob (v := .ref aS) rfl gS rfl) (pa_cons (pv 5) (pa_cons (pv 1) pa_nil)))))) (pss_one (ps_raise rfl (takes_of rfl rfl rfl rfl) (pmk_oex BT.ox BT.iC BT.tI GI hr2 BT.b .nil pass0 rfl BT.g (pa_cons pe_str pa_nil)))) pss_nil)
      (pss_cons (ps_if (pt_not (pt_val (pe_call GE hr4 rfl D.DE.m D.DE.k D.DE.b .nil pass0 (pa_cons (pe_glob (v := .ref aT) rfl gT rfl) (pa_cons (pv 5) (pa_cons (pv 2) pa_nil)))))) (pss_one (ps_raise rfl (takes_of rfl rfl rfl rfl) (pmk_oex BT.ox BT.iC BT.tI GI hr2 BT.b .nil pass0 rfl BT.g (pa_cons pe_str pa_nil)))) pss_nil)
      (pss_cons (ps_if (pt_not (pt_val (pe_call GE hr4 rfl D.DE.m D.DE.k D.DE.b .nil pass0 (pa_cons (pe_glob (v := .ref aT) rfl gT rfl) (pa_cons (pv 5) (pa_cons (pv 3) pa_nil)))))) (pss_one (ps_raise rfl (takes_of rfl rfl rfl rfl) (pmk_oex BT.ox BT.iC BT.tI GI hr2 BT.b .nil pass0 rfl BT.g (pa_cons pe_str pa_nil)))) pss_nil)
      (pss_cons (ps_if (PW.pt (pw_or (pt_not (pt_val (pe_callB call_isi (by rfl) B.isinstance PyProof.Rows.boot_isinstance (pa_cons (pv 4) (pa_cons (pe_bltn (v := .ty "tuple") rfl B.tuple PyProof.Rows.boot_tuple rfl) pa_nil)))))
        (pw_or1 (pt_cmpR op_ne (pe_callB call_len_seq (by rfl) B.len PySem.boot_len (pa_cons (pv 4) pa_nil)) (pv 5) (nomark _))))) (pss_one (ps_raise rfl (takes_of rfl rfl rfl rfl) (pmk_oex BT.ox BT.iC BT.tI GI hr2 BT.b .nil pass0 rfl BT.g (pa_cons pe_str pa_nil)))) pss_nil)
      (pss_cons (ps_if (pt_not (pt_val (pe_call GA hr rfl D.DA.m D.DA.k D.DA.b .nil pass0 (pa_cons (pe_glob (v := .ref aN) rfl gN rfl) (pa_cons (pv 5) (pa_cons (pv 4) pa_nil)))))) (pss_one (ps_raise rfl (takes_of rfl rfl rfl rfl) (pmk_oex BT.ox BT.iC BT.tI GI hr2 BT.b .nil pass0 rfl BT.g (pa_cons pe_str pa_nil)))) pss_nil)
      (pss_cons (ps_fld (pv 0) (pv 1) rfl)
      (pss_cons (ps_fld (pv 0) (pv 2) rfl)
      (pss_cons (ps_fld (pv 0) (pv 3) rfl)
      (pss_one (ps_fld (pv 0) (pv 4) rfl))))))))))), ?_⟩
    have rs : Same H H := fun _ _ e => e
    obtain ⟨ts, bs0, tys, kts, hs⟩ := pre.s.kd.tyT (K := K)
    refine ⟨_, rfl, s, .ty "tuple", ts, .type "tuple", bs0, rfl, .ty _, tys, kts, _, rfl, ?_⟩
    rcases hs with ⟨rfl, q, xs, rfl, hq⟩ | ⟨rfl, no⟩
    rotate_left
    · refine iteT ?_
      exact bad_raise rs fun d H' e s1 => kE _ d H' (.starts fun q xs st => no q xs st.es st.hq) e s1
    have its := (pre.s.items hq)
    refine iteF ⟨_, rfl, q, xs, rfl, .inr (SqT.of hq), _, _, rfl, rfl, _, rfl, ite2 (fun c1 => ?_) (fun c1 => ?_)⟩
    rotate_left
    · refine ⟨_, rfl, iteT ?_⟩
      exact bad_raise rs fun d H' e s1 => kE _ d H' (.starts fun q' xs' st => c1 (decide_eq_true (by
        have e1 := st.es
        cases e1
        have z := st.hq
        rw [hq] at z
        cases z
        have := st.l1
        omega))) e s1
    have l1 : 1 ≤ xs.length := by
      have := of_decide_eq_true c1
      omega
    refine ⟨_, _, rfl, rfl, _, rfl, ite2 (fun c2 => ?_) (fun c2 => ?_)⟩
    · have no4 : ¬ xs.length ≤ 4 := fun z => by
        rw [decide_eq_true (show ((xs.length : Nat) : Int) ≤ 4 by omega)] at c2
        exact absurd c2 (by decide)
      exact bad_raise rs fun d H' e s1 => kE _ d H' (.starts fun q' xs' st => by
        have e1 := st.es
        cases e1
        have z := st.hq
        rw [hq] at z
        cases z
        exact no4 st.l4) e s1
    have l4 : xs.length ≤ 4 := by
      by_cases z : ((xs.length : Nat) : Int) ≤ 4
      · omega
      · rw [decide_eq_false z] at c2
        exact absurd rfl c2
    refine ⟨_, rfl, q, xs, rfl, .inr (SqT.of hq), ?_⟩
    refine ⟨_, rfl, _, rfl, aS, bS, wS, _, 0, q, xs, rfl, kS, boS _, hq, its.1, its.2, fun b H1 s1 hb => ⟨_, rfl, ?_⟩⟩
    cases b with
    | false =>
      refine iteT ?_
      exact bad_raise s1 fun d H' e s2 => kE _ d H' (.starts fun q' xs' st => by
        have e1 := st.es
        cases e1
        have z := st.hq
        rw [hq] at z
        cases z
        exact Bool.false_ne_true (hb.mpr st.rs)) e s2
    | true =>
    have st : St H (.ref q) q xs := ⟨rfl, hq, l1, l4, hb.mp rfl⟩
    refine iteF ⟨_, rfl, _, rfl, aT, bT, wT, _, _, t, rfl, kT, boT _, pre.t.same s1, fun b H2 s2 hb2 => ⟨_, rfl, ?_⟩⟩
    rw [← right_iff pre.t s1] at hb2
    cases b with
    | false =>
      refine iteT ?_
      exact bad_raise (sT s1 s2) fun d H' e s3 => kE _ d H' (.to q xs st fun z => Bool.false_ne_true (hb2.mpr z)) e s3
    | true =>
    have rt := hb2.mp rfl
    refine iteF ⟨_, rfl, _, rfl, aT, bT, wT, _, _, y, rfl, kT, boT _, pre.y.same (sT s1 s2), fun b H3 s3 hb3 => ⟨_, rfl, ?_⟩⟩
    rw [← right_iff pre.y (sT s1 s2)] at hb3
    have s03 := sT (sT s1 s2) s3
    cases b with
    | false =>
      refine iteT ?_
      exact bad_raise s03 fun d H' e s4 => kE _ d H' (.say q xs st rt fun z => Bool.false_ne_true (hb3.mpr z)) e s4
    | true =>
    have ry := hb3.mp rfl
    obtain ⟨tn, bn0, tyn, ktn, hn⟩ := (pre.n.same s03).kd.tyT (K := K)
    refine iteF ⟨_, rfl, n, .ty "tuple", tn, .type "tuple", bn0, rfl, .ty _, tyn, ktn, _, rfl, ?_⟩
    rcases hn with ⟨rfl, q', ns, rfl, hq'⟩ | ⟨rfl, no⟩
    rotate_left
    · refine iteT ?_
      exact bad_raise s03 fun d H' e s4 => kE _ d H' (.nexts q xs st rt ry fun q' ns e hn _ _ => no q' ns e (s03 _ _ hn)) e s4
    have hq0 := tup_back pre.n.kd s03 rfl hq'
    have itn := pre.n.items hq0
    refine iteF ⟨_, rfl, q', ns, rfl, .inr (SqT.of hq'), _, rfl, rfl, _, rfl, ite2 (fun c => ?_) (fun c => ?_)⟩
    · exact bad_raise s03 fun d H' e s4 => kE _ d H' (.nexts q xs st rt ry fun q2 ns2 e hn hl _ => by
        cases e
        rw [hq0] at hn
        cases hn
        rw [hl, decide_eq_true rfl] at c
        exact absurd c (by decide)) e s4
    have ln : ns.length = xs.length := by
      by_cases z : ns.length = xs.length
      · exact z
      · rw [decide_eq_false (fun e => z (by
          have z2 := V.int.inj e
          omega))] at c
        exact absurd rfl c
    refine ⟨_, rfl, _, rfl, aN, bN, wN, _, _, q', ns, rfl, kN, boN _, hq', itn.1, wh_same itn.2 s03, fun b H4 s4 hb4 => ⟨_, rfl, ?_⟩⟩
    have s04 := sT s03 s4
    have iff4 : b = true ↔ ∀ x ∈ ns, Right H wN xs.length x := hb4.trans ⟨fun h x hx => (right_iff (itn.2 x hx) s03).mpr (h x hx), fun h x hx => (right_iff (itn.2 x hx) s03).mp (h x hx)⟩
    cases b with
    | false =>
      refine iteT ?_
      exact bad_raise s04 fun d H' e s5 => kE _ d H' (.nexts q xs st rt ry fun q2 ns2 e hn _ hr => by
        cases e
        rw [hq0] at hn
        cases hn
        exact Bool.false_ne_true (iff4.mpr hr)) e s5
    | true =>
    have rn := iff4.mp rfl
    refine iteF ⟨_, rfl, _, rfl, p, C, dx, _, rfl, s04 _ _ hp, T.cl, T.nS, (by show 0 < 1000; decide), ?_⟩
    refine ⟨_, rfl, _, rfl, p, C, dx, _, rfl, upd_same, T.cl, T.nT, (by show 1 < 1000; decide), ?_⟩
    refine ⟨_, rfl, _, rfl, p, C, dx, _, rfl, upd_same, T.cl, T.nY, (by show 2 < 1000; decide), ?_⟩
    refine ⟨_, rfl, _, rfl, p, C, dx, _, rfl, upd_same, T.cl, T.nN, (by show 3 < 1000; decide), ?_⟩
    refine k ⟨q, xs, q', ns, st, rt, ry, rfl, hq0, ln, rn⟩ _ upd_same fun b o e nb => ?_
    rw [upd_ne nb, upd_ne nb, upd_ne nb, upd_ne nb]
    exact s04 _ _ e
end
end Q

namespace Q
open PySem L2
abbrev sInt : Stmt := top 70
abbrev sWords : Stmt := top 77
def spWords : Sp := fun vs H Q _ => ∃ (z : Str) (W : List Str), vs = [.str z] ∧ ((z = "starts" ∧ W = wS) ∨ (z = "nexts" ∧ W = wN) ∨ ((z = "to" ∨ z = "say") ∧ W = wT)) ∧ ∀ l H', Same H H' → H l = none → H' l = some (.lst (W.map V.str)) → Q (.ref l) H'
theorem paired_of {R : V → Nat → Prop} : ∀ {xs : List V}, (∀ x ∈ xs, ∃ k, R x k) → ∃ as, Paired R xs as
  | [], _ => ⟨[], .nil⟩
  | x :: r, h => by
    obtain ⟨k, hk⟩ := h x List.mem_cons_self
    obtain ⟨as, p⟩ := paired_of (xs := r) fun y hy => h y (List.mem_cons_of_mem _ hy)
    exact ⟨k :: as, .cons hk p⟩
theorem pw_nev {X : Cx} {e : Expr} : PW X e (fun _ _ _ => False) := ⟨fun _ _ _ _ _ _ _ h => h.elim⟩
theorem paired_left {R : V → Nat → Prop} {xs : List V} {as : List Nat} (p : Paired R xs as) : ∀ x ∈ xs, ∃ k, R x k := by
  induction p with
  | nil => exact fun x hx => absurd hx List.not_mem_nil
  | cons h _ ih => exact fun x hx => (List.mem_cons.mp hx).elim (fun e => by subst e; exact ⟨_, h⟩) (ih x)
theorem pe_fldO {X : Cx} {e : Expr} {f : Str} {pos : Pos} {ta : TE} {K0 : PySem.W.Frag} (hK : X.K = K0) (he : PE X e ta) (hb : attributeBase e f X.env (eval e X.env) = eval e X.env) : PE X (.Attribute e f pos) (tFld K0 ta f) := by
  subst hK
  exact pe_fld he hb
section
variable {P : Program} {w : World} {K : PySem.W.Frag} {mg : Str → Option Value} {base : Heap}
theorem scInt : FnScope ["thing"] ["thing"] (defScope sInt) := ⟨rfl, rfl, rfl, by decide +kernel, rfl, by decide +kernel, by decide +kernel⟩
theorem ok_int {f : Addr} {fd : FuncData} (F : Fun K "_law_is_integer" "_law_is_integer" sInt f fd) (B : Bts mg) : FnOk P w K mg base CX0 1 f fd ["thing"] (spPlain K) := by
  refine F.ok scInt (fun vs H Q E h => ?_) (fun cdv A outer s H vs Q E hr h => ?_)
  · obtain ⟨v, t, b, c, rfl, _⟩ := h
    rfl
  · obtain ⟨v, t, b, c, rfl, ty, kb, kc, k⟩ := h
    refine ⟨_, pss_one (ps_ret (pe_and (pe_callB call_isi (by rfl) B.isinstance PyProof.Rows.boot_isinstance (pa_cons (pv 0) (pa_cons (pe_bltn (v := .ty "int") rfl B.int PyProof.Rows.boot_int rfl) pa_nil)))
      (pe_one (pe_not (pe_callB call_isi (by rfl) B.isinstance PyProof.Rows.boot_isinstance (pa_cons (pv 0) (pa_cons (pe_bltn (v := .ty "bool") rfl B.bool (by decide +kernel) rfl) pa_nil))))))), ?_⟩
    refine ⟨_, rfl, v, .ty "int", t, .type "int", b, rfl, .ty _, ty, kb, _, rfl, ?_⟩
    cases b with
    | false => exact iteF k
    | true => exact iteT ⟨_, rfl, v, .ty "bool", t, .type "bool", c, rfl, .ty _, ty, kc, _, rfl, k⟩
theorem scWords : FnScope ["which", "first"] ["which"] (defScope sWords) := ⟨rfl, rfl, rfl, by decide +kernel, rfl, by decide +kernel, by decide +kernel⟩
theorem ok_words {f : Addr} {fd : FuncData} (F : Fun K "_law_words" "_law_words" sWords f fd) : FnOk P w K mg base CX0 1 f fd ["which"] spWords := by
  refine F.ok scWords (fun vs H Q E h => ?_) (fun cdv A outer s H vs Q E hr h => ?_)
  · obtain ⟨z, W, rfl, _⟩ := h
    rfl
  · obtain ⟨z, W, rfl, h, k⟩ := h
    have nd := scWords.nd
    refine ⟨_, pss_cons (ps_set (i := 1) nd rfl (.inl rfl) (pe_lst (pa_cons pe_str (pa_cons pe_str (pa_cons pe_str pa_nil)))))
      (pss_cons (ps_if (pt_cmpR op_eq (pv 0) pe_str (nomark _)) (pss_one (ps_ret (pv 1))) pss_nil)
      (pss_cons (ps_if (pt_cmpR op_eq (pv 0) pe_str (nomark _)) (pss_one (ps_ret (pe_op op_cat (pv 1) (pe_lst (pa_cons pe_str (pa_cons pe_str (pa_cons pe_str (pa_cons pe_str (pa_cons pe_str pa_nil))))))))) pss_nil)
      (pss_one (ps_ret (pe_op op_cat (pv 1) (pe_lst (pa_cons pe_str (pa_cons pe_str pa_nil)))))))), ?_⟩
    refine ⟨(by show 3 ≤ sizeLine; decide), fun l hl => ?_⟩
    have s1 := sN (o := .lst [.str "me", .str "many", .str "ties"]) hl
    have ns : ("nexts" : Str) ≠ "starts" := by decide +kernel
    have ts : ("to" : Str) ≠ "starts" := by decide +kernel
    have ys : ("say" : Str) ≠ "starts" := by decide +kernel
    have tn : ("to" : Str) ≠ "nexts" := by decide +kernel
    have yn : ("say" : Str) ≠ "nexts" := by decide +kernel
    refine ⟨_, rfl, rfl, _, rfl, ite2 (fun c => ?_) (fun c => ?_)⟩
    · have ez : z = "starts" := V.str.inj (of_decide_eq_true c)
      have eW : W = wS := by
        rcases h with ⟨_, e⟩ | ⟨e, _⟩ | ⟨e | e, _⟩
        · exact e
        · exact (ns (e.symm.trans ez)).elim
        · exact (ts (e.symm.trans ez)).elim
        · exact (ys (e.symm.trans ez)).elim
      exact ⟨_, rfl, k l _ s1 hl (by rw [eW]; exact upd_same)⟩
    · have nz : z ≠ "starts" := fun e => c (by rw [e]; exact decide_eq_true rfl)
      refine ⟨_, rfl, rfl, _, rfl, ite2 (fun c2 => ?_) (fun c2 => ?_)⟩
      · have ez : z = "nexts" := V.str.inj (of_decide_eq_true c2)
        have eW : W = wN := by
          rcases h with ⟨e, _⟩ | ⟨_, e⟩ | ⟨e | e, _⟩
          · exact (nz e).elim
          · exact e
          · exact (tn (e.symm.trans ez)).elim
          · exact (yn (e.symm.trans ez)).elim
        refine ⟨_, rfl, (by show 5 ≤ sizeLine; decide), fun l2 h2 => ?_⟩
        have s2 := sT s1 (sN (o := .lst [.str "round", .str "heard", .str "sum", .str "least", .str "most"]) h2)
        refine ⟨l, l2, _, _, rfl, rfl, sN h2 _ _ upd_same, upd_same, (by show 3 + 5 ≤ sizeLine; decide), fun l3 h3 => ?_⟩
        have h30 : H l3 = none := by
          cases e : H l3 with
          | none => rfl
          | some o => rw [s2 _ _ e] at h3; cases h3
        exact k l3 _ (sT s2 (sN h3)) h30 (by rw [eW]; exact upd_same)
      · have nz2 : z ≠ "nexts" := fun e => c2 (by rw [e]; exact decide_eq_true rfl)
        have eW : W = wT := by
          rcases h with ⟨e, _⟩ | ⟨e, _⟩ | ⟨_, e⟩
          · exact (nz e).elim
          · exact (nz2 e).elim
          · exact e
        refine ⟨_, rfl, (by show 2 ≤ sizeLine; decide), fun l2 h2 => ?_⟩
        have s2 := sT s1 (sN (o := .lst [.str "round", .str "other"]) h2)
        refine ⟨l, l2, _, _, rfl, rfl, sN h2 _ _ upd_same, upd_same, (by show 3 + 2 ≤ sizeLine; decide), fun l3 h3 => ?_⟩
        have h30 : H l3 = none := by
          cases e : H l3 with
          | none => rfl
          | some o => rw [s2 _ _ e] at h3; cases h3
        exact k l3 _ (sT s2 (sN h3)) h30 (by rw [eW]; exact upd_same)
theorem pick_in {xs : List V} {i : Int} (h0 : 0 ≤ i) (h : i < xs.length) : ∃ v ∈ xs, atI xs i = some v := by
  have hl : i.toNat < xs.length := by omega
  exact ⟨xs[i.toNat], List.getElem_mem hl, get_cast h0 (List.getElem?_eq_getElem hl)⟩
end
end Q

namespace Q
open PySem L2
abbrev sWithin : Stmt := top 71
abbrev sLSm : Stmt := top 74
abbrev sOdd : Stmt := top 72
def spWithin (K : PySem.W.Frag) : Sp := fun vs H Q _ => ∃ (v : V) (lo hi : Int), vs = [v, .int lo, .int hi] ∧ ((∃ i : Int, v = .int i ∧ Q (.bl (decide (lo ≤ i) && decide (i ≤ hi))) H) ∨ (NoInt K H v ∧ Q (.bl false) H))
def spOdd : Sp := fun vs H Q _ => ∃ (p l : Addr), vs = [.ref p] ∧ HandAt H p l ∧ ∀ (v : V) (H' : Hp), Wh H' v → HandAt H' p l → Ext p H H' → Q v H'
section
variable {P : Program} {w : World} {K : PySem.W.Frag} {mg : Str → Option Value} {base : Heap}
theorem scWithin : FnScope ["thing", "least", "most"] ["thing", "least", "most"] (defScope sWithin) := ⟨rfl, rfl, rfl, by decide +kernel, rfl, by decide +kernel, by decide +kernel⟩
theorem ok_within {f fI : Addr} {fd dI : FuncData} (F : Fun K "_law_is_within" "_law_is_within" sWithin f fd) (B : Bts mg) (DI : Df K mg "_law_is_integer" sInt ["thing"] fI dI) : FnOk P w K mg base CX0 2 f fd ["thing", "least", "most"] (spWithin K) := by
  have GI : FnOk P w K mg base CX0 1 fI dI ["thing"] (spPlain K) := ok_int DI.F B
  refine F.ok scWithin (fun vs H Q E h => ?_) (fun cdv A outer s H vs Q E hr h => ?_)
  · obtain ⟨v, lo, hi, rfl, _⟩ := h
    rfl
  · obtain ⟨v, lo, hi, rfl, h⟩ := h
    refine ⟨_, pss_one (ps_ret (pe_and (pe_call GI hr rfl DI.m DI.k DI.b .nil pass0 (pa_cons (pv 0) pa_nil)) (pe_and (pe_cmpR op_le (pv 1) (pv 0) (nomark _)) (pe_one (pe_cmpR op_le (pv 0) (pv 2) (nomark _)))))), ?_⟩
    rcases h with ⟨i, rfl, k⟩ | ⟨⟨t, b, c, ty, kb, kc, e⟩, k⟩
    · refine ⟨_, rfl, .int i, .type "int", true, false, rfl, .base (.int _), kInt_int, kBool_int, _, rfl, iteT ?_⟩
      refine ⟨_, rfl, _, rfl, _, _, rfl, rfl, _, rfl, ite2 (fun c => ?_) (fun c => ?_)⟩
      · rw [c] at k
        exact ⟨_, rfl, _, rfl, _, _, rfl, rfl, k⟩
      · rw [Bool.eq_false_iff.mpr c] at k
        exact k
    · refine ⟨_, rfl, v, t, b, c, rfl, ty, kb, kc, _, rfl, ?_⟩
      rw [e]
      exact iteF k
theorem scLSm : FnScope ["thing"] ["thing"] (defScope sLSm) := ⟨rfl, rfl, rfl, by decide +kernel, rfl, by decide +kernel, by decide +kernel⟩
theorem ok_lsm {f fW fI : Addr} {fd dW dI : FuncData} (F : Fun K "_law_is_small" "_law_is_small" sLSm f fd) (B : Bts mg) (DW : Df K mg "_law_is_within" sWithin ["thing", "least", "most"] fW dW) (DI : Df K mg "_law_is_integer" sInt ["thing"] fI dI) : FnOk P w K mg base CX0 3 f fd ["thing"] spSmall := by
  have GW : FnOk P w K mg base CX0 2 fW dW ["thing", "least", "most"] (spWithin K) := ok_within DW.F B DI
  refine F.ok scLSm (fun vs H Q E h => ?_) (fun cdv A outer s H vs Q E hr h => ?_)
  · obtain ⟨v, rfl, _⟩ := h
    rfl
  · obtain ⟨v, rfl, kd, k⟩ := h
    refine ⟨_, pss_one (ps_ret (pe_call GW hr rfl DW.m DW.k DW.b .nil pass0 (pa_cons (pv 0) (pa_cons (pe_un un_neg pe_int) (pa_cons pe_int pa_nil))))), ?_⟩
    refine ⟨_, rfl, _, rfl, v, _, _, rfl, ?_⟩
    rcases kd.cl (K := K) with ⟨i, rfl⟩ | n
    · refine .inl ⟨i, rfl, k _ ⟨fun z => ?_, fun ⟨j, e, a, b⟩ => ?_⟩⟩
      · rw [Bool.and_eq_true] at z
        exact ⟨i, rfl, of_decide_eq_true z.1, of_decide_eq_true z.2⟩
      · cases e
        rw [Bool.and_eq_true]
        exact ⟨decide_eq_true a, decide_eq_true b⟩
    · refine .inr ⟨n, k false ⟨fun z => (nomatch z), fun ⟨j, e, _⟩ => ?_⟩⟩
      subst e
      exact n.int.elim
theorem scOdd : FnScope ["hand", "turn"] ["hand"] (defScope sOdd) := ⟨rfl, rfl, rfl, by decide +kernel, rfl, by decide +kernel, by decide +kernel⟩
theorem ok_odd {f fT : Addr} {fd fdT : FuncData} (F : Fun K "_law_odd" "_law_odd" sOdd f fd) (B : Bts mg) (DT : Df K mg "_law_take" sTake ["hand", "many"] fT fdT) : FnOk P w K mg base CX0 2 f fd ["hand"] spOdd := by
  have GT : FnOk P w K mg base CX0 1 fT fdT ["hand", "many"] spTake := ok_take DT.F B
  refine F.ok scOdd (fun vs H Q E h => ?_) (fun cdv A outer s H vs Q E hr h => ?_)
  · obtain ⟨p, l, rfl, _⟩ := h
    rfl
  · obtain ⟨p, l, rfl, hh, k⟩ := h
    have nd := scOdd.nd
    refine ⟨_, pss_cons (ps_set (i := 1) nd rfl (.inl rfl) (pe_call GT hr rfl DT.m DT.k DT.b .nil pass0 (pa_cons (pv 0) (pa_cons pe_int pa_nil))))
      (pss_cons (ps_if (pt_cmpR op_lt (pv 1) pe_int (nomark _)) (pss_one (ps_ret (pe_ix ix_list (pe_lst (pa_cons pe_non (pa_cons pe_bl (pa_cons pe_bl (pa_cons pe_str (pa_cons pe_str (pa_cons pe_str pa_nil))))))) (pv 1) (fun _ _ => rfl)))) pss_nil)
      (pss_cons (ps_if (pt_cmpR op_lt (pv 1) pe_int (nomark _)) (pss_one (ps_ret (pe_ix ix_list (pe_lst (pa_cons (pe_tup pa_nil) (pa_cons (pe_lst pa_nil) (pa_cons pe_dnewK (pa_cons (pe_tup (pa_cons pe_int pa_nil)) (pa_cons (pe_lst (pa_cons pe_int (pa_cons pe_int pa_nil))) (pa_cons (pe_tup (pa_cons (pe_tup pa_nil) pa_nil)) pa_nil))))))) (pe_op op_sub (pv 1) pe_int) (fun _ _ => rfl)))) pss_nil)
      (pss_one (ps_ret (pe_ix ix_list (pe_lst (pa_cons (pe_un un_neg pe_int) (pa_cons pe_int (pa_cons (pe_op op_sub (pe_op op_pow pe_int pe_int) pe_int) (pa_cons (pe_tup (pa_cons pe_int (pa_cons pe_int pa_nil))) (pa_cons (pe_tup (pa_cons pe_str pa_nil)) (pa_cons (pe_tup (pa_cons pe_int (pa_cons pe_int pa_nil))) pa_nil))))))) (pe_op op_sub (pv 1) pe_int) (fun _ _ => rfl)))))), ?_⟩
    refine ⟨_, rfl, p, l, 18, rfl, hh, by decide, by decide, fun d H1 d0 d1 g1 b1 => ?_⟩
    have x1 : Ext p H H1 := Ext.rfl'.but b1
    refine ⟨_, rfl, _, _, rfl, rfl, _, rfl, ite2 (fun c => ?_) (fun c1 => ?_)⟩
    · have c6 : d < 6 := of_decide_eq_true c
      refine ⟨(by show 6 ≤ sizeLine; decide), fun t ht => ?_⟩
      obtain ⟨v, hv, e⟩ := pick_in (xs := [V.non, V.bl true, V.bl false, V.str "", V.str "me", V.str "0"]) d0 (by show d < 6; exact c6)
      refine ⟨_, rfl, t, _, d, v, rfl, rfl, SqL.of upd_same, e, k v _ ?_ (g1.new ht) (x1.upd ht)⟩
      simp only [List.mem_cons, List.not_mem_nil, or_false] at hv
      rcases hv with rfl | rfl | rfl | rfl | rfl | rfl
      · exact .non
      · exact .bl _
      · exact .bl _
      · exact .str (by decide +kernel)
      · exact .str (by decide +kernel)
      · exact .str (by decide +kernel)
    · have c6 : ¬ d < 6 := fun z => c1 (decide_eq_true z)
      refine ⟨_, rfl, _, _, rfl, rfl, _, rfl, ite2 (fun c => ?_) (fun c2 => ?_)⟩
      · have c12 : d < 12 := of_decide_eq_true c
        refine ⟨Nat.zero_le _, fun a1 n1 => ?_⟩
        refine ⟨Nat.zero_le _, fun a2 n2 => ?_⟩
        intro a3 n3
        refine ⟨(by show 1 ≤ sizeLine; decide), fun a4 n4 => ?_⟩
        refine ⟨(by show 2 ≤ sizeLine; decide), fun a5 n5 => ?_⟩
        refine ⟨Nat.zero_le _, fun a6 n6 => ?_⟩
        refine ⟨(by show 1 ≤ sizeLine; decide), fun a7 n7 => ?_⟩
        refine ⟨(by show 6 ≤ sizeLine; decide), fun t ht => ?_⟩
        obtain ⟨v, hv, e⟩ := pick_in (xs := [V.ref a1, V.ref a2, V.ref a3, V.ref a4, V.ref a5, V.ref a7]) (i := d - 6) (by omega) (by show d - 6 < 6; omega)
        refine ⟨_, rfl, _, _, rfl, rfl, t, _, d - 6, v, rfl, rfl, SqL.of upd_same, e, k v _ ?_ ((((((((g1.new n1).new n2).new n3).new n4).new n5).new n6).new n7).new ht) ((((((((x1.upd n1).upd n2).upd n3).upd n4).upd n5).upd n6).upd n7).upd ht)⟩
        simp only [List.mem_cons, List.not_mem_nil, or_false] at hv
        rcases hv with rfl | rfl | rfl | rfl | rfl | rfl
        · exact .tup (xs := []) (sN ht _ _ (sN n7 _ _ (sN n6 _ _ (sN n5 _ _ (sN n4 _ _ (sN n3 _ _ (sN n2 _ _ upd_same))))))) (by decide) wh_nil
        · exact .lst (sN ht _ _ (sN n7 _ _ (sN n6 _ _ (sN n5 _ _ (sN n4 _ _ (sN n3 _ _ upd_same))))))
        · exact .dk (sN ht _ _ (sN n7 _ _ (sN n6 _ _ (sN n5 _ _ (sN n4 _ _ upd_same)))))
        · exact .tup (xs := [.int 0]) (sN ht _ _ (sN n7 _ _ (sN n6 _ _ (sN n5 _ _ upd_same)))) (by decide) (wh_cons (.int 0) wh_nil)
        · exact .lst (sN ht _ _ (sN n7 _ _ (sN n6 _ _ upd_same)))
        · exact .tup (xs := [.ref a6]) (sN ht _ _ upd_same) (by show 1 ≤ 200; decide) (wh_cons (.tup (xs := []) (sN ht _ _ (sN n7 _ _ upd_same)) (by decide) wh_nil) wh_nil)
      · have c12 : ¬ d < 12 := fun z => c2 (decide_eq_true z)
        refine ⟨_, rfl, _, _, rfl, rfl, ⟨by decide, by decide, by decide⟩, _, _, rfl, rfl, ?_⟩
        refine ⟨(by show 2 ≤ sizeLine; decide), fun a4 n4 => ?_⟩
        refine ⟨(by show 1 ≤ sizeLine; decide), fun a5 n5 => ?_⟩
        refine ⟨(by show 2 ≤ sizeLine; decide), fun a6 n6 => ?_⟩
        refine ⟨(by show 6 ≤ sizeLine; decide), fun t ht => ?_⟩
        obtain ⟨v, hv, e⟩ := pick_in (xs := [V.int (-1), V.int 41, V.int (10 ^ (20 : Int).toNat - 1), V.ref a4, V.ref a5, V.ref a6]) (i := d - 12) (by omega) (by show d - 12 < 6; omega)
        refine ⟨_, rfl, _, _, rfl, rfl, t, _, d - 12, v, rfl, rfl, SqL.of upd_same, e, k v _ ?_ ((((g1.new n4).new n5).new n6).new ht) ((((x1.upd n4).upd n5).upd n6).upd ht)⟩
        simp only [List.mem_cons, List.not_mem_nil, or_false] at hv
        rcases hv with rfl | rfl | rfl | rfl | rfl | rfl
        · exact .int _
        · exact .int _
        · exact .int _
        · exact .tup (xs := [.int 0, .int 1]) (sN ht _ _ (sN n6 _ _ (sN n5 _ _ upd_same))) (by show 2 ≤ 200; decide) (wh_cons (.int 0) (wh_cons (.int 1) wh_nil))
        · exact .tup (xs := [.str "me"]) (sN ht _ _ (sN n6 _ _ upd_same)) (by decide) (wh_cons (.str (by decide +kernel)) wh_nil)
        · exact .tup (xs := [.int 1, .int 0]) (sN ht _ _ upd_same) (by show 2 ≤ 200; decide) (wh_cons (.int 1) (wh_cons (.int 0) wh_nil))
end
end Q

namespace Q
open PySem L2
abbrev sLeaf : Stmt := top 75
abbrev sExpr : Stmt := top 76
/-- what stood stands; lists may have become others -/
def Grow (H H' : Hp) : Prop := ∀ a o, H a = some o → H' a = some o ∨ ∃ xs ys, o = .lst xs ∧ H' a = some (.lst ys)
theorem Grow.of_same {H H' : Hp} (s : Same H H') : Grow H H' := fun a o e => .inl (s a o e)
theorem Grow.of_ext {H H' : Hp} {p l : Addr} (g : HandAt H p l) (g' : HandAt H' p l) (s : Ext p H H') : Grow H H' := fun a o e => by
  by_cases c : a = p
  · obtain ⟨xs, e1⟩ := g.hp
    obtain ⟨ys, e2⟩ := g'.hp
    rw [c] at e ⊢
    rw [e1] at e
    exact .inr ⟨_, _, (Option.some.inj e).symm, e2⟩
  · exact .inl (s a o e c)
theorem Grow.trans {H H1 H2 : Hp} (a : Grow H H1) (b : Grow H1 H2) : Grow H H2 := fun c o e => by
  rcases a c o e with e1 | ⟨xs, ys, rfl, e1⟩
  · exact b c o e1
  · rcases b c _ e1 with e2 | ⟨xs', ys', e', e2⟩
    · exact .inr ⟨xs, ys, rfl, e2⟩
    · exact .inr ⟨xs, ys', rfl, e2⟩
theorem Grow.upd {H : Hp} {D : Addr} {xs ys : List V} (e : H D = some (.lst xs)) : Grow H (L2.upd H D (.lst ys)) := fun a o e' => by
  by_cases c : a = D
  · rw [c] at e' ⊢
    rw [e] at e'
    exact .inr ⟨xs, ys, (Option.some.inj e').symm, upd_same⟩
  · exact .inl (by rw [upd_ne c]; exact e')
theorem Grow.tup {H H' : Hp} (g : Grow H H') {a : Addr} {xs : List V} (e : H a = some (.tup xs)) : H' a = some (.tup xs) := by
  rcases g a _ e with e1 | ⟨_, _, z, _⟩
  · exact e1
  · cases z
theorem Kd.grow {H H' : Hp} {v : V} (h : Kd H v) (g : Grow H H') : Kd H' v := by
  cases h with
  | int i => exact .int i
  | non => exact .non
  | bl b => exact .bl b
  | str z => exact .str z
  | tup e => exact .tup (g.tup e)
  | lst e =>
    rcases g _ _ e with e1 | ⟨_, _, _, e1⟩
    · exact .lst e1
    · exact .lst e1
  | dk e =>
    rcases g _ _ e with e1 | ⟨_, _, z, _⟩
    · exact .dk e1
    · cases z
theorem Kt.grow {H H' : Hp} (g : Grow H H') : ∀ {n : Nat} {v : V}, Kt H n v → Kt H' n v
  | 0, _, _ => trivial
  | n + 1, v, h => ⟨⟨h.1.1.grow g, h.1.2⟩, fun a xs e1 e2 => by
    subst e1
    obtain ⟨o, eo⟩ := h.1.1.at_
    rcases g a o eo with e3 | ⟨_, _, _, e3⟩
    · rw [e2] at e3
      cases e3
      obtain ⟨h1, h2⟩ := h.2 a xs rfl eo
      exact ⟨h1, fun x hx => (h2 x hx).grow g⟩
    · rw [e2] at e3
      cases e3⟩
theorem Wh.grow {H H' : Hp} {v : V} (h : Wh H v) (g : Grow H H') : Wh H' v := fun n => (h n).grow g
theorem TS.grow {H H' : Hp} {W : List Str} {c : Int} (g : Grow H H') : ∀ {n : Nat} {v : V} {k : Nat}, TS H W c n v k → TS H' W c n v k
  | 0, _, _, h => h.elim
  | n + 1, v, k, ⟨ks, ⟨a, s, r, e1, e2, h⟩, szs, p, e⟩ => ⟨ks, ⟨a, s, r, e1, g.tup e2, h⟩, szs, paired_mono (fun x k _ h => h.grow g) p, e⟩
/-- words that are drawn from -/
structure WOk (W : List Str) : Prop where
  al : Alone W
  ne : 0 < W.length
  few : W.length < 100
  txt : ∀ s ∈ W, s ∈ txtL
def PreE (H : Hp) (p l wl : Addr) (W : List Str) (c : Int) : Prop := HandAt H p l ∧ H wl = some (.lst (W.map V.str)) ∧ wl ≠ p ∧ WOk W ∧ 0 ≤ c ∧ c ≤ 4
def spLeaf : Sp := fun vs H Q _ => ∃ (p l wl : Addr) (W : List Str) (c : Int), vs = [.ref p, .ref wl, .int c] ∧ PreE H p l wl W c ∧ ∀ v H', HandAt H' p l → Ext p H H' → Wh H' v → TS H' W c 1 v 1 → Q v H'
def bnd : Nat → Nat
  | 0 => 0
  | n + 1 => 1 + 3 * bnd n
def spExpr (d : Nat) : Sp := fun vs H Q _ => ∃ (p l wl : Addr) (W : List Str) (c : Int), vs = [.ref p, .ref wl, .int c, .int (d : Int)] ∧ PreE H p l wl W c ∧ ∀ v H' k, HandAt H' p l → Ext p H H' → Wh H' v → TS H' W c d v k → k ≤ bnd d → Q v H'
section
variable {P : Program} {w : World} {K : PySem.W.Frag} {mg : Str → Option Value} {base : Heap}
theorem scLeaf : FnScope ["hand", "words", "cells", "turn"] ["hand", "words", "cells"] (defScope sLeaf) := ⟨rfl, rfl, rfl, by decide +kernel, rfl, by decide +kernel, by decide +kernel⟩
theorem ok_leaf {f fT fP : Addr} {fd dT dP : FuncData} (F : Fun K "_law_leaf" "_law_leaf" sLeaf f fd) (B : Bts mg) (DT : Df K mg "_law_take" sTake ["hand", "many"] fT dT) (DP : Df K mg "_law_pick" sPick ["hand", "things"] fP dP) : FnOk P w K mg base CX0 3 f fd ["hand", "words", "cells"] spLeaf := by
  have GT : FnOk P w K mg base CX0 1 fT dT ["hand", "many"] spTake := ok_take DT.F B
  have GP : FnOk P w K mg base CX0 2 fP dP ["hand", "things"] (spPick K) := ok_pick DP.F B DT
  refine F.ok scLeaf (fun vs H Q E h => ?_) (fun cdv A outer s0 H vs Q E hr h => ?_)
  · obtain ⟨p, l, wl, W, c, rfl, _⟩ := h
    rfl
  · obtain ⟨p, l, wl, W, c, rfl, ⟨g0, ew, nwp, wo, c0, c4⟩, k⟩ := h
    have nd := scLeaf.nd
    have hr1 : Room 1 _ := hr.mono (by decide)
    refine ⟨_, pss_cons (ps_set (i := 3) nd rfl (.inl rfl) (pe_call GT hr1 rfl DT.m DT.k DT.b .nil pass0 (pa_cons (pv 0) (pa_cons pe_int pa_nil))))
      (pss_cons (ps_if (pt_cmpR op_eq (pv 3) pe_int (nomark _)) (pss_one (ps_ret (pe_tup (pa_cons pe_str (pa_cons (pe_call GP hr rfl DP.m DP.k DP.b .nil pass0 (pa_cons (pv 0) (pa_cons (pe_lst (pa_cons pe_int (pa_cons pe_int (pa_cons pe_int (pa_cons (pe_un un_neg pe_int) (pa_cons pe_int (pa_cons pe_int (pa_cons pe_int (pa_cons (pe_un un_neg pe_int)
          (pa_cons (pe_op op_sub (pe_call GT hr1 rfl DT.m DT.k DT.b .nil pass0 (pa_cons (pv 0) (pa_cons pe_int pa_nil))) pe_int) pa_nil)))))))))) pa_nil))) pa_nil))))) pss_nil)
      (pss_cons (ps_if (PW.pt (pw_and (pt_cmpR op_lt (pv 3) pe_int (nomark _)) (pw_and1 (pt_cmpR op_gt (pv 2) pe_int (nomark _))))) (pss_one (ps_ret (pe_tup (pa_cons pe_str (pa_cons (pe_call GT hr1 rfl DT.m DT.k DT.b .nil pass0 (pa_cons (pv 0) (pa_cons (pv 2) pa_nil))) pa_nil))))) pss_nil)
      (pss_one (ps_ret (pe_tup (pa_cons (pe_call GP hr rfl DP.m DP.k DP.b .nil pass0 (pa_cons (pv 0) (pa_cons (pv 1) pa_nil))) pa_nil)))))), ?_⟩
    refine ⟨_, rfl, p, l, 5, rfl, g0, by decide, by decide, fun turn H1 d0 d1 g1 b1 => ?_⟩
    have x1 : Ext p H H1 := Ext.rfl'.but b1
    have ew1 : H1 wl = some (.lst (W.map V.str)) := by rw [b1 wl nwp]; exact ew
    have nodeN : ∀ {H' : Hp} {t : Addr} {i : Int}, H' t = some (.tup [.str "number", .int i]) → -2147483648 ≤ i → i ≤ 2147483647 → TS H' W c 1 (.ref t) 1 := fun e h0 h1 => ⟨[], (node_iff e []).mpr (.inl ⟨rfl, rfl, _, rfl, h0, h1⟩), [], .nil, rfl⟩
    have word : ∀ (H2 : Hp) (g2 : HandAt H2 p l) (x2 : Ext p H H2) (e2 : H2 wl = some (.lst (W.map V.str))), spPick K [.ref p, .ref wl] H2 (fun v H3 => [v].length ≤ sizeLine ∧ ∀ t, H3 t = none → Q (.ref t) (upd H3 t (.tup [v]))) E := fun H2 g2 x2 e2 =>
      ⟨p, l, wl, _, rfl, g2, e2, nwp, by rw [List.length_map]; exact wo.ne, by rw [List.length_map]; exact Nat.lt_trans wo.few (by decide), fun v H3 hv g3 b3 => ⟨(by show 1 ≤ sizeLine; decide), fun t ht => by
        obtain ⟨s, hs, rfl⟩ := List.mem_map.mp hv
        refine k (.ref t) _ (g3.new ht) ((x2.but b3).upd ht) (.tup upd_same (by show 1 ≤ 200; decide) (wh_cons (.str (wo.txt s hs)) wh_nil)) ⟨[], (node_iff upd_same []).mpr (.inr (.inr (.inl ⟨hs, rfl, rfl⟩))), [], .nil, rfl⟩⟩⟩
    refine ⟨_, rfl, rfl, _, rfl, ite2 (fun _ => ?_) (fun _ => ?_)⟩
    · refine ⟨_, rfl, _, rfl, _, rfl, _, rfl, p, l, 100, rfl, g1, by decide, by decide, fun d H2 e0 e1 g2 b2 => ?_⟩
      refine ⟨_, _, rfl, rfl, (by show 9 ≤ sizeLine; decide), fun ml hml => ?_⟩
      have g3 := g2.new (o := .lst [.int 0, .int 1, .int 2, .int (-1), .int 3, .int 7, .int 2147483647, .int (-2147483648), .int (d - 50)]) hml
      refine ⟨p, l, ml, _, rfl, g3, upd_same, (g2.ne hml).1, (by show 0 < 9; decide), (by show 9 < 1000; decide), fun v H3 hv g4 b4 => ⟨(by show 2 ≤ sizeLine; decide), fun t ht => ?_⟩⟩
      have hi : ∃ i : Int, v = .int i ∧ -2147483648 ≤ i ∧ i ≤ 2147483647 := by
        simp only [List.mem_cons, List.not_mem_nil, or_false] at hv
        rcases hv with rfl | rfl | rfl | rfl | rfl | rfl | rfl | rfl | rfl
        · exact ⟨_, rfl, by decide, by decide⟩
        · exact ⟨_, rfl, by decide, by decide⟩
        · exact ⟨_, rfl, by decide, by decide⟩
        · exact ⟨_, rfl, by decide, by decide⟩
        · exact ⟨_, rfl, by decide, by decide⟩
        · exact ⟨_, rfl, by decide, by decide⟩
        · exact ⟨_, rfl, by decide, by decide⟩
        · exact ⟨_, rfl, by decide, by decide⟩
        · exact ⟨_, rfl, by omega, by omega⟩
      obtain ⟨i, rfl, h0, h1⟩ := hi
      exact k (.ref t) _ (g4.new ht) ((((x1.but b2).upd hml).but b4).upd ht) (.tup upd_same (by show 2 ≤ 200; decide) (wh_cons (.str (by decide +kernel)) (wh_cons (.int i) wh_nil))) (nodeN upd_same h0 h1)
    · refine ⟨_, rfl, _, _, rfl, rfl, _, rfl, ite2 (fun _ => ⟨_, rfl, _, _, rfl, rfl, _, rfl, ite2 (fun cc => ?a) (fun _ => ?b)⟩) (fun _ => ?d)⟩
      case a =>
        have cp : 0 < c := of_decide_eq_true cc
        refine ⟨_, rfl, _, rfl, p, l, c, rfl, g1, cp, by omega, fun d H2 e0 e1 g2 b2 => ⟨(by show 2 ≤ sizeLine; decide), fun t ht => ?_⟩⟩
        exact k (.ref t) _ (g2.new ht) ((x1.but b2).upd ht) (.tup upd_same (by show 2 ≤ 200; decide) (wh_cons (.str (by decide +kernel)) (wh_cons (.int d) wh_nil))) ⟨[], (node_iff upd_same []).mpr (.inr (.inl ⟨rfl, rfl, d, rfl, e0, e1⟩)), [], .nil, rfl⟩
      case b | d =>
        first
        | exact ⟨_, rfl, _, rfl, word H1 g1 x1 ew1⟩
        | exact iteF ⟨_, rfl, _, rfl, word H1 g1 x1 ew1⟩
end
end Q

namespace Q
open PySem L2
theorem bnd_pos (n : Nat) : 1 ≤ bnd (n + 1) := by
  show 1 ≤ 1 + 3 * bnd n
  omega
section
variable {P : Program} {w : World} {K : PySem.W.Frag} {mg : Str → Option Value} {base : Heap}
theorem scExpr : FnScope ["hand", "words", "cells", "deep", "turn", "parts", "word", "one", "k"] ["hand", "words", "cells", "deep"] (defScope sExpr) := ⟨rfl, rfl, rfl, by decide +kernel, rfl, by decide +kernel, by decide +kernel⟩
theorem ok_expr {f fT fP fL : Addr} {fd dT dP dL : FuncData} (D : Df K mg "_law_expression" sExpr ["hand", "words", "cells", "deep"] f fd) (B : Bts mg) (DT : Df K mg "_law_take" sTake ["hand", "many"] fT dT) (DP : Df K mg "_law_pick" sPick ["hand", "things"] fP dP)
    (DL : Df K mg "_law_leaf" sLeaf ["hand", "words", "cells"] fL dL) : ∀ d, FnOk P w K mg base CX0 (d + 4) f fd ["hand", "words", "cells", "deep"] (spExpr (d + 1)) := by
  have GT : FnOk P w K mg base CX0 1 fT dT ["hand", "many"] spTake := ok_take DT.F B
  have GP : FnOk P w K mg base CX0 2 fP dP ["hand", "things"] (spPick K) := ok_pick DP.F B DT
  have GL : FnOk P w K mg base CX0 3 fL dL ["hand", "words", "cells"] spLeaf := ok_leaf DL.F B DT DP
  intro d
  induction d with
  | zero =>
    refine D.F.ok scExpr (fun vs H Q E h => ?_) (fun cdv A outer s0 H vs Q E hr h => ?_)
    · obtain ⟨p, l, wl, W, c, rfl, _⟩ := h
      rfl
    · obtain ⟨p, l, wl, W, c, rfl, ⟨g0, ew, nwp, wo, c0, c4⟩, k⟩ := h
      have nd := scExpr.nd
      have hr1 : Room 1 _ := hr.mono (by decide)
      have hr3 : Room 3 _ := hr.mono (by decide)
      refine ⟨_, pss_cons (ps_set (i := 4) nd rfl (.inl rfl) (pe_call GT hr1 rfl DT.m DT.k DT.b .nil pass0 (pa_cons (pv 0) (pa_cons pe_int pa_nil))))
        (pss_cons (ps_if (PW.pt (pw_or (pt_cmpR op_lt (pv 3) pe_int (nomark _)) pw_nev)) (pss_one (ps_ret (pe_call GL hr3 rfl DL.m DL.k DL.b .nil pass0 (pa_cons (pv 0) (pa_cons (pv 1) (pa_cons (pv 2) pa_nil)))))) pss_nil) pss_never), ?_⟩
      refine ⟨_, rfl, p, l, 8, rfl, g0, by decide, by decide, fun turn H1 d0 d1 g1 b1 => ?_⟩
      have x1 : Ext p H H1 := Ext.rfl'.but b1
      have ew1 : H1 wl = some (.lst (W.map V.str)) := by rw [b1 wl nwp]; exact ew
      refine ⟨_, rfl, _, _, rfl, rfl, _, rfl, iteT ?_⟩
      exact ⟨_, rfl, _, rfl, _, rfl, p, l, wl, W, c, rfl, ⟨g1, ew1, nwp, wo, c0, c4⟩, fun v H2 g2 x2 wv tv => k v H2 1 g2 (x1.trans x2) wv tv (by decide)⟩
  | succ d IH =>
    refine D.F.ok scExpr (fun vs H Q E h => ?_) (fun cdv A outer s0 H vs Q E hr h => ?_)
    · obtain ⟨p, l, wl, W, c, rfl, _⟩ := h
      rfl
    · obtain ⟨p, l, wl, W, c, rfl, ⟨g0, ew, nwp, wo, c0, c4⟩, k⟩ := h
      have nd := scExpr.nd
      have hr1 : Room 1 _ := hr.mono (by omega)
      have hr2 : Room 2 _ := hr.mono (by omega)
      have hr3 : Room 3 _ := hr.mono (by omega)
      have hrd : Room (d + 4) _ := hr.mono (by omega)
      refine ⟨_, pss_cons (ps_set (i := 4) nd rfl (.inl rfl) (pe_call GT hr1 rfl DT.m DT.k DT.b .nil pass0 (pa_cons (pv 0) (pa_cons pe_int pa_nil))))
        (pss_cons (ps_if (PW.pt (pw_or (pt_cmpR op_lt (pv 3) pe_int (nomark _)) (pw_or1 (pt_cmpR op_lt (pv 4) pe_int (nomark _))))) (pss_one (ps_ret (pe_call GL hr3 rfl DL.m DL.k DL.b .nil pass0 (pa_cons (pv 0) (pa_cons (pv 1) (pa_cons (pv 2) pa_nil)))))) pss_nil)
        (pss_cons (ps_if (pt_cmpR op_eq (pv 4) pe_int (nomark _))
          (pss_cons (ps_setLc (i := 5) (own := [("k", 8)]) (g := gName 8) (tt := tYes) rfl nd rfl rfl (sw_true rfl rfl rfl (by decide +kernel)) (pi_range1 rfl B.range (pa_cons pe_int pa_nil))
            (blkOk_by (N := ["hand", "words", "cells", "deep", "turn", "parts", "word", "one", "k"]) (sc := defScope sExpr) (by decide +kernel)) (fun _ _ _ _ _ => pg_name (i := 8) nd rfl (.inl rfl)) (fun _ _ _ _ _ => pts_nil)
            (fun _ _ _ _ _ => pe_call IH hrd rfl D.m D.k D.b .nil pass0 (pa_cons (pv 0) (pa_cons (pv 1) (pa_cons (pv 2) (pa_cons (pe_op op_sub (pv 3) pe_int) pa_nil))))))
          (pss_one (ps_ret (pe_tup (pa_cons pe_str (pa_cons (pe_ix ix_list (pv 5) pe_int (fun _ _ => rfl)) (pa_cons (pe_ix ix_list (pv 5) pe_int (fun _ _ => rfl)) (pa_cons (pe_ix ix_list (pv 5) pe_int (fun _ _ => rfl)) pa_nil)))))))) pss_nil)
        (pss_cons (ps_set (i := 6) nd rfl (.inl rfl) (pe_call GP hr2 rfl DP.m DP.k DP.b .nil pass0 (pa_cons (pv 0) (pa_cons (pe_lst (pa_cons pe_str (pa_cons pe_str (pa_cons pe_str (pa_cons pe_str (pa_cons pe_str (pa_cons pe_str (pa_cons pe_str (pa_cons pe_str (pa_cons pe_str (pa_cons pe_str pa_nil))))))))))) pa_nil))))
        (pss_cons (ps_set (i := 7) nd rfl (.inl rfl) (pe_call IH hrd rfl D.m D.k D.b .nil pass0 (pa_cons (pv 0) (pa_cons (pv 1) (pa_cons (pv 2) (pa_cons (pe_op op_sub (pv 3) pe_int) pa_nil))))))
        (pss_one (ps_ret (pe_tup (pa_cons (pv 6) (pa_cons (pv 7) (pa_cons (pe_call IH hrd rfl D.m D.k D.b .nil pass0 (pa_cons (pv 0) (pa_cons (pv 1) (pa_cons (pv 2) (pa_cons (pe_op op_sub (pv 3) pe_int) pa_nil))))) pa_nil)))))))))), ?_⟩
      refine ⟨_, rfl, p, l, 8, rfl, g0, by decide, by decide, fun turn H1 d0 d1 g1 b1 => ?_⟩
      have x1 : Ext p H H1 := Ext.rfl'.but b1
      have ew1 : H1 wl = some (.lst (W.map V.str)) := by rw [b1 wl nwp]; exact ew
      have ed : V.int (((d + 1 + 1 : Nat) : Int) - 1) = V.int ((d + 1 : Nat) : Int) := by
        congr 1
        omega
      refine ⟨_, rfl, _, _, rfl, rfl, _, rfl, ?_⟩
      rw [decide_eq_false (show ¬ ((d + 1 + 1 : Nat) : Int) < 2 by omega)]
      refine iteF ⟨_, rfl, _, _, rfl, rfl, _, rfl, ite2 (fun _ => ?_) (fun _ => ?_)⟩
      · exact ⟨_, rfl, _, rfl, _, rfl, p, l, wl, W, c, rfl, ⟨g1, ew1, nwp, wo, c0, c4⟩, fun v H2 g2 x2 wv tv => k v H2 1 g2 (x1.trans x2) wv (tv.mono (by omega)) (bnd_pos _)⟩
      refine ⟨_, rfl, rfl, _, rfl, ite2 (fun _ => ?_) (fun _ => ?_)⟩
      · -- if
        refine ⟨3, rfl, by decide, by decide, fun D0 hD => lc_range (lo := 0) (n := 3) (fun i H' => ∃ vs : List V, H' D0 = some (.lst vs) ∧ vs.length = i ∧ (∀ x ∈ vs, Wh H' x ∧ ∃ z, TS H' W c (d + 1) x z ∧ z ≤ bnd (d + 1)) ∧ HandAt H' p l ∧ Ext p H1 H') ?_ ?_ ?_⟩
        · exact ⟨[], upd_same, rfl, fun x hx => absurd hx List.not_mem_nil, g1.new hD, Ext.rfl'.upd hD⟩
        · rintro i H2 hi ⟨vs, eD, hl, hv, g2, x2⟩
          refine ⟨rfl, ?_⟩
          have ew2 : H2 wl = some (.lst (W.map V.str)) := x2 _ _ ew1 nwp
          have nDp : D0 ≠ p := by
            obtain ⟨xs, e⟩ := g1.hp
            exact (ne_of_none e hD).symm
          refine ⟨_, rfl, _, rfl, _, rfl, _, rfl, _, _, rfl, rfl, p, l, wl, W, c, ?_, ⟨g2, ew2, nwp, wo, c0, c4⟩, fun v H3 z g3 x3 wv tv lz => ?_⟩
          · rw [← ed]
            rfl
          have eD3 : H3 D0 = some (.lst vs) := x3 _ _ eD nDp
          have gr := Grow.of_ext g2 g3 x3
          have gu : Grow H3 (L2.upd H3 D0 (.lst (vs ++ [v]))) := Grow.upd eD3
          refine ⟨vs, eD3, by rw [hl]; exact Nat.lt_of_lt_of_le (show i < 64 by omega) (by decide), vs ++ [v], upd_same, by rw [List.length_append, hl]; rfl, fun x hx => ?_, ?_, ?_⟩
          · rcases List.mem_append.mp hx with hx | hx
            · obtain ⟨a, z', b, e⟩ := hv x hx
              exact ⟨(a.grow gr).grow gu, z', (b.grow gr).grow gu, e⟩
            · have ex : x = v := by simpa using hx
              subst ex
              exact ⟨wv.grow gu, z, tv.grow gu, lz⟩
          · have nDl : D0 ≠ l := by
              obtain ⟨ns, e, _⟩ := g1.hl
              exact (ne_of_none e hD).symm
            exact g3.stay nDp nDl
          · intro b o e nb
            rw [upd_ne (ne_of_none e hD)]
            exact (x2.trans x3) b o e nb
        · rintro H2 ⟨vs, eD, hl, hv, g2, x2⟩
          obtain ⟨v1, v2, v3, rfl⟩ : ∃ v1 v2 v3, vs = [v1, v2, v3] := by
            match vs, hl with
            | [v1, v2, v3], _ => exact ⟨v1, v2, v3, rfl⟩
          refine ⟨_, rfl, D0, [v1, v2, v3], 0, v1, rfl, rfl, SqL.of eD, rfl, _, rfl, D0, [v1, v2, v3], 1, v2, rfl, rfl, SqL.of eD, rfl, _, rfl, D0, [v1, v2, v3], 2, v3, rfl, rfl, SqL.of eD, rfl, (by show 4 ≤ sizeLine; decide), fun t ht => ?_⟩
          have s3 := sN (o := .tup [.str "if", v1, v2, v3]) ht
          obtain ⟨w1, z1, t1, l1⟩ := hv v1 (by simp)
          obtain ⟨w2, z2, t2, l2⟩ := hv v2 (by simp)
          obtain ⟨w3, z3, t3, l3⟩ := hv v3 (by simp)
          refine k (.ref t) _ (1 + (z1 + (z2 + (z3 + 0)))) (g2.new ht) ((x1.trans x2).upd ht) (.tup upd_same (by show 4 ≤ 200; decide) (wh_cons (.str (by decide +kernel)) (wh_cons (w1.same s3) (wh_cons (w2.same s3) (wh_cons (w3.same s3) wh_nil))))) ?_ ?_
          · exact ⟨[v1, v2, v3], (node_iff upd_same _).mpr (.inr (.inr (.inr (.inl ⟨rfl, rfl, rfl⟩)))), [z1, z2, z3], .cons (t1.same s3) (.cons (t2.same s3) (.cons (t3.same s3) .nil)), by simp⟩
          · show 1 + (z1 + (z2 + (z3 + 0))) ≤ 1 + 3 * bnd (d + 1)
            omega
      · -- two parts
        refine ⟨_, rfl, (by show 10 ≤ sizeLine; decide), fun ml hml => ?_⟩
        have gm := g1.new (o := .lst (opsL.map V.str)) hml
        refine ⟨p, l, ml, opsL.map V.str, rfl, gm, upd_same, (g1.ne hml).1, (by show 0 < 10; decide), (by show 10 < 1000; decide), fun wv0 H2 hw g2 b2 => ?_⟩
        obtain ⟨s, hs, rfl⟩ := List.mem_map.mp hw
        have x2 : Ext p H1 H2 := (Ext.rfl'.upd hml).but b2
        have ew2 : H2 wl = some (.lst (W.map V.str)) := x2 _ _ ew1 nwp
        have stx : s ∈ txtL := by
          have key : ∀ s ∈ opsL, s ∈ txtL := by decide +kernel
          exact key s hs
        refine ⟨_, rfl, _, rfl, _, rfl, _, rfl, _, _, rfl, rfl, p, l, wl, W, c, ?_, ⟨g2, ew2, nwp, wo, c0, c4⟩, fun v1 H3 z1 g3 x3 w1 t1 l1 => ?_⟩
        · rw [← ed]
          rfl
        have ew3 : H3 wl = some (.lst (W.map V.str)) := x3 _ _ ew2 nwp
        refine ⟨_, rfl, _, rfl, _, rfl, _, rfl, _, rfl, _, rfl, _, _, rfl, rfl, p, l, wl, W, c, ?_, ⟨g3, ew3, nwp, wo, c0, c4⟩, fun v2 H4 z2 g4 x4 w2 t2 l2 => ?_⟩
        · rw [← ed]
          rfl
        refine ⟨(by show 3 ≤ sizeLine; decide), fun t ht => ?_⟩
        have s5 := sN (o := .tup [.str s, v1, v2]) ht
        have gr := Grow.of_ext g3 g4 x4
        refine k (.ref t) _ (1 + (z1 + (z2 + 0))) (g4.new ht) ((((x1.trans x2).trans x3).trans x4).upd ht) (.tup upd_same (by show 3 ≤ 200; decide) (wh_cons (.str stx) (wh_cons ((w1.grow gr).same s5) (wh_cons (w2.same s5) wh_nil)))) ?_ ?_
        · exact ⟨[v1, v2], (node_iff upd_same _).mpr (.inr (.inr (.inr (.inr ⟨hs, rfl, rfl⟩)))), [z1, z2], .cons ((t1.grow gr).same s5) (.cons (t2.same s5) .nil), by simp⟩
        · show 1 + (z1 + (z2 + 0)) ≤ 1 + 3 * bnd (d + 1)
          omega
end
end Q

namespace Q
open PySem L2
abbrev sPP : Stmt := top 78
abbrev sPO : Stmt := top 79
theorem w2 {H : Hp} {t : Addr} {s : Str} {v : V} (n : H t = none) (h : s ∈ txtL) (k : Wh H v) : Wh (L2.upd H t (.tup [.str s, v])) (.ref t) := .tup upd_same (by show 2 ≤ 200; decide) (wh_cons (.str h) (wh_cons (k.same (sN n)) wh_nil))
theorem PreP.grow {H H' : Hp} {s t y n : V} (h : PreP H s t y n) (g : Grow H H') : PreP H' s t y n := ⟨h.s.grow g, h.t.grow g, h.y.grow g, h.n.grow g⟩
theorem Right.grow {H H' : Hp} {W : List Str} {c : Int} {v : V} (h : Right H W c v) (g : Grow H H') : Right H' W c v := by
  obtain ⟨k, t, l⟩ := h
  exact ⟨k, t.grow g, l⟩
theorem woS : WOk wS := ⟨alS, by decide, by decide, by decide +kernel⟩
theorem woT : WOk wT := ⟨alT, by decide, by decide, by decide +kernel⟩
theorem woN : WOk wN := ⟨alN, by decide, by decide, by decide +kernel⟩
def spPP : Sp := fun vs H Q _ => ∃ (p l : Addr), vs = [.ref p] ∧ HandAt H p l ∧ ∀ z s t y n H', HandAt H' p l → Ext p H H' → H' z = some (.tup [s, t, y, n]) → PreP H' s t y n → FineP H' s t y n → Q (.ref z) H'
def spPO (C CB : Addr) : Sp := fun vs H Q E => ∃ (pt : Addr) (s t y n : V), vs = [.ref pt] ∧ H pt = some (.tup [s, t, y, n]) ∧ PreP H s t y n ∧
  (∀ r d H', BadP H s t y n r → H' d = some (xdP r) → Same H H' → E (.ref CB) (some d) H') ∧ (FineP H s t y n → ∀ x dx H', H' x = some (.ins C dx (pf s t y n)) → Same H H' → Q (.ref x) H')
section
variable {P : Program} {w : World} {K : PySem.W.Frag} {mg : Str → Option Value} {base : Heap}
theorem scPO : FnScope ["parts"] ["parts"] (defScope sPO) := ⟨rfl, rfl, rfl, by decide +kernel, rfl, by decide +kernel, by decide +kernel⟩
theorem ok_po {f C CB fM fI : Addr} {fd fdM fdI : FuncData} (F : Fun K "_law_program_of" "_law_program_of" sPO f fd) (B : Bts mg) (O : Oth K w mg) (T : PTxt K mg C) (D : PDefs K mg) (BT : BTxt K mg CB fI fdI) (M : Mk K C fM) (FM : Fun K "__init__" "Program.__init__" sProg fM fdM) (bM : Binds K fdM ["self", "starts", "to", "say", "nexts"] []) :
    FnOk P w K mg base (L2.CX P w) 8 f fd ["parts"] (spPO C CB) := by
  have GM : FnOk P w K mg base (L2.CX P w) 6 fM fdM ["self", "starts", "to", "say", "nexts"] (spProgX C CB) := ok_progX FM B O T D BT
  refine F.okX scPO (fun vs H Q E h => ?_) (fun cdv A outer s0 H vs Q E hr h => ?_)
  · obtain ⟨pt, s, t, y, n, rfl, _⟩ := h
    rfl
  · obtain ⟨pt, s, t, y, n, rfl, ept, pre, kE, k⟩ := h
    refine ⟨_, pss_one (ps_ret (pe_makeS M GM hr rfl T.mgC bM (fun σ => passAt (takes_of rfl rfl rfl rfl) σ) (pa_cons (pe_ix ix_tup (pv 0) pe_int (fun _ _ => rfl)) (pa_cons (pe_ix ix_tup (pv 0) pe_int (fun _ _ => rfl)) (pa_cons (pe_ix ix_tup (pv 0) pe_int (fun _ _ => rfl)) (pa_cons (pe_ix ix_tup (pv 0) pe_int (fun _ _ => rfl)) pa_nil)))))), ?_⟩
    refine ⟨_, rfl, pt, _, 0, s, rfl, rfl, SqT.of ept, rfl, _, rfl, pt, _, 1, t, rfl, rfl, SqT.of ept, rfl, _, rfl, pt, _, 2, y, rfl, rfl, SqT.of ept, rfl, _, rfl, pt, _, 3, n, rfl, rfl, SqT.of ept, rfl, fun x dx nx ndx nex => ?_⟩
    have sx : Same H (L2.upd (L2.upd H dx (.own x)) x (.ins C dx [])) := sNew (sNew (fun _ _ e => e) ndx) nx
    refine ⟨x, dx, s, t, y, n, rfl, upd_same, pre.same sx, fun r d H1 bp ed s1 => kE r d H1 (bp.back pre sx) ed (sT sx s1), fun fp H1 ex x1 => ⟨rfl, ?_⟩⟩
    exact k (fp.back pre sx) x dx H1 ex fun b o e => x1 b o (sx b o e) (ne_of_none e nx)
theorem scPP : FnScope ["hand", "cells", "starts", "to", "say", "nexts", "k"] ["hand"] (defScope sPP) := ⟨rfl, rfl, rfl, by decide +kernel, rfl, by decide +kernel, by decide +kernel⟩
theorem ok_pp {f fT fP fE fW : Addr} {fd dT dP dE dW : FuncData} (F : Fun K "_law_program_parts" "_law_program_parts" sPP f fd) (B : Bts mg) (DT : Df K mg "_law_take" sTake ["hand", "many"] fT dT) (DP : Df K mg "_law_pick" sPick ["hand", "things"] fP dP) (DE : Df K mg "_law_expression" sExpr ["hand", "words", "cells", "deep"] fE dE) (DW : Df K mg "_law_words" sWords ["which"] fW dW)
    (G3 : FnOk P w K mg base CX0 6 fE dE ["hand", "words", "cells", "deep"] (spExpr 3)) (G4 : FnOk P w K mg base CX0 7 fE dE ["hand", "words", "cells", "deep"] (spExpr 4)) : FnOk P w K mg base CX0 8 f fd ["hand"] spPP := by
  have GT : FnOk P w K mg base CX0 1 fT dT ["hand", "many"] spTake := ok_take DT.F B
  have GP : FnOk P w K mg base CX0 2 fP dP ["hand", "things"] (spPick K) := ok_pick DP.F B DT
  have GW : FnOk P w K mg base CX0 1 fW dW ["which"] spWords := ok_words DW.F
  refine F.ok scPP (fun vs H Q E h => ?_) (fun cdv A outer s0 H vs Q E hr h => ?_)
  · obtain ⟨p, l, rfl, _⟩ := h
    rfl
  · obtain ⟨p, l, rfl, g0, k⟩ := h
    have nd := scPP.nd
    have hr1 : Room 1 _ := hr.mono (by decide)
    have hr2 : Room 2 _ := hr.mono (by decide)
    have hr6 : Room 6 _ := hr.mono (by decide)
    refine ⟨_, pss_cons (ps_set (i := 1) nd rfl (.inr rfl) (pe_call GP hr2 rfl DP.m DP.k DP.b .nil pass0 (pa_cons (pv 0) (pa_cons (pe_lst (pa_cons pe_int (pa_cons pe_int (pa_cons pe_int (pa_cons pe_int (pa_cons pe_int (pa_cons pe_int pa_nil))))))) pa_nil))))
      (pss_cons (ps_set (i := 2) nd rfl (.inl rfl) (pe_callTy call_tuple_of (by rfl) B.tuple PyProof.Rows.boot_tuple (pa_cons (pe_lc (own := [("k", 6)]) (g := gName 6) (tt := tYes) rfl nd (pi_range1 rfl B.range (pa_cons (pv 1) pa_nil))
        (blkOk_by (N := ["hand", "cells", "starts", "to", "say", "nexts", "k"]) (sc := defScope sPP) (by decide +kernel)) (fun _ _ _ _ _ => pg_name (i := 6) nd rfl (.inl rfl)) (fun _ _ _ _ _ => pts_nil)
        (fun _ _ _ _ _ => pe_call G3 hr6 rfl DE.m DE.k DE.b .nil pass0 (pa_cons (pv 0) (pa_cons (pe_call GW hr1 rfl DW.m DW.k DW.b .nil pass0 (pa_cons pe_str pa_nil)) (pa_cons pe_int (pa_cons pe_int pa_nil)))))) pa_nil)))
      (pss_cons (ps_set (i := 3) nd rfl (.inl rfl) (pe_call G3 hr6 rfl DE.m DE.k DE.b .nil pass0 (pa_cons (pv 0) (pa_cons (pe_call GW hr1 rfl DW.m DW.k DW.b .nil pass0 (pa_cons pe_str pa_nil)) (pa_cons (pv 1) (pa_cons pe_int pa_nil))))))
      (pss_cons (ps_set (i := 4) nd rfl (.inl rfl) (pe_call G4 hr rfl DE.m DE.k DE.b .nil pass0 (pa_cons (pv 0) (pa_cons (pe_call GW hr1 rfl DW.m DW.k DW.b .nil pass0 (pa_cons pe_str pa_nil)) (pa_cons (pv 1) (pa_cons pe_int pa_nil))))))
      (pss_cons (ps_set (i := 5) nd rfl (.inl rfl) (pe_callTy call_tuple_of (by rfl) B.tuple PyProof.Rows.boot_tuple (pa_cons (pe_lc (own := [("k", 6)]) (g := gName 6) (tt := tYes) rfl nd (pi_range1 rfl B.range (pa_cons (pv 1) pa_nil))
        (blkOk_by (N := ["hand", "cells", "starts", "to", "say", "nexts", "k"]) (sc := defScope sPP) (by decide +kernel)) (fun _ _ _ _ _ => pg_name (i := 6) nd rfl (.inl rfl)) (fun _ _ _ _ _ => pts_nil)
        (fun _ _ _ _ _ => pe_call G4 hr rfl DE.m DE.k DE.b .nil pass0 (pa_cons (pv 0) (pa_cons (pe_call GW hr1 rfl DW.m DW.k DW.b .nil pass0 (pa_cons pe_str pa_nil)) (pa_cons (pv 1) (pa_cons pe_int pa_nil)))))) pa_nil)))
      (C8.pss_cut (ps_if (pt_cmpR op_eq (pe_call GT hr1 rfl DT.m DT.k DT.b .nil pass0 (pa_cons (pv 0) (pa_cons pe_int pa_nil))) pe_int (nomark _)) (pss_one (ps_set (i := 3) nd rfl (.inl rfl) (pe_tup (pa_cons pe_str (pa_cons pe_int pa_nil))))) pss_nil)
      (pss_one (ps_ret (pe_tup (pa_cons (pv 2) (pa_cons (pv 3) (pa_cons (pv 4) (pa_cons (pv 5) pa_nil)))))))))))), ?_⟩
    refine ⟨_, rfl, (by show 6 ≤ sizeLine; decide), fun ml hml => ?_⟩
    refine ⟨p, l, ml, _, rfl, g0.new hml, upd_same, (g0.ne hml).1, (by show 0 < 6; decide), (by show 6 < 1000; decide), fun v H1 hv g1 b1 => ?_⟩
    have x1 : Ext p H H1 := (Ext.rfl'.upd hml).but b1
    obtain ⟨c, rfl, c1, c4⟩ : ∃ c : Int, v = .int c ∧ 1 ≤ c ∧ c ≤ 4 := by
      simp only [List.mem_cons, List.not_mem_nil, or_false] at hv
      rcases hv with rfl | rfl | rfl | rfl | rfl | rfl <;> exact ⟨_, rfl, by decide, by decide⟩
    have ec : ((c.toNat : Nat) : Int) = c := Int.toNat_of_nonneg (by omega)
    refine ⟨_, rfl, c, rfl, by omega, by omega, fun D1 hD1 => lc_range (lo := 0) (n := c.toNat) (fun i H' => ∃ vs : List V, H' D1 = some (.lst vs) ∧ vs.length = i ∧ (∀ x ∈ vs, Wh H' x ∧ Right H' wS 0 x) ∧ HandAt H' p l ∧ Ext p H1 H') ?_ ?_ ?_⟩
    · exact ⟨[], upd_same, rfl, fun x hx => absurd hx List.not_mem_nil, g1.new hD1, Ext.rfl'.upd hD1⟩
    · rintro i H2 hi ⟨vs, eD, hl, hv, g2, x2⟩
      refine ⟨rfl, ?_⟩
      obtain ⟨xs0, ehp⟩ := g1.hp
      obtain ⟨ns0, ehl, _⟩ := g1.hl
      have nDp : D1 ≠ p := (ne_of_none ehp hD1).symm
      have nDl : D1 ≠ l := (ne_of_none ehl hD1).symm
      refine ⟨_, rfl, _, wS, rfl, .inl ⟨rfl, rfl⟩, fun wl H3 s3 hwl ew => ?_⟩
      have g3 := g2.same s3
      obtain ⟨xs2, e2p⟩ := g2.hp
      have nwp : wl ≠ p := (ne_of_none e2p hwl).symm
      refine ⟨p, l, wl, wS, 0, rfl, ⟨g3, ew, nwp, woS, by decide, by decide⟩, fun v H4 k4 g4 x4 wv tv lk => ?_⟩
      have eD4 : H4 D1 = some (.lst vs) := x4 _ _ (s3 _ _ eD) nDp
      have gr := (Grow.of_same s3).trans (Grow.of_ext g3 g4 x4)
      have gu : Grow H4 (L2.upd H4 D1 (.lst (vs ++ [v]))) := Grow.upd eD4
      refine ⟨vs, eD4, by rw [hl]; exact Nat.lt_of_lt_of_le (show i < 64 by omega) (by decide), vs ++ [v], upd_same, by rw [List.length_append, hl]; rfl, fun x hx => ?_, g4.stay nDp nDl, fun b o e nb => ?_⟩
      · rcases List.mem_append.mp hx with hx | hx
        · obtain ⟨a, b⟩ := hv x hx
          exact ⟨(a.grow gr).grow gu, (b.grow gr).grow gu⟩
        · have ex : x = v := by simpa using hx
          subst ex
          exact ⟨wv.grow gu, Right.grow ⟨k4, tv.mono (by omega), Nat.le_trans lk (by decide)⟩ gu⟩
      · rw [upd_ne (ne_of_none e hD1)]
        exact x4 _ _ (s3 _ _ (x2 b o e nb)) nb
    rintro H2 ⟨vs, eD, hl, hv, g2, x2⟩
    refine ⟨D1, _, rfl, .inl ⟨SqL.of eD, fun t1 ht1 => ?_⟩⟩
    have s3 := sN (o := .tup vs) ht1
    have g3 := g2.same s3
    have x3 : Ext p H (L2.upd H2 t1 (.tup vs)) := (x1.trans x2).same s3
    -- to
    refine ⟨_, rfl, _, wT, rfl, .inr (.inr ⟨.inl rfl, rfl⟩), fun wl H4 s4 hwl ew => ?_⟩
    obtain ⟨xs3, e3p⟩ := g3.hp
    have nwp : wl ≠ p := (ne_of_none e3p hwl).symm
    have g4 := g3.same s4
    refine ⟨_, rfl, p, l, wl, wT, c, rfl, ⟨g4, ew, nwp, woT, by omega, by omega⟩, fun vt H5 k5 g5 x5 wt tt5 lk5 => ?_⟩
    -- say
    refine ⟨_, rfl, _, wT, rfl, .inr (.inr ⟨.inr rfl, rfl⟩), fun wl2 H6 s6 hwl2 ew2 => ?_⟩
    obtain ⟨xs5, e5p⟩ := g5.hp
    have nwp2 : wl2 ≠ p := (ne_of_none e5p hwl2).symm
    have g6 := g5.same s6
    refine ⟨_, rfl, p, l, wl2, wT, c, rfl, ⟨g6, ew2, nwp2, woT, by omega, by omega⟩, fun vy H7 k7 g7 x7 wy ty7 lk7 => ?_⟩
    refine ⟨_, rfl, c, rfl, by omega, by omega, fun D2 hD2 => lc_range (lo := 0) (n := c.toNat) (fun i H' => ∃ vs : List V, H' D2 = some (.lst vs) ∧ vs.length = i ∧ (∀ x ∈ vs, Wh H' x ∧ Right H' wN (c.toNat : Int) x) ∧ HandAt H' p l ∧ Ext p H7 H') ?_ ?_ ?_⟩
    · exact ⟨[], upd_same, rfl, fun x hx => absurd hx List.not_mem_nil, g7.new hD2, Ext.rfl'.upd hD2⟩
    · rintro i H2 hi ⟨vs, eD, hl, hv, g2, x2⟩
      refine ⟨rfl, ?_⟩
      obtain ⟨xs0, ehp⟩ := g7.hp
      obtain ⟨ns0, ehl, _⟩ := g7.hl
      have nDp : D2 ≠ p := (ne_of_none ehp hD2).symm
      have nDl : D2 ≠ l := (ne_of_none ehl hD2).symm
      refine ⟨_, rfl, _, wN, rfl, .inr (.inl ⟨rfl, rfl⟩), fun wl H3 s3 hwl ew => ?_⟩
      have g3 := g2.same s3
      obtain ⟨xs2, e2p⟩ := g2.hp
      have nwp : wl ≠ p := (ne_of_none e2p hwl).symm
      refine ⟨_, rfl, p, l, wl, wN, c, rfl, ⟨g3, ew, nwp, woN, by omega, by omega⟩, fun v H4 k4 g4 x4 wv tv lk => ?_⟩
      have eD4 : H4 D2 = some (.lst vs) := x4 _ _ (s3 _ _ eD) nDp
      have gr := (Grow.of_same s3).trans (Grow.of_ext g3 g4 x4)
      have gu : Grow H4 (L2.upd H4 D2 (.lst (vs ++ [v]))) := Grow.upd eD4
      refine ⟨vs, eD4, by rw [hl]; exact Nat.lt_of_lt_of_le (show i < 64 by omega) (by decide), vs ++ [v], upd_same, by rw [List.length_append, hl]; rfl, fun x hx => ?_, g4.stay nDp nDl, fun b o e nb => ?_⟩
      · rcases List.mem_append.mp hx with hx | hx
        · obtain ⟨a, b⟩ := hv x hx
          exact ⟨(a.grow gr).grow gu, (b.grow gr).grow gu⟩
        · have ex : x = v := by simpa using hx
          subst ex
          exact ⟨wv.grow gu, Right.grow ⟨k4, by rw [ec]; exact tv.mono (by omega), Nat.le_trans lk (by decide)⟩ gu⟩
      · rw [upd_ne (ne_of_none e hD2)]
        exact x4 _ _ (s3 _ _ (x2 b o e nb)) nb
    rintro H8 ⟨us, eD8, hl8, hv8, g8, x8⟩
    refine ⟨D2, _, rfl, .inl ⟨SqL.of eD8, fun t2 ht2 => ?_⟩⟩
    have s9 := sN (o := .tup us) ht2
    have g9 := g8.same s9
    have hlv : vs.length = c.toNat := hl
    -- all at the last heap
    have x57 : Ext p (L2.upd H2 t1 (.tup vs)) H7 := (((Ext.rfl'.same s4).trans x5).same s6).trans x7
    have x39 : Ext p (L2.upd H2 t1 (.tup vs)) (L2.upd H8 t2 (.tup us)) := (x57.trans x8).same s9
    have gr39 := Grow.of_ext g3 g9 x39
    have gr29 : Grow H2 (L2.upd H8 t2 (.tup us)) := (Grow.of_same s3).trans gr39
    have gr59 : Grow H5 (L2.upd H8 t2 (.tup us)) := Grow.of_ext g5 g9 ((((Ext.rfl'.same s6).trans x7).trans x8).same s9)
    have gr79 : Grow H7 (L2.upd H8 t2 (.tup us)) := Grow.of_ext g7 g9 (x8.same s9)
    have x9 : Ext p H (L2.upd H8 t2 (.tup us)) := x3.trans x39
    have e1 : (L2.upd H8 t2 (.tup us)) t1 = some (.tup vs) := gr39.tup upd_same
    have rt : Right (L2.upd H8 t2 (.tup us)) wT vs.length vt := Right.grow ⟨k5, by rw [hlv, ec]; exact tt5.mono (by omega), Nat.le_trans lk5 (by decide)⟩ gr59
    have ry : Right (L2.upd H8 t2 (.tup us)) wT vs.length vy := Right.grow ⟨k7, by rw [hlv, ec]; exact ty7.mono (by omega), Nat.le_trans lk7 (by decide)⟩ gr79
    have ws : Wh (L2.upd H8 t2 (.tup us)) (.ref t1) := .tup e1 (by omega) fun x hx => (hv x hx).1.grow gr29
    have wn : Wh (L2.upd H8 t2 (.tup us)) (.ref t2) := .tup upd_same (by omega) fun x hx => (hv8 x hx).1.same s9
    have st : St (L2.upd H8 t2 (.tup us)) (.ref t1) t1 vs := ⟨rfl, e1, by omega, by omega, fun x hx => (hv x hx).2.grow gr29⟩
    have rn : ∀ x ∈ us, Right (L2.upd H8 t2 (.tup us)) wN vs.length x := fun x hx => by
      rw [hlv]
      exact (hv8 x hx).2.grow (Grow.of_same s9)
    refine ⟨fun σ H' => HandAt H' p l ∧ Ext p (L2.upd H8 t2 (.tup us)) H' ∧ ∃ vt', Wh H' vt' ∧ Right H' wT vs.length vt' ∧ σ = [some (.ref p), some (.int c), some (.ref t1), some vt', some vy, some (.ref t2), none], ?_, ?_⟩
    · refine ⟨_, rfl, p, l, 2, rfl, g9, by decide, by decide, fun d H10 d0 d1 g10 b10 => ?_⟩
      have x10 : Ext p (L2.upd H8 t2 (.tup us)) H10 := Ext.rfl'.but b10
      have gr10 := Grow.of_ext g9 g10 x10
      refine ⟨rfl, _, rfl, ite2 (fun _ => ?_) (fun _ => ?_)⟩
      · refine ⟨(by show 2 ≤ sizeLine; decide), fun t3 ht3 => ?_⟩
        have s11 := sN (o := .tup [.str "number", .int 1]) ht3
        refine ⟨g10.same s11, x10.same s11, .ref t3, w2 ht3 (by decide +kernel) (.int 1), ⟨1, ⟨[], (node_iff upd_same []).mpr (.inl ⟨rfl, rfl, 1, rfl, by decide, by decide⟩), [], .nil, rfl⟩, by decide⟩, rfl⟩
      · exact ⟨g10, x10, vt, (wt.grow gr59).grow gr10, rt.grow gr10, rfl⟩
    · rintro σ H10 ⟨g10, x10, vt', wt', rt', rfl⟩
      have gr10 := Grow.of_ext g9 g10 x10
      refine ⟨_, rfl, _, rfl, _, rfl, _, rfl, (by show 4 ≤ sizeLine; decide), fun z hz => ?_⟩
      have sz := sN (o := .tup [.ref t1, vt', vy, .ref t2]) hz
      have grz := gr10.trans (Grow.of_same sz)
      refine k z _ _ _ _ _ (g10.same sz) ((x9.trans x10).same sz) upd_same ⟨ws.grow grz, wt'.same sz, (wy.grow gr79).grow grz, wn.grow grz⟩ ⟨t1, vs, t2, us, ⟨rfl, grz.tup e1, st.l1, st.l4, fun x hx => (st.rs x hx).grow grz⟩, rt'.grow (Grow.of_same sz), ry.grow grz, rfl, grz.tup upd_same, by omega, fun x hx => (rn x hx).grow grz⟩
end
end Q

namespace Q
open PySem L2
/-! ### min, max with default=, sum: of tuples and lists of ints -/
theorem minOf_int : ∀ (ys : List Int) (y : Int), PySem.W.minOf y ys ∈ y :: ys ∧ ∀ x ∈ y :: ys, PySem.W.minOf y ys ≤ x
  | [], y => ⟨List.mem_singleton.mpr rfl, fun x hx => by rw [List.mem_singleton.mp hx]; exact Int.le_refl _⟩
  | z :: ys, y => by
    have e : PySem.W.minOf y (z :: ys) = PySem.W.minOf (if decide (z < y) = true then z else y) ys := rfl
    obtain ⟨h1, h2⟩ := minOf_int ys (if decide (z < y) = true then z else y)
    rw [e]
    by_cases c : z < y
    · rw [decide_eq_true c, if_pos rfl] at h1 h2 ⊢
      refine ⟨List.mem_cons_of_mem _ h1, fun x hx => ?_⟩
      rcases List.mem_cons.mp hx with rfl | hx
      · have := h2 z List.mem_cons_self
        omega
      · exact h2 x hx
    · rw [decide_eq_false c, if_neg Bool.false_ne_true] at h1 h2 ⊢
      refine ⟨?_, fun x hx => ?_⟩
      · rcases List.mem_cons.mp h1 with h | h
        · rw [h]; exact List.mem_cons_self
        · exact List.mem_cons_of_mem _ (List.mem_cons_of_mem _ h)
      · rcases List.mem_cons.mp hx with rfl | hx
        · exact h2 _ List.mem_cons_self
        · rcases List.mem_cons.mp hx with rfl | hx
          · have := h2 y List.mem_cons_self
            omega
          · exact h2 x (List.mem_cons_of_mem _ hx)
theorem maxOf_int : ∀ (ys : List Int) (y : Int), PySem.W.maxOf y ys ∈ y :: ys ∧ ∀ x ∈ y :: ys, x ≤ PySem.W.maxOf y ys
  | [], y => ⟨List.mem_singleton.mpr rfl, fun x hx => by rw [List.mem_singleton.mp hx]; exact Int.le_refl _⟩
  | z :: ys, y => by
    have e : PySem.W.maxOf y (z :: ys) = PySem.W.maxOf (if decide (y < z) = true then z else y) ys := rfl
    obtain ⟨h1, h2⟩ := maxOf_int ys (if decide (y < z) = true then z else y)
    rw [e]
    by_cases c : y < z
    · rw [decide_eq_true c, if_pos rfl] at h1 h2 ⊢
      refine ⟨List.mem_cons_of_mem _ h1, fun x hx => ?_⟩
      rcases List.mem_cons.mp hx with rfl | hx
      · have := h2 z List.mem_cons_self
        omega
      · exact h2 x hx
    · rw [decide_eq_false c, if_neg Bool.false_ne_true] at h1 h2 ⊢
      refine ⟨?_, fun x hx => ?_⟩
      · rcases List.mem_cons.mp h1 with h | h
        · rw [h]; exact List.mem_cons_self
        · exact List.mem_cons_of_mem _ (List.mem_cons_of_mem _ h)
      · rcases List.mem_cons.mp hx with rfl | hx
        · exact h2 _ List.mem_cons_self
        · rcases List.mem_cons.mp hx with rfl | hx
          · have := h2 y List.mem_cons_self
            omega
          · exact h2 x (List.mem_cons_of_mem _ hx)
/-- the least, d if there is none -/
def IsLeast (d : Int) (ns : List Int) (m : Int) : Prop := (ns = [] ∧ m = d) ∨ (m ∈ ns ∧ ∀ y ∈ ns, m ≤ y)
def IsMost (d : Int) (ns : List Int) (m : Int) : Prop := (ns = [] ∧ m = d) ∨ (m ∈ ns ∧ ∀ y ∈ ns, y ≤ m)
theorem IsLeast.uniq {d : Int} {ns : List Int} {m k : Int} (h : IsLeast d ns m) (g : IsLeast d ns k) : m = k := by
  rcases h with ⟨e, rfl⟩ | ⟨h1, h2⟩
  · rcases g with ⟨_, rfl⟩ | ⟨g1, _⟩
    · rfl
    · rw [e] at g1; exact absurd g1 List.not_mem_nil
  · rcases g with ⟨e, _⟩ | ⟨g1, g2⟩
    · rw [e] at h1; exact absurd h1 List.not_mem_nil
    · have := h2 k g1
      have := g2 m h1
      omega
theorem IsMost.uniq {d : Int} {ns : List Int} {m k : Int} (h : IsMost d ns m) (g : IsMost d ns k) : m = k := by
  rcases h with ⟨e, rfl⟩ | ⟨h1, h2⟩
  · rcases g with ⟨_, rfl⟩ | ⟨g1, _⟩
    · rfl
    · rw [e] at g1; exact absurd g1 List.not_mem_nil
  · rcases g with ⟨e, _⟩ | ⟨g1, g2⟩
    · rw [e] at h1; exact absurd h1 List.not_mem_nil
    · have := h2 k g1
      have := g2 m h1
      omega
def SqO (K : PySem.W.Frag) (H : Hp) (a : Addr) (xs : List V) : Prop := SqL K H a xs ∨ SqT K H a xs
def rMinD (K : PySem.W.Frag) : List V → List V → Hp → VK → Prop := fun vs zs H Q => ∃ (a : Addr) (ns : List Int) (d : Int), vs = [.ref a] ∧ zs = [.int d] ∧ SqO K H a (ns.map V.int) ∧ ∀ m, IsLeast d ns m → Q (.int m) H
def rMaxD (K : PySem.W.Frag) : List V → List V → Hp → VK → Prop := fun vs zs H Q => ∃ (a : Addr) (ns : List Int) (d : Int), vs = [.ref a] ∧ zs = [.int d] ∧ SqO K H a (ns.map V.int) ∧ ∀ m, IsMost d ns m → Q (.int m) H
def rSumO (K : PySem.W.Frag) : List V → Hp → VK → Prop := fun vs H Q => ∃ (a : Addr) (ns : List Int), vs = [.ref a] ∧ SqO K H a (ns.map V.int) ∧ Q (.int ns.sum) H
section
variable {X : Cx}
theorem least_of {d : Int} {ns : List Int} {y : Int} {ys : List Int} (e : ns = y :: ys) : IsLeast d ns (PySem.W.minOf y ys) := by
  subst e
  exact .inr (minOf_int ys y)
theorem most_of {d : Int} {ns : List Int} {y : Int} {ys : List Int} (e : ns = y :: ys) : IsMost d ns (PySem.W.maxOf y ys) := by
  subst e
  exact .inr (maxOf_int ys y)
theorem cr_minD (hc : X.calm = true) (hu : X.A.units + 64 < cLine) : CallRK X (.builtin "min") [Str.ofString "default"] (rMinD X.K) := by
  intro pins s σ H vs zs us ws Q I r rz h
  obtain ⟨a, ns, d, rfl, rfl, hs, q⟩ := h
  obtain rfl := Vals.ref1 r
  obtain ⟨w1, rfl, e1⟩ := vals1 rz
  obtain ⟨t, rfl⟩ : ∃ t, w1 = Value.int d t := e1
  have hd : X.A.units + 1 + PySem.W.Datum.depth Int < cLine := by
    have : PySem.W.Datum.depth Int ≤ 60 := by decide
    omega
  rcases hs with hs | hs
  · obtain ⟨its, rv, hl, hz⟩ := I.list hs
    refine PySem.W.min_list_datum_default (α := Int) (xs := ns) (I.ok.hd hc) hl.isList (PySem.W.HoldAll.of_ints (by simpa using rv.ints)) hd (fun e h' tk hk => ⟨.int d, H, I.kept hk, ⟨t, rfl⟩, q d (.inl ⟨e, rfl⟩)⟩) fun y ys i v h' tk e hi hv hk => ?_
    obtain ⟨t', rfl⟩ := PySem.W.int_of_holds hv
    exact ⟨.int _, H, I.kept hk, ⟨t', rfl⟩, q _ (least_of e)⟩
  · obtain ⟨its, rv, hl, hz⟩ := I.tuple hs
    refine PySem.W.min_tuple_datum_default (α := Int) (xs := ns) (I.ok.hd hc) hl (PySem.W.HoldAll.of_ints (by simpa using rv.ints)) hd (fun e h' tk hk => ⟨.int d, H, I.kept hk, ⟨t, rfl⟩, q d (.inl ⟨e, rfl⟩)⟩) fun y ys i v h' tk e hi hv hk => ?_
    obtain ⟨t', rfl⟩ := PySem.W.int_of_holds hv
    exact ⟨.int _, H, I.kept hk, ⟨t', rfl⟩, q _ (least_of e)⟩
theorem cr_maxD (hc : X.calm = true) (hu : X.A.units + 64 < cLine) : CallRK X (.builtin "max") [Str.ofString "default"] (rMaxD X.K) := by
  intro pins s σ H vs zs us ws Q I r rz h
  obtain ⟨a, ns, d, rfl, rfl, hs, q⟩ := h
  obtain rfl := Vals.ref1 r
  obtain ⟨w1, rfl, e1⟩ := vals1 rz
  obtain ⟨t, rfl⟩ : ∃ t, w1 = Value.int d t := e1
  have hd : X.A.units + 1 + PySem.W.Datum.depth Int < cLine := by
    have : PySem.W.Datum.depth Int ≤ 60 := by decide
    omega
  rcases hs with hs | hs
  · obtain ⟨its, rv, hl, hz⟩ := I.list hs
    refine PySem.W.max_list_datum_default (α := Int) (xs := ns) (I.ok.hd hc) hl.isList (PySem.W.HoldAll.of_ints (by simpa using rv.ints)) hd (fun e h' tk hk => ⟨.int d, H, I.kept hk, ⟨t, rfl⟩, q d (.inl ⟨e, rfl⟩)⟩) fun y ys i v h' tk e hi hv hk => ?_
    obtain ⟨t', rfl⟩ := PySem.W.int_of_holds hv
    exact ⟨.int _, H, I.kept hk, ⟨t', rfl⟩, q _ (most_of e)⟩
  · obtain ⟨its, rv, hl, hz⟩ := I.tuple hs
    refine PySem.W.max_tuple_datum_default (α := Int) (xs := ns) (I.ok.hd hc) hl (PySem.W.HoldAll.of_ints (by simpa using rv.ints)) hd (fun e h' tk hk => ⟨.int d, H, I.kept hk, ⟨t, rfl⟩, q d (.inl ⟨e, rfl⟩)⟩) fun y ys i v h' tk e hi hv hk => ?_
    obtain ⟨t', rfl⟩ := PySem.W.int_of_holds hv
    exact ⟨.int _, H, I.kept hk, ⟨t', rfl⟩, q _ (most_of e)⟩
theorem cr_sumO (hc : X.calm = true) : CallR X (.builtin "sum") (rSumO X.K) := by
  intro pins s σ H vs us Q I r h
  obtain ⟨a, ns, rfl, hs, q⟩ := h
  rcases hs with hs | hs
  · exact cr_sum hc pins s σ H _ us Q I r ⟨a, ns, rfl, hs, q⟩
  · obtain ⟨its, rv, hl, _⟩ := I.tuple hs
    rw [Vals.ref1 r]
    obtain ⟨xs, hx⟩ := rv.ints.allInts.items
    have hn : numsOf its.toArray.toList = ns := by rw [show its.toArray.toList = its by simp, rv.ints.numsOf]
    rw [hx] at hn
    rw [nums_intItems] at hn
    rw [hx] at hl
    refine PySem.W.ktm_sumG (I.ok.hd hc) hl fun h' tk t' hk => ?_
    rw [preSum_eq, List.take_of_length_le (by simp), hn]
    exact ⟨.int _, H, I.kept hk, ⟨_, rfl⟩, q⟩
end
end Q

namespace Q
open PySem L2
/-! ### small numbers, and the words of two expressions -/
def Sm (z : Int) : Prop := -2147483648 ≤ z ∧ z ≤ 2147483647
def bb (n : Int) : Int := (n + 2147483648) % 4294967296 - 2147483648
theorem bb_sm (n : Int) : Sm (bb n) := by
  have h0 : 0 ≤ (n + 2147483648) % 4294967296 := Int.emod_nonneg _ (by decide)
  have h1 : (n + 2147483648) % 4294967296 < 4294967296 := Int.emod_lt_of_pos _ (by decide)
  unfold Sm bb
  omega
theorem bb_div (n : Int) : n - 4294967296 * ((n + 2147483648) / 4294967296) = bb n := by
  have h := Int.emod_add_mul_ediv (n + 2147483648) 4294967296
  unfold bb
  omega
def opV (s : Str) (a b : Int) : Int :=
  if s = "add" then bb (a + b) else if s = "sub" then bb (a - b) else if s = "mul" then bb (a * b)
  else if s = "min" then (if b < a then b else a) else if s = "max" then (if b > a then b else a)
  else if s = "less" then (if a < b then 1 else 0) else if s = "same" then (if a = b then 1 else 0)
  else if s = "and" then (if a ≠ 0 ∧ b ≠ 0 then 1 else 0) else if s = "or" then (if a ≠ 0 ∨ b ≠ 0 then 1 else 0)
  else (if b > 0 then a % b else 0)
theorem opV_add (a b : Int) : opV "add" a b = bb (a + b) := if_pos rfl
theorem opV_sub (a b : Int) : opV "sub" a b = bb (a - b) := by unfold opV; rw [if_neg (by decide +kernel), if_pos rfl]
theorem opV_mul (a b : Int) : opV "mul" a b = bb (a * b) := by unfold opV; rw [if_neg (by decide +kernel), if_neg (by decide +kernel), if_pos rfl]
theorem opV_min (a b : Int) : opV "min" a b = (if b < a then b else a) := by unfold opV; rw [if_neg (by decide +kernel), if_neg (by decide +kernel), if_neg (by decide +kernel), if_pos rfl]
theorem opV_max (a b : Int) : opV "max" a b = (if b > a then b else a) := by unfold opV; rw [if_neg (by decide +kernel), if_neg (by decide +kernel), if_neg (by decide +kernel), if_neg (by decide +kernel), if_pos rfl]
theorem opV_less (a b : Int) : opV "less" a b = (if a < b then 1 else 0) := by unfold opV; rw [if_neg (by decide +kernel), if_neg (by decide +kernel), if_neg (by decide +kernel), if_neg (by decide +kernel), if_neg (by decide +kernel), if_pos rfl]
theorem opV_same (a b : Int) : opV "same" a b = (if a = b then 1 else 0) := by unfold opV; rw [if_neg (by decide +kernel), if_neg (by decide +kernel), if_neg (by decide +kernel), if_neg (by decide +kernel), if_neg (by decide +kernel), if_neg (by decide +kernel), if_pos rfl]
theorem opV_and (a b : Int) : opV "and" a b = (if a ≠ 0 ∧ b ≠ 0 then 1 else 0) := by unfold opV; rw [if_neg (by decide +kernel), if_neg (by decide +kernel), if_neg (by decide +kernel), if_neg (by decide +kernel), if_neg (by decide +kernel), if_neg (by decide +kernel), if_neg (by decide +kernel), if_pos rfl]
theorem opV_or (a b : Int) : opV "or" a b = (if a ≠ 0 ∨ b ≠ 0 then 1 else 0) := by unfold opV; rw [if_neg (by decide +kernel), if_neg (by decide +kernel), if_neg (by decide +kernel), if_neg (by decide +kernel), if_neg (by decide +kernel), if_neg (by decide +kernel), if_neg (by decide +kernel), if_neg (by decide +kernel), if_pos rfl]
theorem opV_rest (a b : Int) : opV "rest" a b = (if b > 0 then a % b else 0) := by unfold opV; rw [if_neg (by decide +kernel), if_neg (by decide +kernel), if_neg (by decide +kernel), if_neg (by decide +kernel), if_neg (by decide +kernel), if_neg (by decide +kernel), if_neg (by decide +kernel), if_neg (by decide +kernel), if_neg (by decide +kernel)]
theorem ops_cases {s : Str} (h : s ∈ opsL) : s = "add" ∨ s = "sub" ∨ s = "mul" ∨ s = "min" ∨ s = "max" ∨ s = "less" ∨ s = "same" ∨ s = "and" ∨ s = "or" ∨ s = "rest" := by
  simpa [opsL] using h
theorem opV_sm {s : Str} (h : s ∈ opsL) {a b : Int} (ha : Sm a) (hb : Sm b) : Sm (opV s a b) := by
  rcases ops_cases h with rfl | rfl | rfl | rfl | rfl | rfl | rfl | rfl | rfl | rfl
  · rw [opV_add]; exact bb_sm _
  · rw [opV_sub]; exact bb_sm _
  · rw [opV_mul]; exact bb_sm _
  · rw [opV_min]; split <;> assumption
  · rw [opV_max]; split <;> assumption
  · rw [opV_less]; split <;> (unfold Sm; omega)
  · rw [opV_same]; split <;> (unfold Sm; omega)
  · rw [opV_and]; split <;> (unfold Sm; omega)
  · rw [opV_or]; split <;> (unfold Sm; omega)
  · rw [opV_rest]
    split
    · rename_i c
      have h0 : 0 ≤ a % b := Int.emod_nonneg _ (by omega)
      have h1 : a % b < b := Int.emod_lt_of_pos _ (by omega)
      unfold Sm at hb ⊢
      omega
    · unfold Sm; omega
abbrev sBB : Stmt := top 24
abbrev sO1 : Stmt := top 25
abbrev sO2 : Stmt := top 26
abbrev sO3 : Stmt := top 27
abbrev sO4 : Stmt := top 28
abbrev sO5 : Stmt := top 29
abbrev sO6 : Stmt := top 30
abbrev sO7 : Stmt := top 31
abbrev sO8 : Stmt := top 32
abbrev sO9 : Stmt := top 33
abbrev sO10 : Stmt := top 34
def spBB : Sp := fun vs H Q _ => ∃ n : Int, vs = [.int n] ∧ Q (.int (bb n)) H
def spOp (s : Str) : Sp := fun vs H Q _ => ∃ a b : Int, vs = [.int a, .int b] ∧ Sm a ∧ Sm b ∧ Q (.int (opV s a b)) H
section
variable {P : Program} {w : World} {K : PySem.W.Frag} {mg : Str → Option Value} {base : Heap}
theorem dec_int' (a b : Int) : decide (V.int a = V.int b) = decide (a = b) := by
  by_cases c : a = b
  · rw [c, decide_eq_true rfl, decide_eq_true rfl]
  · rw [decide_eq_false c, decide_eq_false fun z => c (V.int.inj z)]
theorem scBB : FnScope ["number"] ["number"] (defScope sBB) := ⟨rfl, rfl, rfl, by decide +kernel, rfl, by decide +kernel, by decide +kernel⟩
theorem ok_bb {f : Addr} {fd : FuncData} (F : Fun K "brought_back" "brought_back" sBB f fd) : FnOk P w K mg base CX0 1 f fd ["number"] spBB := by
  refine F.ok scBB (fun vs H Q E h => ?_) (fun cdv A outer s H vs Q E hr h => ?_)
  · obtain ⟨n, rfl, _⟩ := h
    rfl
  · obtain ⟨n, rfl, k⟩ := h
    refine ⟨_, pss_one (ps_ret (pe_op op_sub (pe_op op_mod (pe_op op_add (pv 0) (pe_op op_pow pe_int pe_int)) (pe_op op_pow pe_int pe_int)) (pe_op op_pow pe_int pe_int))), ?_⟩
    refine ⟨_, rfl, _, _, rfl, rfl, ⟨by decide, by decide, by decide⟩, _, _, rfl, rfl, _, _, rfl, rfl, ⟨by decide, by decide, by decide⟩, _, _, rfl, rfl, (by show (0 : Int) < 2 ^ Int.toNat 32; decide), _, _, rfl, rfl, ⟨by decide, by decide, by decide⟩, _, _, rfl, rfl, ?_⟩
    have e1 : ((2 : Int) ^ (31 : Int).toNat) = 2147483648 := by decide
    have e2 : ((2 : Int) ^ (32 : Int).toNat) = 4294967296 := by decide
    rw [e1, e2]
    exact k
theorem scO1 : FnScope ["one", "other"] ["one", "other"] (defScope sO1) := ⟨rfl, rfl, rfl, by decide +kernel, rfl, by decide +kernel, by decide +kernel⟩
theorem scO2 : FnScope ["one", "other"] ["one", "other"] (defScope sO2) := ⟨rfl, rfl, rfl, by decide +kernel, rfl, by decide +kernel, by decide +kernel⟩
theorem scO3 : FnScope ["one", "other"] ["one", "other"] (defScope sO3) := ⟨rfl, rfl, rfl, by decide +kernel, rfl, by decide +kernel, by decide +kernel⟩
theorem scO4 : FnScope ["one", "other"] ["one", "other"] (defScope sO4) := ⟨rfl, rfl, rfl, by decide +kernel, rfl, by decide +kernel, by decide +kernel⟩
theorem scO5 : FnScope ["one", "other"] ["one", "other"] (defScope sO5) := ⟨rfl, rfl, rfl, by decide +kernel, rfl, by decide +kernel, by decide +kernel⟩
theorem scO6 : FnScope ["one", "other"] ["one", "other"] (defScope sO6) := ⟨rfl, rfl, rfl, by decide +kernel, rfl, by decide +kernel, by decide +kernel⟩
theorem scO7 : FnScope ["one", "other"] ["one", "other"] (defScope sO7) := ⟨rfl, rfl, rfl, by decide +kernel, rfl, by decide +kernel, by decide +kernel⟩
theorem scO8 : FnScope ["one", "other"] ["one", "other"] (defScope sO8) := ⟨rfl, rfl, rfl, by decide +kernel, rfl, by decide +kernel, by decide +kernel⟩
theorem scO9 : FnScope ["one", "other"] ["one", "other"] (defScope sO9) := ⟨rfl, rfl, rfl, by decide +kernel, rfl, by decide +kernel, by decide +kernel⟩
theorem scO10 : FnScope ["one", "other"] ["one", "other"] (defScope sO10) := ⟨rfl, rfl, rfl, by decide +kernel, rfl, by decide +kernel, by decide +kernel⟩
theorem ok_o1 {f fB : Addr} {fd dB : FuncData} (F : Fun K "sum_of" "sum_of" sO1 f fd) (DB : Df K mg "brought_back" sBB ["number"] fB dB) : FnOk P w K mg base CX0 2 f fd ["one", "other"] (spOp "add") := by
  have GB : FnOk P w K mg base CX0 1 fB dB ["number"] spBB := ok_bb DB.F
  refine F.ok scO1 (fun vs H Q E h => ?_) (fun cdv A outer s H vs Q E hr h => ?_)
  · obtain ⟨a, b, rfl, _⟩ := h
    rfl
  · obtain ⟨a, b, rfl, ha, hb, k⟩ := h
    refine ⟨_, pss_one (ps_ret (pe_call GB hr rfl DB.m DB.k DB.b .nil pass0 (pa_cons (pe_op op_add (pv 0) (pv 1)) pa_nil))), ?_⟩
    rw [opV_add] at k
    exact ⟨_, rfl, _, rfl, _, _, rfl, rfl, _, rfl, k⟩
theorem ok_o2 {f fB : Addr} {fd dB : FuncData} (F : Fun K "difference_of" "difference_of" sO2 f fd) (DB : Df K mg "brought_back" sBB ["number"] fB dB) : FnOk P w K mg base CX0 2 f fd ["one", "other"] (spOp "sub") := by
  have GB : FnOk P w K mg base CX0 1 fB dB ["number"] spBB := ok_bb DB.F
  refine F.ok scO2 (fun vs H Q E h => ?_) (fun cdv A outer s H vs Q E hr h => ?_)
  · obtain ⟨a, b, rfl, _⟩ := h
    rfl
  · obtain ⟨a, b, rfl, ha, hb, k⟩ := h
    refine ⟨_, pss_one (ps_ret (pe_call GB hr rfl DB.m DB.k DB.b .nil pass0 (pa_cons (pe_op op_sub (pv 0) (pv 1)) pa_nil))), ?_⟩
    rw [opV_sub] at k
    exact ⟨_, rfl, _, rfl, _, _, rfl, rfl, _, rfl, k⟩
theorem ok_o3 {f fB : Addr} {fd dB : FuncData} (F : Fun K "product_of" "product_of" sO3 f fd) (DB : Df K mg "brought_back" sBB ["number"] fB dB) : FnOk P w K mg base CX0 2 f fd ["one", "other"] (spOp "mul") := by
  have GB : FnOk P w K mg base CX0 1 fB dB ["number"] spBB := ok_bb DB.F
  refine F.ok scO3 (fun vs H Q E h => ?_) (fun cdv A outer s H vs Q E hr h => ?_)
  · obtain ⟨a, b, rfl, _⟩ := h
    rfl
  · obtain ⟨a, b, rfl, ha, hb, k⟩ := h
    refine ⟨_, pss_one (ps_ret (pe_call GB hr rfl DB.m DB.k DB.b .nil pass0 (pa_cons (pe_op op_mul (pv 0) (pv 1)) pa_nil))), ?_⟩
    rw [opV_mul] at k
    unfold Sm at ha
    exact ⟨_, rfl, _, rfl, _, _, rfl, rfl, .inl ⟨by omega, by omega⟩, _, rfl, k⟩
theorem ok_o4 {f : Addr} {fd : FuncData} (F : Fun K "lesser_of" "lesser_of" sO4 f fd) (B : Bts mg) : FnOk P w K mg base CX0 2 f fd ["one", "other"] (spOp "min") := by
  refine F.ok scO4 (fun vs H Q E h => ?_) (fun cdv A outer s H vs Q E hr h => ?_)
  · obtain ⟨a, b, rfl, _⟩ := h
    rfl
  · obtain ⟨a, b, rfl, ha, hb, k⟩ := h
    refine ⟨_, pss_one (ps_ret (pe_callB (call_min2 rfl) (by rfl) B.min PyProof.Rows.boot_min (pa_cons (pv 0) (pa_cons (pv 1) pa_nil)))), ?_⟩
    rw [opV_min] at k
    exact ⟨_, rfl, _, rfl, _, _, rfl, k⟩
theorem ok_o5 {f : Addr} {fd : FuncData} (F : Fun K "greater_of" "greater_of" sO5 f fd) (B : Bts mg) : FnOk P w K mg base CX0 2 f fd ["one", "other"] (spOp "max") := by
  refine F.ok scO5 (fun vs H Q E h => ?_) (fun cdv A outer s H vs Q E hr h => ?_)
  · obtain ⟨a, b, rfl, _⟩ := h
    rfl
  · obtain ⟨a, b, rfl, ha, hb, k⟩ := h
    refine ⟨_, pss_one (ps_ret (pe_callB (call_max2 rfl) (by rfl) B.max PyProof.Rows.boot_max (pa_cons (pv 0) (pa_cons (pv 1) pa_nil)))), ?_⟩
    rw [opV_max] at k
    exact ⟨_, rfl, _, rfl, _, _, rfl, k⟩
theorem ok_o6 {f : Addr} {fd : FuncData} (F : Fun K "is_less" "is_less" sO6 f fd) : FnOk P w K mg base CX0 2 f fd ["one", "other"] (spOp "less") := by
  refine F.ok scO6 (fun vs H Q E h => ?_) (fun cdv A outer s H vs Q E hr h => ?_)
  · obtain ⟨a, b, rfl, _⟩ := h
    rfl
  · obtain ⟨a, b, rfl, ha, hb, k⟩ := h
    refine ⟨_, pss_one (ps_ret (pe_ifExp (pt_cmpR op_lt (pv 0) (pv 1) (nomark _)) pe_int pe_int)), ?_⟩
    rw [opV_less] at k
    refine ⟨_, rfl, _, rfl, _, _, rfl, rfl, _, rfl, ite2 (fun c => ?_) (fun c => ?_)⟩
    · rw [if_pos (of_decide_eq_true c)] at k
      exact k
    · rw [if_neg (fun z => c (decide_eq_true z))] at k
      exact k
theorem ok_o7 {f : Addr} {fd : FuncData} (F : Fun K "is_same" "is_same" sO7 f fd) : FnOk P w K mg base CX0 2 f fd ["one", "other"] (spOp "same") := by
  refine F.ok scO7 (fun vs H Q E h => ?_) (fun cdv A outer s H vs Q E hr h => ?_)
  · obtain ⟨a, b, rfl, _⟩ := h
    rfl
  · obtain ⟨a, b, rfl, ha, hb, k⟩ := h
    refine ⟨_, pss_one (ps_ret (pe_ifExp (pt_cmpR op_eq (pv 0) (pv 1) (nomark _)) pe_int pe_int)), ?_⟩
    rw [opV_same] at k
    refine ⟨_, rfl, _, rfl, rfl, _, rfl, ?_⟩
    rw [dec_int']
    refine ite2 (fun c => ?_) (fun c => ?_)
    · rw [if_pos (of_decide_eq_true c)] at k
      exact k
    · rw [if_neg (fun z => c (decide_eq_true z))] at k
      exact k
theorem ok_o8 {f : Addr} {fd : FuncData} (F : Fun K "are_both" "are_both" sO8 f fd) : FnOk P w K mg base CX0 2 f fd ["one", "other"] (spOp "and") := by
  refine F.ok scO8 (fun vs H Q E h => ?_) (fun cdv A outer s H vs Q E hr h => ?_)
  · obtain ⟨a, b, rfl, _⟩ := h
    rfl
  · obtain ⟨a, b, rfl, ha, hb, k⟩ := h
    refine ⟨_, pss_one (ps_ret (pe_ifExp (PW.pt (pw_and (pt_cmpR op_ne (pv 0) pe_int (nomark _)) (pw_and1 (pt_cmpR op_ne (pv 1) pe_int (nomark _))))) pe_int pe_int)), ?_⟩
    rw [opV_and] at k
    refine ⟨_, rfl, rfl, _, rfl, ?_⟩
    rw [dec_int']
    by_cases c : a = 0
    · rw [decide_eq_true c]
      rw [if_neg (fun z => z.1 c)] at k
      exact k
    · rw [decide_eq_false c]
      refine iteT ⟨_, rfl, rfl, _, rfl, ?_⟩
      rw [dec_int']
      by_cases c2 : b = 0
      · rw [decide_eq_true c2]
        rw [if_neg (fun z => z.2 c2)] at k
        exact k
      · rw [decide_eq_false c2]
        rw [if_pos ⟨c, c2⟩] at k
        exact k
theorem ok_o9 {f : Addr} {fd : FuncData} (F : Fun K "is_either" "is_either" sO9 f fd) : FnOk P w K mg base CX0 2 f fd ["one", "other"] (spOp "or") := by
  refine F.ok scO9 (fun vs H Q E h => ?_) (fun cdv A outer s H vs Q E hr h => ?_)
  · obtain ⟨a, b, rfl, _⟩ := h
    rfl
  · obtain ⟨a, b, rfl, ha, hb, k⟩ := h
    refine ⟨_, pss_one (ps_ret (pe_ifExp (PW.pt (pw_or (pt_cmpR op_ne (pv 0) pe_int (nomark _)) (pw_or1 (pt_cmpR op_ne (pv 1) pe_int (nomark _))))) pe_int pe_int)), ?_⟩
    rw [opV_or] at k
    refine ⟨_, rfl, rfl, _, rfl, ?_⟩
    rw [dec_int']
    by_cases c : a = 0
    · rw [decide_eq_true c]
      refine iteF ⟨_, rfl, rfl, _, rfl, ?_⟩
      rw [dec_int']
      by_cases c2 : b = 0
      · rw [decide_eq_true c2]
        rw [if_neg (fun z => z.elim (fun y => y c) (fun y => y c2))] at k
        exact k
      · rw [decide_eq_false c2]
        rw [if_pos (.inr c2)] at k
        exact k
    · rw [decide_eq_false c]
      rw [if_pos (.inl c)] at k
      exact k
theorem ok_o10 {f : Addr} {fd : FuncData} (F : Fun K "rest_of" "rest_of" sO10 f fd) : FnOk P w K mg base CX0 2 f fd ["one", "other"] (spOp "rest") := by
  refine F.ok scO10 (fun vs H Q E h => ?_) (fun cdv A outer s H vs Q E hr h => ?_)
  · obtain ⟨a, b, rfl, _⟩ := h
    rfl
  · obtain ⟨a, b, rfl, ha, hb, k⟩ := h
    refine ⟨_, pss_one (ps_ret (pe_ifExp (pt_cmpR op_gt (pv 1) pe_int (nomark _)) (pe_op op_mod (pv 0) (pv 1)) pe_int)), ?_⟩
    rw [opV_rest] at k
    refine ⟨_, rfl, _, _, rfl, rfl, _, rfl, ite2 (fun c => ?_) (fun c => ?_)⟩
    · have c' : b > 0 := of_decide_eq_true c
      rw [if_pos c'] at k
      exact ⟨_, rfl, _, rfl, _, _, rfl, rfl, c', k⟩
    · rw [if_neg (fun z => c (decide_eq_true z))] at k
      exact k
end
end Q

namespace Q
open PySem L2
/-! ### what an expression comes to -/
def EvV (H : Hp) (W : List Str) (en : Str → Int) (cs : List Int) : Nat → V → Int → Prop
  | 0 => fun _ _ => False
  | n + 1 => fun v z => Sm z ∧ ∃ (a : Addr) (s : Str) (r : List V), v = .ref a ∧ H a = some (.tup (.str s :: r)) ∧
    ((s = "number" ∧ r = [.int z]) ∨ (s = "cell" ∧ ∃ i : Nat, r = [.int (i : Int)] ∧ cs[i]? = some z) ∨ (s ∈ W ∧ r = [] ∧ z = en s) ∨
     (s = "if" ∧ ∃ x y u zx zy zu, r = [x, y, u] ∧ EvV H W en cs n x zx ∧ EvV H W en cs n y zy ∧ EvV H W en cs n u zu ∧ z = if zx = 0 then zu else zy) ∨
     (s ∈ opsL ∧ ∃ x y zx zy, r = [x, y] ∧ EvV H W en cs n x zx ∧ EvV H W en cs n y zy ∧ z = opV s zx zy))
theorem EvV.grow {H H' : Hp} {W : List Str} {en : Str → Int} {cs : List Int} (g : Grow H H') : ∀ {n : Nat} {v : V} {z : Int}, EvV H W en cs n v z → EvV H' W en cs n v z
  | 0, _, _, h => h.elim
  | n + 1, v, z, ⟨sm, a, s, r, e1, e2, h⟩ => by
    refine ⟨sm, a, s, r, e1, g.tup e2, ?_⟩
    rcases h with h | h | h | ⟨es, x, y, u, zx, zy, zu, er, h1, h2, h3, ez⟩ | ⟨es, x, y, zx, zy, er, h1, h2, ez⟩
    · exact .inl h
    · exact .inr (.inl h)
    · exact .inr (.inr (.inl h))
    · exact .inr (.inr (.inr (.inl ⟨es, x, y, u, zx, zy, zu, er, h1.grow g, h2.grow g, h3.grow g, ez⟩)))
    · exact .inr (.inr (.inr (.inr ⟨es, x, y, zx, zy, er, h1.grow g, h2.grow g, ez⟩)))
theorem EvV.same {H H' : Hp} {W : List Str} {en : Str → Int} {cs : List Int} {n : Nat} {v : V} {z : Int} (h : EvV H W en cs n v z) (s : Same H H') : EvV H' W en cs n v z := h.grow (Grow.of_same s)
theorem EvV.sm {H : Hp} {W : List Str} {en : Str → Int} {cs : List Int} : ∀ {n : Nat} {v : V} {z : Int}, EvV H W en cs n v z → Sm z
  | 0, _, _, h => h.elim
  | _ + 1, _, _, h => h.1
theorem EvV.mono {H : Hp} {W : List Str} {en : Str → Int} {cs : List Int} : ∀ {n m : Nat} {v : V} {z : Int}, n ≤ m → EvV H W en cs n v z → EvV H W en cs m v z
  | 0, _, _, _, _, h => h.elim
  | n + 1, 0, _, _, l, _ => absurd l (by omega)
  | n + 1, m + 1, v, z, l, ⟨sm, a, s, r, e1, e2, h⟩ => by
    refine ⟨sm, a, s, r, e1, e2, ?_⟩
    rcases h with h | h | h | ⟨es, x, y, u, zx, zy, zu, er, h1, h2, h3, ez⟩ | ⟨es, x, y, zx, zy, er, h1, h2, ez⟩
    · exact .inl h
    · exact .inr (.inl h)
    · exact .inr (.inr (.inl h))
    · exact .inr (.inr (.inr (.inl ⟨es, x, y, u, zx, zy, zu, er, h1.mono (by omega), h2.mono (by omega), h3.mono (by omega), ez⟩)))
    · exact .inr (.inr (.inr (.inr ⟨es, x, y, zx, zy, er, h1.mono (by omega), h2.mono (by omega), ez⟩)))
theorem ts_ev {H : Hp} {W : List Str} {c : Int} {en : Str → Int} {cs : List Int} (hW : ∀ s ∈ W, Sm (en s)) (hc : ∀ z ∈ cs, Sm z) (lc : c ≤ cs.length) : ∀ {n : Nat} {v : V} {k : Nat}, TS H W c n v k → ∃ z, EvV H W en cs n v z
  | 0, _, _, h => h.elim
  | n + 1, v, k, ⟨ks, ⟨a, s, r, e1, e2, h⟩, szs, p, _⟩ => by
    have kids : ∀ x ∈ ks, ∃ z, EvV H W en cs n x z := fun x hx => by
      obtain ⟨k', hk⟩ := paired_left p x hx
      exact ts_ev hW hc lc hk
    rcases h with ⟨es, _, i, er, h0, h1⟩ | ⟨es, _, i, er, h0, h1⟩ | ⟨es, er, _⟩ | ⟨es, er, ek⟩ | ⟨es, er, ek⟩
    · exact ⟨i, ⟨h0, h1⟩, a, s, r, e1, e2, .inl ⟨es, er⟩⟩
    · have hl : i.toNat < cs.length := by omega
      have ei : ((i.toNat : Nat) : Int) = i := Int.toNat_of_nonneg h0
      exact ⟨cs[i.toNat], hc _ (List.getElem_mem hl), a, s, r, e1, e2, .inr (.inl ⟨es, i.toNat, by rw [ei]; exact er, List.getElem?_eq_getElem hl⟩)⟩
    · exact ⟨en s, hW s es, a, s, r, e1, e2, .inr (.inr (.inl ⟨es, er, rfl⟩))⟩
    · subst ek
      obtain ⟨x, y, u, rfl⟩ : ∃ x y u, ks = [x, y, u] := by
        match ks, er with
        | [x, y, u], _ => exact ⟨x, y, u, rfl⟩
      obtain ⟨zx, hx⟩ := kids x (by simp)
      obtain ⟨zy, hy⟩ := kids y (by simp)
      obtain ⟨zu, hu⟩ := kids u (by simp)
      refine ⟨if zx = 0 then zu else zy, ?_, a, s, _, e1, e2, .inr (.inr (.inr (.inl ⟨es, x, y, u, zx, zy, zu, rfl, hx, hy, hu, rfl⟩)))⟩
      split
      · exact hu.sm
      · exact hy.sm
    · subst ek
      obtain ⟨x, y, rfl⟩ : ∃ x y, ks = [x, y] := by
        match ks, er with
        | [x, y], _ => exact ⟨x, y, rfl⟩
      obtain ⟨zx, hx⟩ := kids x (by simp)
      obtain ⟨zy, hy⟩ := kids y (by simp)
      exact ⟨opV s zx zy, opV_sm es hx.sm hy.sm, a, s, _, e1, e2, .inr (.inr (.inr (.inr ⟨es, x, y, zx, zy, rfl, hx, hy, rfl⟩)))⟩
/-! ### what a house sees: a dict by words -/
def upF (f : Str → Option V) (s : Str) (v : V) : Str → Option V := fun t => if t = s then some v else f t
theorem upF_eq {f : Str → Option V} {s : Str} {v : V} : upF f s v s = some v := if_pos rfl
theorem upF_ne {f : Str → Option V} {s t : Str} {v : V} (h : t ≠ s) : upF f s v t = f t := if_neg h
def noF : Str → Option V := fun _ => none
/-- the dict tells what f tells -/
def VF (kvs : List (Key × V)) (f : Str → Option V) : Prop := ∀ s : Str, valV kvs (.inr s) = f s
theorem VF.nil : VF [] noF := fun _ => rfl
theorem VF.put {kvs : List (Key × V)} {f : Str → Option V} (h : VF kvs f) (s : Str) (v : V) : VF (putK kvs (.inr s) v) (upF f s v) := fun t => by
  rw [valV_put]
  unfold upF
  by_cases c : t = s
  · rw [if_pos c, if_pos (by rw [c])]
  · rw [if_neg c, if_neg (fun e => c (Sum.inr.inj e)), h t]
theorem putK_le (kvs : List (Key × V)) (k : Key) (v : V) : (putK kvs k v).length ≤ kvs.length + 1 := by
  unfold putK
  split
  · rw [List.length_map]; omega
  · rw [List.length_append, List.length_singleton]; omega
/-- small ints at all words of W -/
def IntOn (f : Str → Option V) (W : List Str) : Prop := ∀ s ∈ W, ∃ z : Int, f s = some (.int z) ∧ Sm z
def enOf (f : Str → Option V) (s : Str) : Int := match f s with
  | some (.int z) => z
  | _ => 0
theorem IntOn.at_ {f : Str → Option V} {W : List Str} (h : IntOn f W) {s : Str} (hs : s ∈ W) : f s = some (.int (enOf f s)) ∧ Sm (enOf f s) := by
  obtain ⟨z, e, sm⟩ := h s hs
  have ez : enOf f s = z := by
    unfold enOf
    rw [e]
  rw [ez]
  exact ⟨e, sm⟩
theorem IntOn.nil {f : Str → Option V} : IntOn f [] := fun _ h => absurd h List.not_mem_nil
theorem IntOn.int {f : Str → Option V} {W W' : List Str} {s : Str} {z : Int} (h : IntOn f W) (sm : Sm z) (sub : ∀ t ∈ W', t = s ∨ t ∈ W) : IntOn (upF f s (.int z)) W' := fun t ht => by
  by_cases c : t = s
  · subst c
    exact ⟨z, upF_eq, sm⟩
  · rw [upF_ne c]
    exact h t ((sub t ht).resolve_left c)
theorem IntOn.oth {f : Str → Option V} {W : List Str} {s : Str} {v : V} (h : IntOn f W) (no : ¬ s ∈ W) : IntOn (upF f s v) W := fun t ht => by
  rw [upF_ne (fun e => no (by rw [← e]; exact ht))]
  exact h t ht
def Dom (f : Str → Option V) (ks : List Str) : Prop := ∀ t, ¬ t ∈ ks → f t = none
theorem Dom.up {f : Str → Option V} {ks : List Str} {s : Str} {v : V} (h : Dom f ks) : Dom (upF f s v) (s :: ks) := fun t ht => by
  rw [List.mem_cons, not_or] at ht
  rw [upF_ne ht.1]
  exact h t ht.2
theorem Dom.nil : Dom noF [] := fun _ _ => rfl
theorem Dom.sub {f : Str → Option V} {ks ks' : List Str} (h : Dom f ks) (s : ∀ t ∈ ks, t ∈ ks') : Dom f ks' := fun t ht => h t fun z => ht (s t z)
/-- what the walker wants of a dict -/
structure Vw (f : Str → Option V) (W : List Str) (en : Str → Int) : Prop where
  has : ∀ s ∈ W, f s = some (.int (en s))
  ops : ∀ s ∈ opsL, f s = none
  iff : f "if" = none
def viewKeys : List Str := ["me", "many", "ties", "round", "cell", "other", "heard", "sum", "least", "most"]
theorem Vw.of {f : Str → Option V} {W : List Str} {ks : List Str} (h : IntOn f W) (d : Dom f ks) (sub : ∀ t ∈ ks, t ∈ viewKeys) : Vw f W (enOf f) := by
  have d' := d.sub sub
  have k1 : ∀ s ∈ opsL, ¬ s ∈ viewKeys := by decide +kernel
  exact ⟨fun s hs => (h.at_ hs).1, fun s hs => d' s (k1 s hs), d' _ (by decide +kernel)⟩
/-- the cells, where they are told -/
def CellsIn (H : Hp) (f : Str → Option V) (cs : List Int) : Prop := cs = [] ∨ ∃ ca, f "cell" = some (.ref ca) ∧ H ca = some (.tup (cs.map V.int))
theorem CellsIn.same {H H' : Hp} {f : Str → Option V} {cs : List Int} (h : CellsIn H f cs) (s : Same H H') : CellsIn H' f cs := by
  rcases h with h | ⟨ca, h1, h2⟩
  · exact .inl h
  · exact .inr ⟨ca, h1, s _ _ h2⟩
structure OpsT (P : Program) (w : World) (K : PySem.W.Frag) (mg : Str → Option Value) (base : Heap) : Prop where
  ex : ∃ (d : Addr) (es : Array DictEntry) (n : Nat), KDict K w d es n ∧ mg "OF_TWO" = some (.ref d) ∧ ∀ s ∈ opsL, ∃ (f : Addr) (fd : FuncData), PySem.W.nsIn K d s = some (some (.ref f)) ∧ FnOk P w K mg base CX0 2 f fd ["one", "other"] (spOp s) ∧ PySem.W.keepIn K (.ref f) = true ∧ Binds K fd ["one", "other"] []
abbrev sCT : Stmt := top 36
def spCT (n : Nat) : Sp := fun vs H Q _ => ∃ (d : Addr) (v : V) (W : List Str) (en : Str → Int) (cs : List Int) (kvs : List (Key × V)) (f : Str → Option V) (z : Int), vs = [.ref d, v] ∧ Alone W ∧ H d = some (.dK kvs) ∧ VF kvs f ∧ Vw f W en ∧ CellsIn H f cs ∧ EvV H W en cs n v z ∧ Q (.int z) H
theorem seq_ne {s t : Str} {A B : Prop} (h : s ≠ t) (b : B) : if decide (V.str s = V.str t) = true then A else B := by
  rw [decide_eq_false fun e => h (V.str.inj e)]
  exact iteF b
theorem seq_eq {s t : Str} {A B : Prop} (h : s = t) (a : A) : if decide (V.str s = V.str t) = true then A else B := by
  rw [decide_eq_true (by rw [h])]
  exact iteT a
section
variable {P : Program} {w : World} {K : PySem.W.Frag} {mg : Str → Option Value} {base : Heap}
theorem scCT : FnScope ["view", "expression", "word", "action"] ["view", "expression"] (defScope sCT) := ⟨rfl, rfl, rfl, by decide +kernel, rfl, by decide +kernel, by decide +kernel⟩
theorem ok_ct {f : Addr} {fd : FuncData} (D : Df K mg "come_to" sCT ["view", "expression"] f fd) (O : OpsT P w K mg base) : ∀ n, FnOk P w K mg base CX0 (n + 3) f fd ["view", "expression"] (spCT n)
  | 0 => by
    refine D.F.ok scCT (fun vs H Q E h => ?_) (fun cdv A outer s H vs Q E hr h => ?_)
    · obtain ⟨d, v, W, en, cs, kvs, f, z, rfl, _⟩ := h
      rfl
    · obtain ⟨d, v, W, en, cs, kvs, f, z, rfl, _, _, _, _, _, h, _⟩ := h
      exact h.elim
  | n + 1 => by
    have IH := ok_ct D O n
    obtain ⟨dO, es, nO, KD, hm, hops⟩ := O.ex
    refine D.F.ok scCT (fun vs H Q E h => ?_) (fun cdv A outer s0 H vs Q E hr h => ?_)
    · obtain ⟨d, v, W, en, cs, kvs, f, z, rfl, _⟩ := h
      rfl
    · obtain ⟨d, v, W, en, cs, kvs, f, z, rfl, al, hd, vf, vw, ci, ⟨sm, a, s, r, rfl, ea, h⟩, k⟩ := h
      have nd := scCT.nd
      have hu := hu_of hr
      have hrn : Room (n + 3) _ := hr
      have hr2 : Room 2 _ := hr.mono (by omega)
      have dget : ∀ t : Str, DGet H d (.str t) (f t) := fun t => by
        rw [← vf t]
        exact DGet.k (k := .inr t) hd
      rcases h with ⟨es, er⟩ | ⟨es, i, er, hi⟩ | ⟨hs, er, ez⟩ | ⟨es, x, y, u, zx, zy, zu, er, hx, hy, hz, ez⟩ | ⟨hs, x, y, zx, zy, er, hx, hy, ez⟩
      · subst es
        subst er
        refine ⟨_, pss_cons (ps_set (i := 2) nd rfl (.inl rfl) (pe_ix ix_tup (pv 1) pe_int (fun _ _ => rfl)))
          (pss_cons (ps_if (pt_cmpR op_eq (pv 2) pe_str (nomark _)) (pss_one (ps_ret (pe_ix ix_tup (pv 1) pe_int (fun _ _ => rfl)))) pss_nil) pss_never), ?_⟩
        exact ⟨_, rfl, a, _, 0, _, rfl, rfl, SqT.of ea, at0 _ _, _, rfl, rfl, _, rfl, seq_eq rfl ⟨_, rfl, a, _, 1, _, rfl, rfl, SqT.of ea, at1 _ _ _, k⟩⟩
      · subst es
        subst er
        obtain ⟨ca, fc, hca⟩ : ∃ ca, f "cell" = some (.ref ca) ∧ H ca = some (.tup (cs.map V.int)) := by
          rcases ci with rfl | h
          · simp at hi
          · exact h
        refine ⟨_, pss_cons (ps_set (i := 2) nd rfl (.inl rfl) (pe_ix ix_tup (pv 1) pe_int (fun _ _ => rfl)))
          (pss_cons (ps_if (pt_cmpR op_eq (pv 2) pe_str (nomark _)) (pss_one (ps_ret (pe_ix ix_tup (pv 1) pe_int (fun _ _ => rfl)))) pss_nil)
          (pss_cons (ps_if (pt_cmpR op_eq (pv 2) pe_str (nomark _)) (pss_one (ps_ret (pe_ix ix_tup (pe_dget hu (pv 0) pe_str (fun _ _ => rfl)) (pe_ix ix_tup (pv 1) pe_int (fun _ _ => rfl)) (fun _ _ => rfl)))) pss_nil) pss_never)), ?_⟩
        refine ⟨_, rfl, a, _, 0, _, rfl, rfl, SqT.of ea, at0 _ _, _, rfl, rfl, _, rfl, seq_ne ne_nc.symm ⟨_, rfl, rfl, _, rfl, seq_eq rfl ?_⟩⟩
        have dg := dget "cell"
        rw [fc] at dg
        exact ⟨_, rfl, d, _, rfl, dg, _, rfl, a, _, 1, _, rfl, rfl, SqT.of ea, at1 _ _ _, ca, _, (i : Int), _, rfl, rfl, SqT.of hca, atI_nat (by rw [List.getElem?_map, hi]; rfl), k⟩
      · subst er
        have n1 : s ≠ "number" := fun e => al.number (by rw [← e]; exact hs)
        have n2 : s ≠ "cell" := fun e => al.cell (by rw [← e]; exact hs)
        refine ⟨_, pss_cons (ps_set (i := 2) nd rfl (.inl rfl) (pe_ix ix_tup (pv 1) pe_int (fun _ _ => rfl)))
          (pss_cons (ps_if (pt_cmpR op_eq (pv 2) pe_str (nomark _)) pss_never pss_nil)
          (pss_cons (ps_if (pt_cmpR op_eq (pv 2) pe_str (nomark _)) pss_never pss_nil)
          (pss_cons (ps_if (pt_cmp (pc_din hu (pv 2) (pv 0))) (pss_one (ps_ret (pe_dget hu (pv 0) (pv 2) (fun _ _ => rfl)))) pss_nil) pss_never))), ?_⟩
        have dg := dget s
        rw [vw.has s hs] at dg
        refine ⟨_, rfl, a, _, 0, _, rfl, rfl, SqT.of ea, at0 _ _, _, rfl, rfl, _, rfl, seq_ne n1 ⟨_, rfl, rfl, _, rfl, seq_ne n2 ⟨_, rfl, _, rfl, d, _, rfl, dg, _, rfl, iteT ?_⟩⟩⟩
        refine ⟨_, rfl, _, rfl, d, _, rfl, dg, ?_⟩
        rw [ez] at k
        exact k
      · subst es
        subst er
        refine ⟨_, pss_cons (ps_set (i := 2) nd rfl (.inl rfl) (pe_ix ix_tup (pv 1) pe_int (fun _ _ => rfl)))
          (pss_cons (ps_if (pt_cmpR op_eq (pv 2) pe_str (nomark _)) pss_never pss_nil)
          (pss_cons (ps_if (pt_cmpR op_eq (pv 2) pe_str (nomark _)) pss_never pss_nil)
          (pss_cons (ps_if (pt_cmp (pc_din hu (pv 2) (pv 0))) pss_never pss_nil)
          (pss_cons (ps_if (pt_cmpR op_eq (pv 2) pe_str (nomark _)) (pss_one (ps_ret (pe_call IH hrn rfl D.m D.k D.b .nil pass0 (pa_cons (pv 0) (pa_cons (pe_ifExp (pt_cmpR op_eq (pe_call IH hrn rfl D.m D.k D.b .nil pass0 (pa_cons (pv 0) (pa_cons (pe_ix ix_tup (pv 1) pe_int (fun _ _ => rfl)) pa_nil))) pe_int (nomark _)) (pe_ix ix_tup (pv 1) pe_int (fun _ _ => rfl)) (pe_ix ix_tup (pv 1) pe_int (fun _ _ => rfl))) pa_nil))))) pss_nil) pss_never)))), ?_⟩
        have dg := dget "if"
        rw [vw.iff] at dg
        refine ⟨_, rfl, a, _, 0, _, rfl, rfl, SqT.of ea, at0 _ _, _, rfl, rfl, _, rfl, seq_ne ne_ni.symm ⟨_, rfl, rfl, _, rfl, seq_ne ne_ci.symm ⟨_, rfl, _, rfl, d, _, rfl, dg, _, rfl, iteF ?_⟩⟩⟩
        refine ⟨_, rfl, rfl, _, rfl, seq_eq rfl ⟨_, rfl, _, rfl, _, rfl, a, _, 1, _, rfl, rfl, SqT.of ea, at1 _ _ _, ?_⟩⟩
        refine ⟨d, x, W, en, cs, kvs, f, zx, rfl, al, hd, vf, vw, ci, hx, rfl, _, rfl, ?_⟩
        rw [dec_int']
        by_cases c : zx = 0
        · rw [decide_eq_true c]
          rw [if_pos c] at ez
          rw [ez] at k
          refine iteT ⟨_, rfl, a, _, 3, u, rfl, rfl, SqT.of ea, rfl, d, u, W, en, cs, kvs, f, zu, rfl, al, hd, vf, vw, ci, hz, k⟩
        · rw [decide_eq_false c]
          rw [if_neg c] at ez
          rw [ez] at k
          refine iteF ⟨_, rfl, a, _, 2, y, rfl, rfl, SqT.of ea, rfl, d, y, W, en, cs, kvs, f, zy, rfl, al, hd, vf, vw, ci, hy, k⟩
      · subst er
        obtain ⟨fo, fdo, hns, GO, ko, bo⟩ := hops s hs
        obtain ⟨n1, n2, n3, _⟩ := ops_not hs
        refine ⟨_, pss_cons (ps_set (i := 2) nd rfl (.inl rfl) (pe_ix ix_tup (pv 1) pe_int (fun _ _ => rfl)))
          (pss_cons (ps_if (pt_cmpR op_eq (pv 2) pe_str (nomark _)) pss_never pss_nil)
          (pss_cons (ps_if (pt_cmpR op_eq (pv 2) pe_str (nomark _)) pss_never pss_nil)
          (pss_cons (ps_if (pt_cmp (pc_din hu (pv 2) (pv 0))) pss_never pss_nil)
          (pss_cons (ps_if (pt_cmpR op_eq (pv 2) pe_str (nomark _)) pss_never pss_nil)
          (pss_cons (ps_set (i := 3) nd rfl (.inl rfl) (pe_ix ix_kdict (pe_glob (v := .ref dO) rfl hm rfl) (pv 2) (fun _ _ => rfl)))
          (pss_one (ps_ret (pe_callL (i := 3) GO hr2 rfl (Or.inl rfl) ko bo .nil pass0 (pa_cons (pe_call IH hrn rfl D.m D.k D.b .nil pass0 (pa_cons (pv 0) (pa_cons (pe_ix ix_tup (pv 1) pe_int (fun _ _ => rfl)) pa_nil))) (pa_cons (pe_call IH hrn rfl D.m D.k D.b .nil pass0 (pa_cons (pv 0) (pa_cons (pe_ix ix_tup (pv 1) pe_int (fun _ _ => rfl)) pa_nil))) pa_nil)))))))))), ?_⟩
        have dg := dget s
        rw [vw.ops s hs] at dg
        refine ⟨_, rfl, a, _, 0, _, rfl, rfl, SqT.of ea, at0 _ _, _, rfl, rfl, _, rfl, seq_ne n1 ⟨_, rfl, rfl, _, rfl, seq_ne n2 ⟨_, rfl, _, rfl, d, _, rfl, dg, _, rfl, iteF ?_⟩⟩⟩
        refine ⟨_, rfl, rfl, _, rfl, seq_ne n3 ⟨_, rfl, dO, _, .ref fo, rfl, rfl, ⟨es, nO, _, KD.at_, KD.lit, hns, rfl⟩, ?_⟩⟩
        refine ⟨rfl, _, rfl, _, rfl, a, _, 1, _, rfl, rfl, SqT.of ea, at1 _ _ _, d, x, W, en, cs, kvs, f, zx, rfl, al, hd, vf, vw, ci, hx, ?_⟩
        refine ⟨_, rfl, _, rfl, a, _, 2, y, rfl, rfl, SqT.of ea, rfl, d, y, W, en, cs, kvs, f, zy, rfl, al, hd, vf, vw, ci, hy, ?_⟩
        rw [ez] at k
        exact ⟨zx, zy, rfl, hx.sm, hy.sm, k⟩
end
end Q

namespace Q
open PySem L2
theorem merge3_le (a b c : Key × V) : (mergeK [] [a, b, c]).length ≤ 3 := by
  have h1 := putK_le [] a.1 a.2
  have h2 := putK_le (putK [] a.1 a.2) b.1 b.2
  have h3 := putK_le (putK (putK [] a.1 a.2) b.1 b.2) c.1 c.2
  rw [List.length_nil] at h1
  show (putK (putK (putK [] a.1 a.2) b.1 b.2) c.1 c.2).length ≤ 3
  omega
abbrev sNbr : Stmt := top 19
abbrev sFV : Stmt := top 37
abbrev sSC : Stmt := top 38
abbrev sSY : Stmt := top 39
abbrev sNX : Stmt := top 40
theorem paired_at {α β : Type} {R : α → β → Prop} {xs : List α} {as : List β} {i : Nat} {x : α} (p : Paired R xs as) (h : xs[i]? = some x) : ∃ k, as[i]? = some k ∧ R x k := by
  induction p generalizing i with
  | nil => simp at h
  | cons a _ ih =>
    cases i with
    | zero =>
      obtain rfl := Option.some.inj h
      exact ⟨_, rfl, a⟩
    | succ i => exact ih (by simpa using h)
theorem WebIn.same {C : Addr} {m : Int} {L : List (Addr × List Int)} {H H' : Hp} {w dx q r : Addr} {bs : List Addr} {nb : Nat → List Int} (h : WebIn C m L H w dx q r bs nb) (s : Same H H') : WebIn C m L H' w dx q r bs nb :=
  ⟨s _ _ h.at_, h.rows.same s, h.asc, h.nb⟩
def f3 (h m t : Int) : Str → Option V := upF (upF (upF noF "me" (.int h)) "many" (.int m)) "ties" (.int t)
def f5 (h m t r : Int) (ca : Addr) : Str → Option V := upF (upF (f3 h m t) "round" (.int r)) "cell" (.ref ca)
def fT (h m t r : Int) (ca : Addr) (o : Int) : Str → Option V := upF (f5 h m t r ca) "other" (.int o)
def fN (h m t r : Int) (ca : Addr) (k u le mo : Int) : Str → Option V := upF (upF (upF (upF (f5 h m t r ca) "heard" (.int k)) "sum" (.int u)) "least" (.int le)) "most" (.int mo)
theorem int3 {h m t : Int} (a : Sm h) (b : Sm m) (c : Sm t) : IntOn (f3 h m t) wS :=
  IntOn.int (W := ["me", "many"]) (IntOn.int (W := ["me"]) (IntOn.int (W := []) .nil a (by decide +kernel)) b (by decide +kernel)) c (by decide +kernel)
theorem dom3 {h m t : Int} : Dom (f3 h m t) ["ties", "many", "me"] := Dom.nil.up.up.up
theorem vw3 {h m t : Int} (a : Sm h) (b : Sm m) (c : Sm t) : Vw (f3 h m t) wS (enOf (f3 h m t)) := .of (int3 a b c) dom3 (by decide +kernel)
theorem int5 {h m t r : Int} {ca : Addr} (a : Sm h) (b : Sm m) (c : Sm t) (d : Sm r) : IntOn (f5 h m t r ca) ["me", "many", "ties", "round"] :=
  (IntOn.int (W := wS) (int3 a b c) d (by decide +kernel)).oth (by decide +kernel)
theorem dom5 {h m t r : Int} {ca : Addr} : Dom (f5 h m t r ca) ["cell", "round", "ties", "many", "me"] := dom3.up.up
theorem intT {h m t r o : Int} {ca : Addr} (a : Sm h) (b : Sm m) (c : Sm t) (d : Sm r) (e : Sm o) : IntOn (fT h m t r ca o) wT := IntOn.int (int5 a b c d) e (by decide +kernel)
theorem vwT {h m t r o : Int} {ca : Addr} (a : Sm h) (b : Sm m) (c : Sm t) (d : Sm r) (e : Sm o) : Vw (fT h m t r ca o) wT (enOf (fT h m t r ca o)) := .of (intT a b c d e) dom5.up (by decide +kernel)
theorem intN {h m t r k u le mo : Int} {ca : Addr} (a : Sm h) (b : Sm m) (c : Sm t) (d : Sm r) (e1 : Sm k) (e2 : Sm u) (e3 : Sm le) (e4 : Sm mo) : IntOn (fN h m t r ca k u le mo) wN :=
  IntOn.int (W := ["me", "many", "ties", "round", "heard", "sum", "least"]) (IntOn.int (W := ["me", "many", "ties", "round", "heard", "sum"]) (IntOn.int (W := ["me", "many", "ties", "round", "heard"]) (IntOn.int (int5 a b c d) e1 (by decide +kernel)) e2 (by decide +kernel)) e3 (by decide +kernel)) e4 (by decide +kernel)
theorem vwN {h m t r k u le mo : Int} {ca : Addr} (a : Sm h) (b : Sm m) (c : Sm t) (d : Sm r) (e1 : Sm k) (e2 : Sm u) (e3 : Sm le) (e4 : Sm mo) : Vw (fN h m t r ca k u le mo) wN (enOf (fN h m t r ca k u le mo)) := .of (intN a b c d e1 e2 e3 e4) dom5.up.up.up.up (by decide +kernel)
/-- what is said, by neighbours -/
def saidL (ns : List Int) (ft fs : Int → Int) : List (Int × Int) := (ns.filter fun o => decide (ft o ≠ 0)).map fun o => (o, fs o)
/-- a tuple or list of ints -/
def Num (H : Hp) (a : Addr) (ns : List Int) : Prop := H a = some (.tup (ns.map V.int)) ∨ H a = some (.lst (ns.map V.int))
theorem Num.same {H H' : Hp} {a : Addr} {ns : List Int} (h : Num H a ns) (s : Same H H') : Num H' a ns := h.imp (s _ _) (s _ _)
theorem Num.sq {K : PySem.W.Frag} {H : Hp} {a : Addr} {ns : List Int} (h : Num H a ns) : SqO K H a (ns.map V.int) := h.elim (fun e => .inr (SqT.of e)) (fun e => .inl (SqL.of e))
def spNbr (C : Addr) : Sp := fun vs H Q _ => ∃ (w dx q r : Addr) (m : Int) (L : List (Addr × List Int)) (bs : List Addr) (nb : Nat → List Int) (h : Nat), vs = [.ref w, .int (h : Int)] ∧ WebIn C m L H w dx q r bs nb ∧ h < m.toNat ∧ ∀ t, H t = some (.tup ((nb h).map V.int)) → Q (.ref t) H
def spFV (C : Addr) : Sp := fun vs H Q _ => ∃ (w dx q r : Addr) (m : Int) (L : List (Addr × List Int)) (bs : List Addr) (nb : Nat → List Int) (h : Nat), vs = [.ref w, .int (h : Int)] ∧ WebIn C m L H w dx q r bs nb ∧ h < m.toNat ∧
  ∀ d kvs H', H d = none → Same H H' → H' d = some (.dK kvs) → VF kvs (f3 h m (nb h).length) → kvs.length ≤ 3 → Q (.ref d) H'
/-- a web, a program, a house of it -/
structure HPre (C CP : Addr) (H : Hp) (w : Addr) (m : Int) (nb : Nat → List Int) (x : Addr) (s t y n : V) (h : Nat) : Prop where
  web : ∃ dx q r L bs, WebIn C m L H w dx q r bs nb
  prog : ∃ dx, H x = some (.ins CP dx (pf s t y n))
  lt : h < m.toNat
  m40 : m ≤ 40
  len : (nb h).length ≤ 64
  inn : ∀ o ∈ nb h, 0 ≤ o ∧ o < m
theorem HPre.same {C CP : Addr} {H H' : Hp} {w : Addr} {m : Int} {nb : Nat → List Int} {x : Addr} {s t y n : V} {h : Nat} (p : HPre C CP H w m nb x s t y n h) (z : Same H H') : HPre C CP H' w m nb x s t y n h := by
  obtain ⟨⟨dx, q, r, L, bs, a⟩, ⟨dp, b⟩, c, d, e, f⟩ := p
  exact ⟨⟨dx, q, r, L, bs, a.same z⟩, ⟨dp, z _ _ b⟩, c, d, e, f⟩
theorem HPre.smh {C CP : Addr} {H : Hp} {w : Addr} {m : Int} {nb : Nat → List Int} {x : Addr} {s t y n : V} {h : Nat} (p : HPre C CP H w m nb x s t y n h) : Sm (h : Int) ∧ Sm m ∧ Sm ((nb h).length : Int) := by
  have a := p.lt
  have b := p.m40
  have c := p.len
  unfold Sm
  omega
theorem HPre.smo {C CP : Addr} {H : Hp} {w : Addr} {m : Int} {nb : Nat → List Int} {x : Addr} {s t y n : V} {h : Nat} (p : HPre C CP H w m nb x s t y n h) {o : Int} (ho : o ∈ nb h) : Sm o := by
  have a := p.inn o ho
  have b := p.m40
  unfold Sm
  omega
def spSC (C CP : Addr) : Sp := fun vs H Q _ => ∃ (w x : Addr) (m : Int) (nb : Nat → List Int) (s t y n : V) (h : Nat) (q : Addr) (xs : List V) (zs : List Int), vs = [.ref w, .ref x, .int (h : Int)] ∧ HPre C CP H w m nb x s t y n h ∧
  s = .ref q ∧ H q = some (.tup xs) ∧ xs.length ≤ 4 ∧ Paired (EvV H wS (enOf (f3 h m (nb h).length)) [] 12) xs zs ∧ ∀ tq H', Same H H' → H' tq = some (.tup (zs.map V.int)) → Q (.ref tq) H'
def spSY (C CP : Addr) : Sp := fun vs H Q _ => ∃ (w x : Addr) (m : Int) (nb : Nat → List Int) (s t y n : V) (h : Nat) (r : Int) (ca : Addr) (cs : List Int) (ft fs : Int → Int), vs = [.ref w, .ref x, .int (h : Int), .int r, .ref ca] ∧ HPre C CP H w m nb x s t y n h ∧ Sm r ∧
  H ca = some (.tup (cs.map V.int)) ∧ (∀ o ∈ nb h, EvV H wT (enOf (fT h m (nb h).length r ca o)) cs 12 t (ft o) ∧ EvV H wT (enOf (fT h m (nb h).length r ca o)) cs 12 y (fs o)) ∧
  ∀ (tq : Addr) (rs : List (Addr × (Int × Int))) H', Same H H' → H' tq = some (.tup (rs.map fun p => V.ref p.1)) → (∀ p ∈ rs, H' p.1 = some (.tup [.int p.2.1, .int p.2.2])) → rs.map (·.2) = saidL (nb h) ft fs → Q (.ref tq) H'
def spNX (C CP : Addr) : Sp := fun vs H Q _ => ∃ (w x : Addr) (m : Int) (nb : Nat → List Int) (s t y n : V) (h : Nat) (r : Int) (ca na : Addr) (cs ns : List Int) (le mo : Int) (q : Addr) (xs : List V) (zs : List Int), vs = [.ref w, .ref x, .int (h : Int), .int r, .ref ca, .ref na] ∧ HPre C CP H w m nb x s t y n h ∧ Sm r ∧
  H ca = some (.tup (cs.map V.int)) ∧ Num H na ns ∧ ns.length ≤ 64 ∧ (∀ z ∈ ns, Sm z) ∧ IsLeast 0 ns le ∧ IsMost 0 ns mo ∧ n = .ref q ∧ H q = some (.tup xs) ∧ xs.length ≤ 4 ∧ Paired (EvV H wN (enOf (fN h m (nb h).length r ca ns.length (bb ns.sum) le mo)) cs 12) xs zs ∧
  ∀ tq H', Same H H' → H' tq = some (.tup (zs.map V.int)) → Q (.ref tq) H'
theorem least_sm {ns : List Int} {m : Int} (h : IsLeast 0 ns m) (k : ∀ z ∈ ns, Sm z) : Sm m := by
  rcases h with ⟨_, rfl⟩ | ⟨h, _⟩
  · unfold Sm; omega
  · exact k m h
theorem most_sm {ns : List Int} {m : Int} (h : IsMost 0 ns m) (k : ∀ z ∈ ns, Sm z) : Sm m := by
  rcases h with ⟨_, rfl⟩ | ⟨h, _⟩
  · unfold Sm; omega
  · exact k m h
section
variable {P : Program} {w : World} {K : PySem.W.Frag} {mg : Str → Option Value} {base : Heap}
/-- the defs that a round leans on -/
structure RDefs (K : PySem.W.Frag) (mg : Str → Option Value) where
  fB : Addr
  dB : FuncData
  DB : Df K mg "brought_back" sBB ["number"] fB dB
  fN : Addr
  dN : FuncData
  DN : Df K mg "neighbours" sNbr ["web", "house"] fN dN
  fV : Addr
  dV : FuncData
  DV : Df K mg "first_view" sFV ["web", "house"] fV dV
  fC : Addr
  dC : FuncData
  DC : Df K mg "come_to" sCT ["view", "expression"] fC dC
theorem scNbr : FnScope ["web", "house"] ["web", "house"] (defScope sNbr) := ⟨rfl, rfl, rfl, by decide +kernel, rfl, by decide +kernel, by decide +kernel⟩
theorem ok_nbr {f C : Addr} {fd : FuncData} (F : Fun K "neighbours" "neighbours" sNbr f fd) (B : Bts mg) (T : WTxt K mg C) (D : WDefs K mg) : FnOk P w K mg base CX0 3 f fd ["web", "house"] (spNbr C) := by
  have GN : FnOk P w K mg base CX0 2 D.fN D.dN ["limit", "thing"] (spNum K) := ok_num D.DN.F B D.DP
  refine F.ok scNbr (fun vs H Q E h => ?_) (fun cdv A outer s H vs Q E hr h => ?_)
  · obtain ⟨w, dx, q, r, m, L, bs, nb, h, rfl, _⟩ := h
    rfl
  · obtain ⟨w, dx, q, r, m, L, bs, nb, h, rfl, x, lt, k⟩ := h
    refine ⟨_, pss_cons (ps_if (pt_not (pt_val (pe_call GN hr rfl D.DN.m D.DN.k D.DN.b .nil pass0 (pa_cons (pe_fld (pv 0) rfl) (pa_cons (pv 1) pa_nil))))) pss_never pss_nil)
      (pss_one (ps_ret (pe_ix ix_tup (pe_fld (pv 0) rfl) (pv 1) (fun _ _ => rfl)))), ?_⟩
    refine ⟨_, rfl, w, C, dx, _, _, rfl, x.at_, T.cl, T.nM, wf_many _ _ _, _, rfl, m, _, rfl, ?_⟩
    refine .inl ⟨_, rfl, _, rfl, ?_⟩
    have e : (decide (0 ≤ (h : Int)) && decide ((h : Int) < m)) = true := by rw [decide_eq_true (by omega), decide_eq_true (by omega)]; rfl
    rw [e]
    refine iteF ?_
    have ul : h < bs.length := by rw [x.rows.len]; exact lt
    have gu : bs[h]? = some bs[h] := List.getElem?_eq_getElem ul
    exact ⟨_, rfl, w, C, dx, _, _, rfl, x.at_, T.cl, T.nB, wf_beside _ _ _, _, rfl, r, _, (h : Int), _, rfl, rfl, SqT.of x.rows.at_, atI_nat (map_get gu), k _ (x.rows.row _ _ gu)⟩
theorem scFV : FnScope ["web", "house"] ["web", "house"] (defScope sFV) := ⟨rfl, rfl, rfl, by decide +kernel, rfl, by decide +kernel, by decide +kernel⟩
theorem ok_fv {f C : Addr} {fd : FuncData} (F : Fun K "first_view" "first_view" sFV f fd) (B : Bts mg) (T : WTxt K mg C) (D : WDefs K mg) (R : RDefs K mg) : FnOk P w K mg base CX0 4 f fd ["web", "house"] (spFV C) := by
  have GN : FnOk P w K mg base CX0 3 R.fN R.dN ["web", "house"] (spNbr C) := ok_nbr R.DN.F B T D
  refine F.ok scFV (fun vs H Q E h => ?_) (fun cdv A outer s H vs Q E hr h => ?_)
  · obtain ⟨w, dx, q, r, m, L, bs, nb, h, rfl, _⟩ := h
    rfl
  · obtain ⟨w, dx, q, r, m, L, bs, nb, h, rfl, x, lt, k⟩ := h
    refine ⟨_, pss_one (ps_ret (pe_disp (pps_cons pe_str (pv 1) (pps_cons pe_str (pe_fld (pv 0) rfl) (pps_cons pe_str (pe_callB call_len_seq (by rfl) B.len PySem.boot_len (pa_cons (pe_call GN hr rfl R.DN.m R.DN.k R.DN.b .nil pass0 (pa_cons (pv 0) (pa_cons (pv 1) pa_nil))) pa_nil)) pps_nil))) (by rfl) (by rfl) (by intro e; cases e) (by show 3 ≤ 15; decide))), ?_⟩
    intro d hd
    have s1 := sN (o := .dK []) hd
    have x1 := x.same s1
    refine ⟨_, rfl, _, rfl, w, C, dx, _, _, rfl, x1.at_, T.cl, T.nM, wf_many _ _ _, _, rfl, _, rfl, w, dx, q, r, m, L, bs, nb, h, rfl, x1, lt, fun t ht => ?_⟩
    refine ⟨t, _, rfl, .inr (SqT.of ht), upd_same, [(.inr "me", .int (h : Int)), (.inr "many", .int m), (.inr "ties", .int (((nb h).map V.int).length : Int))], rfl, (by show 3 ≤ 15; decide), ?_⟩
    rw [List.length_map]
    refine k d _ _ hd (sNew s1 hd) upd_same (((VF.nil.put "me" (.int (h : Int))).put "many" (.int m)).put "ties" (.int ((nb h).length : Int))) ?_
    exact merge3_le _ _ _
theorem scSC : FnScope ["web", "program", "house", "view", "start"] ["web", "program", "house"] (defScope sSC) := ⟨rfl, rfl, rfl, by decide +kernel, rfl, by decide +kernel, by decide +kernel⟩
theorem ok_sc {f C CP : Addr} {fd : FuncData} (F : Fun K "starts_come_to" "starts_come_to" sSC f fd) (B : Bts mg) (T : WTxt K mg C) (TP : PTxt K mg CP) (D : WDefs K mg) (R : RDefs K mg) (O : OpsT P w K mg base) : FnOk P w K mg base CX0 16 f fd ["web", "program", "house"] (spSC C CP) := by
  have GV : FnOk P w K mg base CX0 4 R.fV R.dV ["web", "house"] (spFV C) := ok_fv R.DV.F B T D R
  have GC : FnOk P w K mg base CX0 15 R.fC R.dC ["view", "expression"] (spCT 12) := ok_ct R.DC O 12
  refine F.ok scSC (fun vs H Q E h => ?_) (fun cdv A outer s0 H vs Q E hr h => ?_)
  · obtain ⟨w, x, m, nb, s, t, y, n, h, q, xs, zs, rfl, _⟩ := h
    rfl
  · obtain ⟨w, x, m, nb, s, t, y, n, h, q, xs, zs, rfl, pre, rfl, hq, hl, pz, k⟩ := h
    have nd := scSC.nd
    have hr4 : Room 4 _ := hr.mono (by decide)
    refine ⟨_, pss_cons (ps_set (i := 3) nd rfl (.inr rfl) (pe_call GV hr4 rfl R.DV.m R.DV.k R.DV.b .nil pass0 (pa_cons (pv 0) (pa_cons (pv 2) pa_nil))))
      (pss_one (ps_ret (pe_callTy call_tuple_of (by rfl) B.tuple PyProof.Rows.boot_tuple (pa_cons (pe_lc (own := [("start", 4)]) (g := gName 4) (tt := tYes) rfl nd (pi_tup (pe_fld (pv 1) rfl))
        (blkOk_by (N := ["web", "program", "house", "view", "start"]) (sc := defScope sSC) (by decide +kernel)) (fun _ _ _ _ _ => pg_name (i := 4) nd rfl (.inl rfl)) (fun _ _ _ _ _ => pts_nil)
        (fun _ _ _ _ _ => pe_call GC hr rfl R.DC.m R.DC.k R.DC.b .nil pass0 (pa_cons (pv 3) (pa_cons (pv 4) pa_nil)))) pa_nil)))), ?_⟩
    obtain ⟨dx, qw, r, L, bs, hw⟩ := pre.web
    obtain ⟨dp, hx⟩ := pre.prog
    obtain ⟨sh, smm, st⟩ := pre.smh
    refine ⟨_, rfl, _, rfl, w, dx, qw, r, m, L, bs, nb, h, rfl, hw, pre.lt, fun d kvs H1 nd1 s1 ed vf lk => ?_⟩
    refine ⟨_, rfl, x, CP, dp, _, _, rfl, s1 _ _ hx, TP.cl, TP.nS, pf_starts _ _ _ _, q, rfl, ⟨_, SqT.of (s1 _ _ hq)⟩, fun D0 hD => lc_tup (K := K) (a := q) (xs := xs) (fun i H' => H' D0 = some (.lst ((zs.take i).map V.int)) ∧ Same H1 H') ?_ ?_ ?_ ?_⟩
    · exact ⟨upd_same, sN hD⟩
    · rintro i H2 hi ⟨_, s2⟩
      exact SqT.of (s2 _ _ (s1 _ _ hq))
    · rintro i v H2 hv ⟨eD, s2⟩
      obtain ⟨z, hz, ev⟩ := paired_at pz hv
      have hi : i < xs.length := (List.getElem?_eq_some_iff.mp hv).1
      refine ⟨rfl, _, rfl, _, rfl, d, v, wS, _, [], kvs, _, z, rfl, alS, s2 _ _ ed, vf, vw3 sh smm st, .inl rfl, ev.same (sT s1 s2), ?_⟩
      refine ⟨_, eD, ?_, ?_, sNew s2 hD⟩
      · rw [List.length_map, List.length_take]
        exact Nat.lt_of_lt_of_le (show min i zs.length < 64 by omega) (by decide)
      · rw [upd_same, List.take_add_one, hz, List.map_append]
        rfl
    · rintro H2 ⟨eD, s2⟩
      have hlz : xs.length = zs.length := Paired.length pz
      rw [hlz, List.take_length] at eD
      refine ⟨D0, _, rfl, .inl ⟨SqL.of eD, fun t1 ht1 => ?_⟩⟩
      exact k t1 _ (sT s1 (sT s2 (sN ht1))) upd_same
end
end Q

namespace Q
open PySem L2
/-- the dict tells what f tells, but at x -/
def VFx (kvs : List (Key × V)) (f : Str → Option V) (x : Str) : Prop := ∀ s : Str, s ≠ x → valV kvs (.inr s) = f s
theorem VF.x {kvs : List (Key × V)} {f : Str → Option V} (h : VF kvs f) (x : Str) : VFx kvs f x := fun s _ => h s
theorem VFx.put {kvs : List (Key × V)} {f : Str → Option V} {x : Str} (h : VFx kvs f x) (v : V) : VF (putK kvs (.inr x) v) (upF f x v) := fun t => by
  rw [valV_put]
  unfold upF
  by_cases c : t = x
  · rw [if_pos c, if_pos (by rw [c])]
  · rw [if_neg c, if_neg (fun e => c (Sum.inr.inj e)), h t c]
theorem VF.back {kvs : List (Key × V)} {f : Str → Option V} {x : Str} {v : V} (h : VF kvs (upF f x v)) : VFx kvs f x := fun s hs => by
  rw [h s, upF_ne hs]
theorem said_snoc (ns : List Int) (ft fs : Int → Int) (i : Nat) (o : Int) (h : ns[i]? = some o) : saidL (ns.take (i + 1)) ft fs = saidL (ns.take i) ft fs ++ (if ft o ≠ 0 then [(o, fs o)] else []) := by
  unfold saidL
  rw [List.take_add_one, h, List.filter_append, List.map_append]
  congr 1
  by_cases c : ft o = 0
  · simp [c]
  · simp [c]
theorem said_le (ns : List Int) (ft fs : Int → Int) : (saidL ns ft fs).length ≤ ns.length := by
  unfold saidL
  rw [List.length_map]
  exact List.length_filter_le _ _
section
variable {P : Program} {w : World} {K : PySem.W.Frag} {mg : Str → Option Value} {base : Heap}
theorem scSY : FnScope ["web", "program", "house", "at", "cells", "view", "said", "other"] ["web", "program", "house", "at", "cells"] (defScope sSY) := ⟨rfl, rfl, rfl, by decide +kernel, rfl, by decide +kernel, by decide +kernel⟩
theorem ok_sy {f C CP : Addr} {fd : FuncData} (F : Fun K "sayings_come_to" "sayings_come_to" sSY f fd) (B : Bts mg) (T : WTxt K mg C) (TP : PTxt K mg CP) (D : WDefs K mg) (R : RDefs K mg) (O : OpsT P w K mg base) : FnOk P w K mg base CX0 16 f fd ["web", "program", "house", "at", "cells"] (spSY C CP) := by
  have GN : FnOk P w K mg base CX0 3 R.fN R.dN ["web", "house"] (spNbr C) := ok_nbr R.DN.F B T D
  have GV : FnOk P w K mg base CX0 4 R.fV R.dV ["web", "house"] (spFV C) := ok_fv R.DV.F B T D R
  have GC : FnOk P w K mg base CX0 15 R.fC R.dC ["view", "expression"] (spCT 12) := ok_ct R.DC O 12
  refine F.ok scSY (fun vs H Q E h => ?_) (fun cdv A outer s0 H vs Q E hr h => ?_)
  · obtain ⟨w, x, m, nb, s, t, y, n, h, r, ca, cs, ft, fs, rfl, _⟩ := h
    rfl
  · obtain ⟨w, x, m, nb, s, t, y, n, h, r, ca, cs, ft, fs, rfl, pre, sr, hca, hev, k⟩ := h
    have nd := scSY.nd
    have hu := hu_of hr
    have hr4 : Room 4 _ := hr.mono (by decide)
    have hr3 : Room 3 _ := hr.mono (by decide)
    refine ⟨_, pss_cons (ps_set (i := 5) nd rfl (.inl rfl) (pe_call GV hr4 rfl R.DV.m R.DV.k R.DV.b .nil pass0 (pa_cons (pv 0) (pa_cons (pv 2) pa_nil))))
      (pss_cons (ps_dput hu (pv 5) pe_str (pv 3) rfl)
      (pss_cons (ps_dput hu (pv 5) pe_str (pv 4) rfl)
      (pss_cons (ps_set (i := 6) nd rfl (.inl rfl) (pe_lst pa_nil))
      (pss_cons (ps_for PassesOwn.never rfl (pi_tup (pe_call GN hr3 rfl R.DN.m R.DN.k R.DN.b .nil pass0 (pa_cons (pv 0) (pa_cons (pv 2) pa_nil)))) (pg_name (i := 7) nd rfl (.inl rfl))
        (pss_cons (ps_dput hu (pv 5) pe_str (pv 7) rfl)
        (pss_one (ps_if (pt_cmpR op_ne (pe_call GC hr rfl R.DC.m R.DC.k R.DC.b .nil pass0 (pa_cons (pv 5) (pa_cons (pe_fld (pv 1) rfl) pa_nil))) pe_int (nomark _))
          (pss_one (ps_expr (pe_bm PySem.F.plainAttrs_list PySem.F.slot_list_append PySem.F.type_list_append mt_append (pv 6) (pa_cons (pe_tup (pa_cons (pv 7) (pa_cons (pe_call GC hr rfl R.DC.m R.DC.k R.DC.b .nil pass0 (pa_cons (pv 5) (pa_cons (pe_fld (pv 1) rfl) pa_nil))) pa_nil))) pa_nil)))) pss_nil))))
      (pss_one (ps_ret (pe_callTy call_tuple_of (by rfl) B.tuple PyProof.Rows.boot_tuple (pa_cons (pv 6) pa_nil)))))))), ?_⟩
    obtain ⟨dx, qw, rw0, L, bs, hw⟩ := pre.web
    obtain ⟨dp, hx⟩ := pre.prog
    obtain ⟨sh, smm, st⟩ := pre.smh
    refine ⟨_, rfl, _, rfl, w, dx, qw, rw0, m, L, bs, nb, h, rfl, hw, pre.lt, fun d kvs H1 hd0 s1 ed vf lk => ?_⟩
    refine ⟨_, rfl, _, rfl, d, _, rfl, DPut.k (k := .inr "round") ed (Nat.lt_of_le_of_lt lk (by decide)), ?_⟩
    have lk2 := putK_le kvs (.inr "round") (.int r)
    have vf2 := vf.put "round" (.int r)
    refine ⟨_, rfl, _, rfl, d, _, rfl, DPut.k (k := .inr "cell") upd_same (Nat.lt_of_le_of_lt (Nat.le_trans lk2 (Nat.succ_le_succ lk)) (by decide)), ?_⟩
    have lk3 := putK_le (putK kvs (.inr "round") (.int r)) (.inr "cell") (.ref ca)
    have vf3 := vf2.put "cell" (.ref ca)
    have s3 : Same H (L2.upd (L2.upd H1 d (.dK (putK kvs (.inr "round") (.int r)))) d (.dK (putK (putK kvs (.inr "round") (.int r)) (.inr "cell") (.ref ca)))) := sNew (sNew s1 hd0) hd0
    have ed3 : (L2.upd (L2.upd H1 d (.dK (putK kvs (.inr "round") (.int r)))) d (.dK (putK (putK kvs (.inr "round") (.int r)) (.inr "cell") (.ref ca)))) d = some (.dK (putK (putK kvs (.inr "round") (.int r)) (.inr "cell") (.ref ca))) := upd_same
    have lk5 : (putK (putK kvs (.inr "round") (.int r)) (.inr "cell") (.ref ca)).length ≤ 5 := by omega
    revert s3 ed3 vf3 lk5
    generalize putK (putK kvs (.inr "round") (.int r)) (.inr "cell") (.ref ca) = kv3
    generalize L2.upd (L2.upd H1 d (.dK (putK kvs (.inr "round") (.int r)))) d (.dK kv3) = H3
    intro vf3 s3 ed3 lk5
    refine ⟨Nat.zero_le _, fun sd hsd => ?_⟩
    have s4 : Same H (L2.upd H3 sd (.lst [])) := sT s3 (sN hsd)
    have nsd : H sd = none := sNo s3 hsd
    have nds : d ≠ sd := ne_of_none ed3 hsd
    refine ⟨_, rfl, _, rfl, w, dx, qw, rw0, m, L, bs, nb, h, rfl, hw.same s4, pre.lt, fun tn htn => ?_⟩
    refine ⟨tn, rfl, ⟨_, SqT.of htn⟩, for_tup (K := K) (a := tn) (xs := (nb h).map V.int) (fun i σ H' => ∃ (x7 : Option V) (kv : List (Key × V)) (rs : List (Addr × (Int × Int))), σ = [some (.ref w), some (.ref x), some (.int (h : Int)), some (.int r), some (.ref ca), some (.ref d), some (.ref sd), x7] ∧ H' d = some (.dK kv) ∧ VFx kv (f5 h m (nb h).length r ca) "other" ∧ kv.length ≤ 5 + i ∧
      H' sd = some (.lst (rs.map fun p => V.ref p.1)) ∧ (∀ p ∈ rs, H' p.1 = some (.tup [.int p.2.1, .int p.2.2])) ∧ rs.map (·.2) = saidL ((nb h).take i) ft fs ∧ H' tn = some (.tup ((nb h).map V.int)) ∧ Same H H') ?_ ?_ ?_ ?_⟩
    · exact ⟨none, kv3, [], rfl, by rw [upd_ne nds]; exact ed3, vf3.x _, lk5, upd_same, fun p hp => absurd hp List.not_mem_nil, rfl, htn, s4⟩
    · rintro i σ H' hi ⟨x7, kv, rs, rfl, _, _, _, _, _, _, etn, _⟩
      exact SqT.of etn
    · rintro i v σ H4 hv ⟨x7, kv, rs, rfl, ed4, vf4, lk4, esd, hrs, ers, etn, s5⟩
      obtain ⟨o, ho, rfl⟩ := map_inv hv
      have hi : i < (nb h).length := (List.getElem?_eq_some_iff.mp ho).1
      have hmem := List.mem_of_getElem? ho
      have h64 := pre.len
      have nd0 : H d = none := by
        cases e : H d with
        | none => rfl
        | some o' =>
          rw [s1 _ _ e] at ed
          exact absurd hd0 (by rw [e]; simp)
      refine ⟨_, rfl, _, rfl, d, _, rfl, DPut.k (k := .inr "other") ed4 (Nat.lt_of_le_of_lt lk4 (Nat.lt_of_lt_of_le (show 5 + i < 100 by omega) (by decide))), ?_⟩
      have vf6 := vf4.put (.int o)
      have lk6 := putK_le kv (.inr "other") (.int o)
      have s6 : Same H (L2.upd H4 d (.dK (putK kv (.inr "other") (.int o)))) := sNew s5 nd0
      have ed6 : (L2.upd H4 d (.dK (putK kv (.inr "other") (.int o)))) d = some (.dK (putK kv (.inr "other") (.int o))) := upd_same
      have esd6 : (L2.upd H4 d (.dK (putK kv (.inr "other") (.int o)))) sd = some (.lst (rs.map fun p => V.ref p.1)) := by rw [upd_ne nds.symm]; exact esd
      have hrs6 : ∀ p ∈ rs, (L2.upd H4 d (.dK (putK kv (.inr "other") (.int o)))) p.1 = some (.tup [.int p.2.1, .int p.2.2]) := fun p hp => by
        rw [upd_ne (ne_of (hrs p hp) ed4 (fun z => by cases z))]
        exact hrs p hp
      have etn6 : (L2.upd H4 d (.dK (putK kv (.inr "other") (.int o)))) tn = some (.tup ((nb h).map V.int)) := by
        rw [upd_ne (ne_of etn ed4 (fun z => by cases z))]
        exact etn
      revert vf6 s6 ed6 esd6 hrs6 etn6 lk6
      generalize putK kv (.inr "other") (.int o) = kv6
      generalize L2.upd H4 d (.dK kv6) = H6
      intro vf6 lk6 s6 ed6 esd6 hrs6 etn6
      obtain ⟨evt, evy⟩ := hev o hmem
      have vwo := vwT (ca := ca) sh smm st sr (pre.smo hmem)
      have ci : CellsIn H6 (fT h m (nb h).length r ca o) cs := .inr ⟨ca, by unfold fT f5; rw [upF_ne (by decide +kernel), upF_eq], s6 _ _ hca⟩
      refine ⟨_, rfl, _, rfl, x, CP, dp, _, _, rfl, s6 _ _ hx, TP.cl, TP.nT, pf_to _ _ _ _, d, t, wT, _, cs, kv6, _, ft o, rfl, alT, ed6, vf6, vwo, ci, evt.same s6, rfl, _, rfl, ?_⟩
      rw [dec_int']
      by_cases c : ft o = 0
      · rw [decide_eq_true c]
        refine ⟨_, kv6, rs, rfl, ed6, vf6.back, by omega, esd6, hrs6, ?_, etn6, s6⟩
        rw [said_snoc _ _ _ _ _ ho, if_neg (fun z => z c), List.append_nil, ers]
      · rw [decide_eq_false c]
        refine iteT ?_
        refine ⟨_, rfl, .inl ⟨rfl, _, SqL.of esd6⟩, _, rfl, _, rfl, _, rfl, x, CP, dp, _, _, rfl, s6 _ _ hx, TP.cl, TP.nY, pf_say _ _ _ _, d, y, wT, _, cs, kv6, _, fs o, rfl, alT, ed6, vf6, vwo, ci, evy.same s6, (by show 2 ≤ sizeLine; decide), fun tp htp => ?_⟩
        have s7 := sN (o := .tup [.int o, .int (fs o)]) htp
        have nsp : sd ≠ tp := ne_of_none esd6 htp
        refine ⟨sd, _, _, rfl, rfl, s7 _ _ esd6, ?_, ?_⟩
        · have l1 := congrArg List.length ers
          rw [List.length_map] at l1
          have l2 := said_le ((nb h).take i) ft fs
          rw [List.length_take] at l2
          rw [List.length_map]
          exact Nat.lt_of_lt_of_le (show rs.length < 100 by omega) (by decide)
        · refine ⟨_, kv6, rs ++ [(tp, (o, fs o))], rfl, ?_, vf6.back, by omega, ?_, ?_, ?_, ?_, ?_⟩
          · rw [upd_ne (ne_of ed6 esd6 (fun z => by cases z))]
            exact s7 _ _ ed6
          · rw [upd_same, List.map_append]
            rfl
          · intro p hp
            rcases List.mem_append.mp hp with hp | hp
            · have z := s7 _ _ (hrs6 p hp)
              rw [upd_ne (ne_of z (s7 _ _ esd6) (fun z => by cases z))]
              exact z
            · rw [List.mem_singleton.mp hp, upd_ne nsp.symm, upd_same]
          · rw [said_snoc _ _ _ _ _ ho, if_pos c, List.map_append, ers]
            rfl
          · have z := s7 _ _ etn6
            rw [upd_ne (ne_of z (s7 _ _ esd6) (fun z => by cases z))]
            exact z
          · exact sNew (sT s6 s7) nsd
    · rintro σ H4 ⟨x7, kv, rs, rfl, ed4, vf4, lk4, esd, hrs, ers, etn, s5⟩
      rw [List.length_map, List.take_length] at ers
      refine ⟨_, rfl, sd, _, rfl, .inl ⟨SqL.of esd, fun tq htq => ?_⟩⟩
      have s7 := sN (o := .tup (rs.map fun p => V.ref p.1)) htq
      exact k tq rs _ (sT s5 s7) upd_same (fun p hp => s7 _ _ (hrs p hp)) ers
end
end Q

namespace Q
open PySem L2
section
variable {P : Program} {w : World} {K : PySem.W.Frag} {mg : Str → Option Value} {base : Heap}
theorem scNX : FnScope ["web", "program", "house", "at", "cells", "numbers", "view", "expression"] ["web", "program", "house", "at", "cells", "numbers"] (defScope sNX) := ⟨rfl, rfl, rfl, by decide +kernel, rfl, by decide +kernel, by decide +kernel⟩
theorem ok_nx {f C CP : Addr} {fd : FuncData} (F : Fun K "nexts_come_to" "nexts_come_to" sNX f fd) (B : Bts mg) (hsum : mg "sum" = none) (T : WTxt K mg C) (TP : PTxt K mg CP) (D : WDefs K mg) (R : RDefs K mg) (O : OpsT P w K mg base) : FnOk P w K mg base CX0 16 f fd ["web", "program", "house", "at", "cells", "numbers"] (spNX C CP) := by
  have GB : FnOk P w K mg base CX0 1 R.fB R.dB ["number"] spBB := ok_bb R.DB.F
  have GV : FnOk P w K mg base CX0 4 R.fV R.dV ["web", "house"] (spFV C) := ok_fv R.DV.F B T D R
  have GC : FnOk P w K mg base CX0 15 R.fC R.dC ["view", "expression"] (spCT 12) := ok_ct R.DC O 12
  refine F.ok scNX (fun vs H Q E h => ?_) (fun cdv A outer s0 H vs Q E hr h => ?_)
  · obtain ⟨w, x, m, nb, s, t, y, n, h, r, ca, na, cs, ns, le, mo, q, xs, zs, rfl, _⟩ := h
    rfl
  · obtain ⟨w, x, m, nb, s, t, y, n, h, r, ca, na, cs, ns, le, mo, q, xs, zs, rfl, pre, sr, hca, num, ln, sns, hle, hmo, rfl, hq, hl, pz, k⟩ := h
    have nd := scNX.nd
    have hu := hu_of hr
    have hu64 := hr.units
    have hr4 : Room 4 _ := hr.mono (by decide)
    have hr1 : Room 1 _ := hr.mono (by decide)
    refine ⟨_, pss_cons (ps_set (i := 6) nd rfl (.inr rfl) (pe_call GV hr4 rfl R.DV.m R.DV.k R.DV.b .nil pass0 (pa_cons (pv 0) (pa_cons (pv 2) pa_nil))))
      (pss_cons (ps_dput hu (pv 6) pe_str (pv 3) rfl)
      (pss_cons (ps_dput hu (pv 6) pe_str (pv 4) rfl)
      (pss_cons (ps_dput hu (pv 6) pe_str (pe_callB call_len_seq (by rfl) B.len PySem.boot_len (pa_cons (pv 5) pa_nil)) rfl)
      (pss_cons (ps_dput hu (pv 6) pe_str (pe_call GB hr1 rfl R.DB.m R.DB.k R.DB.b .nil pass0 (pa_cons (pe_callB (r := rSumO K) (cr_sumO rfl) (by rfl) hsum PyProof.Rows.boot_sum (pa_cons (pv 5) pa_nil)) pa_nil)) rfl)
      (pss_cons (ps_dput hu (pv 6) pe_str (pe_callBK (r := rMinD K) (cr_minD rfl hu64) (by rfl) B.min PyProof.Rows.boot_min (pa_cons (pv 5) pa_nil) (pk_cons pe_int pk_nil)) rfl)
      (pss_cons (ps_dput hu (pv 6) pe_str (pe_callBK (r := rMaxD K) (cr_maxD rfl hu64) (by rfl) B.max PyProof.Rows.boot_max (pa_cons (pv 5) pa_nil) (pk_cons pe_int pk_nil)) rfl)
      (pss_one (ps_ret (pe_callTy call_tuple_of (by rfl) B.tuple PyProof.Rows.boot_tuple (pa_cons (pe_lc (own := [("expression", 7)]) (g := gName 7) (tt := tYes) rfl nd (pi_tup (pe_fld (pv 1) rfl))
        (blkOk_by (N := ["web", "program", "house", "at", "cells", "numbers", "view", "expression"]) (sc := defScope sNX) (by decide +kernel)) (fun _ _ _ _ _ => pg_name (i := 7) nd rfl (.inl rfl)) (fun _ _ _ _ _ => pts_nil)
        (fun _ _ _ _ _ => pe_call GC hr rfl R.DC.m R.DC.k R.DC.b .nil pass0 (pa_cons (pv 6) (pa_cons (pv 7) pa_nil)))) pa_nil)))))))))), ?_⟩
    obtain ⟨dx, qw, rw0, L, bs, hw⟩ := pre.web
    obtain ⟨dp, hx⟩ := pre.prog
    obtain ⟨sh, smm, st⟩ := pre.smh
    refine ⟨_, rfl, _, rfl, w, dx, qw, rw0, m, L, bs, nb, h, rfl, hw, pre.lt, fun d kvs H1 hd0 s1 ed vf lk => ?_⟩
    -- one word more
    have put : ∀ (H' : Hp) (kv : List (Key × V)) (f : Str → Option V) (j : Nat) (wd : Str) (v : V), Same H H' → H' d = some (.dK kv) → VF kv f → kv.length ≤ j → j ≤ 20 → ∃ H2, DPut H' d (.str wd) v H2 ∧ ∃ kv2, Same H H2 ∧ H2 d = some (.dK kv2) ∧ VF kv2 (upF f wd v) ∧ kv2.length ≤ j + 1 := fun H' kv f j wd v sH e vf' lj l20 => by
      refine ⟨_, DPut.k (k := .inr wd) e (Nat.lt_of_le_of_lt (Nat.le_trans lj l20) (by decide)), putK kv (.inr wd) v, sNew sH hd0, upd_same, vf'.put wd v, ?_⟩
      have := putK_le kv (.inr wd) v
      omega
    obtain ⟨H2, p2, kv2, s2, ed2, vf2, l2⟩ := put H1 kvs _ 3 "round" (.int r) s1 ed vf lk (by decide)
    refine ⟨_, rfl, _, rfl, d, H2, rfl, p2, ?_⟩
    obtain ⟨H3, p3, kv3, s3, ed3, vf3, l3⟩ := put H2 kv2 _ 4 "cell" (.ref ca) s2 ed2 vf2 l2 (by decide)
    refine ⟨_, rfl, _, rfl, d, H3, rfl, p3, ?_⟩
    refine ⟨_, rfl, na, _, rfl, (num.same s3).sq, ?_⟩
    rw [List.length_map]
    obtain ⟨H4, p4, kv4, s4, ed4, vf4, l4⟩ := put H3 kv3 _ 5 "heard" (.int (ns.length : Int)) s3 ed3 vf3 l3 (by decide)
    refine ⟨_, rfl, d, H4, rfl, p4, ?_⟩
    refine ⟨_, rfl, na, ns, rfl, (num.same s4).sq, ns.sum, rfl, ?_⟩
    obtain ⟨H5, p5, kv5, s5, ed5, vf5, l5⟩ := put H4 kv4 _ 6 "sum" (.int (bb ns.sum)) s4 ed4 vf4 l4 (by decide)
    refine ⟨_, rfl, d, H5, rfl, p5, ?_⟩
    refine ⟨_, rfl, na, ns, 0, rfl, rfl, (num.same s5).sq, fun le' hle' => ?_⟩
    obtain rfl := hle.uniq hle'
    obtain ⟨H6, p6, kv6, s6, ed6, vf6, l6⟩ := put H5 kv5 _ 7 "least" (.int le) s5 ed5 vf5 l5 (by decide)
    refine ⟨_, rfl, d, H6, rfl, p6, ?_⟩
    refine ⟨_, rfl, na, ns, 0, rfl, rfl, (num.same s6).sq, fun mo' hmo' => ?_⟩
    obtain rfl := hmo.uniq hmo'
    obtain ⟨H7, p7, kv7, s7, ed7, vf7, l7⟩ := put H6 kv6 _ 8 "most" (.int mo) s6 ed6 vf6 l6 (by decide)
    refine ⟨_, rfl, d, H7, rfl, p7, ?_⟩
    have vwn := vwN (ca := ca) (k := (ns.length : Int)) (u := bb ns.sum) sh smm st sr (by unfold Sm; omega) (bb_sm _) (least_sm hle sns) (most_sm hmo sns)
    have ci : CellsIn H7 (fN h m (nb h).length r ca ns.length (bb ns.sum) le mo) cs := .inr ⟨ca, by unfold fN f5; rw [upF_ne (by decide +kernel), upF_ne (by decide +kernel), upF_ne (by decide +kernel), upF_ne (by decide +kernel), upF_eq], s7 _ _ hca⟩
    refine ⟨_, rfl, x, CP, dp, _, _, rfl, s7 _ _ hx, TP.cl, TP.nN, pf_nexts _ _ _ _, q, rfl, ⟨_, SqT.of (s7 _ _ hq)⟩, fun D0 hD => lc_tup (K := K) (a := q) (xs := xs) (fun i H' => H' D0 = some (.lst ((zs.take i).map V.int)) ∧ Same H7 H') ?_ ?_ ?_ ?_⟩
    · exact ⟨upd_same, sN hD⟩
    · rintro i H8 hi ⟨_, s8⟩
      exact SqT.of (s8 _ _ (s7 _ _ hq))
    · rintro i v H8 hv ⟨eD, s8⟩
      obtain ⟨z, hz, ev⟩ := paired_at pz hv
      have hi : i < xs.length := (List.getElem?_eq_some_iff.mp hv).1
      refine ⟨rfl, _, rfl, _, rfl, d, v, wN, _, cs, kv7, _, z, rfl, alN, s8 _ _ ed7, vf7, vwn, ci.same s8, ev.same (sT s7 s8), ?_⟩
      refine ⟨_, eD, ?_, ?_, sNew s8 hD⟩
      · rw [List.length_map, List.length_take]
        exact Nat.lt_of_lt_of_le (show min i zs.length < 64 by omega) (by decide)
      · rw [upd_same, List.take_add_one, hz, List.map_append]
        rfl
    · rintro H8 ⟨eD, s8⟩
      have hlz : xs.length = zs.length := Paired.length pz
      rw [hlz, List.take_length] at eD
      refine ⟨D0, _, rfl, .inl ⟨SqL.of eD, fun t1 ht1 => ?_⟩⟩
      exact k t1 _ (sT s7 (sT s8 (sN ht1))) upd_same
end
end Q

namespace Q
open PySem L2
abbrev sAS : Stmt := top 41
abbrev sAC : Stmt := top 42
/-- a tuple of small ints -/
def Smalls (H : Hp) (v : V) (zs : List Int) : Prop := ∃ a, v = .ref a ∧ H a = some (.tup (zs.map V.int)) ∧ ∀ z ∈ zs, Sm z
/-- of a known kind, its items too, if it is a tuple -/
def Kd1 (H : Hp) (v : V) : Prop := Kd H v ∧ ∀ a xs, v = .ref a → H a = some (.tup xs) → xs.length ≤ 200 ∧ ∀ x ∈ xs, Kd H x
theorem Kd1.same {H H' : Hp} {v : V} (h : Kd1 H v) (s : Same H H') : Kd1 H' v := ⟨h.1.same s, fun a xs e1 e2 => by
  obtain ⟨h1, h2⟩ := h.2 a xs e1 (tup_back h.1 s e1 e2)
  exact ⟨h1, fun x hx => (h2 x hx).same s⟩⟩
theorem Wh.kd1 {H : Hp} {v : V} (h : Wh H v) : Kd1 H v := ⟨h.kd, fun a xs e1 e2 => by
  subst e1
  obtain ⟨h1, h2⟩ := h.items e2
  exact ⟨h1, fun x hx => (h2 x hx).kd⟩⟩
theorem Smalls.back {H H' : Hp} {v : V} {zs : List Int} (k : Kd H v) (s : Same H H') (h : Smalls H' v zs) : Smalls H v zs := by
  obtain ⟨a, e1, e2, h3⟩ := h
  exact ⟨a, e1, tup_back k s e1 e2, h3⟩
theorem Smalls.same {H H' : Hp} {v : V} {zs : List Int} (h : Smalls H v zs) (s : Same H H') : Smalls H' v zs := by
  obtain ⟨a, e1, e2, h3⟩ := h
  exact ⟨a, e1, s _ _ e2, h3⟩
theorem smalls_of : ∀ {xs : List V}, (∀ x ∈ xs, ∃ z : Int, x = .int z ∧ Sm z) → ∃ zs : List Int, xs = zs.map V.int ∧ ∀ z ∈ zs, Sm z
  | [], _ => ⟨[], rfl, fun z h => absurd h List.not_mem_nil⟩
  | x :: r, h => by
    obtain ⟨z, rfl, hz⟩ := h x List.mem_cons_self
    obtain ⟨zs, rfl, hzs⟩ := smalls_of (xs := r) fun y hy => h y (List.mem_cons_of_mem _ hy)
    exact ⟨z :: zs, rfl, fun y hy => (List.mem_cons.mp hy).elim (fun e => by rw [e]; exact hz) (hzs y)⟩
theorem map_int_inj {xs ys : List Int} (h : xs.map V.int = ys.map V.int) : xs = ys := by
  induction xs generalizing ys with
  | nil =>
    cases ys with
    | nil => rfl
    | cons b s => cases h
  | cons a r ih =>
    cases ys with
    | nil => cases h
    | cons b s =>
      rw [List.map_cons, List.map_cons] at h
      obtain ⟨h1, h2⟩ := List.cons.inj h
      rw [V.int.inj h1, ih h2]
theorem Smalls.uniq {H : Hp} {v : V} {zs us : List Int} (h : Smalls H v zs) (g : Smalls H v us) : zs = us := by
  obtain ⟨a, rfl, e, _⟩ := h
  obtain ⟨a', e1, e', _⟩ := g
  cases e1
  rw [e] at e'
  exact map_int_inj (HO.tup.inj (Option.some.inj e'))
def spAS : Sp := fun vs H Q _ => ∃ v : V, vs = [v] ∧ Kd1 H v ∧ ∀ (b : Bool) H', Same H H' → (b = true ↔ ∃ zs, Smalls H v zs) → Q (.bl b) H'
def spAC (CP : Addr) : Sp := fun vs H Q _ => ∃ (x dp : Addr) (s t y n v : V) (q : Addr) (xs : List V), vs = [.ref x, v] ∧ H x = some (.ins CP dp (pf s t y n)) ∧ s = .ref q ∧ H q = some (.tup xs) ∧ Kd1 H v ∧ ∀ (b : Bool) H', Same H H' → (b = true ↔ ∃ zs, Smalls H v zs ∧ zs.length = xs.length) → Q (.bl b) H'
section
variable {P : Program} {w : World} {K : PySem.W.Frag} {mg : Str → Option Value} {base : Heap}
theorem scAS : FnScope ["thing", "part"] ["thing"] (defScope sAS) := ⟨rfl, rfl, rfl, by decide +kernel, rfl, by decide +kernel, by decide +kernel⟩
theorem ok_as {f fS fP : Addr} {fd dS dP : FuncData} (F : Fun K "are_smalls" "are_smalls" sAS f fd) (B : Bts mg) (hall : mg "all" = none) (DP : Df K mg "is_plain_int" sPlain ["thing"] fP dP) (DS : Df K mg "is_small" sSmall ["thing"] fS dS) : FnOk P w K mg base CX0 3 f fd ["thing"] spAS := by
  have GS : FnOk P w K mg base CX0 2 fS dS ["thing"] spSmall := ok_small DS.F B DP
  refine F.ok scAS (fun vs H Q E h => ?_) (fun cdv A outer s0 H vs Q E hr h => ?_)
  · obtain ⟨v, rfl, _⟩ := h
    rfl
  · obtain ⟨v, rfl, kd, k⟩ := h
    have nd := scAS.nd
    refine ⟨_, pss_one (ps_ret (pe_and (pe_callB call_isi (by rfl) B.isinstance PyProof.Rows.boot_isinstance (pa_cons (pv 0) (pa_cons (pe_bltn (v := .ty "tuple") rfl B.tuple PyProof.Rows.boot_tuple rfl) pa_nil)))
      (pe_one (pe_callB (cr_all rfl) (by rfl) hall PyProof.Rows.boot_all (pa_cons (pe_lc (own := [("part", 1)]) (g := gName 1) (tt := tYes) rfl nd (pi_tup (pv 0))
          (blkOk_by (N := ["thing", "part"]) (sc := defScope sAS) (by decide +kernel)) (fun _ _ _ _ _ => pg_name (i := 1) nd rfl (.inl rfl)) (fun _ _ _ _ _ => pts_nil)
          (fun _ _ _ _ _ => pe_call GS hr rfl DS.m DS.k DS.b .nil pass0 (pa_cons (pv 1) pa_nil))) pa_nil))))), ?_⟩
    obtain ⟨tt, bt, ty, kt0, h⟩ := kd.1.tyT (K := K)
    refine ⟨_, rfl, v, .ty "tuple", tt, .type "tuple", bt, rfl, .ty _, ty, kt0, _, rfl, ?_⟩
    have rs : Same H H := fun _ _ e => e
    rcases h with ⟨rfl, a, xs, rfl, ha⟩ | ⟨rfl, no⟩
    rotate_left
    · exact iteF (k false H rs ⟨fun z => (nomatch z), fun ⟨zs, a, e1, e2, _⟩ => (no a _ e1 e2).elim⟩)
    obtain ⟨hl, hk⟩ := kd.2 a xs rfl ha
    refine iteT ⟨_, rfl, a, rfl, ⟨_, SqT.of ha⟩, fun D hD => lc_tup (K := K) (a := a) (xs := xs) (fun i H' => ∃ bs : List Bool, H' D = some (.lst (bs.map V.bl)) ∧ bs.length = i ∧ (bs.all id = true ↔ ∀ x ∈ xs.take i, ∃ z : Int, x = .int z ∧ Sm z) ∧ Same H H') ?_ ?_ ?_ ?_⟩
    · exact ⟨[], upd_same, rfl, ⟨fun _ x hx => absurd hx (by simp), fun _ => rfl⟩, sN hD⟩
    · rintro i H1 hi ⟨bs, _, _, _, s1⟩
      exact SqT.of (s1 _ _ ha)
    · rintro i x H1 hx ⟨bs, eD, hlb, iff, s1⟩
      have hix : i < xs.length := (List.getElem?_eq_some_iff.mp hx).1
      have hm := List.mem_of_getElem? hx
      refine ⟨rfl, _, rfl, x, rfl, (hk x hm).same s1, fun b hb => ?_⟩
      refine ⟨_, eD, ?_, bs ++ [b], ?_, ?_, ?_, sNew s1 hD⟩
      · rw [List.length_map, hlb]
        exact Nat.lt_of_lt_of_le (show i < 200 by omega) (by decide)
      · rw [upd_same, List.map_append]
        rfl
      · rw [List.length_append, hlb]
        rfl
      · rw [List.all_append, Bool.and_eq_true, iff, List.take_add_one, hx]
        have e : ([b].all id = true) ↔ b = true := by simp
        rw [e, hb]
        constructor
        · rintro ⟨h1, h2⟩ y hy
          rcases List.mem_append.mp hy with hy | hy
          · exact h1 y hy
          · have ey : y = x := by simpa using hy
            rw [ey]
            exact h2
        · intro h
          exact ⟨fun y hy => h y (List.mem_append_left _ hy), h x (List.mem_append_right _ (by simp))⟩
    · rintro H1 ⟨bs, eD, hlb, iff, s1⟩
      rw [List.take_length] at iff
      refine ⟨D, bs, rfl, SqL.of eD, k _ _ s1 (iff.trans ⟨fun h => ?_, fun ⟨zs, a', e1, e2, h3⟩ => ?_⟩)⟩
      · obtain ⟨zs, rfl, hz⟩ := smalls_of h
        exact ⟨zs, a, rfl, ha, hz⟩
      · cases e1
        rw [ha] at e2
        obtain rfl := HO.tup.inj (Option.some.inj e2)
        intro x hx
        obtain ⟨z, hz, rfl⟩ := List.mem_map.mp hx
        exact ⟨z, rfl, h3 z hz⟩
theorem scAC : FnScope ["program", "thing"] ["program", "thing"] (defScope sAC) := ⟨rfl, rfl, rfl, by decide +kernel, rfl, by decide +kernel, by decide +kernel⟩
theorem ok_ac {f fA fS fP CP : Addr} {fd dA dS dP : FuncData} (F : Fun K "are_cells" "are_cells" sAC f fd) (B : Bts mg) (hall : mg "all" = none) (TP : PTxt K mg CP) (DP : Df K mg "is_plain_int" sPlain ["thing"] fP dP) (DS : Df K mg "is_small" sSmall ["thing"] fS dS) (DA : Df K mg "are_smalls" sAS ["thing"] fA dA) :
    FnOk P w K mg base CX0 4 f fd ["program", "thing"] (spAC CP) := by
  have GA : FnOk P w K mg base CX0 3 fA dA ["thing"] spAS := ok_as DA.F B hall DP DS
  refine F.ok scAC (fun vs H Q E h => ?_) (fun cdv A outer s0 H vs Q E hr h => ?_)
  · obtain ⟨x, dp, s, t, y, n, v, q, xs, rfl, _⟩ := h
    rfl
  · obtain ⟨x, dp, s, t, y, n, v, q, xs, rfl, hx, rfl, hq, kd, k⟩ := h
    refine ⟨_, pss_one (ps_ret (pe_and (pe_call GA hr rfl DA.m DA.k DA.b .nil pass0 (pa_cons (pv 1) pa_nil)) (pe_one (pe_cmpR op_eq (pe_callB call_len_seq (by rfl) B.len PySem.boot_len (pa_cons (pv 1) pa_nil)) (pe_callB call_len_seq (by rfl) B.len PySem.boot_len (pa_cons (pe_fld (pv 0) rfl) pa_nil)) (nomark _))))), ?_⟩
    refine ⟨_, rfl, v, rfl, kd, fun b H1 s1 hb => ⟨_, rfl, ?_⟩⟩
    cases b with
    | false => exact iteF (k false H1 s1 ⟨fun z => (nomatch z), fun ⟨zs, g, _⟩ => absurd (hb.mpr ⟨zs, g⟩) Bool.false_ne_true⟩)
    | true =>
      obtain ⟨zs, a, rfl, ha, hz⟩ := hb.mp rfl
      refine iteT ⟨_, rfl, a, _, rfl, .inr (SqT.of (s1 _ _ ha)), _, rfl, x, CP, dp, _, _, rfl, s1 _ _ hx, TP.cl, TP.nS, pf_starts _ _ _ _, q, xs, rfl, .inr (SqT.of (s1 _ _ hq)), rfl, ?_⟩
      rw [len_dec, List.length_map]
      refine k _ H1 s1 ⟨fun z => ⟨zs, ⟨a, rfl, ha, hz⟩, of_decide_eq_true z⟩, fun ⟨us, g, l⟩ => ?_⟩
      obtain rfl := g.uniq ⟨a, rfl, ha, hz⟩
      exact decide_eq_true l
end
end Q

namespace Q
open PySem L2
abbrev sSt : Stmt := top 43
abbrev sCR : Stmt := top 44
abbrev sSay : Stmt := top 45
abbrev sNxt : Stmt := top 46
theorem kd1_ints {H : Hp} {a : Addr} {zs : List Int} (e : H a = some (.tup (zs.map V.int))) (l : zs.length ≤ 200) : Kd1 H (.ref a) := ⟨.tup e, fun a' xs e1 e2 => by
  cases e1
  rw [e] at e2
  obtain rfl := HO.tup.inj (Option.some.inj e2)
  refine ⟨by rw [List.length_map]; exact l, fun x hx => ?_⟩
  obtain ⟨z, _, rfl⟩ := List.mem_map.mp hx
  exact .int z⟩
def spCR (C CP : Addr) : Sp := fun vs H Q _ => ∃ (w x : Addr) (m : Int) (nb : Nat → List Int) (s t y n : V) (h : Nat) (r : Int) (ca q : Addr) (cs : List Int) (xs : List V), vs = [.ref w, .ref x, .int (h : Int), .int r, .ref ca] ∧ HPre C CP H w m nb x s t y n h ∧ 0 ≤ r ∧ r ≤ 1000 ∧
  H ca = some (.tup (cs.map V.int)) ∧ (∀ z ∈ cs, Sm z) ∧ s = .ref q ∧ H q = some (.tup xs) ∧ xs.length ≤ 4 ∧ cs.length = xs.length ∧ ∀ H', Same H H' → Q .non H'
def spSay (C CP : Addr) : Sp := fun vs H Q E => ∃ (w x : Addr) (m : Int) (nb : Nat → List Int) (s t y n : V) (h : Nat) (r : Int) (ca q : Addr) (cs : List Int) (xs : List V), vs = [.ref w, .ref x, .int (h : Int), .int r, .ref ca] ∧ HPre C CP H w m nb x s t y n h ∧ 0 ≤ r ∧ r ≤ 1000 ∧
  H ca = some (.tup (cs.map V.int)) ∧ (∀ z ∈ cs, Sm z) ∧ s = .ref q ∧ H q = some (.tup xs) ∧ xs.length ≤ 4 ∧ cs.length = xs.length ∧ ∀ H1, Same H H1 → spSY C CP vs H1 Q E
def spNxt (C CP : Addr) : Sp := fun vs H Q E => ∃ (w x : Addr) (m : Int) (nb : Nat → List Int) (s t y n : V) (h : Nat) (r : Int) (ca q na : Addr) (cs ns : List Int) (xs : List V), vs = [.ref w, .ref x, .int (h : Int), .int r, .ref ca, .ref na] ∧ HPre C CP H w m nb x s t y n h ∧ 0 ≤ r ∧ r ≤ 1000 ∧
  H ca = some (.tup (cs.map V.int)) ∧ (∀ z ∈ cs, Sm z) ∧ s = .ref q ∧ H q = some (.tup xs) ∧ xs.length ≤ 4 ∧ cs.length = xs.length ∧ H na = some (.tup (ns.map V.int)) ∧ (∀ z ∈ ns, Sm z) ∧ ns.length ≤ 39 ∧ ∀ H1, Same H H1 → spNX C CP vs H1 Q E
section
variable {P : Program} {w : World} {K : PySem.W.Frag} {mg : Str → Option Value} {base : Heap}
/-- the defs that the asked functions lean on -/
structure SDefs (K : PySem.W.Frag) (mg : Str → Option Value) where
  fS : Addr
  dS : FuncData
  DS : Df K mg "is_small" sSmall ["thing"] fS dS
  fA : Addr
  dA : FuncData
  DA : Df K mg "are_smalls" sAS ["thing"] fA dA
  fC : Addr
  dC : FuncData
  DC : Df K mg "are_cells" sAC ["program", "thing"] fC dC
  fR : Addr
  dR : FuncData
  DR : Df K mg "check_round" sCR ["web", "program", "house", "at", "cells"] fR dR
  fT : Addr
  dT : FuncData
  DT : Df K mg "starts_come_to" sSC ["web", "program", "house"] fT dT
  fY : Addr
  dY : FuncData
  DY : Df K mg "sayings_come_to" sSY ["web", "program", "house", "at", "cells"] fY dY
  fX : Addr
  dX : FuncData
  DX : Df K mg "nexts_come_to" sNX ["web", "program", "house", "at", "cells", "numbers"] fX dX
theorem scSt : FnScope ["web", "program", "house"] ["web", "program", "house"] (defScope sSt) := ⟨rfl, rfl, rfl, by decide +kernel, rfl, by decide +kernel, by decide +kernel⟩
theorem num_ok {h : Nat} {m : Int} (lt : h < m.toNat) : (decide (0 ≤ (h : Int)) && decide ((h : Int) < m)) = true := by
  rw [decide_eq_true (by omega), decide_eq_true (by omega)]
  rfl
theorem ok_st {f C CP : Addr} {fd : FuncData} (F : Fun K "start_cells" "start_cells" sSt f fd) (B : Bts mg) (T : WTxt K mg C) (TP : PTxt K mg CP) (D : WDefs K mg) (R : RDefs K mg) (S : SDefs K mg) (O : OpsT P w K mg base) : FnOk P w K mg base CX0 17 f fd ["web", "program", "house"] (spSC C CP) := by
  have GN : FnOk P w K mg base CX0 2 D.fN D.dN ["limit", "thing"] (spNum K) := ok_num D.DN.F B D.DP
  have GT : FnOk P w K mg base CX0 16 S.fT S.dT ["web", "program", "house"] (spSC C CP) := ok_sc S.DT.F B T TP D R O
  refine F.ok scSt (fun vs H Q E h => ?_) (fun cdv A outer s0 H vs Q E hr h => ?_)
  · obtain ⟨w, x, m, nb, s, t, y, n, h, q, xs, zs, rfl, _⟩ := h
    rfl
  · have h0 := h
    obtain ⟨w, x, m, nb, s, t, y, n, h, q, xs, zs, rfl, pre, _⟩ := h
    have hr2 : Room 2 _ := hr.mono (by decide)
    obtain ⟨dx, qw, rw0, L, bs, hw⟩ := pre.web
    refine ⟨_, pss_cons (ps_if (pt_not (pt_val (pe_call GN hr2 rfl D.DN.m D.DN.k D.DN.b .nil pass0 (pa_cons (pe_fld (pv 0) rfl) (pa_cons (pv 2) pa_nil))))) pss_never pss_nil)
      (pss_one (ps_ret (pe_call GT hr rfl S.DT.m S.DT.k S.DT.b .nil pass0 (pa_cons (pv 0) (pa_cons (pv 1) (pa_cons (pv 2) pa_nil)))))), ?_⟩
    refine ⟨_, rfl, w, C, dx, _, _, rfl, hw.at_, T.cl, T.nM, wf_many _ _ _, _, rfl, m, _, rfl, .inl ⟨_, rfl, _, rfl, ?_⟩⟩
    rw [num_ok pre.lt]
    exact iteF ⟨_, rfl, _, rfl, _, rfl, h0⟩
theorem scCR : FnScope ["web", "program", "house", "at", "cells"] ["web", "program", "house", "at", "cells"] (defScope sCR) := ⟨rfl, rfl, rfl, by decide +kernel, rfl, by decide +kernel, by decide +kernel⟩
theorem ok_cr {f C CP : Addr} {fd : FuncData} (F : Fun K "check_round" "check_round" sCR f fd) (B : Bts mg) (hall : mg "all" = none) (hmr : ∃ t, mg "MOST_ROUND" = some (.int 1000 t)) (T : WTxt K mg C) (TP : PTxt K mg CP) (D : WDefs K mg) (S : SDefs K mg) : FnOk P w K mg base CX0 5 f fd ["web", "program", "house", "at", "cells"] (spCR C CP) := by
  have GN : FnOk P w K mg base CX0 2 D.fN D.dN ["limit", "thing"] (spNum K) := ok_num D.DN.F B D.DP
  have GC : FnOk P w K mg base CX0 4 S.fC S.dC ["program", "thing"] (spAC CP) := ok_ac S.DC.F B hall TP D.DP S.DS S.DA
  obtain ⟨tr, hr0⟩ := hmr
  refine F.ok scCR (fun vs H Q E h => ?_) (fun cdv A outer s0 H vs Q E hr h => ?_)
  · obtain ⟨w, x, m, nb, s, t, y, n, h, r, ca, q, cs, xs, rfl, _⟩ := h
    rfl
  · obtain ⟨w, x, m, nb, s, t, y, n, h, r, ca, q, cs, xs, rfl, pre, r0, r1, hca, hcs, rfl, hq, lx, lc, k⟩ := h
    have hr2 : Room 2 _ := hr.mono (by decide)
    obtain ⟨dx, qw, rw0, L, bs, hw⟩ := pre.web
    obtain ⟨dp, hx⟩ := pre.prog
    refine ⟨_, pss_cons (ps_if (pt_not (pt_val (pe_call GN hr2 rfl D.DN.m D.DN.k D.DN.b .nil pass0 (pa_cons (pe_fld (pv 0) rfl) (pa_cons (pv 2) pa_nil))))) pss_never pss_nil)
      (pss_cons (ps_if (pt_not (pt_val (pe_call GN hr2 rfl D.DN.m D.DN.k D.DN.b .nil pass0 (pa_cons (pe_op op_add (pe_glob (v := .int 1000) rfl hr0 ⟨_, rfl⟩) pe_int) (pa_cons (pv 3) pa_nil))))) pss_never pss_nil)
      (pss_one (ps_if (pt_not (pt_val (pe_call GC hr rfl S.DC.m S.DC.k S.DC.b .nil pass0 (pa_cons (pv 1) (pa_cons (pv 4) pa_nil))))) pss_never pss_nil))), ?_⟩
    refine ⟨_, rfl, w, C, dx, _, _, rfl, hw.at_, T.cl, T.nM, wf_many _ _ _, _, rfl, m, _, rfl, .inl ⟨_, rfl, _, rfl, ?_⟩⟩
    rw [num_ok pre.lt]
    refine iteF ⟨_, _, rfl, rfl, _, rfl, _, _, rfl, .inl ⟨_, rfl, _, rfl, ?_⟩⟩
    have e1 : (decide (0 ≤ r) && decide (r < 1000 + 1)) = true := by rw [decide_eq_true r0, decide_eq_true (by omega)]; rfl
    rw [e1]
    refine iteF ⟨_, rfl, _, rfl, x, dp, _, t, y, n, _, q, xs, rfl, hx, rfl, hq, kd1_ints hca (by omega), fun b H1 s1 hb => ⟨_, rfl, ?_⟩⟩
    have : b = true := hb.mpr ⟨cs, ⟨ca, rfl, hca, hcs⟩, lc⟩
    subst this
    exact iteF (k H1 s1)
theorem scSay : FnScope ["web", "program", "house", "at", "cells"] ["web", "program", "house", "at", "cells"] (defScope sSay) := ⟨rfl, rfl, rfl, by decide +kernel, rfl, by decide +kernel, by decide +kernel⟩
theorem ok_say {f C CP : Addr} {fd : FuncData} (F : Fun K "sayings" "sayings" sSay f fd) (B : Bts mg) (hall : mg "all" = none) (hmr : ∃ t, mg "MOST_ROUND" = some (.int 1000 t)) (T : WTxt K mg C) (TP : PTxt K mg CP) (D : WDefs K mg) (R : RDefs K mg) (S : SDefs K mg) (O : OpsT P w K mg base) : FnOk P w K mg base CX0 17 f fd ["web", "program", "house", "at", "cells"] (spSay C CP) := by
  have GR : FnOk P w K mg base CX0 5 S.fR S.dR ["web", "program", "house", "at", "cells"] (spCR C CP) := ok_cr S.DR.F B hall hmr T TP D S
  have GY : FnOk P w K mg base CX0 16 S.fY S.dY ["web", "program", "house", "at", "cells"] (spSY C CP) := ok_sy S.DY.F B T TP D R O
  refine F.ok scSay (fun vs H Q E h => ?_) (fun cdv A outer s0 H vs Q E hr h => ?_)
  · obtain ⟨w, x, m, nb, s, t, y, n, h, r, ca, q, cs, xs, rfl, _⟩ := h
    rfl
  · obtain ⟨w, x, m, nb, s, t, y, n, h, r, ca, q, cs, xs, rfl, pre, r0, r1, hca, hcs, rfl, hq, lx, lc, k⟩ := h
    have hr5 : Room 5 _ := hr.mono (by decide)
    refine ⟨_, pss_cons (ps_expr (pe_call GR hr5 rfl S.DR.m S.DR.k S.DR.b .nil pass0 (pa_cons (pv 0) (pa_cons (pv 1) (pa_cons (pv 2) (pa_cons (pv 3) (pa_cons (pv 4) pa_nil)))))))
      (pss_one (ps_ret (pe_call GY hr rfl S.DY.m S.DY.k S.DY.b .nil pass0 (pa_cons (pv 0) (pa_cons (pv 1) (pa_cons (pv 2) (pa_cons (pv 3) (pa_cons (pv 4) pa_nil)))))))), ?_⟩
    refine ⟨_, rfl, _, rfl, _, rfl, _, rfl, _, rfl, w, x, m, nb, _, t, y, n, h, r, ca, q, cs, xs, rfl, pre, r0, r1, hca, hcs, rfl, hq, lx, lc, fun H1 s1 => ?_⟩
    exact ⟨_, rfl, _, rfl, _, rfl, _, rfl, _, rfl, k H1 s1⟩
theorem scNxt : FnScope ["web", "program", "house", "at", "cells", "numbers"] ["web", "program", "house", "at", "cells", "numbers"] (defScope sNxt) := ⟨rfl, rfl, rfl, by decide +kernel, rfl, by decide +kernel, by decide +kernel⟩
theorem ok_nxt {f C CP : Addr} {fd : FuncData} (F : Fun K "next_cells" "next_cells" sNxt f fd) (B : Bts mg) (hall : mg "all" = none) (hsum : mg "sum" = none) (hmr : ∃ t, mg "MOST_ROUND" = some (.int 1000 t)) (hms : ∃ t, mg "MOST_SAID" = some (.int 39 t)) (T : WTxt K mg C) (TP : PTxt K mg CP) (D : WDefs K mg) (R : RDefs K mg) (S : SDefs K mg) (O : OpsT P w K mg base) :
    FnOk P w K mg base CX0 17 f fd ["web", "program", "house", "at", "cells", "numbers"] (spNxt C CP) := by
  have GR : FnOk P w K mg base CX0 5 S.fR S.dR ["web", "program", "house", "at", "cells"] (spCR C CP) := ok_cr S.DR.F B hall hmr T TP D S
  have GA : FnOk P w K mg base CX0 3 S.fA S.dA ["thing"] spAS := ok_as S.DA.F B hall D.DP S.DS
  have GX : FnOk P w K mg base CX0 16 S.fX S.dX ["web", "program", "house", "at", "cells", "numbers"] (spNX C CP) := ok_nx S.DX.F B hsum T TP D R O
  obtain ⟨ts, hs0⟩ := hms
  refine F.ok scNxt (fun vs H Q E h => ?_) (fun cdv A outer s0 H vs Q E hr h => ?_)
  · obtain ⟨w, x, m, nb, s, t, y, n, h, r, ca, q, na, cs, ns, xs, rfl, _⟩ := h
    rfl
  · obtain ⟨w, x, m, nb, s, t, y, n, h, r, ca, q, na, cs, ns, xs, rfl, pre, r0, r1, hca, hcs, rfl, hq, lx, lc, hna, hns, ln, k⟩ := h
    have hr5 : Room 5 _ := hr.mono (by decide)
    have hr3 : Room 3 _ := hr.mono (by decide)
    refine ⟨_, pss_cons (ps_expr (pe_call GR hr5 rfl S.DR.m S.DR.k S.DR.b .nil pass0 (pa_cons (pv 0) (pa_cons (pv 1) (pa_cons (pv 2) (pa_cons (pv 3) (pa_cons (pv 4) pa_nil)))))))
      (pss_cons (ps_if (PW.pt (pw_or (pt_not (pt_val (pe_call GA hr3 rfl S.DA.m S.DA.k S.DA.b .nil pass0 (pa_cons (pv 5) pa_nil)))) (pw_or1 (pt_cmpR op_gt (pe_callB call_len_seq (by rfl) B.len PySem.boot_len (pa_cons (pv 5) pa_nil)) (pe_glob (v := .int 39) rfl hs0 ⟨_, rfl⟩) (nomark _))))) pss_never pss_nil)
      (pss_one (ps_ret (pe_call GX hr rfl S.DX.m S.DX.k S.DX.b .nil pass0 (pa_cons (pv 0) (pa_cons (pv 1) (pa_cons (pv 2) (pa_cons (pv 3) (pa_cons (pv 4) (pa_cons (pv 5) pa_nil)))))))))), ?_⟩
    refine ⟨_, rfl, _, rfl, _, rfl, _, rfl, _, rfl, w, x, m, nb, _, t, y, n, h, r, ca, q, cs, xs, rfl, pre, r0, r1, hca, hcs, rfl, hq, lx, lc, fun H1 s1 => ?_⟩
    refine ⟨_, rfl, _, rfl, kd1_ints (s1 _ _ hna) (by omega), fun b H2 s2 hb => ⟨_, rfl, ?_⟩⟩
    have : b = true := hb.mpr ⟨ns, na, rfl, s1 _ _ hna, hns⟩
    subst this
    refine iteF ⟨_, rfl, na, _, rfl, .inr (SqT.of (s2 _ _ (s1 _ _ hna))), _, _, rfl, rfl, _, rfl, ?_⟩
    rw [List.length_map, decide_eq_false (show ¬ ((39 : Int) < (ns.length : Int)) by omega)]
    exact iteF ⟨_, rfl, _, rfl, _, rfl, _, rfl, _, rfl, _, rfl, k H2 (sT s1 s2)⟩
end
end Q

namespace Q
open PySem L2
theorem RowsL.same {H H' : Hp} {D : Addr} {bs : List Addr} {nb : Nat → List Int} {n : Nat} (h : RowsL H D bs nb n) (s : Same H H') : RowsL H' D bs nb n := ⟨s _ _ h.at_, h.len, h.nd, h.nD, fun i a e => s _ _ (h.row i a e)⟩
end Q

namespace Q
open PySem L2 QM
theorem paired_ofI {R : V → Int → Prop} : ∀ {xs : List V}, (∀ x ∈ xs, ∃ k, R x k) → ∃ as, Paired R xs as
  | [], _ => ⟨[], .nil⟩
  | x :: r, h => by
    obtain ⟨k, hk⟩ := h x List.mem_cons_self
    obtain ⟨as, p⟩ := paired_ofI (xs := r) fun y hy => h y (List.mem_cons_of_mem _ hy)
    exact ⟨k :: as, .cons hk p⟩
theorem paired_mono' {α β : Type} {R R' : α → β → Prop} {xs : List α} {as : List β} (h : ∀ x k, R x k → R' x k) (p : Paired R xs as) : Paired R' xs as := by
  induction p with
  | nil => exact .nil
  | cons a _ ih => exact .cons (h _ _ a) ih
theorem choose_f {R : Int → Int → Prop} {ns : List Int} (h : ∀ o ∈ ns, ∃ z, R o z) : ∃ f : Int → Int, ∀ o ∈ ns, R o (f o) := by
  classical
  refine ⟨fun o => if c : ∃ z, R o z then Classical.choose c else 0, fun o ho => ?_⟩
  have c := h o ho
  show R o (if c : ∃ z, R o z then Classical.choose c else 0)
  rw [dif_pos c]
  exact Classical.choose_spec c
theorem asc_len {l : List Int} {n : Nat} (h : l.Pairwise (· < ·)) (b : ∀ x ∈ l, 0 ≤ x ∧ x < (n : Int)) : l.length ≤ n := by
  have z := nodup_le n (l.map Int.toNat) ?_ ?_
  · rw [List.length_map] at z
    exact z
  · refine List.pairwise_map.mpr (h.imp_of_mem fun {a b'} ha hb c e => ?_)
    have h1 := b a ha
    have h2 := b b' hb
    omega
  · intro x hx
    obtain ⟨y, hy, rfl⟩ := List.mem_map.mp hx
    have := b y hy
    omega
theorem RowsL.congr {H : Hp} {D : Addr} {bs : List Addr} {nb nb' : Nat → List Int} {n : Nat} (h : RowsL H D bs nb n) (e : ∀ i, i < n → nb i = nb' i) : RowsL H D bs nb' n :=
  ⟨h.at_, h.len, h.nd, h.nD, fun i a hi => by
    have : i < n := by rw [← h.len]; exact (List.getElem?_eq_some_iff.mp hi).1
    rw [← e i this]
    exact h.row i a hi⟩
/-- a web, and the law's own rows of it; not at the hand -/
structure Fix (C : Addr) (M : Nat) (H : Hp) (p w r : Addr) (nb : Nat → List Int) : Prop where
  web : ∃ dx q r0 L bs, WebIn C (M : Int) L H w dx q r0 bs nb
  rows : ∃ bs, RowsL H r bs nb M ∧ r ≠ p ∧ ¬ p ∈ bs
  m1 : 1 ≤ M
  m40 : M ≤ 40
  len : ∀ h, h < M → (nb h).length ≤ 64
  inn : ∀ h, h < M → ∀ o ∈ nb h, 0 ≤ o ∧ o < (M : Int)
theorem WebIn.ext {C : Addr} {m : Int} {L : List (Addr × List Int)} {H H' : Hp} {w p l dx q r : Addr} {bs : List Addr} {nb : Nat → List Int} (x : WebIn C m L H w dx q r bs nb) (g : HandAt H p l) (s : Ext p H H') : WebIn C m L H' w dx q r bs nb := by
  obtain ⟨xs, e⟩ := g.hp
  refine ⟨s _ _ x.at_ (ne_of x.at_ e (fun z => by cases z)), ⟨s _ _ x.rows.at_ (ne_of x.rows.at_ e (fun z => by cases z)), x.rows.len, fun i a hi => ?_⟩, x.asc, x.nb⟩
  have z := x.rows.row i a hi
  exact s _ _ z (ne_of z e (fun z => by cases z))
theorem Fix.ext {C : Addr} {M : Nat} {H H' : Hp} {p l w r : Addr} {nb : Nat → List Int} (x : Fix C M H p w r nb) (g : HandAt H p l) (s : Ext p H H') : Fix C M H' p w r nb := by
  obtain ⟨⟨dx, q, r0, L, bs, a⟩, ⟨bs2, b, n1, n2⟩, c, d, e, f⟩ := x
  exact ⟨⟨dx, q, r0, L, bs, a.ext g s⟩, ⟨bs2, ⟨s _ _ b.at_ n1, b.len, b.nd, b.nD, fun i a hi => s _ _ (b.row i a hi) (fun z => n2 (by rw [← z]; exact List.mem_of_getElem? hi))⟩, n1, n2⟩, c, d, e, f⟩
theorem Fix.same {C : Addr} {M : Nat} {H H' : Hp} {p w r : Addr} {nb : Nat → List Int} (x : Fix C M H p w r nb) (s : Same H H') : Fix C M H' p w r nb := by
  obtain ⟨⟨dx, q, r0, L, bs, a⟩, ⟨bs2, b, n1, n2⟩, c, d, e, f⟩ := x
  exact ⟨⟨dx, q, r0, L, bs, a.same s⟩, ⟨bs2, b.same s, n1, n2⟩, c, d, e, f⟩
theorem Fix.hpre {C CP : Addr} {M : Nat} {H : Hp} {p w r x dx : Addr} {nb : Nat → List Int} {s t y n : V} {h : Nat} (f : Fix C M H p w r nb) (ex : H x = some (.ins CP dx (pf s t y n))) (lt : h < M) : HPre C CP H w (M : Int) nb x s t y n h :=
  ⟨f.web, ⟨dx, ex⟩, lt, by have := f.m40; omega, f.len h lt, f.inn h lt⟩
theorem FineP.grow {H H' : Hp} {s t y n : V} (h : FineP H s t y n) (g : Grow H H') : FineP H' s t y n := by
  obtain ⟨q, xs, q', us, st, rt, ry, en, hn, ln, rn⟩ := h.ex
  exact ⟨q, xs, q', us, ⟨st.es, g.tup st.hq, st.l1, st.l4, fun x hx => (st.rs x hx).grow g⟩, rt.grow g, ry.grow g, en, g.tup hn, ln, fun x hx => (rn x hx).grow g⟩
theorem EvV.congr {H : Hp} {W : List Str} {en en' : Str → Int} {cs : List Int} (h : ∀ s ∈ W, en s = en' s) : ∀ {n : Nat} {v : V} {z : Int}, EvV H W en cs n v z → EvV H W en' cs n v z
  | 0, _, _, g => g.elim
  | n + 1, v, z, ⟨sm, a, s, r, e1, e2, g⟩ => by
    refine ⟨sm, a, s, r, e1, e2, ?_⟩
    rcases g with g | g | ⟨hs, er, ez⟩ | ⟨es, x, y, u, zx, zy, zu, er, h1, h2, h3, ez⟩ | ⟨es, x, y, zx, zy, er, h1, h2, ez⟩
    · exact .inl g
    · exact .inr (.inl g)
    · exact .inr (.inr (.inl ⟨hs, er, ez.trans (h s hs)⟩))
    · exact .inr (.inr (.inr (.inl ⟨es, x, y, u, zx, zy, zu, er, EvV.congr h h1, EvV.congr h h2, EvV.congr h h3, ez⟩)))
    · exact .inr (.inr (.inr (.inr ⟨es, x, y, zx, zy, er, EvV.congr h h1, EvV.congr h h2, ez⟩)))
theorem enT_ca {h m t r o : Int} {ca ca' : Addr} : ∀ s ∈ wT, enOf (fT h m t r ca o) s = enOf (fT h m t r ca' o) s := fun s hs => by
  have nc : s ≠ "cell" := fun e => absurd hs (by rw [e]; decide +kernel)
  have e : fT h m t r ca o s = fT h m t r ca' o s := by
    unfold fT f5
    by_cases c : s = "other"
    · rw [c, upF_eq, upF_eq]
    · rw [upF_ne c, upF_ne c, upF_ne nc, upF_ne nc]
  unfold enOf
  rw [e]
theorem enN_ca {h m t r k u le mo : Int} {ca ca' : Addr} : ∀ s ∈ wN, enOf (fN h m t r ca k u le mo) s = enOf (fN h m t r ca' k u le mo) s := fun s hs => by
  have nc : s ≠ "cell" := fun e => absurd hs (by rw [e]; decide +kernel)
  have e : fN h m t r ca k u le mo s = fN h m t r ca' k u le mo s := by
    unfold fN f5
    by_cases c1 : s = "most"
    · rw [c1, upF_eq, upF_eq]
    · rw [upF_ne c1, upF_ne c1]
      by_cases c2 : s = "least"
      · rw [c2, upF_eq, upF_eq]
      · rw [upF_ne c2, upF_ne c2]
        by_cases c3 : s = "sum"
        · rw [c3, upF_eq, upF_eq]
        · rw [upF_ne c3, upF_ne c3]
          by_cases c4 : s = "heard"
          · rw [c4, upF_eq, upF_eq]
          · rw [upF_ne c4, upF_ne c4, upF_ne nc, upF_ne nc]
  unfold enOf
  rw [e]
/-! ### hearing -/
def put1 (a : Nat → List Int) (p : Int × Int) : Nat → List Int := fun k => if k = p.1.toNat then a p.1.toNat ++ [p.2] else a k
def hearN (Sr : Nat → List (Int × Int)) : Nat → Nat → List Int
  | 0 => fun _ => []
  | i + 1 => (Sr i).foldl put1 (hearN Sr i)
/-- what one house says -/
structure SOk (M : Nat) (ps : List (Int × Int)) : Prop where
  asc : ps.Pairwise fun p q => p.1 < q.1
  bnd : ∀ p ∈ ps, 0 ≤ p.1 ∧ p.1 < (M : Int) ∧ Sm p.2
theorem SOk.take {M : Nat} {ps : List (Int × Int)} (h : SOk M ps) (j : Nat) : SOk M (ps.take j) :=
  ⟨h.asc.sublist (List.take_sublist j ps), fun p hp => h.bnd p (List.mem_of_mem_take hp)⟩
theorem SOk.of {M : Nat} {ns : List Int} {ft fs : Int → Int} (a : ns.Pairwise (· < ·)) (b : ∀ o ∈ ns, 0 ≤ o ∧ o < (M : Int)) (c : ∀ o ∈ ns, Sm (fs o)) : SOk M (saidL ns ft fs) := by
  refine ⟨List.pairwise_map.mpr (a.sublist List.filter_sublist), fun p hp => ?_⟩
  obtain ⟨o, ho, rfl⟩ := List.mem_map.mp hp
  have ho' := (List.mem_filter.mp ho).1
  exact ⟨(b o ho').1, (b o ho').2, c o ho'⟩
theorem fold_no : ∀ {ps : List (Int × Int)} {a : Nat → List Int} {h : Nat}, (∀ p ∈ ps, p.1.toNat ≠ h) → ps.foldl put1 a h = a h
  | [], _, _, _ => rfl
  | p :: ps, a, h, k => by
    show ps.foldl put1 (put1 a p) h = a h
    rw [fold_no fun q hq => k q (List.mem_cons_of_mem _ hq)]
    exact if_neg fun e => k p List.mem_cons_self e.symm
theorem fold_le : ∀ {ps : List (Int × Int)} {a : Nat → List Int} {h : Nat}, ps.Pairwise (fun p q => p.1 < q.1) → (∀ p ∈ ps, 0 ≤ p.1) → (ps.foldl put1 a h).length ≤ (a h).length + 1
  | [], _, _, _, _ => Nat.le_succ _
  | p :: ps, a, h, k, b => by
    show (ps.foldl put1 (put1 a p) h).length ≤ (a h).length + 1
    obtain ⟨k1, k2⟩ := List.pairwise_cons.mp k
    have b' : ∀ q ∈ ps, 0 ≤ q.1 := fun q hq => b q (List.mem_cons_of_mem _ hq)
    by_cases c : h = p.1.toNat
    · rw [fold_no fun q hq => by
        have := k1 q hq
        have := b p List.mem_cons_self
        omega]
      show ((if h = p.1.toNat then a p.1.toNat ++ [p.2] else a h) : List Int).length ≤ (a h).length + 1
      rw [if_pos c, List.length_append, ← c]
      exact Nat.le_refl _
    · have z := fold_le (a := put1 a p) (h := h) k2 b'
      have e : put1 a p h = a h := if_neg c
      rw [e] at z
      exact z
theorem fold_sm : ∀ {ps : List (Int × Int)} {a : Nat → List Int} {h : Nat}, (∀ p ∈ ps, Sm p.2) → (∀ k, ∀ z ∈ a k, Sm z) → ∀ z ∈ ps.foldl put1 a h, Sm z
  | [], _, _, _, g => g _
  | p :: ps, a, h, k, g => by
    refine fold_sm (ps := ps) (a := put1 a p) (fun q hq => k q (List.mem_cons_of_mem _ hq)) fun i z hz => ?_
    have hz' : z ∈ (if i = p.1.toNat then a p.1.toNat ++ [p.2] else a i) := hz
    by_cases c : i = p.1.toNat
    · rw [if_pos c] at hz'
      rcases List.mem_append.mp hz' with hz' | hz'
      · exact g _ z hz'
      · rw [List.mem_singleton.mp hz']
        exact k p List.mem_cons_self
    · rw [if_neg c] at hz'
      exact g _ z hz'
theorem hear_le {M : Nat} {Sr : Nat → List (Int × Int)} : ∀ {n : Nat}, (∀ i, i < n → SOk M (Sr i)) → ∀ h, (hearN Sr n h).length ≤ n
  | 0, _, _ => Nat.le_refl _
  | n + 1, k, h => by
    have z := hear_le (n := n) (fun i hi => k i (by omega)) h
    have y := fold_le (a := hearN Sr n) (h := h) (k n (by omega)).asc fun p hp => ((k n (by omega)).bnd p hp).1
    show ((Sr n).foldl put1 (hearN Sr n) h).length ≤ n + 1
    omega
theorem hear_sm {M : Nat} {Sr : Nat → List (Int × Int)} : ∀ {n : Nat}, (∀ i, i < n → SOk M (Sr i)) → ∀ h, ∀ z ∈ hearN Sr n h, Sm z
  | 0, _, _, _, hz => absurd hz List.not_mem_nil
  | n + 1, k, h, z, hz => fold_sm (fun p hp => ((k n (by omega)).bnd p hp).2.2) (fun i => hear_sm (n := n) (fun j hj => k j (by omega)) i) z hz
/-- as far as it went: i houses whole, of the next one j pairs -/
theorem part_le {M : Nat} {Sr : Nat → List (Int × Int)} {n i : Nat} (j : Nat) (k : ∀ i, i < n → SOk M (Sr i)) (hi : i < n) (h : Nat) : (((Sr i).take j).foldl put1 (hearN Sr i) h).length ≤ n := by
  have z := hear_le (n := i) (fun a ha => k a (by omega)) h
  have s := (k i hi).take j
  have y := fold_le (a := hearN Sr i) (h := h) s.asc fun p hp => (s.bnd p hp).1
  omega
theorem fold_snoc {ps : List (Int × Int)} {a : Nat → List Int} {j : Nat} {p : Int × Int} (h : ps[j]? = some p) : (ps.take (j + 1)).foldl put1 a = put1 ((ps.take j).foldl put1 a) p := by
  rw [List.take_add_one, h, List.foldl_append]
  rfl
/-! ### rounds -/
def SaidOf (H : Hp) (M : Nat) (nb : Nat → List Int) (t y : V) (r : Nat) (R0 : Nat → List Int) (h : Nat) (ps : List (Int × Int)) : Prop := ∃ ft fs : Int → Int, (∀ o ∈ nb h, ∀ ca, EvV H wT (enOf (fT h M (nb h).length r ca o)) (R0 h) 12 t (ft o) ∧ EvV H wT (enOf (fT h M (nb h).length r ca o)) (R0 h) 12 y (fs o)) ∧ ps = saidL (nb h) ft fs
def NextOf (H : Hp) (M : Nat) (nb : Nat → List Int) (us : List V) (r : Nat) (R0 : Nat → List Int) (S0 : Nat → List (Int × Int)) (h : Nat) (zs : List Int) : Prop := ∃ le mo, IsLeast 0 (hearN S0 M h) le ∧ IsMost 0 (hearN S0 M h) mo ∧ ∀ ca, Paired (EvV H wN (enOf (fN h M (nb h).length r ca (hearN S0 M h).length (bb (hearN S0 M h).sum) le mo)) (R0 h) 12) us zs
structure StepOk (H : Hp) (M : Nat) (nb : Nat → List Int) (t y : V) (us : List V) (r : Nat) (R0 : Nat → List Int) (S0 : Nat → List (Int × Int)) (R1 : Nat → List Int) : Prop where
  sa : ∀ h, h < M → SaidOf H M nb t y r R0 h (S0 h)
  ok : ∀ h, h < M → SOk M (S0 h)
  nx : ∀ h, h < M → NextOf H M nb us r R0 S0 h (R1 h)
structure Runs (H : Hp) (M : Nat) (nb : Nat → List Int) (xs : List V) (t y : V) (us : List V) (R : Nat → Nat → List Int) (S : Nat → Nat → List (Int × Int)) (n : Nat) : Prop where
  st : ∀ h : Nat, h < M → Paired (EvV H wS (enOf (f3 h M (nb h).length)) [] 12) xs (R 0 h)
  step : ∀ r, r < n → StepOk H M nb t y us r (R r) (S r) (R (r + 1))
theorem Runs.less {H : Hp} {M : Nat} {nb : Nat → List Int} {xs : List V} {t y : V} {us : List V} {R : Nat → Nat → List Int} {S : Nat → Nat → List (Int × Int)} {n m : Nat} (h : Runs H M nb xs t y us R S n) (l : m ≤ n) : Runs H M nb xs t y us R S m := ⟨h.st, fun r hr => h.step r (by omega)⟩
theorem StepOk.grow {H H' : Hp} {M : Nat} {nb : Nat → List Int} {t y : V} {us : List V} {r : Nat} {R0 : Nat → List Int} {S0 : Nat → List (Int × Int)} {R1 : Nat → List Int} (h : StepOk H M nb t y us r R0 S0 R1) (g : Grow H H') : StepOk H' M nb t y us r R0 S0 R1 := by
  refine ⟨fun i hi => ?_, h.ok, fun i hi => ?_⟩
  · obtain ⟨ft, fs, k, e⟩ := h.sa i hi
    exact ⟨ft, fs, fun o ho ca => ⟨(k o ho ca).1.grow g, (k o ho ca).2.grow g⟩, e⟩
  · obtain ⟨le, mo, k1, k2, p⟩ := h.nx i hi
    exact ⟨le, mo, k1, k2, fun ca => paired_mono' (fun _ _ z => z.grow g) (p ca)⟩
theorem Runs.grow {H H' : Hp} {M : Nat} {nb : Nat → List Int} {xs : List V} {t y : V} {us : List V} {R : Nat → Nat → List Int} {S : Nat → Nat → List (Int × Int)} {n : Nat} (h : Runs H M nb xs t y us R S n) (g : Grow H H') : Runs H' M nb xs t y us R S n :=
  ⟨fun i hi => paired_mono' (fun _ _ z => z.grow g) (h.st i hi), fun r hr => (h.step r hr).grow g⟩
theorem Runs.same {H H' : Hp} {M : Nat} {nb : Nat → List Int} {xs : List V} {t y : V} {us : List V} {R : Nat → Nat → List Int} {S : Nat → Nat → List (Int × Int)} {n : Nat} (h : Runs H M nb xs t y us R S n) (s : Same H H') : Runs H' M nb xs t y us R S n := h.grow (Grow.of_same s)
theorem chooseN {β : Type} [Inhabited β] {P : Nat → β → Prop} {M : Nat} (h : ∀ i, i < M → ∃ z, P i z) : ∃ f : Nat → β, ∀ i, i < M → P i (f i) := by
  classical
  refine ⟨fun i => if c : ∃ z, P i z then Classical.choose c else default, fun i hi => ?_⟩
  have c := h i hi
  show P i (if c : ∃ z, P i z then Classical.choose c else default)
  rw [dif_pos c]
  exact Classical.choose_spec c
/-- the houses of a web -/
structure NbOk (M : Nat) (nb : Nat → List Int) : Prop where
  m1 : 1 ≤ M
  m40 : M ≤ 40
  asc : ∀ h, h < M → (nb h).Pairwise (· < ·)
  len : ∀ h, h < M → (nb h).length ≤ 64
  inn : ∀ h, h < M → ∀ o ∈ nb h, 0 ≤ o ∧ o < (M : Int)
theorem NbOk.smh {M : Nat} {nb : Nat → List Int} (p : NbOk M nb) {h : Nat} (hh : h < M) : Sm (h : Int) ∧ Sm (M : Int) ∧ Sm ((nb h).length : Int) := by
  have b := p.m40
  have c := p.len h hh
  unfold Sm
  omega
theorem NbOk.smo {M : Nat} {nb : Nat → List Int} (p : NbOk M nb) {h : Nat} (hh : h < M) {o : Int} (ho : o ∈ nb h) : Sm o := by
  have a := p.inn h hh o ho
  have b := p.m40
  unfold Sm
  omega
/-- the trees of a program -/
structure Trees (H : Hp) (c : Nat) (xs : List V) (t y : V) (us : List V) : Prop where
  lx : xs.length = c
  lu : us.length = c
  rx : ∀ v ∈ xs, ∃ k, TS H wS 0 12 v k
  rt : ∃ k, TS H wT (c : Int) 12 t k
  ry : ∃ k, TS H wT (c : Int) 12 y k
  ru : ∀ v ∈ us, ∃ k, TS H wN (c : Int) 12 v k
def RowOk (M c : Nat) (R0 : Nat → List Int) : Prop := ∀ h, h < M → (R0 h).length = c ∧ ∀ z ∈ R0 h, Sm z
theorem paired_all {R : V → Int → Prop} {Q : Int → Prop} (h : ∀ x k, R x k → Q k) {xs : List V} {as : List Int} (p : Paired R xs as) : ∀ k ∈ as, Q k := by
  induction p with
  | nil => exact fun k hk => absurd hk List.not_mem_nil
  | cons a _ ih => exact fun k hk => (List.mem_cons.mp hk).elim (fun e => by rw [e]; exact h _ _ a) (ih k)
theorem step_ex {H : Hp} {M c : Nat} {nb : Nat → List Int} {xs : List V} {t y : V} {us : List V} (N : NbOk M nb) (T : Trees H c xs t y us) {r : Nat} (hr : r < 1000) {R0 : Nat → List Int} (ok : RowOk M c R0) :
    ∃ S0 R1, StepOk H M nb t y us r R0 S0 R1 ∧ RowOk M c R1 := by
  have srr : Sm (r : Int) := by unfold Sm; omega
  obtain ⟨S0, hS⟩ := chooseN (P := fun h ps => SaidOf H M nb t y r R0 h ps ∧ SOk M ps) (M := M) fun h hh => by
    obtain ⟨lc, sc⟩ := ok h hh
    obtain ⟨s1, s2, s3⟩ := N.smh hh
    have ev : ∀ {v : V}, (∃ k, TS H wT (c : Int) 12 v k) → ∀ o ∈ nb h, ∃ z, EvV H wT (enOf (fT h M (nb h).length r 0 o)) (R0 h) 12 v z := fun ⟨k, ts⟩ o ho =>
      ts_ev (fun s hs => ((intT (ca := 0) s1 s2 s3 srr (N.smo hh ho)).at_ hs).2) sc (by omega) ts
    obtain ⟨ft, hft⟩ := choose_f (ev T.rt)
    obtain ⟨fs, hfs⟩ := choose_f (ev T.ry)
    exact ⟨saidL (nb h) ft fs, ⟨ft, fs, fun o ho ca => ⟨(hft o ho).congr enT_ca, (hfs o ho).congr enT_ca⟩, rfl⟩, .of (N.asc h hh) (N.inn h hh) fun o ho => (hfs o ho).sm⟩
  have lenH := hear_le (n := M) fun i hi => (hS i hi).2
  have smH := hear_sm (n := M) fun i hi => (hS i hi).2
  obtain ⟨R1, hR⟩ := chooseN (P := fun h zs => NextOf H M nb us r R0 S0 h zs ∧ zs.length = c ∧ ∀ z ∈ zs, Sm z) (M := M) fun h hh => by
    obtain ⟨lc, sc⟩ := ok h hh
    obtain ⟨s1, s2, s3⟩ := N.smh hh
    obtain ⟨le, hle⟩ : ∃ le, IsLeast 0 (hearN S0 M h) le := by
      cases e : hearN S0 M h with
      | nil => exact ⟨0, .inl ⟨rfl, rfl⟩⟩
      | cons a' r' => exact ⟨_, least_of rfl⟩
    obtain ⟨mo, hmo⟩ : ∃ mo, IsMost 0 (hearN S0 M h) mo := by
      cases e : hearN S0 M h with
      | nil => exact ⟨0, .inl ⟨rfl, rfl⟩⟩
      | cons a' r' => exact ⟨_, most_of rfl⟩
    have hm := N.m40
    have lH := lenH h
    have sN' := intN (ca := 0) (k := ((hearN S0 M h).length : Int)) (u := bb (hearN S0 M h).sum) s1 s2 s3 srr (by unfold Sm; omega) (bb_sm _) (least_sm hle (smH h)) (most_sm hmo (smH h))
    obtain ⟨zs, pz⟩ := paired_ofI (R := EvV H wN (enOf (fN h M (nb h).length r 0 (hearN S0 M h).length (bb (hearN S0 M h).sum) le mo)) (R0 h) 12) (xs := us) fun v hv => by
      obtain ⟨kk, ts⟩ := T.ru v hv
      exact ts_ev (fun s hs => (sN'.at_ hs).2) sc (by omega) ts
    refine ⟨zs, ⟨le, mo, hle, hmo, fun ca => paired_mono' (fun _ _ z => z.congr enN_ca) pz⟩, ?_, paired_all (fun _ _ z => z.sm) pz⟩
    rw [← Paired.length pz]
    exact T.lu
  exact ⟨S0, R1, ⟨fun h hh => (hS h hh).1, fun h hh => (hS h hh).2, fun h hh => (hR h hh).1⟩, fun h hh => (hR h hh).2⟩
theorem runs_ex {H : Hp} {M c : Nat} {nb : Nat → List Int} {xs : List V} {t y : V} {us : List V} (N : NbOk M nb) (T : Trees H c xs t y us) : ∀ n, n ≤ 1000 → ∃ R S, Runs H M nb xs t y us R S n ∧ RowOk M c (R n)
  | 0, _ => by
    obtain ⟨R0, h0⟩ := chooseN (P := fun h zs => Paired (EvV H wS (enOf (f3 h M (nb h).length)) [] 12) xs zs ∧ zs.length = c ∧ ∀ z ∈ zs, Sm z) (M := M) fun h hh => by
      obtain ⟨s1, s2, s3⟩ := N.smh hh
      obtain ⟨zs, pz⟩ := paired_ofI (R := EvV H wS (enOf (f3 h M (nb h).length)) [] 12) (xs := xs) fun v hv => by
        obtain ⟨kk, ts⟩ := T.rx v hv
        exact ts_ev (fun s hs => ((int3 s1 s2 s3).at_ hs).2) (fun z hz => absurd hz List.not_mem_nil) (by decide) ts
      refine ⟨zs, pz, ?_, paired_all (fun _ _ z => z.sm) pz⟩
      rw [← Paired.length pz]
      exact T.lx
    exact ⟨fun _ => R0, fun _ _ => [], ⟨fun h hh => (h0 h hh).1, fun r hr => absurd hr (Nat.not_lt_zero _)⟩, fun h hh => (h0 h hh).2⟩
  | n + 1, l => by
    obtain ⟨R, S, ru, ok⟩ := runs_ex N T n (by omega)
    obtain ⟨S0, R1, st, ok1⟩ := step_ex N T (r := n) (by omega) ok
    refine ⟨fun i => if i = n + 1 then R1 else R i, fun i => if i = n then S0 else S i, ⟨fun h hh => ?_, fun r hr => ?_⟩, ?_⟩
    · show Paired _ xs ((if 0 = n + 1 then R1 else R 0) h)
      rw [if_neg (by omega)]
      exact ru.st h hh
    · show StepOk H M nb t y us r (if r = n + 1 then R1 else R r) (if r = n then S0 else S r) (if r + 1 = n + 1 then R1 else R (r + 1))
      by_cases c : r = n
      · subst c
        rw [if_neg (by omega), if_pos rfl, if_pos rfl]
        exact st
      · rw [if_neg (by omega), if_neg c, if_neg (by omega)]
        exact ru.step r (by omega)
    · show RowOk M c (if n + 1 = n + 1 then R1 else R (n + 1))
      rw [if_pos rfl]
      exact ok1
theorem trees_of {H : Hp} {s t y n : V} (f : FineP H s t y n) : ∃ q xs qn us, s = .ref q ∧ H q = some (.tup xs) ∧ xs.length ≤ 4 ∧ n = .ref qn ∧ H qn = some (.tup us) ∧ us.length ≤ 4 ∧ Trees H xs.length xs t y us := by
  obtain ⟨q, xs, qn, us, st, ⟨kt, rt, _⟩, ⟨ky, ry, _⟩, en, hn, ln, rn⟩ := f.ex
  exact ⟨q, xs, qn, us, st.es, st.hq, st.l4, en, hn, by have := st.l4; omega, rfl, ln, fun v hv => by
    obtain ⟨k, ts, _⟩ := st.rs v hv
    exact ⟨k, ts⟩, ⟨kt, rt⟩, ⟨ky, ry⟩, fun v hv => by
    obtain ⟨k, ts, _⟩ := rn v hv
    exact ⟨k, ts⟩⟩
/-! ### how many are said -/
def tot1 (Sr : Nat → List (Int × Int)) : Nat → Nat
  | 0 => 0
  | i + 1 => tot1 Sr i + (Sr i).length
def tot (S : Nat → Nat → List (Int × Int)) (M : Nat) : Nat → Nat
  | 0 => 0
  | r + 1 => tot S M r + tot1 (S r) M
end Q

namespace Q
open PySem L2 QM
abbrev sAll : Stmt := top 47
abbrev sSE : Stmt := top 48
abbrev sRB : Stmt := top 49
theorem walk_enT {K : PySem.W.Frag} {a : Addr} {xs : List V} : Walk (ItEt K a) xs.length (fun H => SqT K H a xs) (YPair (fun i => some (.int (i : Nat))) (fun i => xs[i]?)) := by
  refine ⟨fun i _ hi q => ⟨xs, xs[i], q, List.getElem?_eq_getElem hi⟩, fun _ q => ⟨xs, q, rfl⟩, fun i H v H' _ q y => ?_⟩
  obtain ⟨T, x, h1, h2, h3, h4⟩ := y
  exact ⟨T, .int (i : Nat), x, h1, h2, h3, rfl, h4 xs q⟩
def SaidAt (H : Hp) (a : Addr) (ps : List (Int × Int)) : Prop := ∃ rs : List (Addr × (Int × Int)), H a = some (.tup (rs.map fun p => V.ref p.1)) ∧ (∀ p ∈ rs, H p.1 = some (.tup [.int p.2.1, .int p.2.2])) ∧ rs.map (·.2) = ps
theorem SaidAt.same {H H' : Hp} {a : Addr} {ps : List (Int × Int)} (h : SaidAt H a ps) (s : Same H H') : SaidAt H' a ps := by
  obtain ⟨rs, h1, h2, h3⟩ := h
  exact ⟨rs, s _ _ h1, fun p hp => s _ _ (h2 p hp), h3⟩
theorem SaidAt.upd {H : Hp} {a D : Addr} {ps : List (Int × Int)} {o : HO} (h : SaidAt H a ps) (n : ∀ b xs, H b = some (.tup xs) → b ≠ D) : SaidAt (L2.upd H D o) a ps := by
  obtain ⟨rs, h1, h2, h3⟩ := h
  exact ⟨rs, by rw [upd_ne (n _ _ h1)]; exact h1, fun p hp => by rw [upd_ne (n _ _ (h2 p hp))]; exact h2 p hp, h3⟩
structure SaidsT (H : Hp) (a : Addr) (ts : List Addr) (S0 : Nat → List (Int × Int)) (M : Nat) : Prop where
  at_ : H a = some (.tup (ts.map V.ref))
  len : ts.length = M
  row : ∀ (i : Nat) (b : Addr), ts[i]? = some b → SaidAt H b (S0 i)
theorem SaidsT.same {H H' : Hp} {a : Addr} {ts : List Addr} {S0 : Nat → List (Int × Int)} {M : Nat} (h : SaidsT H a ts S0 M) (s : Same H H') : SaidsT H' a ts S0 M := ⟨s _ _ h.at_, h.len, fun i b e => (h.row i b e).same s⟩
structure WP (C CP : Addr) (H : Hp) (w : Addr) (M : Nat) (nb : Nat → List Int) (x : Addr) (s t y n : V) : Prop where
  N : NbOk M nb
  pre : ∀ h, h < M → HPre C CP H w (M : Int) nb x s t y n h
theorem WP.same {C CP : Addr} {H H' : Hp} {w : Addr} {M : Nat} {nb : Nat → List Int} {x : Addr} {s t y n : V} (p : WP C CP H w M nb x s t y n) (z : Same H H') : WP C CP H' w M nb x s t y n := ⟨p.N, fun h hh => (p.pre h hh).same z⟩
theorem not_lst {H : Hp} {D : Addr} {ys : List V} (e : H D = some (.lst ys)) : ∀ b xs, H b = some (.tup xs) → b ≠ D := fun b xs h z => by
  rw [z, e] at h
  cases h
theorem snoc_row {α : Type} {P : Nat → α → Prop} {l : List α} {x : α} {i : Nat} (hl : l.length = i) (h : ∀ j b, l[j]? = some b → P j b) (hx : P i x) : ∀ j b, (l ++ [x])[j]? = some b → P j b := fun j b e => by
  by_cases c : j < l.length
  · rw [List.getElem?_append_left c] at e
    exact h j b e
  · rw [List.getElem?_append_right (by omega)] at e
    have c2 : j - l.length = 0 := by
      rcases Nat.eq_zero_or_pos (j - l.length) with z | z
      · exact z
      · rw [List.getElem?_eq_none (by show 1 ≤ j - l.length; exact z)] at e
        cases e
    rw [c2] at e
    have ej : j = i := by omega
    rw [ej]
    have : x = b := by simpa using e
    rw [← this]
    exact hx
def spAll (C CP : Addr) : Sp := fun vs H Q _ => ∃ (w x a : Addr) (M : Nat) (nb : Nat → List Int) (s t y n : V) (r : Nat) (cas : List Addr) (R0 : Nat → List Int) (S0 : Nat → List (Int × Int)), vs = [.ref w, .ref x, .int (r : Int), .ref a] ∧ WP C CP H w M nb x s t y n ∧ r < 1000 ∧ RowsT H a cas R0 M ∧
  (∀ h, h < M → SaidOf H M nb t y r R0 h (S0 h)) ∧ ∀ tq ts H', Same H H' → SaidsT H' tq ts S0 M → Q (.ref tq) H'
def spSE (C : Addr) : Sp := fun vs H Q _ => ∃ (w a : Addr) (M : Nat) (ts : List Addr) (S0 : Nat → List (Int × Int)), vs = [.ref w, .ref a] ∧ (∃ dx q r L bs nb, WebIn C (M : Int) L H w dx q r bs nb) ∧ M ≤ 40 ∧ SaidsT H a ts S0 M ∧ (∀ h, h < M → SOk M (S0 h)) ∧
  ∀ d bs H', Same H H' → H d = none → RowsL H' d bs (hearN S0 M) M → Q (.ref d) H'
def spRB (C CP : Addr) : Sp := fun vs H Q _ => ∃ (w x a b : Addr) (M : Nat) (nb : Nat → List Int) (s t y n : V) (r : Nat) (cas ts : List Addr) (R0 : Nat → List Int) (S0 : Nat → List (Int × Int)) (R1 : Nat → List Int) (qn : Addr) (us : List V), vs = [.ref w, .ref x, .int (r : Int), .ref a, .ref b] ∧ WP C CP H w M nb x s t y n ∧ r < 1000 ∧ RowsT H a cas R0 M ∧ SaidsT H b ts S0 M ∧
  n = .ref qn ∧ H qn = some (.tup us) ∧ us.length ≤ 4 ∧ StepOk H M nb t y us r R0 S0 R1 ∧ ∀ tq cas' H', Same H H' → RowsT H' tq cas' R1 M → Q (.ref tq) H'
section
variable {P : Program} {w : World} {K : PySem.W.Frag} {mg : Str → Option Value} {base : Heap}
theorem scAll : FnScope ["web", "program", "at", "rows", "house", "cells"] ["web", "program", "at", "rows"] (defScope sAll) := ⟨rfl, rfl, rfl, by decide +kernel, rfl, by decide +kernel, by decide +kernel⟩
theorem ok_all {f fY C CP : Addr} {fd dY : FuncData} (F : Fun K "all_sayings" "all_sayings" sAll f fd) (B : Bts mg) (T : WTxt K mg C) (TP : PTxt K mg CP) (D : WDefs K mg) (R : RDefs K mg) (O : OpsT P w K mg base) (DY : Df K mg "sayings_come_to" sSY ["web", "program", "house", "at", "cells"] fY dY) :
    FnOk P w K mg base CX0 17 f fd ["web", "program", "at", "rows"] (spAll C CP) := by
  have GY : FnOk P w K mg base CX0 16 fY dY ["web", "program", "house", "at", "cells"] (spSY C CP) := ok_sy DY.F B T TP D R O
  refine F.ok scAll (fun vs H Q E h => ?_) (fun cdv A outer s0 H vs Q E hr h => ?_)
  · obtain ⟨w, x, a, M, nb, s, t, y, n, r, cas, R0, S0, rfl, _⟩ := h
    rfl
  · obtain ⟨w, x, a, M, nb, s, t, y, n, r, cas, R0, S0, rfl, wp, hr0, rows, sa, k⟩ := h
    have nd := scAll.nd
    refine ⟨_, pss_one (ps_ret (pe_callTy call_tuple_of (by rfl) B.tuple PyProof.Rows.boot_tuple (pa_cons (pe_lc (own := [("house", 4), ("cells", 5)]) (g := gTup K 2 (gCons (gName 4) (gCons (gName 5) gNil))) (tt := tYes) rfl nd (pi_enumT rfl B.enumerate (pa_cons (pv 3) pa_nil))
        (blkOk_by (N := ["web", "program", "at", "rows", "house", "cells"]) (sc := defScope sAll) (by decide +kernel)) (fun _ _ _ _ _ => pg_tup rfl (pgs_cons (pg_name (i := 4) nd rfl (.inl rfl)) (pgs_cons (pg_name (i := 5) nd rfl (.inl rfl)) pgs_nil))) (fun _ _ _ _ _ => pts_nil)
        (fun _ _ _ _ _ => pe_call GY hr rfl DY.m DY.k DY.b .nil pass0 (pa_cons (pv 0) (pa_cons (pv 1) (pa_cons (pv 4) (pa_cons (pv 2) (pa_cons (pv 5) pa_nil))))))) pa_nil))), ?_⟩
    have hlc : (cas.map V.ref).length = M := by rw [List.length_map, rows.len]
    have m40 := wp.N.m40
    refine ⟨_, rfl, a, cas.map V.ref, rfl, SqT.of rows.at_, fun D0 hD => lc_it (walk_enT (K := K) (a := a) (xs := cas.map V.ref)) (fun i H' => ∃ ts : List Addr, H' D0 = some (.lst (ts.map V.ref)) ∧ ts.length = i ∧ (∀ j b, ts[j]? = some b → SaidAt H' b (S0 j)) ∧ Same H H') ?_ ?_ ?_ ?_⟩
    · exact ⟨[], upd_same, rfl, fun j b e => absurd e (by simp), sN hD⟩
    · rintro i H2 hi ⟨ts, _, _, _, s2⟩
      exact SqT.of (s2 _ _ rows.at_)
    · rintro i v H2 H3 hi ⟨ts, eD, hl, hrow, s2⟩ ⟨T1, z1, z2, rfl, hT, rfl, e1, e2⟩
      obtain rfl := Option.some.inj e1
      obtain ⟨c, hc, rfl⟩ := map_inv e2
      have hiM : i < M := by omega
      have s3 := sN (o := .tup [.int (i : Nat), .ref c]) hT
      have s23 := sT s2 s3
      obtain ⟨ft, fs, hev, es⟩ := sa i hiM
      refine ⟨T1, _, rfl, SqT.of upd_same, rfl, _, _, rfl, _, _, rfl, rfl, ?_⟩
      refine ⟨rfl, _, rfl, _, rfl, _, rfl, _, rfl, _, rfl, w, x, (M : Int), nb, s, t, y, n, i, (r : Int), c, R0 i, ft, fs, rfl, (wp.pre i hiM).same s23, (by unfold Sm; omega), s23 _ _ (rows.row i c hc), fun o ho => ⟨(hev o ho c).1.same s23, (hev o ho c).2.same s23⟩, fun tq rs H4 s4 etq hrs ers => ?_⟩
      have eD4 := s4 _ _ (s3 _ _ eD)
      have s34 := sT s3 s4
      refine ⟨_, eD4, ?_, ts ++ [tq], ?_, ?_, ?_, ?_⟩
      · rw [List.length_map, hl]
        exact Nat.lt_of_lt_of_le (show i < 64 by omega) (by decide)
      · rw [upd_same, List.map_append]
        rfl
      · rw [List.length_append, hl]
        rfl
      · refine snoc_row hl (fun j b e => ((hrow j b e).same s34).upd (not_lst eD4)) (SaidAt.upd ⟨rs, etq, hrs, ?_⟩ (not_lst eD4))
        rw [ers, es]
      · exact sNew (sT s23 s4) hD
    · rintro H2 ⟨ts, eD, hl, hrow, s2⟩
      refine ⟨D0, _, rfl, .inl ⟨SqL.of eD, fun tq htq => ?_⟩⟩
      have s3 := sN (o := .tup (ts.map V.ref)) htq
      exact k tq ts _ (sT s2 s3) ⟨upd_same, by rw [hl, hlc], fun j b e => (hrow j b e).same s3⟩
theorem scSE : FnScope ["web", "said", "numbers", "pairs", "other", "number", "_"] ["web", "said"] (defScope sSE) := ⟨rfl, rfl, rfl, by decide +kernel, rfl, by decide +kernel, by decide +kernel⟩
theorem ok_se {f C : Addr} {fd : FuncData} (F : Fun K "said_to_each" "said_to_each" sSE f fd) (B : Bts mg) (T : WTxt K mg C) : FnOk P w K mg base CX0 1 f fd ["web", "said"] (spSE C) := by
  refine F.ok scSE (fun vs H Q E h => ?_) (fun cdv A outer s0 H vs Q E hr h => ?_)
  · obtain ⟨w, a, M, ts, S0, rfl, _⟩ := h
    rfl
  · obtain ⟨w, a, M, ts, S0, rfl, ⟨dx, qw, rw0, L, wbs, nb, hw⟩, m40, sd, sok, k⟩ := h
    have nd := scSE.nd
    refine ⟨_, pss_cons (ps_setLc (i := 2) (own := [("_", 6)]) (g := gName 6) (tt := tYes) rfl nd rfl rfl (sw_true rfl rfl rfl (by decide +kernel)) (pi_range1 rfl B.range (pa_cons (pe_fld (pv 0) rfl) pa_nil))
        (blkOk_by (N := ["web", "said", "numbers", "pairs", "other", "number", "_"]) (sc := defScope sSE) (by decide +kernel)) (fun _ _ _ _ _ => pg_name (i := 6) nd rfl (.inl rfl)) (fun _ _ _ _ _ => pts_nil) (fun _ _ _ _ _ => pe_lst pa_nil))
      (pss_cons (ps_for PassesOwn.never rfl (pi_tup (pv 1)) (pg_name (i := 3) nd rfl (.inl rfl))
        (pss_one (ps_for PassesOwn.never rfl (pi_tup (pv 3)) (pg_tup rfl (pgs_cons (pg_name (i := 4) nd rfl (.inl rfl)) (pgs_cons (pg_name (i := 5) nd rfl (.inl rfl)) pgs_nil)))
          (pss_one (ps_expr (pe_bm PySem.F.plainAttrs_list PySem.F.slot_list_append PySem.F.type_list_append mt_append (pe_ix ix_list (pv 2) (pv 4) (fun _ _ => rfl)) (pa_cons (pv 5) pa_nil)))))))
      (pss_one (ps_ret (pv 2)))), ?_⟩
    refine ⟨_, rfl, w, C, dx, _, _, rfl, hw.at_, T.cl, T.nM, wf_many _ _ _, (M : Int), rfl, by omega, by omega, fun D hD => lc_range (lo := 0) (n := (M : Int).toNat) (fun i H' => ∃ bs : List Addr, H' D = some (.lst (bs.map V.ref)) ∧ bs.length = i ∧ bs.Nodup ∧ D ∉ bs ∧ (∀ a ∈ bs, H' a = some (.lst []) ∧ H a = none) ∧ Same H H') ?_ ?_ ?_⟩
    · exact ⟨[], upd_same, rfl, List.nodup_nil, List.not_mem_nil, fun a ha => absurd ha List.not_mem_nil, sNew (fun _ _ e => e) hD⟩
    · rintro i H1 hi ⟨bs, e1, hl, hn, hd, hb, s1⟩
      refine ⟨rfl, Nat.zero_le _, fun a ha => ?_⟩
      have nDa : D ≠ a := ne_of_none e1 ha
      have ea : upd H1 a (.lst []) D = some (.lst (bs.map V.ref)) := by rw [upd_ne nDa]; exact e1
      have na : a ∉ bs := fun hm => by
        rw [(hb a hm).1] at ha
        cases ha
      refine ⟨_, ea, ?_, bs ++ [a], ?_, ?_, ?_, ?_, ?_, ?_⟩
      · rw [List.length_map, hl]
        exact Nat.lt_of_lt_of_le (m := 64) (by omega) (by decide)
      · rw [upd_same, List.map_append]
        rfl
      · rw [List.length_append, hl]
        rfl
      · exact nd_snoc hn na
      · intro hm
        rcases List.mem_append.mp hm with hm | hm
        · exact hd hm
        · exact nDa (List.mem_singleton.mp hm)
      · intro b hm
        rcases List.mem_append.mp hm with hm | hm
        · refine ⟨?_, (hb b hm).2⟩
          rw [upd_ne (fun e => hd (by rw [← e]; exact hm)), upd_ne (fun e => na (by rw [← e]; exact hm))]
          exact (hb b hm).1
        · obtain rfl := List.mem_singleton.mp hm
          refine ⟨?_, sNo s1 ha⟩
          rw [upd_ne nDa.symm, upd_same]
      · exact sNew (sNew' s1 ha) hD
    · rintro H1 ⟨bs, e1, hl, hn, hd, hb, s1⟩
      have r1 : RowsL H1 D bs (fun _ => []) M := ⟨e1, by omega, hn, hd, fun i a hi => (hb a (List.mem_of_getElem? hi)).1⟩
      have hfr : ∀ a ∈ bs, H a = none := fun a ha => (hb a ha).2
      clear e1 hl hn hd hb
      have hlt : (ts.map V.ref).length = M := by rw [List.length_map, sd.len]
      refine ⟨_, rfl, a, rfl, ⟨_, SqT.of (s1 _ _ sd.at_)⟩, for_tup (K := K) (a := a) (xs := ts.map V.ref) (fun i σ H' => ∃ x3 x4 x5, σ = [some (.ref w), some (.ref a), some (.ref D), x3, x4, x5, none] ∧ RowsL H' D bs (hearN S0 i) M ∧ Same H H') ?_ ?_ ?_ ?_⟩
      · exact ⟨none, none, none, rfl, r1, s1⟩
      · rintro i σ H2 hi ⟨x3, x4, x5, rfl, r2, s2⟩
        exact SqT.of (s2 _ _ sd.at_)
      · rintro i v σ H2 hv ⟨x3, x4, x5, rfl, r2, s2⟩
        obtain ⟨b, hb, rfl⟩ := map_inv hv
        have hiM : i < M := by rw [← sd.len]; exact (List.getElem?_eq_some_iff.mp hb).1
        obtain ⟨rs, eb, hrs, ers⟩ := sd.row i b hb
        refine ⟨_, rfl, b, rfl, ⟨_, SqT.of (s2 _ _ eb)⟩, for_tup (K := K) (a := b) (xs := rs.map fun p => V.ref p.1) (fun j σ H' => ∃ x4 x5, σ = [some (.ref w), some (.ref a), some (.ref D), some (.ref b), x4, x5, none] ∧ RowsL H' D bs (((S0 i).take j).foldl put1 (hearN S0 i)) M ∧ Same H H') ?_ ?_ ?_ ?_⟩
        · exact ⟨x4, x5, rfl, r2, s2⟩
        · rintro j σ H3 hj ⟨x4, x5, rfl, r3, s3⟩
          exact SqT.of (s3 _ _ eb)
        · rintro j v σ H3 hv ⟨x4, x5, rfl, r3, s3⟩
          obtain ⟨p, hp, rfl⟩ := map_inv hv
          have hps : (S0 i)[j]? = some p.2 := by rw [← ers, List.getElem?_map, hp]; rfl
          obtain ⟨p0, pM, _⟩ := (sok i hiM).bnd p.2 (List.mem_of_getElem? hps)
          have ep := s3 _ _ (hrs p (List.mem_of_getElem? hp))
          have lb : p.2.1.toNat < bs.length := by rw [r3.len]; omega
          have gb : bs[p.2.1.toNat]? = some bs[p.2.1.toNat] := List.getElem?_eq_getElem lb
          have rb := r3.row _ _ gb
          refine ⟨p.1, _, rfl, SqT.of ep, rfl, _, _, rfl, _, _, rfl, rfl, ?_⟩
          refine ⟨_, rfl, _, rfl, D, _, p.2.1, _, rfl, rfl, SqL.of r3.at_, get_cast p0 (map_get gb), .inl ⟨rfl, _, SqL.of rb⟩, _, rfl, bs[p.2.1.toNat], _, _, rfl, rfl, rb, ?_, ?_⟩
          · rw [List.length_map]
            exact Nat.lt_of_le_of_lt (part_le j sok hiM _) (Nat.lt_of_lt_of_le (show M < 64 by omega) (by decide))
          · refine ⟨_, _, rfl, ?_, sNew s3 (hfr _ (List.getElem_mem lb))⟩
            rw [fold_snoc hps]
            exact r3.add (j := p.2.2) gb
        · rintro σ H3 ⟨x4, x5, rfl, r3, s3⟩
          have el : (rs.map fun p => V.ref p.1).length = (S0 i).length := by rw [← ers, List.length_map, List.length_map]
          rw [el, List.take_length] at r3
          exact ⟨_, x4, x5, rfl, r3, s3⟩
      · rintro σ H2 ⟨x3, x4, x5, rfl, r2, s2⟩
        rw [hlt] at r2
        exact ⟨_, rfl, k D bs H2 s2 hD r2⟩
theorem scRB : FnScope ["web", "program", "at", "rows", "said", "numbers", "house", "cells"] ["web", "program", "at", "rows", "said"] (defScope sRB) := ⟨rfl, rfl, rfl, by decide +kernel, rfl, by decide +kernel, by decide +kernel⟩
theorem ok_rb {f fX fS C CP : Addr} {fd dX dS : FuncData} (F : Fun K "rows_behind" "rows_behind" sRB f fd) (B : Bts mg) (hsum : mg "sum" = none) (T : WTxt K mg C) (TP : PTxt K mg CP) (D : WDefs K mg) (R : RDefs K mg) (O : OpsT P w K mg base) (DX : Df K mg "nexts_come_to" sNX ["web", "program", "house", "at", "cells", "numbers"] fX dX)
    (DS : Df K mg "said_to_each" sSE ["web", "said"] fS dS) : FnOk P w K mg base CX0 17 f fd ["web", "program", "at", "rows", "said"] (spRB C CP) := by
  have GX : FnOk P w K mg base CX0 16 fX dX ["web", "program", "house", "at", "cells", "numbers"] (spNX C CP) := ok_nx DX.F B hsum T TP D R O
  have GS : FnOk P w K mg base CX0 1 fS dS ["web", "said"] (spSE C) := ok_se DS.F B T
  refine F.ok scRB (fun vs H Q E h => ?_) (fun cdv A outer s0 H vs Q E hr h => ?_)
  · obtain ⟨w, x, a, b, M, nb, s, t, y, n, r, cas, ts, R0, S0, R1, qn, us, rfl, _⟩ := h
    rfl
  · obtain ⟨w, x, a, b, M, nb, s, t, y, n, r, cas, ts, R0, S0, R1, qn, us, rfl, wp, hr0, rows, sd, rfl, hqn, lus, st, k⟩ := h
    have nd := scRB.nd
    have hr1 : Room 1 _ := hr.mono (by decide)
    refine ⟨_, pss_cons (ps_set (i := 5) nd rfl (.inr rfl) (pe_call GS hr1 rfl DS.m DS.k DS.b .nil pass0 (pa_cons (pv 0) (pa_cons (pv 4) pa_nil))))
      (pss_one (ps_ret (pe_callTy call_tuple_of (by rfl) B.tuple PyProof.Rows.boot_tuple (pa_cons (pe_lc (own := [("house", 6), ("cells", 7)]) (g := gTup K 2 (gCons (gName 6) (gCons (gName 7) gNil))) (tt := tYes) rfl nd (pi_enumT rfl B.enumerate (pa_cons (pv 3) pa_nil))
        (blkOk_by (N := ["web", "program", "at", "rows", "said", "numbers", "house", "cells"]) (sc := defScope sRB) (by decide +kernel)) (fun _ _ _ _ _ => pg_tup rfl (pgs_cons (pg_name (i := 6) nd rfl (.inl rfl)) (pgs_cons (pg_name (i := 7) nd rfl (.inl rfl)) pgs_nil))) (fun _ _ _ _ _ => pts_nil)
        (fun _ _ _ _ _ => pe_call GX hr rfl DX.m DX.k DX.b .nil pass0 (pa_cons (pv 0) (pa_cons (pv 1) (pa_cons (pv 6) (pa_cons (pv 2) (pa_cons (pv 7) (pa_cons (pe_ix (r := rIxL K) ix_list (pv 5) (pv 6) (fun _ _ => rfl)) pa_nil)))))))) pa_nil)))), ?_⟩
    have hlc : (cas.map V.ref).length = M := by rw [List.length_map, rows.len]
    have m40 := wp.N.m40
    have m1 := wp.N.m1
    obtain ⟨dx, qw, rw0, L, wbs, hw⟩ := (wp.pre 0 (by omega)).web
    refine ⟨_, rfl, _, rfl, w, b, M, ts, S0, rfl, ⟨dx, qw, rw0, L, wbs, nb, hw⟩, m40, sd, st.ok, fun d bs H1 s1 hd0 rl => ?_⟩
    have lenH := hear_le (n := M) st.ok
    have smH := hear_sm (n := M) st.ok
    refine ⟨_, rfl, a, cas.map V.ref, rfl, SqT.of (s1 _ _ rows.at_), fun D0 hD => lc_it (walk_enT (K := K) (a := a) (xs := cas.map V.ref)) (fun i H' => ∃ cs : List Addr, H' D0 = some (.lst (cs.map V.ref)) ∧ cs.length = i ∧ (∀ j b, cs[j]? = some b → H' b = some (.tup ((R1 j).map V.int))) ∧ Same H1 H') ?_ ?_ ?_ ?_⟩
    · exact ⟨[], upd_same, rfl, fun j b e => absurd e (by simp), sN hD⟩
    · rintro i H2 hi ⟨cs, _, _, _, s2⟩
      exact SqT.of (s2 _ _ (s1 _ _ rows.at_))
    · rintro i v H2 H3 hi ⟨cs, eD, hl, hrow, s2⟩ ⟨T1, z1, z2, rfl, hT, rfl, e1, e2⟩
      obtain rfl := Option.some.inj e1
      obtain ⟨c, hc, rfl⟩ := map_inv e2
      have hiM : i < M := by omega
      have s3 := sN (o := .tup [.int (i : Nat), .ref c]) hT
      have s123 := sT s1 (sT s2 s3)
      have rl3 := rl.same (sT s2 s3)
      obtain ⟨le, mo, hle, hmo, pz⟩ := st.nx i hiM
      have ul : i < bs.length := by rw [rl.len]; exact hiM
      have gu : bs[i]? = some bs[i] := List.getElem?_eq_getElem ul
      refine ⟨T1, _, rfl, SqT.of upd_same, rfl, _, _, rfl, _, _, rfl, rfl, ?_⟩
      refine ⟨rfl, _, rfl, _, rfl, _, rfl, _, rfl, _, rfl, _, rfl, _, rfl, d, _, (i : Int), _, rfl, rfl, SqL.of rl3.at_, atI_nat (map_get gu), w, x, (M : Int), nb, s, t, y, _, i, (r : Int), c, bs[i], R0 i, hearN S0 M i, le, mo, qn, us, R1 i, rfl, (wp.pre i hiM).same s123, (by unfold Sm; omega), s123 _ _ (rows.row i c hc), .inr (rl3.row _ _ gu), by have := lenH i; omega, smH i, hle, hmo, rfl, s123 _ _ hqn, lus, paired_mono' (fun _ _ z => z.same s123) (pz c), fun tq H4 s4 etq => ?_⟩
      have eD4 := s4 _ _ (s3 _ _ eD)
      have s34 := sT s3 s4
      refine ⟨_, eD4, ?_, cs ++ [tq], ?_, ?_, ?_, ?_⟩
      · rw [List.length_map, hl]
        exact Nat.lt_of_lt_of_le (show i < 64 by omega) (by decide)
      · rw [upd_same, List.map_append]
        rfl
      · rw [List.length_append, hl]
        rfl
      · refine snoc_row hl (fun j b e => ?_) ?_
        · have z := s34 _ _ (hrow j b e)
          rw [upd_ne (not_lst eD4 _ _ z)]
          exact z
        · rw [upd_ne (not_lst eD4 _ _ etq)]
          exact etq
      · exact sNew (sT (sT s2 s3) s4) hD
    · rintro H2 ⟨cs, eD, hl, hrow, s2⟩
      refine ⟨D0, _, rfl, .inl ⟨SqL.of eD, fun tq htq => ?_⟩⟩
      have s3 := sN (o := .tup (cs.map V.ref)) htq
      exact k tq cs _ (sT s1 (sT s2 s3)) ⟨upd_same, by rw [hl, hlc], fun j b e => s3 _ _ (hrow j b e)⟩
end
end Q

namespace Q
open PySem L2 QM
abbrev sRR : Stmt := top 50
abbrev sLk : Stmt := top 51
abbrev sMS : Stmt := top 52
theorem RowsT.upd {H : Hp} {r D : Addr} {bs : List Addr} {nb : Nat → List Int} {n : Nat} {o : HO} (h : RowsT H r bs nb n) (no : ∀ b xs, H b = some (.tup xs) → b ≠ D) : RowsT (L2.upd H D o) r bs nb n :=
  ⟨by rw [upd_ne (no _ _ h.at_)]; exact h.at_, h.len, fun i a e => by rw [upd_ne (no _ _ (h.row i a e))]; exact h.row i a e⟩
theorem SaidsT.upd {H : Hp} {a D : Addr} {ts : List Addr} {S0 : Nat → List (Int × Int)} {M : Nat} {o : HO} (h : SaidsT H a ts S0 M) (no : ∀ b xs, H b = some (.tup xs) → b ≠ D) : SaidsT (L2.upd H D o) a ts S0 M :=
  ⟨by rw [upd_ne (no _ _ h.at_)]; exact h.at_, h.len, fun i b e => (h.row i b e).upd no⟩
structure CellsL (H : Hp) (c : Addr) (as : List Addr) (R : Nat → Nat → List Int) (n M : Nat) : Prop where
  at_ : H c = some (.lst (as.map V.ref))
  len : as.length = n + 1
  row : ∀ (i : Nat) (a : Addr), as[i]? = some a → ∃ cas, RowsT H a cas (R i) M
structure ToldL (H : Hp) (d : Addr) (bs : List Addr) (S : Nat → Nat → List (Int × Int)) (n M : Nat) : Prop where
  at_ : H d = some (.lst (bs.map V.ref))
  len : bs.length = n
  row : ∀ (i : Nat) (b : Addr), bs[i]? = some b → ∃ ts, SaidsT H b ts (S i) M
theorem CellsL.same {H H' : Hp} {c : Addr} {as : List Addr} {R : Nat → Nat → List Int} {n M : Nat} (h : CellsL H c as R n M) (s : Same H H') : CellsL H' c as R n M := ⟨s _ _ h.at_, h.len, fun i a e => by
  obtain ⟨cas, z⟩ := h.row i a e
  exact ⟨cas, z.same s⟩⟩
theorem ToldL.same {H H' : Hp} {d : Addr} {bs : List Addr} {S : Nat → Nat → List (Int × Int)} {n M : Nat} (h : ToldL H d bs S n M) (s : Same H H') : ToldL H' d bs S n M := ⟨s _ _ h.at_, h.len, fun i b e => by
  obtain ⟨ts, z⟩ := h.row i b e
  exact ⟨ts, z.same s⟩⟩
/-- what a run by rounds stands on -/
def PreR (C CP : Addr) (H : Hp) (vs : List V) (M k : Nat) (R : Nat → Nat → List Int) (S : Nat → Nat → List (Int × Int)) : Prop :=
  ∃ (w x : Addr) (nb : Nat → List Int) (t y : V) (q qn : Addr) (xs us : List V), vs = [.ref w, .ref x, .int (k : Int)] ∧ WP C CP H w M nb x (.ref q) t y (.ref qn) ∧ H q = some (.tup xs) ∧ xs.length ≤ 4 ∧ H qn = some (.tup us) ∧ us.length ≤ 4 ∧ Runs H M nb xs t y us R S k ∧ k ≤ 40
def spRR (C CP : Addr) : Sp := fun vs H Q _ => ∃ (M k : Nat) (R : Nat → Nat → List Int) (S : Nat → Nat → List (Int × Int)), PreR C CP H vs M k R S ∧ ∀ p c d as bs H', Same H H' → H c = none → H' p = some (.tup [.ref c, .ref d]) → CellsL H' c as R k M → ToldL H' d bs S k M → Q (.ref p) H'
def spLk (C CP : Addr) : Sp := fun vs H Q _ => ∃ (M k : Nat) (R : Nat → Nat → List Int) (S : Nat → Nat → List (Int × Int)), PreR C CP H vs M k R S ∧ ∀ c as H', Same H H' → H c = none → CellsL H' c as R k M → Q (.ref c) H'
def spMS (C CP : Addr) : Sp := fun vs H Q _ => ∃ (M k : Nat) (R : Nat → Nat → List Int) (S : Nat → Nat → List (Int × Int)), PreR C CP H vs M k R S ∧ ∀ H', Same H H' → Q (.int (tot S M k : Nat)) H'
def rLen (K : PySem.W.Frag) : List V → Hp → VK → Prop := fun xs H Q => ∃ (p : Addr) (ys : List V), xs = [V.ref p] ∧ (SqL K H p ys ∨ SqT K H p ys) ∧ Q (V.int ys.length) H
theorem lc_in {J : It} {n : Nat} {G : Hp → Prop} {Y : Nat → Hp → V → Hp → Prop} (w : Walk J n G Y) {g : TG} {tt : TT} {te : TE} {vs : List Nat} {σ : L2.St} {H1 : Hp} {D : Addr} {Qd : Hp → Prop} (Pv : Nat → Hp → Prop) (h0 : Pv 0 H1) (hG : ∀ i H, i ≤ n → Pv i H → G H)
    (hs : ∀ i x H H', i < n → Pv i H → Y i H x H' → g x (wipe σ vs) H' fun σ2 H2 => wipe σ2 vs = wipe σ vs ∧ tt σ2 H2 fun b H3 =>
      if b = true then te σ2 H3 fun y H4 => ∃ acc, H4 D = some (.lst acc) ∧ acc.length < sizeLine ∧ Pv (i + 1) (L2.upd H4 D (.lst (acc ++ [y]))) else Pv (i + 1) H3) (hd : ∀ H, Pv n H → Qd H) :
    ∃ W : Nat → Nat → Hp → Prop, (∃ m, W 0 m H1) ∧ ∀ i m H, W i m H →
      (J.stop i H ∧ Qd H) ∨ (J.go i H ∧ ∃ Nx : Hp → Prop, (∀ H', Nx H' → ∃ m', m' < m ∧ W (i + 1) m' H') ∧ ∀ x H', J.yld i H x H' → g x (wipe σ vs) H' fun σ2 H2 => wipe σ2 vs = wipe σ vs ∧ tt σ2 H2 fun b H3 =>
        if b = true then te σ2 H3 fun y H4 => ∃ acc, H4 D = some (.lst acc) ∧ acc.length < sizeLine ∧ Nx (L2.upd H4 D (.lst (acc ++ [y]))) else Nx H3) := by
  refine ⟨fun i m H => m = n - i ∧ i ≤ n ∧ Pv i H, ⟨n, by simp, Nat.zero_le _, h0⟩, ?_⟩
  rintro i m H ⟨rfl, hi, p⟩
  have q := hG i H hi p
  by_cases hlt : i < n
  · refine .inr ⟨w.goes i H hlt q, Pv (i + 1), fun H' p' => ⟨n - (i + 1), by omega, rfl, hlt, p'⟩, fun x H' y => hs i x H H' hlt p (w.yields i H x H' hlt q y)⟩
  · have e : i = n := by omega
    subst e
    exact .inl ⟨w.stops H q, hd H p⟩
theorem lc_out {J : It} {n : Nat} {G : Hp → Prop} {Y : Nat → Hp → V → Hp → Prop} (w : Walk J n G Y) {g : TG} {tt : TT} {bd : L2.St → Hp → (Hp → Prop) → Prop} {vs : List Nat} {σ : L2.St} {H1 : Hp} {Qd : Hp → Prop} (Pv : Nat → Hp → Prop) (h0 : Pv 0 H1) (hG : ∀ i H, i ≤ n → Pv i H → G H)
    (hs : ∀ i x H H', i < n → Pv i H → Y i H x H' → g x (wipe σ vs) H' fun σ2 H2 => wipe σ2 vs = wipe σ vs ∧ tt σ2 H2 fun b H3 =>
      if b = true then bd σ2 H3 (Pv (i + 1)) else Pv (i + 1) H3) (hd : ∀ H, Pv n H → Qd H) :
    ∃ W : Nat → Nat → Hp → Prop, (∃ m, W 0 m H1) ∧ ∀ i m H, W i m H →
      (J.stop i H ∧ Qd H) ∨ (J.go i H ∧ ∃ Nx : Hp → Prop, (∀ H', Nx H' → ∃ m', m' < m ∧ W (i + 1) m' H') ∧ ∀ x H', J.yld i H x H' → g x (wipe σ vs) H' fun σ2 H2 => wipe σ2 vs = wipe σ vs ∧ tt σ2 H2 fun b H3 =>
        if b = true then bd σ2 H3 Nx else Nx H3) := by
  refine ⟨fun i m H => m = n - i ∧ i ≤ n ∧ Pv i H, ⟨n, by simp, Nat.zero_le _, h0⟩, ?_⟩
  rintro i m H ⟨rfl, hi, p⟩
  have q := hG i H hi p
  by_cases hlt : i < n
  · refine .inr ⟨w.goes i H hlt q, Pv (i + 1), fun H' p' => ⟨n - (i + 1), by omega, rfl, hlt, p'⟩, fun x H' y => hs i x H H' hlt p (w.yields i H x H' hlt q y)⟩
  · have e : i = n := by omega
    subst e
    exact .inl ⟨w.stops H q, hd H p⟩
section
variable {P : Program} {w : World} {K : PySem.W.Frag} {mg : Str → Option Value} {base : Heap}
/-- the defs that lockstep leans on -/
structure KDefs (K : PySem.W.Frag) (mg : Str → Option Value) where
  fT : Addr
  dT : FuncData
  DT : Df K mg "starts_come_to" sSC ["web", "program", "house"] fT dT
  fY : Addr
  dY : FuncData
  DY : Df K mg "sayings_come_to" sSY ["web", "program", "house", "at", "cells"] fY dY
  fX : Addr
  dX : FuncData
  DX : Df K mg "nexts_come_to" sNX ["web", "program", "house", "at", "cells", "numbers"] fX dX
  fA : Addr
  dA : FuncData
  DA : Df K mg "all_sayings" sAll ["web", "program", "at", "rows"] fA dA
  fE : Addr
  dE : FuncData
  DE : Df K mg "said_to_each" sSE ["web", "said"] fE dE
  fB : Addr
  dB : FuncData
  DB : Df K mg "rows_behind" sRB ["web", "program", "at", "rows", "said"] fB dB
  fR : Addr
  dR : FuncData
  DR : Df K mg "round_by_round" sRR ["web", "program", "rounds"] fR dR
theorem scRR : FnScope ["web", "program", "rounds", "rows", "cells", "told", "at", "said", "house"] ["web", "program", "rounds"] (defScope sRR) := ⟨rfl, rfl, rfl, by decide +kernel, rfl, by decide +kernel, by decide +kernel⟩
theorem ok_rr {f C CP : Addr} {fd : FuncData} (F : Fun K "round_by_round" "round_by_round" sRR f fd) (B : Bts mg) (hsum : mg "sum" = none) (T : WTxt K mg C) (TP : PTxt K mg CP) (D : WDefs K mg) (R : RDefs K mg) (O : OpsT P w K mg base) (N : KDefs K mg) :
    FnOk P w K mg base CX0 18 f fd ["web", "program", "rounds"] (spRR C CP) := by
  have GT : FnOk P w K mg base CX0 16 N.fT N.dT ["web", "program", "house"] (spSC C CP) := ok_sc N.DT.F B T TP D R O
  have GA : FnOk P w K mg base CX0 17 N.fA N.dA ["web", "program", "at", "rows"] (spAll C CP) := ok_all N.DA.F B T TP D R O N.DY
  have GB : FnOk P w K mg base CX0 17 N.fB N.dB ["web", "program", "at", "rows", "said"] (spRB C CP) := ok_rb N.DB.F B hsum T TP D R O N.DX N.DE
  refine F.ok scRR (fun vs H Q E h => ?_) (fun cdv A outer s0 H vs Q E hr h => ?_)
  · obtain ⟨M, k, R, S, ⟨w, x, nb, t, y, q, qn, xs, us, rfl, _⟩, _⟩ := h
    rfl
  · obtain ⟨M, k, R, S, ⟨w, x, nb, t, y, q, qn, xs, us, rfl, wp, hq, lx, hqn, lus, ru, k40⟩, kk⟩ := h
    have nd := scRR.nd
    have hr16 : Room 16 _ := hr.mono (by decide)
    have m40 := wp.N.m40
    have m1 := wp.N.m1
    refine ⟨_, pss_cons (ps_set (i := 3) nd rfl (.inl rfl) (pe_callTy call_tuple_of (by rfl) B.tuple PyProof.Rows.boot_tuple (pa_cons (pe_lc (own := [("house", 8)]) (g := gName 8) (tt := tYes) rfl nd (pi_range1 rfl B.range (pa_cons (pe_fld (pv 0) rfl) pa_nil))
        (blkOk_by (N := ["web", "program", "rounds", "rows", "cells", "told", "at", "said", "house"]) (sc := defScope sRR) (by decide +kernel)) (fun _ _ _ _ _ => pg_name (i := 8) nd rfl (.inl rfl)) (fun _ _ _ _ _ => pts_nil)
        (fun _ _ _ _ _ => pe_call GT hr16 rfl N.DT.m N.DT.k N.DT.b .nil pass0 (pa_cons (pv 0) (pa_cons (pv 1) (pa_cons (pv 8) pa_nil))))) pa_nil)))
      (pss_cons (ps_set (i := 4) nd rfl (.inl rfl) (pe_lst (pa_cons (pv 3) pa_nil)))
      (pss_cons (ps_set (i := 5) nd rfl (.inl rfl) (pe_lst pa_nil))
      (pss_cons (ps_for PassesOwn.never rfl (pi_range1 rfl B.range (pa_cons (pv 2) pa_nil)) (pg_name (i := 6) nd rfl (.inl rfl))
        (pss_cons (ps_set (i := 7) nd rfl (.inl rfl) (pe_call GA hr rfl N.DA.m N.DA.k N.DA.b .nil pass0 (pa_cons (pv 0) (pa_cons (pv 1) (pa_cons (pv 6) (pa_cons (pv 3) pa_nil))))))
        (pss_cons (ps_set (i := 3) nd rfl (.inl rfl) (pe_call GB hr rfl N.DB.m N.DB.k N.DB.b .nil pass0 (pa_cons (pv 0) (pa_cons (pv 1) (pa_cons (pv 6) (pa_cons (pv 3) (pa_cons (pv 7) pa_nil)))))))
        (pss_cons (ps_expr (pe_bm PySem.F.plainAttrs_list PySem.F.slot_list_append PySem.F.type_list_append mt_append (pv 5) (pa_cons (pv 7) pa_nil)))
        (pss_one (ps_expr (pe_bm PySem.F.plainAttrs_list PySem.F.slot_list_append PySem.F.type_list_append mt_append (pv 4) (pa_cons (pv 3) pa_nil))))))))
      (pss_one (ps_ret (pe_tup (pa_cons (pv 4) (pa_cons (pv 5) pa_nil)))))))), ?_⟩
    obtain ⟨dx, qw, rw0, L, wbs, hw⟩ := (wp.pre 0 (by omega)).web
    have eM : ((M : Int)).toNat = M := Int.toNat_natCast M
    have ek : ((k : Int)).toNat = k := Int.toNat_natCast k
    refine ⟨_, rfl, w, C, dx, _, _, rfl, hw.at_, T.cl, T.nM, wf_many _ _ _, (M : Int), rfl, by omega, by omega, fun D0 hD => lc_range (lo := 0) (n := (M : Int).toNat) (fun i H' => ∃ cs : List Addr, H' D0 = some (.lst (cs.map V.ref)) ∧ cs.length = i ∧ (∀ j b, cs[j]? = some b → H' b = some (.tup ((R 0 j).map V.int))) ∧ Same H H') ?_ ?_ ?_⟩
    · exact ⟨[], upd_same, rfl, fun j b e => absurd e (by simp), sN hD⟩
    · rintro i H2 hi ⟨cs, eD, hl, hrow, s2⟩
      rw [Int.zero_add]
      have hiM : i < M := by omega
      refine ⟨rfl, _, rfl, _, rfl, _, rfl, w, x, (M : Int), nb, _, t, y, _, i, q, xs, R 0 i, rfl, (wp.pre i hiM).same s2, rfl, s2 _ _ hq, lx, paired_mono' (fun _ _ z => z.same s2) (ru.st i hiM), fun tq H4 s4 etq => ?_⟩
      have eD4 := s4 _ _ eD
      refine ⟨_, eD4, ?_, cs ++ [tq], ?_, ?_, ?_, ?_⟩
      · rw [List.length_map, hl]
        exact Nat.lt_of_lt_of_le (show i < 64 by omega) (by decide)
      · rw [upd_same, List.map_append]
        rfl
      · rw [List.length_append, hl]
        rfl
      · refine snoc_row hl (fun j b e => ?_) ?_
        · have z := s4 _ _ (hrow j b e)
          rw [upd_ne (not_lst eD4 _ _ z)]
          exact z
        · rw [upd_ne (not_lst eD4 _ _ etq)]
          exact etq
      · exact sNew (sT s2 s4) hD
    · rintro H2 ⟨cs, eD, hl, hrow, s2⟩
      refine ⟨D0, _, rfl, .inl ⟨SqL.of eD, fun ta hta => ?_⟩⟩
      have s3 := sT s2 (sN (o := .tup (cs.map V.ref)) hta)
      have rows0 : RowsT (L2.upd H2 ta (.tup (cs.map V.ref))) ta cs (R 0) M := ⟨upd_same, by rw [hl, eM], fun j b e => (sN hta) _ _ (hrow j b e)⟩
      revert s3 rows0
      generalize L2.upd H2 ta (.tup (cs.map V.ref)) = H3
      intro s3 rows0
      refine ⟨_, rfl, (by show 1 ≤ sizeLine; decide), fun lc hlc => ?_⟩
      have s4 := sN (o := .lst [.ref ta]) hlc
      have hlc0 : H lc = none := sNo s3 hlc
      refine ⟨Nat.zero_le _, fun ld hld => ?_⟩
      have s5 := sN (o := .lst []) hld
      have hld0 : H ld = none := sNo (sT s3 s4) hld
      have ncd : lc ≠ ld := ne_of_none upd_same hld
      refine ⟨_, rfl, (k : Int), rfl, by omega, by omega, for_range (lo := 0) (n := (k : Int).toNat) (fun i σ H' => ∃ (ra : Addr) (x6 x7 : Option V) (cas as bs : List Addr), σ = [some (.ref w), some (.ref x), some (.int (k : Int)), some (.ref ra), some (.ref lc), some (.ref ld), x6, x7, none] ∧ RowsT H' ra cas (R i) M ∧ CellsL H' lc as R i M ∧ ToldL H' ld bs S i M ∧ Same H H') ?_ ?_ ?_⟩
      · refine ⟨ta, none, none, cs, [ta], [], rfl, rows0.same (sT s4 s5), ⟨s5 _ _ upd_same, rfl, fun i a e => ?_⟩, ⟨upd_same, rfl, fun i a e => absurd e (by simp)⟩, sT s3 (sT s4 s5)⟩
        have e2 : i = 0 ∧ ta = a := by
          cases i with
          | zero => exact ⟨rfl, by simpa using e⟩
          | succ i => exact absurd e (by simp)
        obtain ⟨rfl, rfl⟩ := e2
        exact ⟨cs, rows0.same (sT s4 s5)⟩
      · rintro i σ H6 hi ⟨ra, x6, x7, cas, as, bs, rfl, rows, cl, tl, s6⟩
        rw [Int.zero_add]
        have hik : i < k := by omega
        have st := ru.step i hik
        refine ⟨_, rfl, _, rfl, _, rfl, _, rfl, w, x, ra, M, nb, _, t, y, _, i, cas, R i, S i, rfl, wp.same s6, by omega, rows, (st.grow (Grow.of_same s6)).sa, fun tq ts H7 s7 sd => ?_⟩
        refine ⟨_, rfl, _, rfl, _, rfl, _, rfl, _, rfl, w, x, ra, tq, M, nb, _, t, y, _, i, cas, ts, R i, S i, R (i + 1), qn, us, rfl, (wp.same s6).same s7, by omega, rows.same s7, sd, rfl, s7 _ _ (s6 _ _ hqn), lus, st.grow (Grow.of_same (sT s6 s7)), fun rb cas' H8 s8 rows' => ?_⟩
        have s78 := sT s7 s8
        have etl := s78 _ _ tl.at_
        have ecl := s78 _ _ cl.at_
        have no8 := not_lst etl
        refine ⟨_, rfl, .inl ⟨rfl, _, SqL.of etl⟩, _, rfl, ld, _, _, rfl, rfl, etl, ?_, ?_⟩
        · rw [List.length_map, tl.len]
          exact Nat.lt_of_lt_of_le (show i < 64 by omega) (by decide)
        have ecl9 : (L2.upd H8 ld (.lst (bs.map V.ref ++ [.ref tq]))) lc = some (.lst (as.map V.ref)) := by
          rw [upd_ne ncd]
          exact ecl
        have no9 := not_lst ecl9
        refine ⟨_, rfl, .inl ⟨rfl, _, SqL.of ecl9⟩, _, rfl, lc, _, _, rfl, rfl, ecl9, ?_, ?_⟩
        · rw [List.length_map, cl.len]
          exact Nat.lt_of_lt_of_le (show i + 1 < 64 by omega) (by decide)
        refine ⟨rb, _, _, cas', as ++ [rb], bs ++ [tq], rfl, (rows'.upd no8).upd no9, ⟨?_, ?_, ?_⟩, ⟨?_, ?_, ?_⟩, ?_⟩
        · rw [upd_same, List.map_append]
          rfl
        · rw [List.length_append, cl.len]
          rfl
        · refine snoc_row cl.len (fun j b e => ?_) ⟨cas', (rows'.upd no8).upd no9⟩
          obtain ⟨cc, z⟩ := cl.row j b e
          exact ⟨cc, ((z.same s78).upd no8).upd no9⟩
        · rw [upd_ne ncd.symm, upd_same, List.map_append]
          rfl
        · rw [List.length_append, tl.len]
          rfl
        · refine snoc_row tl.len (fun j b e => ?_) ⟨ts, ((sd.same s8).upd no8).upd no9⟩
          obtain ⟨cc, z⟩ := tl.row j b e
          exact ⟨cc, ((z.same s78).upd no8).upd no9⟩
        · exact sNew (sNew (sT s6 s78) hld0) hlc0
      · rintro σ H6 ⟨ra, x6, x7, cas, as, bs, rfl, rows, cl, tl, s6⟩
        rw [ek] at cl tl
        refine ⟨_, rfl, _, rfl, (by show 2 ≤ sizeLine; decide), fun p hp => ?_⟩
        have s7 := sN (o := .tup [.ref lc, .ref ld]) hp
        exact kk p lc ld as bs _ (sT s6 s7) hlc0 upd_same (cl.same s7) (tl.same s7)
theorem forty {k : Nat} (h : k ≤ 40) : (decide (0 ≤ (k : Int)) && decide ((k : Int) < 40 + 1)) = true := by
  rw [decide_eq_true (by omega), decide_eq_true (by omega)]
  rfl
theorem scLk : FnScope ["web", "program", "rounds", "cells", "_"] ["web", "program", "rounds"] (defScope sLk) := ⟨rfl, rfl, rfl, by decide +kernel, rfl, by decide +kernel, by decide +kernel⟩
theorem ok_lk {f C CP : Addr} {fd : FuncData} (F : Fun K "lockstep" "lockstep" sLk f fd) (B : Bts mg) (hsum : mg "sum" = none) (hmr : ∃ t, mg "MOST_ROUNDS" = some (.int 40 t)) (T : WTxt K mg C) (TP : PTxt K mg CP) (D : WDefs K mg) (R : RDefs K mg) (O : OpsT P w K mg base) (N : KDefs K mg) :
    FnOk P w K mg base CX0 19 f fd ["web", "program", "rounds"] (spLk C CP) := by
  have GN : FnOk P w K mg base CX0 2 D.fN D.dN ["limit", "thing"] (spNum K) := ok_num D.DN.F B D.DP
  have GR : FnOk P w K mg base CX0 18 N.fR N.dR ["web", "program", "rounds"] (spRR C CP) := ok_rr N.DR.F B hsum T TP D R O N
  obtain ⟨tr, hr0⟩ := hmr
  refine F.ok scLk (fun vs H Q E h => ?_) (fun cdv A outer s0 H vs Q E hr h => ?_)
  · obtain ⟨M, k, R, S, ⟨w, x, nb, t, y, q, qn, xs, us, rfl, _⟩, _⟩ := h
    rfl
  · obtain ⟨M, k, R, S, pre, kk⟩ := h
    obtain ⟨w, x, nb, t, y, q, qn, xs, us, rfl, rest⟩ := id pre
    have k40 := rest.2.2.2.2.2.2
    have nd := scLk.nd
    have hr2 : Room 2 _ := hr.mono (by decide)
    refine ⟨_, pss_cons (ps_if (pt_not (pt_val (pe_call GN hr2 rfl D.DN.m D.DN.k D.DN.b .nil pass0 (pa_cons (pe_op op_add (pe_glob (v := .int 40) rfl hr0 ⟨_, rfl⟩) pe_int) (pa_cons (pv 2) pa_nil))))) pss_never pss_nil)
      (pss_cons (ps_asg (pe_call GR hr rfl N.DR.m N.DR.k N.DR.b .nil pass0 (pa_cons (pv 0) (pa_cons (pv 1) (pa_cons (pv 2) pa_nil)))) (pg_tup rfl (pgs_cons (pg_name (i := 3) nd rfl (.inl rfl)) (pgs_cons (pg_name (i := 4) nd rfl (.inl rfl)) pgs_nil))))
      (pss_one (ps_ret (pv 3)))), ?_⟩
    refine ⟨_, _, rfl, rfl, _, rfl, _, _, rfl, .inl ⟨_, rfl, _, rfl, ?_⟩⟩
    rw [forty k40]
    refine iteF ⟨_, rfl, _, rfl, _, rfl, M, k, R, S, pre, fun p c d as bs H1 s1 hc ep cl tl => ?_⟩
    exact ⟨p, _, rfl, SqT.of ep, rfl, _, _, rfl, _, _, rfl, rfl, _, rfl, kk c as H1 s1 hc cl⟩
theorem scMS : FnScope ["web", "program", "rounds", "_", "told", "said", "pairs"] ["web", "program", "rounds"] (defScope sMS) := ⟨rfl, rfl, rfl, by decide +kernel, rfl, by decide +kernel, by decide +kernel⟩
theorem ok_ms {f C CP : Addr} {fd : FuncData} (F : Fun K "many_said" "many_said" sMS f fd) (B : Bts mg) (hsum : mg "sum" = none) (hmr : ∃ t, mg "MOST_ROUNDS" = some (.int 40 t)) (T : WTxt K mg C) (TP : PTxt K mg CP) (D : WDefs K mg) (R : RDefs K mg) (O : OpsT P w K mg base) (N : KDefs K mg) :
    FnOk P w K mg base CX0 19 f fd ["web", "program", "rounds"] (spMS C CP) := by
  have GN : FnOk P w K mg base CX0 2 D.fN D.dN ["limit", "thing"] (spNum K) := ok_num D.DN.F B D.DP
  have GR : FnOk P w K mg base CX0 18 N.fR N.dR ["web", "program", "rounds"] (spRR C CP) := ok_rr N.DR.F B hsum T TP D R O N
  obtain ⟨tr, hr0⟩ := hmr
  refine F.ok scMS (fun vs H Q E h => ?_) (fun cdv A outer s0 H vs Q E hr h => ?_)
  · obtain ⟨M, k, R, S, ⟨w, x, nb, t, y, q, qn, xs, us, rfl, _⟩, _⟩ := h
    rfl
  · obtain ⟨M, k, R, S, pre, kk⟩ := h
    obtain ⟨w, x, nb, t, y, q, qn, xs, us, rfl, rest⟩ := id pre
    have k40 := rest.2.2.2.2.2.2
    have m40 := rest.1.N.m40
    have nd := scMS.nd
    have hr2 : Room 2 _ := hr.mono (by decide)
    refine ⟨_, pss_cons (ps_if (pt_not (pt_val (pe_call GN hr2 rfl D.DN.m D.DN.k D.DN.b .nil pass0 (pa_cons (pe_op op_add (pe_glob (v := .int 40) rfl hr0 ⟨_, rfl⟩) pe_int) (pa_cons (pv 2) pa_nil))))) pss_never pss_nil)
      (pss_cons (ps_asg (pe_call GR hr rfl N.DR.m N.DR.k N.DR.b .nil pass0 (pa_cons (pv 0) (pa_cons (pv 1) (pa_cons (pv 2) pa_nil)))) (pg_tup rfl (pgs_cons (pg_name (i := 3) nd rfl (.inl rfl)) (pgs_cons (pg_name (i := 4) nd rfl (.inl rfl)) pgs_nil))))
      (pss_one (ps_ret (pe_callB (r := rSumO K) (cr_sumO rfl) (by rfl) hsum PyProof.Rows.boot_sum (pa_cons (pe_lc2 (own := [("said", 5), ("pairs", 6)]) (vs1 := [6]) (g := gName 5) (tt := tYes) (wi1 := iTup K (tVar 5)) (g1 := gName 6) (tt1 := tYes) rfl nd (pi_list (pv 4))
        (blkOk_by (N := ["web", "program", "rounds", "_", "told", "said", "pairs"]) (sc := defScope sMS) (by decide +kernel)) (by decide +kernel) (fun _ _ _ _ _ => pg_name (i := 5) nd rfl (.inl rfl)) (fun _ _ _ _ _ => pts_nil)
        (fun _ _ _ _ _ => pi_tup (pv 5)) (fun _ _ _ _ _ => pg_name (i := 6) nd rfl (.inl rfl)) (fun _ _ _ _ _ => pts_nil)
        (fun _ _ _ _ _ => pe_callB (r := rLen K) call_len_seq (by rfl) B.len PySem.boot_len (pa_cons (pv 6) pa_nil))) pa_nil))))), ?_⟩
    refine ⟨_, _, rfl, rfl, _, rfl, _, _, rfl, .inl ⟨_, rfl, _, rfl, ?_⟩⟩
    rw [forty k40]
    refine iteF ⟨_, rfl, _, rfl, _, rfl, M, k, R, S, pre, fun p c d as bs H1 s1 hc ep cl tl => ?_⟩
    refine ⟨p, _, rfl, SqT.of ep, rfl, _, _, rfl, _, _, rfl, rfl, ?_⟩
    have hlb : (bs.map V.ref).length = k := by rw [List.length_map, tl.len]
    refine ⟨_, rfl, d, rfl, ⟨_, SqL.of tl.at_⟩, fun D0 hD => lc_out (walk_list (K := K) (a := d) (xs := bs.map V.ref)) (fun i H' => ∃ ns : List Int, H' D0 = some (.lst (ns.map V.int)) ∧ ns.length = i * M ∧ ns.sum = ((tot S M i : Nat) : Int) ∧ Same H1 H') ?_ ?_ ?_ ?_⟩
    · exact ⟨[], upd_same, by rw [Nat.zero_mul]; rfl, rfl, sN hD⟩
    · rintro i H2 hi ⟨ns, _, _, _, s2⟩
      exact SqL.of (s2 _ _ tl.at_)
    · rintro i v H2 _ hi ⟨ns, eD, hl, hs, s2⟩ ⟨rfl, e2⟩
      obtain ⟨b, hb, rfl⟩ := map_inv e2
      have hik : i < k := by omega
      obtain ⟨ts, sd⟩ := tl.row i b hb
      refine ⟨rfl, _, rfl, b, rfl, ⟨_, SqT.of (s2 _ _ sd.at_)⟩, lc_in (walk_tup (K := K) (a := b) (xs := ts.map V.ref)) (fun j H' => ∃ ns : List Int, H' D0 = some (.lst (ns.map V.int)) ∧ ns.length = i * M + j ∧ ns.sum = ((tot S M i + tot1 (S i) j : Nat) : Int) ∧ Same H1 H') ?_ ?_ ?_ ?_⟩
      · exact ⟨ns, eD, hl, hs, s2⟩
      · rintro j H3 hj ⟨ns, _, _, _, s3⟩
        exact SqT.of (s3 _ _ sd.at_)
      · rintro j v H3 _ hj ⟨ns, eD, hl, hs, s3⟩ ⟨rfl, e3⟩
        obtain ⟨c1, hc1, rfl⟩ := map_inv e3
        obtain ⟨rs, er, _, ers⟩ := sd.row j c1 hc1
        have hjM : j < M := by rw [← sd.len]; exact (List.getElem?_eq_some_iff.mp hc1).1
        refine ⟨rfl, _, rfl, c1, _, rfl, .inr (SqT.of (s3 _ _ er)), _, eD, ?_, ns ++ [((S i j).length : Int)], ?_, ?_, ?_, sNew s3 hD⟩
        · rw [List.length_map, hl]
          have : i * M ≤ 40 * 40 := Nat.mul_le_mul (by omega) m40
          exact Nat.lt_of_lt_of_le (show i * M + j < 4096 by omega) (by decide)
        · rw [upd_same, List.map_append, List.length_map, ← ers, List.length_map]
          rfl
        · rw [List.length_append, hl]
          rfl
        · rw [List.sum_append, hs]
          show ((tot S M i + tot1 (S i) j : Nat) : Int) + ([((S i j).length : Int)] : List Int).sum = ((tot S M i + (tot1 (S i) j + (S i j).length) : Nat) : Int)
          simp
          omega
      · rintro H3 ⟨ns, eD, hl, hs, s3⟩
        have hlt : (ts.map V.ref).length = M := by rw [List.length_map, sd.len]
        rw [hlt] at hl hs
        exact ⟨ns, eD, by rw [hl, Nat.succ_mul], hs, s3⟩
    · rintro H2 ⟨ns, eD, hl, hs, s2⟩
      rw [hlb] at hs
      refine ⟨D0, ns, rfl, .inl (SqL.of eD), ?_⟩
      rw [hs]
      exact kk H2 (sT s1 s2)
end
end Q

/-! an own error over ValueError whose __init__ says super().__init__() alone -/
namespace QS
open PySem PySem.W PySem.Calls PyProof.Rows PySem.HandSPX L2
/-- the body super().__init__() -/
def supB (q1 q2 q3 q4 q5 : Pos) : List Stmt := [.Expr (.Call (.Attribute (.Call (.Name "super" q1) [] [] q2) "__init__" q3) [] [] q4) q5]
def supSc : Scope := { kind := .function, names := [("self", .local), ("__class__", .free), ("super", .globalImplicit)], isGenerator := false, isCoroutine := false, more := [] }
def supAr (p : Pos) : Arguments := { posonlyargs := [], args := [{ arg := "self", annotation := none, pos := p }], vararg := none, kwonlyargs := [], kw_defaults := [], kwarg := none, defaults := [] }
theorem supSc_cell : ∀ x ∈ supSc.names, x.2 ≠ .cell := by decide
theorem supSc_loc (v : Value) : ∀ y ∈ [(("self" : Str), v)], supSc.names.lookup y.1 = some .local := fun y hy => by
  rw [List.mem_singleton.mp hy]
  show supSc.names.lookup ("self" : Str) = some .local
  decide
theorem he_sup {o : Expr} {env : Env} {q3 q4 : Pos} (hl : (q3.endLine == q4.line) = true) : eval (.Call (.Attribute o "__init__" q3) [] [] q4) env = (do
    let ov ← attributeBase o "__init__" env (eval o env)
    standAt q3.atName
    let (f, first) ← holding [ov] (getMethod ov "__init__" (do return (← importBound o env).getD true))
    callWith q4 f first (backTo q4 (starEach [] env)) []) := by
  rw [arm_eval_Call]
  have hp : methodCallPos true o env q3 q4 = pure q4 := by unfold methodCallPos; simp [hl]
  have hf : methodCallForm (([] : List Expr).length + ([] : List Keyword).length) (backTo q4 (starEach [] env)) (backToKw q4 (keywordEach [] env)) = true := rfl
  unfold methodCall
  rw [hf, hp]
  unfold calleeOf
  simp only [if_true, pure_bind]
  rfl
/-- what the written part says of such a class -/
structure SupC (prog : Program) (K : Frag) (mg : Str → Option Value) (C fI : Addr) (qual : Str) : Prop where
  cls : ∃ nm q N bs bm sn sub ab col dd k0 k1 k2 k3 k5, K.lookup C = some (excClassObj nm q C N bs bm true sn sub ab col dd k0 k1 k2 k3 k5 "ValueError.__new__") ∧ refsVE bm = true
  iC : findIn K (.ref C) "__init__" = some (some (.ref fI))
  tI : typeIn K (.ref fI) = some (.type "function")
  kC : keepIn K (.ref C) = true
  exC : subIn K (.ref C) (.type "BaseException") = some true
  veC : subIn K (.ref C) (.type "ValueError") = some true
  tyC : typeIn K (.ref C) = some (.type "type")
  me : mroIn K C (.ref C) = some true
  noS : mg "super" = none
  op : nsIn K cStatics "thirdparty.any" = some none
  al : ks_superIn K C C "__init__" = some (some (.builtin "ValueError.__init__"))
  top : (prog.main.scope.names.lookup ("super" : Str)).isSome = false
  fn : ∃ (oc : Value) (od : Option Addr) (doc pm : Value) (an : Option Addr) (cda cc : Addr) (ct : Value) (osl : Array (Option Value)) (p q1 q2 q3 q4 q5 : Pos) (ccl cl : Value) (cdd cld : Option Addr) (ccs csl : Array (Option Value)) (vs : Array Value) (file : Str) (tf : Tok),
    K.lookup fI = some ⟨oc, od, .func (ksFn "__init__" qual (supAr p) (supB q1 q2 q3 q4 q5) supSc .none .none doc pm an (.ref cda) ct cc), osl⟩ ∧ codeIn K (.ref cda) qual = true ∧ K.lookup cda = some ⟨ccl, cdd, .fields vs, ccs⟩ ∧ vs[2]? = some (.str file tf) ∧
      ((prog.main.file : Str) == file) = true ∧ K.lookup cc = some ⟨cl, cld, .cell (some (.ref C)), csl⟩ ∧ (q3.endLine == q4.line) = true
section
variable {prog : Program} {w : World} {A : Around} {E : Value → Shared → Prop} {R : Result → Shared → Prop} {s : Shared} {K : Frag} {mg : Str → Option Value} {C fI : Addr} {qual : Str} {base : Heap}
theorem sup_init (T : SupC prog K mg C fI qual) (M : Mod K mg base) (hk : ∀ b o, base.get? b = some o → s.heap.get? b = some o) {x t0 : Addr} (hx : s.heap.get? x = some (excO C t0)) (hroom : A.depth < recursionLimit)
    (hq : ∀ h' tk t1, (∀ b o, b ≠ x → s.heap.get? b = some o → h'.get? b = some o) → h'.get? x = some (excO C t1) → R (.ok (.ret .none)) { s with heap := h', toks := tk }) :
    codeAny (model prog w) A (.call (.ref fI) ⟨[.ref x], []⟩) R s := by
  have X : K.In s.heap := M.kin.keeps hk
  obtain ⟨oc, od, doc, pm, an, cda, cc, ct, osl, p, q1, q2, q3, q4, q5, ccl, cl, cdd, cld, ccs, csl, vs, file, tf, lk, hcd, hcode, hvs, hfile, hcell, hline⟩ := T.fn
  obtain ⟨nm, q, N, bs, bm, sn, sub, ab, col, dd, k0, k1, k2, k3, k5, hC, hbm⟩ := T.cls
  refine ks_codeAny_call_defAt (binds := [("self", .ref x)]) hroom (X _ _ lk) rfl (M.nolimit.keeps hk) (codeRec_of X hcd) rfl (BindsTo.of_eq (by first | rfl | with_unfolding_all rfl)) supSc_cell (supSc_loc _) (fun h1 hns kp => ?_) rfl rfl rfl
  have X1 : K.In h1 := X.keeps kp
  have b1 : ∀ b o, base.get? b = some o → h1.get? b = some o := fun b o e => kp b o (hk b o e)
  have hx1 := kp _ _ hx
  obtain ⟨mb, hmb, hbv⟩ := M.blt
  obtain ⟨hp, g, d, t, os⟩ := s
  show _root_.PySem.wpAt _ _ _ (execs (supB q1 q2 q3 q4 q5) (ksEnv qual supSc hp.objs.size fI (.ref cda) cc)) _ _ _
  refine ks_wpAt_execs_cons (ks_wpAt_Expr_any (ks_wpAt_MethodCall ?_ (he_sup hline)))
  refine ks_wpAt_super_base (env := ksEnv qual supSc hp.objs.size fI (.ref cda) cc) rfl rfl (by decide) rfl (X1 _ _ lk) rfl rfl rfl (X1 _ _ hcode) rfl hvs hfile T.top ?_
  refine ks_loadName_global rfl rfl (loadGlobal_builtin (M.glob.keeps b1) T.noS (hmb.keeps b1) ((hbv _ (by decide)).trans (by decide +kernel)) ⟨rfl, ?_⟩)
  refine wpAny_loadName_free rfl rfl rfl ⟨_, X1 _ _ hcell, rfl⟩ ?_
  refine wpAny_loadName_local rfl rfl hns rfl ?_
  have hC1 := X1 _ _ hC
  refine ks_wpAny_isType_cls hC1 rfl ⟨rfl, ?_⟩
  refine ks_wpAny_call_super hC1 rfl hx1 rfl (fun c e => nomatch e) (looks_mroIn X1 T.me) (fun h2 e2 k2 => ?_)
  have X2 : K.In h2 := X1.keeps k2
  have hx2 := k2 _ _ hx1
  have hC2 := X2 _ _ hC
  have hcl : clsIn K C = some { name := nm, bases := bs, mro := .ref C :: bm, ns := N, qualname := q, hasDict := true, slotNames := sn, subclasses := sub, abstract := ab, collection := col, hasDel := false } := by unfold clsIn; rw [hC] <;> rfl
  have hal : alongIn K "__init__" (((Value.ref C :: bm).dropWhile (· != .ref C)).drop 1) = some (some (.builtin "ValueError.__init__")) := by
    have z := T.al
    unfold ks_superIn at z
    rw [hcl] at z
    exact z
  have nxC : x ≠ C := fun e => by
    rw [e, hC1] at hx1
    cases hx1
  have hI : Looks (model prog w) h2 (isInstance (.ref x) (.type "ValueError")) true := by
    have I : InstAt h2 x (excO C t0) C none := ⟨hx2, rfl, rfl, trivial⟩
    exact I.type.andThen (looks_subIn X2 T.veC)
  refine kxs_getMethod kxs_ValueError e2 (looks_opaque X2 T.op) (l₀ := .ref C :: bm) ?_ rfl X2 hal hI nxC (by decide) ?_
  · exact fun A Q E s k q => wpAny_bind ((looks_clsIn X2 hcl) A _ E s k (wpAny_pure q))
  have k3 : ∀ b o, h2.get? b = some o → (h2.push (kxs_mw "ValueError.__init__" x)).get? b = some o := fun b o e => Heap.get?_push_of_some _ e
  refine kxs_callWith (i := "ValueError.__init__") (u := h2.objs.size) (x := x) rfl (evalArgs_empty ⟨Heap.get?_push_at rfl rfl, ?_⟩)
  refine wpAny_call (codeAny_of_tree ?_)
  show wpAny _ _ (callAny (.ref h2.objs.size) ⟨[], []⟩) _ _ _
  simp only [callAny]
  refine wpAny_bind (wpAny_load (Heap.get?_push_at rfl rfl) ?_)
  simp only [kxs_mw, show (Value.type "method-wrapper" == Value.type "method" || Value.type "method-wrapper" == Value.type "builtin_function_or_method" || Value.type "method-wrapper" == Value.type "method-wrapper") = true by decide, if_true]
  refine KFB.if_so (by decide) ?_
  refine wpAny_bind (check_bound_init F.excBase_ValueError.toExcCallFacts (k3 _ _ hC2) (k3 _ _ hx2) rfl ?_)
  refine wpAny_bind (wpAny_pure (wpAny_pure ?_))
  refine ⟨plainId_quiet F.excBase_ValueError.init.plain _, codeAny_builtin F.excBase_ValueError.initEntry ?_⟩
  refine exc_init_tree (cls := .ref C) (t0 := t0) (dv := none) (c2 := .none) (c3 := .none) (b4 := .bool false) (k3 _ _ hx2) (Nat.zero_le _) (fun h4 k4 e4 _ => ?_)
  show _root_.PySem.wpAt _ _ _ (execs [] _) _ _ _
  refine wpAt_of_wpAny (wpAny_execs_nil ?_)
  exact hq h4 _ _ (fun b o hb e => k4 b o hb (k3 b o (k2 b o (kp b o e)))) e4
end
section
variable {X : Cx} {p pos : Pos} {x : Str} {C fI : Addr} {k : Nat} {qual : Str}
/-- raise C(): a new error of the class at C, without a dict -/
theorem pmk_sup (T : SupC X.prog X.K X.mg C fI qual) (hr : Room k X.A) (hg : Gl X x) (hm : X.mg x = some (.ref C)) (hdb : (x == ("__debug__" : Str)) = false := by decide) :
    PMk X (.Call (.Name x p) [] [] pos) (fun _ H Q => Q (.ref C) none H) := by
  intro pins s σ H Q I h
  obtain ⟨nm, q, N, bs, bm, sn, sub, ab, col, dd, k0, k1, k2, k3, k5, hC, hbm⟩ := T.cls
  refine wpAny_Call_Name_kw (ld_glob I hg hm ?_ hdb)
  refine PySem.W.callWith_K0 I.kIn T.kC ?_
  show wpAny _ _ (call (.ref C) []) _ _ _
  have hdp := hr.dp
  have hbk := I.bk
  obtain ⟨hp, g, dr, tk, os⟩ := s
  have kk : ∀ b o, hp.get? b = some o → ((hp.push (kdv_tup [])).push (excO C hp.objs.size)).get? b = some o := fun b o e => Heap.get?_push_of_some _ (Heap.get?_push_of_some _ e)
  have hget : ((hp.push (kdv_tup [])).push (excO C hp.objs.size)).get? (hp.objs.size + 1) = some (excO C hp.objs.size) := by heap_get
  have hdep : (X.A.under (.builtin "type.__call__" ⟨[.ref C], []⟩)).depth < recursionLimit := by
    rw [make_depth]
    omega
  refine wpAny_call (call_own F.excBase_ValueError (fun Y => refsVE_contains Y bm hbm) (I.kIn _ _ hC) (looks_findIn I.kIn T.iC) (fun self => bind_fn I.kIn self T.tI) (Nat.zero_le _)
    (sup_init T I.ok.mod (fun b o e => kk b o (hbk b o e)) hget hdep fun h' tk' t1 k4 e4 => ⟨rfl, ?_⟩))
  obtain ⟨G, r1, r2⟩ := restrict h' fun b => decide (b ≠ hp.objs.size + 1)
  have gk : ∀ b, b ≠ hp.objs.size + 1 → G.get? b = h'.get? b := fun b hb => r1 b (decide_eq_true hb)
  have ge : G.get? (hp.objs.size + 1) = none := r2 _ (by simp)
  have old : ∀ b o, hp.get? b = some o → G.get? b = some o := fun b o e => by
    have hb : b ≠ hp.objs.size + 1 := Nat.ne_of_lt (Nat.lt_succ_of_lt (Heap.lt_size e))
    rw [gk b hb]
    exact k4 b o hb (kk b o e)
  have J : Inv X pins σ H ⟨G, g, dr, tk', os⟩ := I.kept (t' := tk') old
  refine ⟨hp.objs.size + 1, _, _, ⟨G, g, dr, tk', os⟩, H, .ref C, none, rfl, J, fun b o e => ?_, ge, e4, ⟨rfl, rfl⟩, rfl, rfl, I.hok.fresh (Nat.le_succ _), rfl, I.bare, raises_own T.exC T.tyC, h⟩
  by_cases hb : b = hp.objs.size + 1
  · have e' : G.get? b = some o := e
    rw [hb, ge] at e'
    cases e'
  · exact (gk b hb).symm.trans e
end
end QS

/-! a tuple times a number from 1 on: a new one, or the same -/
namespace QT
open PySem PySem.Spec PyProof.Rows L2
theorem tm_once (a : Addr) (xs : Array Value) (m : Nat) (dd : Option Addr) (sl : Array (Option Value)) (u : Tok) :
    Meets (Builtin.«tuple.__mul__» ⟨[.ref a, .int 1 u], []⟩) (fun _ R s => s.heap.get? a = some { cls := .type "tuple", dict := dd, data := .seq xs m, slots := sl } ∧ R (.ok (.ret (.ref a))) s) :=
  .of_wp fun prog w A R s h => by
    obtain ⟨hp, g, d, tk, os⟩ := s
    obtain ⟨ha, h⟩ := h
    have f1 := AutoSeq1.idx_int
    have c1 : (decide ((1 : Int) < -(2 ^ 63)) || decide ((1 : Int) ≥ 2 ^ 63)) = false := by decide
    have c2 : (xs.isEmpty || (1 : Int) == 1) = true := by rw [Bool.or_eq_true]; exact .inr rfl
    wp_walk using wpAny_loadPart' ha
    repeat (first
      | (refine wpAny_ite_false (decide_eq_false (by rw [c1]; exact Bool.false_ne_true)) ?_; wp_walk using wpAny_loadPart' ha)
      | (refine wpAny_ite_true (decide_eq_true (by rw [c2])) ?_; wp_walk using wpAny_loadPart' ha))
    first
    | exact ⟨_, rfl, h⟩
    | exact h
    | skip
/-- t * k, k from 1 on -/
def rRepA : R2 := fun x y H Q => ∃ l k xs, x = .ref l ∧ y = .int k ∧ H l = some (.tup xs) ∧ xs ≠ [] ∧ 1 ≤ k ∧ k ≤ 1000 ∧ xs.length ≤ 1000 ∧ ∀ z H', (∀ b o, H b = some o → H' b = some o) → H' z = some (.tup (List.replicate k.toNat xs).flatten) → Q (.ref z) H'
theorem op_repA {X : Cx} : OpR X (binaryOp .Mult) rRepA := by
  intro pins s σ H x y v u Q I rx ry h
  obtain ⟨l, k, xs, rfl, rfl, hT, hne, h1, h2, hz, q⟩ := h
  by_cases c : 2 ≤ k
  · refine op_repT pins s σ H _ _ v u Q I rx ry ⟨l, k, xs, rfl, rfl, SqT.of hT, hne, c, h2, hz, fun p hp => q p _ (fun b o e => ?_) upd_same⟩
    rw [upd_ne (fun z => by rw [z, hp] at e; cases e)]
    exact e
  obtain rfl : k = 1 := by omega
  cases rx
  obtain ⟨t, rfl⟩ := ry
  obtain ⟨its, r, ⟨⟨cls, dd, data, sl⟩, hob, hc, m, hd⟩, _⟩ := I.tuple (SqT.of hT)
  simp only at hc hd
  subst hc hd
  have e1 : (List.replicate (1 : Int).toNat xs).flatten = xs := by simp
  have fin : EP X pins σ Q (Value.ref l) s := ⟨.ref l, H, I, rfl, q l H (fun _ _ e => e) (by rw [e1]; exact hT)⟩
  have left := @F.slot_int_rmul
  refine wpAny_binaryOp_repeat_ref (U := "int") (T := "tuple") (by decide) ⟨_, hob, rfl⟩ (fun z => typeIs_int z 1 t) noFill_tuple_mul F.fills_int_mul F.slot_int_rmul repeat_tuple F.slot_int_index.lookup ?_
  refine call_meets F.slot_int_rmul (typeIs_int s 1 t) F.entry_int_rmul (F.args_int_rmul_2 _ _) (int_rmul_tuple 1 t l its.toArray m dd sl) ?_
  refine ⟨hob, rfl, ⟨_, hob, rfl⟩, ?_⟩
  exact call_meets F.slot_tuple_mul ⟨_, hob, rfl⟩ F.entry_tuple_mul (F.args_tuple_mul_2 _ _) (tm_once l its.toArray m dd sl t) ⟨hob, fin⟩
end QT

namespace Q
open PySem L2 QM QS
/-- a number below m? -/
def houseB (m : Int) : V → Bool
  | .int i => decide (0 ≤ i) && decide (i < m)
  | _ => false
theorem house_no {K : PySem.W.Frag} {H : Hp} {v : V} (m : Int) (n : NoInt K H v) : houseB m v = false := by
  cases v with
  | int i => exact n.int.elim
  | _ => rfl
theorem house_is {m : Int} {v : V} (h : houseB m v = true) : ∃ a : Nat, v = .int (a : Int) ∧ (a : Int) < m := by
  cases v with
  | int i =>
    have z : (decide (0 ≤ i) && decide (i < m)) = true := h
    rw [Bool.and_eq_true] at z
    have z1 := of_decide_eq_true z.1
    have z2 := of_decide_eq_true z.2
    exact ⟨i.toNat, by rw [Int.toNat_of_nonneg z1], by omega⟩
  | _ => cases h
/-- an own error without a field, and how it is caught -/
structure ETxt (P : Program) (K : PySem.W.Frag) (mg : Str → Option Value) (C f : Addr) (nm q : Str) : Prop where
  sup : SupC P K mg C f q
  gN : mg nm = some (.ref C)
structure Errs (P : Program) (K : PySem.W.Frag) (mg : Str → Option Value) (CH CU CC CS fH fU fC fS : Addr) : Prop where
  eH : ETxt P K mg CH fH "NoHouse" "NoHouse.__init__"
  eU : ETxt P K mg CU fU "NoNumber" "NoNumber.__init__"
  eC : ETxt P K mg CC fC "NoCells" "NoCells.__init__"
  eS : ETxt P K mg CS fS "NoSayings" "NoSayings.__init__"
/-- which of them is caught by which -/
structure Kin (K : PySem.W.Frag) (CH CU CC CS : Addr) : Prop where
  hh : PySem.W.exmOne K (.ref CH) (.ref CH) = some true
  uh : PySem.W.exmOne K (.ref CU) (.ref CH) = some false
  uu : PySem.W.exmOne K (.ref CU) (.ref CU) = some true
  ch : PySem.W.exmOne K (.ref CC) (.ref CH) = some false
  cu : PySem.W.exmOne K (.ref CC) (.ref CU) = some false
  cc : PySem.W.exmOne K (.ref CC) (.ref CC) = some true
  sh : PySem.W.exmOne K (.ref CS) (.ref CH) = some false
  su : PySem.W.exmOne K (.ref CS) (.ref CU) = some false
  sc : PySem.W.exmOne K (.ref CS) (.ref CC) = some false
  ss : PySem.W.exmOne K (.ref CS) (.ref CS) = some true
/-- a web and a program on the heap -/
structure Pg (C CP : Addr) (H : Hp) (w : Addr) (M : Nat) (nb : Nat → List Int) (x q qn : Addr) (xs : List V) (t y : V) (us : List V) : Prop where
  wp : WP C CP H w M nb x (.ref q) t y (.ref qn)
  hq : H q = some (.tup xs)
  lx : xs.length ≤ 4
  hqn : H qn = some (.tup us)
  lu : us.length ≤ 4
  tr : Trees H xs.length xs t y us
theorem Trees.grow {H H' : Hp} {c : Nat} {xs : List V} {t y : V} {us : List V} (h : Trees H c xs t y us) (g : Grow H H') : Trees H' c xs t y us := by
  obtain ⟨kt, rt⟩ := h.rt
  obtain ⟨ky, ry⟩ := h.ry
  exact ⟨h.lx, h.lu, fun v hv => by
    obtain ⟨k, z⟩ := h.rx v hv
    exact ⟨k, z.grow g⟩, ⟨kt, rt.grow g⟩, ⟨ky, ry.grow g⟩, fun v hv => by
    obtain ⟨k, z⟩ := h.ru v hv
    exact ⟨k, z.grow g⟩⟩
theorem Pg.same {C CP : Addr} {H H' : Hp} {w : Addr} {M : Nat} {nb : Nat → List Int} {x q qn : Addr} {xs : List V} {t y : V} {us : List V} (p : Pg C CP H w M nb x q qn xs t y us) (s : Same H H') : Pg C CP H' w M nb x q qn xs t y us :=
  ⟨p.wp.same s, s _ _ p.hq, p.lx, s _ _ p.hqn, p.lu, p.tr.grow (Grow.of_same s)⟩
theorem Pg.st {C CP : Addr} {H : Hp} {w : Addr} {M : Nat} {nb : Nat → List Int} {x q qn : Addr} {xs : List V} {t y : V} {us : List V} (p : Pg C CP H w M nb x q qn xs t y us) {h : Nat} (hh : h < M) : ∃ zs, Paired (EvV H wS (enOf (f3 h M (nb h).length)) [] 12) xs zs := by
  obtain ⟨s1, s2, s3⟩ := p.wp.N.smh hh
  exact paired_ofI (R := EvV H wS (enOf (f3 h M (nb h).length)) [] 12) (xs := xs) fun v hv => by
    obtain ⟨kk, ts⟩ := p.tr.rx v hv
    exact ts_ev (fun s hs => ((int3 s1 s2 s3).at_ hs).2) (fun z hz => absurd hz List.not_mem_nil) (by decide) ts
theorem Pg.sa {C CP : Addr} {H : Hp} {w : Addr} {M : Nat} {nb : Nat → List Int} {x q qn : Addr} {xs : List V} {t y : V} {us : List V} (p : Pg C CP H w M nb x q qn xs t y us) {h : Nat} (hh : h < M) {r : Int} (sr : Sm r) {ca : Addr} {cs : List Int} (hcs : ∀ z ∈ cs, Sm z) (lc : cs.length = xs.length) :
    ∃ ft fs : Int → Int, ∀ o ∈ nb h, EvV H wT (enOf (fT h M (nb h).length r ca o)) cs 12 t (ft o) ∧ EvV H wT (enOf (fT h M (nb h).length r ca o)) cs 12 y (fs o) := by
  obtain ⟨s1, s2, s3⟩ := p.wp.N.smh hh
  have ev : ∀ {v : V}, (∃ k, TS H wT (xs.length : Int) 12 v k) → ∀ o ∈ nb h, ∃ z, EvV H wT (enOf (fT h M (nb h).length r ca o)) cs 12 v z := fun ⟨k, ts⟩ o ho =>
    ts_ev (fun s hs => ((intT (ca := ca) s1 s2 s3 sr (p.wp.N.smo hh ho)).at_ hs).2) hcs (by omega) ts
  obtain ⟨ft, hft⟩ := choose_f (ev p.tr.rt)
  obtain ⟨fs, hfs⟩ := choose_f (ev p.tr.ry)
  exact ⟨ft, fs, fun o ho => ⟨hft o ho, hfs o ho⟩⟩
theorem Pg.nx {C CP : Addr} {H : Hp} {w : Addr} {M : Nat} {nb : Nat → List Int} {x q qn : Addr} {xs : List V} {t y : V} {us : List V} (p : Pg C CP H w M nb x q qn xs t y us) {h : Nat} (hh : h < M) {r : Int} (sr : Sm r) {ca : Addr} {cs ns : List Int} (hcs : ∀ z ∈ cs, Sm z) (lc : cs.length = xs.length) (hns : ∀ z ∈ ns, Sm z) (ln : ns.length ≤ 64) :
    ∃ le mo zs, IsLeast 0 ns le ∧ IsMost 0 ns mo ∧ Paired (EvV H wN (enOf (fN h M (nb h).length r ca ns.length (bb ns.sum) le mo)) cs 12) us zs := by
  obtain ⟨s1, s2, s3⟩ := p.wp.N.smh hh
  obtain ⟨le, hle⟩ : ∃ le, IsLeast 0 ns le := by
    cases ns with
    | nil => exact ⟨0, .inl ⟨rfl, rfl⟩⟩
    | cons a' r' => exact ⟨_, least_of rfl⟩
  obtain ⟨mo, hmo⟩ : ∃ mo, IsMost 0 ns mo := by
    cases ns with
    | nil => exact ⟨0, .inl ⟨rfl, rfl⟩⟩
    | cons a' r' => exact ⟨_, most_of rfl⟩
  have sN' := intN (ca := ca) (k := (ns.length : Int)) (u := bb ns.sum) s1 s2 s3 sr (by unfold Sm; omega) (bb_sm _) (least_sm hle hns) (most_sm hmo hns)
  obtain ⟨zs, pz⟩ := paired_ofI (R := EvV H wN (enOf (fN h M (nb h).length r ca ns.length (bb ns.sum) le mo)) cs 12) (xs := us) fun v hv => by
    obtain ⟨kk, ts⟩ := p.tr.ru v hv
    exact ts_ev (fun s hs => (sN'.at_ hs).2) hcs (by omega) ts
  exact ⟨le, mo, zs, hle, hmo, pz⟩
/-- cells? -/
def IsC (H : Hp) (c : Nat) (v : V) : Prop := ∃ zs, Smalls H v zs ∧ zs.length = c
/-- numbers said? -/
def IsN (H : Hp) (v : V) : Prop := ∃ zs, Smalls H v zs ∧ zs.length ≤ 39
def spNumB : Sp := fun vs H Q _ => ∃ (n : Int) (v : V), vs = [.int n, v] ∧ Kd H v ∧ Q (.bl (houseB n v)) H
def spStX (C CP CH : Addr) : Sp := fun vs H Q E => ∃ (w : Addr) (M : Nat) (nb : Nat → List Int) (x q qn : Addr) (xs : List V) (t y : V) (us : List V) (v : V), vs = [.ref w, .ref x, v] ∧ Pg C CP H w M nb x q qn xs t y us ∧ Kd H v ∧
  (houseB M v = false → E (.ref CH) none H) ∧ (houseB M v = true → ∀ u H', Same H H' → Q u H')
def spCRX (C CP CH CU CC : Addr) : Sp := fun vs H Q E => ∃ (w : Addr) (M : Nat) (nb : Nat → List Int) (x q qn : Addr) (xs : List V) (t y : V) (us : List V) (v r c : V), vs = [.ref w, .ref x, v, r, c] ∧ Pg C CP H w M nb x q qn xs t y us ∧ Kd H v ∧ Kd H r ∧ Kd1 H c ∧
  (houseB M v = false → E (.ref CH) none H) ∧ (houseB M v = true → houseB 1001 r = false → E (.ref CU) none H) ∧ (houseB M v = true → houseB 1001 r = true → (¬ IsC H xs.length c → ∀ H', Same H H' → E (.ref CC) none H') ∧ (IsC H xs.length c → ∀ H', Same H H' → Q .non H'))
def spSayX (C CP CH CU CC : Addr) : Sp := fun vs H Q E => ∃ (w : Addr) (M : Nat) (nb : Nat → List Int) (x q qn : Addr) (xs : List V) (t y : V) (us : List V) (v r c : V), vs = [.ref w, .ref x, v, r, c] ∧ Pg C CP H w M nb x q qn xs t y us ∧ Kd H v ∧ Kd H r ∧ Kd1 H c ∧
  (houseB M v = false → E (.ref CH) none H) ∧ (houseB M v = true → houseB 1001 r = false → E (.ref CU) none H) ∧ (houseB M v = true → houseB 1001 r = true → (¬ IsC H xs.length c → ∀ H', Same H H' → E (.ref CC) none H') ∧ (IsC H xs.length c → ∀ u H', Same H H' → Q u H'))
def spNxtX (C CP CH CU CC CS : Addr) : Sp := fun vs H Q E => ∃ (w : Addr) (M : Nat) (nb : Nat → List Int) (x q qn : Addr) (xs : List V) (t y : V) (us : List V) (v r c n : V), vs = [.ref w, .ref x, v, r, c, n] ∧ Pg C CP H w M nb x q qn xs t y us ∧ Kd H v ∧ Kd H r ∧ Kd1 H c ∧ Kd1 H n ∧
  (houseB M v = false → E (.ref CH) none H) ∧ (houseB M v = true → houseB 1001 r = false → E (.ref CU) none H) ∧ (houseB M v = true → houseB 1001 r = true → (¬ IsC H xs.length c → ∀ H', Same H H' → E (.ref CC) none H') ∧ (IsC H xs.length c → (¬ IsN H n → ∀ H', Same H H' → E (.ref CS) none H') ∧ (IsN H n → ∀ u H', Same H H' → Q u H')))
def spLkX (C CP CU : Addr) : Sp := fun vs H Q E => ∃ (w : Addr) (M : Nat) (nb : Nat → List Int) (x q qn : Addr) (xs : List V) (t y : V) (us : List V) (r : V), vs = [.ref w, .ref x, r] ∧ Pg C CP H w M nb x q qn xs t y us ∧ Kd H r ∧
  (houseB 41 r = false → E (.ref CU) none H) ∧ (houseB 41 r = true → ∀ u H', Same H H' → Q u H')
section
variable {P : Program} {w : World} {K : PySem.W.Frag} {mg : Str → Option Value} {base : Heap}
theorem ok_numB {f fP : Addr} {fd dP : FuncData} (F : Fun K "is_number_below" "is_number_below" sNum f fd) (B : Bts mg) (DP : Df K mg "is_plain_int" sPlain ["thing"] fP dP) : FnOk P w K mg base CX0 2 f fd ["limit", "thing"] spNumB :=
  (ok_num F B DP).imp fun vs H Q E ⟨n, v, ev, kd, q⟩ => by
    refine ⟨n, v, ev, ?_⟩
    rcases kd.cl (K := K) with ⟨i, rfl⟩ | no
    · exact .inl ⟨i, rfl, q⟩
    · rw [house_no n no] at q
      exact .inr ⟨no, q⟩
theorem ok_stX {f C CP CH CU CC CS fH fU fC fS : Addr} {fd : FuncData} (F : Fun K "start_cells" "start_cells" sSt f fd) (B : Bts mg) (T : WTxt K mg C) (TP : PTxt K mg CP) (D : WDefs K mg) (R : RDefs K mg) (S : SDefs K mg) (O : OpsT P w K mg base) (Er : Errs P K mg CH CU CC CS fH fU fC fS) :
    FnOk P w K mg base (L2.CX P w) 17 f fd ["web", "program", "house"] (spStX C CP CH) := by
  have GN : FnOk P w K mg base CX0 2 D.fN D.dN ["limit", "thing"] spNumB := ok_numB D.DN.F B D.DP
  have GT : FnOk P w K mg base CX0 16 S.fT S.dT ["web", "program", "house"] (spSC C CP) := ok_sc S.DT.F B T TP D R O
  refine F.okX scSt (fun vs H Q E h => ?_) (fun cdv A outer s0 H vs Q E hr h => ?_)
  · obtain ⟨w, M, nb, x, q, qn, xs, t, y, us, v, rfl, _⟩ := h
    rfl
  · obtain ⟨w, M, nb, x, q, qn, xs, t, y, us, v, rfl, pg, kd, kE, kQ⟩ := h
    have hr2 : Room 2 _ := hr.mono (by decide)
    have m1 := pg.wp.N.m1
    obtain ⟨dx, qw, rw0, L, bs, hw⟩ := (pg.wp.pre 0 (by omega)).web
    refine ⟨_, pss_cons (ps_if (pt_not (pt_val (pe_call GN hr2 rfl D.DN.m D.DN.k D.DN.b .nil pass0 (pa_cons (pe_fld (pv 0) rfl) (pa_cons (pv 2) pa_nil))))) (pss_one (ps_raise rfl (takes_of rfl rfl rfl rfl) (pmk_sup Er.eH.sup hr rfl Er.eH.gN))) pss_nil)
      (pss_one (ps_ret (pe_call GT hr rfl S.DT.m S.DT.k S.DT.b .nil pass0 (pa_cons (pv 0) (pa_cons (pv 1) (pa_cons (pv 2) pa_nil)))))), ?_⟩
    refine ⟨_, rfl, w, C, dx, _, _, rfl, hw.at_, T.cl, T.nM, wf_many _ _ _, _, rfl, M, v, rfl, kd, _, rfl, ?_⟩
    cases e : houseB M v with
    | false => exact iteT (kE e)
    | true =>
      obtain ⟨h, rfl, lt⟩ := house_is e
      have hh : h < M := by omega
      obtain ⟨zs, pz⟩ := pg.st hh
      exact iteF ⟨_, rfl, _, rfl, _, rfl, w, x, M, nb, _, t, y, _, h, q, xs, zs, rfl, pg.wp.pre h hh, rfl, pg.hq, pg.lx, pz, fun tq H' s _ => kQ e _ H' s⟩
theorem ok_crX {f C CP CH CU CC CS fH fU fC fS : Addr} {fd : FuncData} (F : Fun K "check_round" "check_round" sCR f fd) (B : Bts mg) (hall : mg "all" = none) (hmr : ∃ t, mg "MOST_ROUND" = some (.int 1000 t)) (T : WTxt K mg C) (TP : PTxt K mg CP) (D : WDefs K mg) (S : SDefs K mg) (Er : Errs P K mg CH CU CC CS fH fU fC fS) :
    FnOk P w K mg base (L2.CX P w) 5 f fd ["web", "program", "house", "at", "cells"] (spCRX C CP CH CU CC) := by
  have GN : FnOk P w K mg base CX0 2 D.fN D.dN ["limit", "thing"] spNumB := ok_numB D.DN.F B D.DP
  have GC : FnOk P w K mg base CX0 4 S.fC S.dC ["program", "thing"] (spAC CP) := ok_ac S.DC.F B hall TP D.DP S.DS S.DA
  obtain ⟨tr, hr0⟩ := hmr
  refine F.okX scCR (fun vs H Q E h => ?_) (fun cdv A outer s0 H vs Q E hr h => ?_)
  · obtain ⟨w, M, nb, x, q, qn, xs, t, y, us, v, r, c, rfl, _⟩ := h
    rfl
  · obtain ⟨w, M, nb, x, q, qn, xs, t, y, us, v, r, c, rfl, pg, kv, kr, kc, kE, kU, kk⟩ := h
    have hr2 : Room 2 _ := hr.mono (by decide)
    have m1 := pg.wp.N.m1
    obtain ⟨dx, qw, rw0, L, bs, hw⟩ := (pg.wp.pre 0 (by omega)).web
    obtain ⟨dp, hx⟩ := (pg.wp.pre 0 (by omega)).prog
    refine ⟨_, pss_cons (ps_if (pt_not (pt_val (pe_call GN hr2 rfl D.DN.m D.DN.k D.DN.b .nil pass0 (pa_cons (pe_fld (pv 0) rfl) (pa_cons (pv 2) pa_nil))))) (pss_one (ps_raise rfl (takes_of rfl rfl rfl rfl) (pmk_sup Er.eH.sup hr rfl Er.eH.gN))) pss_nil)
      (pss_cons (ps_if (pt_not (pt_val (pe_call GN hr2 rfl D.DN.m D.DN.k D.DN.b .nil pass0 (pa_cons (pe_op op_add (pe_glob (v := .int 1000) rfl hr0 ⟨_, rfl⟩) pe_int) (pa_cons (pv 3) pa_nil))))) (pss_one (ps_raise rfl (takes_of rfl rfl rfl rfl) (pmk_sup Er.eU.sup hr rfl Er.eU.gN))) pss_nil)
      (pss_one (ps_if (pt_not (pt_val (pe_call GC hr rfl S.DC.m S.DC.k S.DC.b .nil pass0 (pa_cons (pv 1) (pa_cons (pv 4) pa_nil))))) (pss_one (ps_raise rfl (takes_of rfl rfl rfl rfl) (pmk_sup Er.eC.sup hr rfl Er.eC.gN))) pss_nil))), ?_⟩
    refine ⟨_, rfl, w, C, dx, _, _, rfl, hw.at_, T.cl, T.nM, wf_many _ _ _, _, rfl, M, v, rfl, kv, _, rfl, ?_⟩
    cases e : houseB M v with
    | false => exact iteT (kE e)
    | true =>
      refine iteF ⟨_, _, rfl, rfl, _, rfl, 1001, r, rfl, kr, _, rfl, ?_⟩
      cases e2 : houseB 1001 r with
      | false => exact iteT (kU e e2)
      | true =>
        obtain ⟨kn, ky⟩ := kk e e2
        refine iteF ⟨_, rfl, _, rfl, x, dp, _, t, y, _, _, q, xs, rfl, hx, rfl, pg.hq, kc, fun b H1 s1 hb => ⟨_, rfl, ?_⟩⟩
        cases b with
        | false => exact iteT (kn (fun z => absurd (hb.mpr z) Bool.false_ne_true) H1 s1)
        | true => exact iteF (ky (hb.mp rfl) H1 s1)
theorem ok_sayX {f C CP CH CU CC CS fH fU fC fS : Addr} {fd : FuncData} (F : Fun K "sayings" "sayings" sSay f fd) (B : Bts mg) (hall : mg "all" = none) (hmr : ∃ t, mg "MOST_ROUND" = some (.int 1000 t)) (T : WTxt K mg C) (TP : PTxt K mg CP) (D : WDefs K mg) (R : RDefs K mg) (S : SDefs K mg) (O : OpsT P w K mg base) (Er : Errs P K mg CH CU CC CS fH fU fC fS) :
    FnOk P w K mg base (L2.CX P w) 17 f fd ["web", "program", "house", "at", "cells"] (spSayX C CP CH CU CC) := by
  have GR : FnOk P w K mg base (L2.CX P w) 5 S.fR S.dR ["web", "program", "house", "at", "cells"] (spCRX C CP CH CU CC) := ok_crX S.DR.F B hall hmr T TP D S Er
  have GY : FnOk P w K mg base CX0 16 S.fY S.dY ["web", "program", "house", "at", "cells"] (spSY C CP) := ok_sy S.DY.F B T TP D R O
  refine F.okX scSay (fun vs H Q E h => ?_) (fun cdv A outer s0 H vs Q E hr h => ?_)
  · obtain ⟨w, M, nb, x, q, qn, xs, t, y, us, v, r, c, rfl, _⟩ := h
    rfl
  · obtain ⟨w, M, nb, x, q, qn, xs, t, y, us, v, r, c, rfl, pg, kv, kr, kc, kE, kU, kk⟩ := h
    have hr5 : Room 5 _ := hr.mono (by decide)
    refine ⟨_, pss_cons (ps_expr (pe_callS GR hr5 rfl S.DR.m S.DR.k S.DR.b (fun σ => passAt (takes_of rfl rfl rfl rfl) σ) (pa_cons (pv 0) (pa_cons (pv 1) (pa_cons (pv 2) (pa_cons (pv 3) (pa_cons (pv 4) pa_nil)))))))
      (pss_one (ps_ret (pe_call GY hr rfl S.DY.m S.DY.k S.DY.b .nil pass0 (pa_cons (pv 0) (pa_cons (pv 1) (pa_cons (pv 2) (pa_cons (pv 3) (pa_cons (pv 4) pa_nil)))))))), ?_⟩
    refine ⟨_, rfl, _, rfl, _, rfl, _, rfl, _, rfl, w, M, nb, x, q, qn, xs, t, y, us, v, r, c, rfl, pg, kv, kr, kc, kE, kU, fun e e2 => ⟨(kk e e2).1, fun ic H1 s1 => ?_⟩⟩
    obtain ⟨h, rfl, lt⟩ := house_is e
    obtain ⟨rr, rfl, lr⟩ := house_is e2
    have hh : h < M := by omega
    obtain ⟨cs, ⟨ca, rfl, hca, hcs⟩, lc⟩ := id ic
    have pg1 := pg.same s1
    have sr : Sm (rr : Int) := by unfold Sm; omega
    obtain ⟨ft, fs, hev⟩ := pg1.sa hh sr (ca := ca) hcs lc
    exact ⟨_, rfl, _, rfl, _, rfl, _, rfl, _, rfl, w, x, M, nb, _, t, y, _, h, rr, ca, cs, ft, fs, rfl, pg1.wp.pre h hh, sr, s1 _ _ hca, hev, fun tq rs H' s2 _ _ _ => (kk e e2).2 ic _ H' (sT s1 s2)⟩
theorem ok_nxtX {f C CP CH CU CC CS fH fU fC fS : Addr} {fd : FuncData} (F : Fun K "next_cells" "next_cells" sNxt f fd) (B : Bts mg) (hall : mg "all" = none) (hsum : mg "sum" = none) (hmr : ∃ t, mg "MOST_ROUND" = some (.int 1000 t)) (hms : ∃ t, mg "MOST_SAID" = some (.int 39 t)) (T : WTxt K mg C) (TP : PTxt K mg CP) (D : WDefs K mg) (R : RDefs K mg) (S : SDefs K mg) (O : OpsT P w K mg base) (Er : Errs P K mg CH CU CC CS fH fU fC fS) :
    FnOk P w K mg base (L2.CX P w) 17 f fd ["web", "program", "house", "at", "cells", "numbers"] (spNxtX C CP CH CU CC CS) := by
  have GR : FnOk P w K mg base (L2.CX P w) 5 S.fR S.dR ["web", "program", "house", "at", "cells"] (spCRX C CP CH CU CC) := ok_crX S.DR.F B hall hmr T TP D S Er
  have GA : FnOk P w K mg base CX0 3 S.fA S.dA ["thing"] spAS := ok_as S.DA.F B hall D.DP S.DS
  have GX : FnOk P w K mg base CX0 16 S.fX S.dX ["web", "program", "house", "at", "cells", "numbers"] (spNX C CP) := ok_nx S.DX.F B hsum T TP D R O
  obtain ⟨ts, hs0⟩ := hms
  refine F.okX scNxt (fun vs H Q E h => ?_) (fun cdv A outer s0 H vs Q E hr h => ?_)
  · obtain ⟨w, M, nb, x, q, qn, xs, t, y, us, v, r, c, n, rfl, _⟩ := h
    rfl
  · obtain ⟨w, M, nb, x, q, qn, xs, t, y, us, v, r, c, n, rfl, pg, kv, kr, kc, kn, kE, kU, kk⟩ := h
    have hr5 : Room 5 _ := hr.mono (by decide)
    have hr3 : Room 3 _ := hr.mono (by decide)
    refine ⟨_, pss_cons (ps_expr (pe_callS GR hr5 rfl S.DR.m S.DR.k S.DR.b (fun σ => passAt (takes_of rfl rfl rfl rfl) σ) (pa_cons (pv 0) (pa_cons (pv 1) (pa_cons (pv 2) (pa_cons (pv 3) (pa_cons (pv 4) pa_nil)))))))
      (pss_cons (ps_if (PW.pt (pw_or (pt_not (pt_val (pe_call GA hr3 rfl S.DA.m S.DA.k S.DA.b .nil pass0 (pa_cons (pv 5) pa_nil)))) (pw_or1 (pt_cmpR op_gt (pe_callB call_len_seq (by rfl) B.len PySem.boot_len (pa_cons (pv 5) pa_nil)) (pe_glob (v := .int 39) rfl hs0 ⟨_, rfl⟩) (nomark _))))) (pss_one (ps_raise rfl (takes_of rfl rfl rfl rfl) (pmk_sup Er.eS.sup hr rfl Er.eS.gN))) pss_nil)
      (pss_one (ps_ret (pe_call GX hr rfl S.DX.m S.DX.k S.DX.b .nil pass0 (pa_cons (pv 0) (pa_cons (pv 1) (pa_cons (pv 2) (pa_cons (pv 3) (pa_cons (pv 4) (pa_cons (pv 5) pa_nil)))))))))), ?_⟩
    refine ⟨_, rfl, _, rfl, _, rfl, _, rfl, _, rfl, w, M, nb, x, q, qn, xs, t, y, us, v, r, c, rfl, pg, kv, kr, kc, kE, kU, fun e e2 => ⟨(kk e e2).1, fun ic H1 s1 => ?_⟩⟩
    obtain ⟨h, rfl, lt⟩ := house_is e
    obtain ⟨rr, rfl, lr⟩ := house_is e2
    have hh : h < M := by omega
    obtain ⟨cs, ⟨ca, rfl, hca, hcs⟩, lc⟩ := id ic
    obtain ⟨kF, kT⟩ := (kk e e2).2 ic
    refine ⟨_, rfl, _, rfl, kn.same s1, fun b H2 s2 hb => ⟨_, rfl, ?_⟩⟩
    have s12 := sT s1 s2
    cases b with
    | false =>
      refine iteT (kF (fun ⟨zs, z, _⟩ => absurd (hb.mpr ⟨zs, z.same s1⟩) Bool.false_ne_true) H2 s12)
    | true =>
      obtain ⟨ns, na, rfl, hna, hns⟩ := hb.mp rfl
      refine iteF ⟨_, rfl, na, _, rfl, .inr (SqT.of (s2 _ _ hna)), _, _, rfl, rfl, _, rfl, ?_⟩
      rw [List.length_map]
      have sn : Smalls H (.ref na) ns := Smalls.back kn.1 s1 ⟨na, rfl, hna, hns⟩
      by_cases l39 : ns.length ≤ 39
      · rw [decide_eq_false (show ¬ ((39 : Int) < (ns.length : Int)) by omega)]
        have pg2 := pg.same s12
        have sr : Sm (rr : Int) := by unfold Sm; omega
        obtain ⟨le, mo, zs, hle, hmo, pz⟩ := pg2.nx hh sr (ca := ca) hcs lc hns (by omega)
        exact iteF ⟨_, rfl, _, rfl, _, rfl, _, rfl, _, rfl, _, rfl, w, x, M, nb, _, t, y, _, h, rr, ca, na, cs, ns, le, mo, qn, us, zs, rfl, pg2.wp.pre h hh, sr, s12 _ _ hca, .inl (s2 _ _ hna), by omega, hns, hle, hmo, rfl, pg2.hqn, pg2.lu, pz, fun tq H' s3 _ => kT ⟨ns, sn, l39⟩ _ H' (sT s12 s3)⟩
      · rw [decide_eq_true (show ((39 : Int) < (ns.length : Int)) by omega)]
        exact iteT (kF (fun ⟨zs, z, l⟩ => l39 (by rw [sn.uniq z]; exact l)) H2 s12)
theorem Pg.runs {C CP : Addr} {H : Hp} {w : Addr} {M : Nat} {nb : Nat → List Int} {x q qn : Addr} {xs : List V} {t y : V} {us : List V} (p : Pg C CP H w M nb x q qn xs t y us) {k : Nat} (hk : k ≤ 40) : ∃ R S, PreR C CP H [.ref w, .ref x, .int (k : Int)] M k R S := by
  obtain ⟨R, S, ru, _⟩ := runs_ex p.wp.N p.tr k (by omega)
  exact ⟨R, S, w, x, nb, t, y, q, qn, xs, us, rfl, p.wp, p.hq, p.lx, p.hqn, p.lu, ru, hk⟩
theorem ok_lkX {f C CP CH CU CC CS fH fU fC fS : Addr} {fd : FuncData} (F : Fun K "lockstep" "lockstep" sLk f fd) (B : Bts mg) (hsum : mg "sum" = none) (hmr : ∃ t, mg "MOST_ROUNDS" = some (.int 40 t)) (T : WTxt K mg C) (TP : PTxt K mg CP) (D : WDefs K mg) (R : RDefs K mg) (O : OpsT P w K mg base) (N : KDefs K mg) (Er : Errs P K mg CH CU CC CS fH fU fC fS) :
    FnOk P w K mg base (L2.CX P w) 19 f fd ["web", "program", "rounds"] (spLkX C CP CU) := by
  have GN : FnOk P w K mg base CX0 2 D.fN D.dN ["limit", "thing"] spNumB := ok_numB D.DN.F B D.DP
  have GR : FnOk P w K mg base CX0 18 N.fR N.dR ["web", "program", "rounds"] (spRR C CP) := ok_rr N.DR.F B hsum T TP D R O N
  obtain ⟨tr, hr0⟩ := hmr
  refine F.okX scLk (fun vs H Q E h => ?_) (fun cdv A outer s0 H vs Q E hr h => ?_)
  · obtain ⟨w, M, nb, x, q, qn, xs, t, y, us, r, rfl, _⟩ := h
    rfl
  · obtain ⟨w, M, nb, x, q, qn, xs, t, y, us, r, rfl, pg, kr, kU, kQ⟩ := h
    have nd := scLk.nd
    have hr2 : Room 2 _ := hr.mono (by decide)
    refine ⟨_, pss_cons (ps_if (pt_not (pt_val (pe_call GN hr2 rfl D.DN.m D.DN.k D.DN.b .nil pass0 (pa_cons (pe_op op_add (pe_glob (v := .int 40) rfl hr0 ⟨_, rfl⟩) pe_int) (pa_cons (pv 2) pa_nil))))) (pss_one (ps_raise rfl (takes_of rfl rfl rfl rfl) (pmk_sup Er.eU.sup hr rfl Er.eU.gN))) pss_nil)
      (pss_cons (ps_asg (pe_call GR hr rfl N.DR.m N.DR.k N.DR.b .nil pass0 (pa_cons (pv 0) (pa_cons (pv 1) (pa_cons (pv 2) pa_nil)))) (pg_tup rfl (pgs_cons (pg_name (i := 3) nd rfl (.inl rfl)) (pgs_cons (pg_name (i := 4) nd rfl (.inl rfl)) pgs_nil))))
      (pss_one (ps_ret (pv 3)))), ?_⟩
    refine ⟨_, _, rfl, rfl, _, rfl, 41, r, rfl, kr, _, rfl, ?_⟩
    cases e : houseB 41 r with
    | false => exact iteT (kU e)
    | true =>
      obtain ⟨k, rfl, lt⟩ := house_is e
      obtain ⟨RR, SS, pre⟩ := pg.runs (k := k) (by omega)
      refine iteF ⟨_, rfl, _, rfl, _, rfl, M, k, RR, SS, pre, fun p c d as bs H1 s1 hc ep cl tl => ?_⟩
      exact ⟨p, _, rfl, SqT.of ep, rfl, _, _, rfl, _, _, rfl, rfl, _, rfl, kQ e _ H1 s1⟩
end
end Q

namespace Q
open PySem L2 QM QS
abbrev sLAS : Stmt := top 81
abbrev sDue : Stmt := top 82
abbrev sWord : Stmt := top 80
/-- what never raises may be called where something is caught -/
theorem fn_up {P : Program} {w : World} {K : PySem.W.Frag} {mg : Str → Option Value} {base : Heap} {k : Nat} {f : Addr} {fd : FuncData} {ps : List Str} {sp : Sp} {CX : CXT} (F : FnOk P w K mg base CX0 k f fd ps sp) : FnOk P w K mg base CX k f fd ps sp :=
  ⟨F.len, fun A outer s H args us vs Q E hr he hb hv hs => codeAny_mono (F.run A outer s H args us vs Q E hr he hb hv hs) fun r s' h => by
    match r, h with
    | .ok (.ret u), h => exact h
    | .error e, h => exact h.elim⟩
/-- one promise or the other -/
theorem fn_or {P : Program} {w : World} {K : PySem.W.Frag} {mg : Str → Option Value} {base : Heap} {k : Nat} {f : Addr} {fd : FuncData} {ps : List Str} {sp sp' : Sp} {CX : CXT} (F : FnOk P w K mg base CX k f fd ps sp) (G : FnOk P w K mg base CX k f fd ps sp') :
    FnOk P w K mg base CX k f fd ps (fun vs H Q E => sp vs H Q E ∨ sp' vs H Q E) :=
  ⟨fun vs H Q E h => h.elim (F.len vs H Q E) (G.len vs H Q E), fun A outer s H args us vs Q E hr he hb hv hs => hs.elim (F.run A outer s H args us vs Q E hr he hb hv) (G.run A outer s H args us vs Q E hr he hb hv)⟩
def spRefK (CU : Addr) : Sp := fun vs H Q E => ∃ (x y r : V), vs = [x, y, r] ∧ Kd H r ∧ houseB 41 r = false ∧ E (.ref CU) none H
def dueW (wh : Int) (h r40 r1k c n : Bool) : Str :=
  if wh > 2 then (if r40 = true then "told" else "NoNumber")
  else if h = true then (if wh = 0 then "told" else if r1k = true then (if c = true then (if wh = 2 then (if n = true then "told" else "NoSayings") else "told") else "NoCells") else "NoNumber")
  else "NoHouse"
def spWB : Sp := fun vs H Q _ => ∃ (v : V) (hi m : Int), vs = [v, .int 0, .int hi] ∧ hi + 1 = m ∧ Kd H v ∧ Q (.bl (houseB m v)) H
def spLAS : Sp := fun vs H Q _ => ∃ (v : V) (lo hi : Int), vs = [v, .int lo, .int hi] ∧ Kd1 H v ∧ ∀ (b : Bool) H', Same H H' → (b = true ↔ ∃ zs, Smalls H v zs ∧ lo ≤ zs.length ∧ zs.length ≤ hi) → Q (.bl b) H'
def spDue : Sp := fun vs H Q _ => ∃ (wh : Int) (M c : Nat) (v r cv n : V) (bc bn : Bool), vs = [.int wh, .int (M : Int), .int (c : Int), v, r, cv, n] ∧ Kd H v ∧ Kd H r ∧ Kd1 H cv ∧ Kd1 H n ∧ (bc = true ↔ IsC H c cv) ∧ (bn = true ↔ IsN H n) ∧
  ∀ H', Same H H' → Q (.str (dueW wh (houseB M v) (houseB 41 r) (houseB 1001 r) bc bn)) H'
def spWord (C CP : Addr) : Sp := fun vs H Q _ => ∃ (wh : Int) (w : Addr) (M : Nat) (nb : Nat → List Int) (x q qn : Addr) (xs : List V) (t y : V) (us : List V) (v r cv n : V) (bc bn : Bool), vs = [.int wh, .ref w, .ref x, v, r, cv, n] ∧ 0 ≤ wh ∧ wh < 5 ∧ Pg C CP H w M nb x q qn xs t y us ∧ Kd H v ∧ Kd H r ∧ Kd1 H cv ∧ Kd1 H n ∧ (bc = true ↔ IsC H xs.length cv) ∧ (bn = true ↔ IsN H n) ∧
  ∀ H', Same H H' → Q (.str (dueW wh (houseB M v) (houseB 41 r) (houseB 1001 r) bc bn)) H'
section
variable {P : Program} {w : World} {K : PySem.W.Frag} {mg : Str → Option Value} {base : Heap}
theorem ok_msR {f CH CU CC CS fH fU fC fS : Addr} {fd : FuncData} (F : Fun K "many_said" "many_said" sMS f fd) (B : Bts mg) (hmr : ∃ t, mg "MOST_ROUNDS" = some (.int 40 t)) (D : WDefs K mg) (Er : Errs P K mg CH CU CC CS fH fU fC fS) :
    FnOk P w K mg base (L2.CX P w) 19 f fd ["web", "program", "rounds"] (spRefK CU) := by
  have GN : FnOk P w K mg base CX0 2 D.fN D.dN ["limit", "thing"] spNumB := ok_numB D.DN.F B D.DP
  obtain ⟨tr, hr0⟩ := hmr
  refine F.okX scMS (fun vs H Q E h => ?_) (fun cdv A outer s0 H vs Q E hr h => ?_)
  · obtain ⟨x, y, r, rfl, _⟩ := h
    rfl
  · obtain ⟨x, y, r, rfl, kr, e, kE⟩ := h
    have hr2 : Room 2 _ := hr.mono (by decide)
    refine ⟨_, pss_cons (ps_if (pt_not (pt_val (pe_call GN hr2 rfl D.DN.m D.DN.k D.DN.b .nil pass0 (pa_cons (pe_op op_add (pe_glob (v := .int 40) rfl hr0 ⟨_, rfl⟩) pe_int) (pa_cons (pv 2) pa_nil))))) (pss_one (ps_raise rfl (takes_of rfl rfl rfl rfl) (pmk_sup Er.eU.sup hr rfl Er.eU.gN))) pss_nil) pss_never, ?_⟩
    refine ⟨_, _, rfl, rfl, _, rfl, 41, r, rfl, kr, _, rfl, ?_⟩
    rw [e]
    exact iteT kE
theorem ok_msX {f C CP CH CU CC CS fH fU fC fS : Addr} {fd : FuncData} (F : Fun K "many_said" "many_said" sMS f fd) (B : Bts mg) (hsum : mg "sum" = none) (hmr : ∃ t, mg "MOST_ROUNDS" = some (.int 40 t)) (T : WTxt K mg C) (TP : PTxt K mg CP) (D : WDefs K mg) (R : RDefs K mg) (O : OpsT P w K mg base) (N : KDefs K mg) (Er : Errs P K mg CH CU CC CS fH fU fC fS) :
    FnOk P w K mg base (L2.CX P w) 19 f fd ["web", "program", "rounds"] (spLkX C CP CU) :=
  (fn_or (fn_up (ok_ms F B hsum hmr T TP D R O N)) (ok_msR F B hmr D Er)).imp fun vs H Q E ⟨w, M, nb, x, q, qn, xs, t, y, us, r, ev, pg, kr, kU, kQ⟩ => by
    subst ev
    cases e : houseB 41 r with
    | false => exact .inr ⟨_, _, r, rfl, kr, e, kU e⟩
    | true =>
      obtain ⟨k, rfl, lt⟩ := house_is e
      obtain ⟨RR, SS, pre⟩ := pg.runs (k := k) (by omega)
      exact .inl ⟨M, k, RR, SS, pre, fun H' s => kQ e _ H' s⟩
theorem ok_wb {f fI : Addr} {fd dI : FuncData} (F : Fun K "_law_is_within" "_law_is_within" sWithin f fd) (B : Bts mg) (DI : Df K mg "_law_is_integer" sInt ["thing"] fI dI) : FnOk P w K mg base CX0 2 f fd ["thing", "least", "most"] spWB :=
  (ok_within F B DI).imp fun vs H Q E ⟨v, hi, m, ev, em, kd, q⟩ => by
    refine ⟨v, 0, hi, ev, ?_⟩
    rcases kd.cl (K := K) with ⟨i, rfl⟩ | no
    · refine .inl ⟨i, rfl, ?_⟩
      have e : decide (i ≤ hi) = decide (i < m) := by
        by_cases c : i < m
        · rw [decide_eq_true c, decide_eq_true (by omega)]
        · rw [decide_eq_false c, decide_eq_false (by omega)]
      rw [e]
      exact q
    · rw [house_no m no] at q
      exact .inr ⟨no, q⟩
theorem scLAS : FnScope ["thing", "least", "most", "item"] ["thing", "least", "most"] (defScope sLAS) := ⟨rfl, rfl, rfl, by decide +kernel, rfl, by decide +kernel, by decide +kernel⟩
theorem ok_las {f fS fW fI : Addr} {fd dS dW dI : FuncData} (F : Fun K "_law_are_small" "_law_are_small" sLAS f fd) (B : Bts mg) (DS : Df K mg "_law_is_small" sLSm ["thing"] fS dS) (DW : Df K mg "_law_is_within" sWithin ["thing", "least", "most"] fW dW) (DI : Df K mg "_law_is_integer" sInt ["thing"] fI dI) :
    FnOk P w K mg base CX0 4 f fd ["thing", "least", "most"] spLAS := by
  have GS : FnOk P w K mg base CX0 3 fS dS ["thing"] spSmall := ok_lsm DS.F B DW DI
  refine F.ok scLAS (fun vs H Q E h => ?_) (fun cdv A outer s0 H vs Q E hr h => ?_)
  · obtain ⟨v, lo, hi, rfl, _⟩ := h
    rfl
  · obtain ⟨v, lo, hi, rfl, kd, k⟩ := h
    have nd := scLAS.nd
    have rs : Same H H := fun _ _ e => e
    refine ⟨_, pss_cons (ps_if (PW.pt (pw_or (pt_not (pt_val (pe_callB call_isi (by rfl) B.isinstance PyProof.Rows.boot_isinstance (pa_cons (pv 0) (pa_cons (pe_bltn (v := .ty "tuple") rfl B.tuple PyProof.Rows.boot_tuple rfl) pa_nil)))))
        (pw_or (pt_cmpR op_lt (pe_callB (r := rLen K) call_len_seq (by rfl) B.len PySem.boot_len (pa_cons (pv 0) pa_nil)) (pv 1) (nomark _)) (pw_or1 (pt_cmpR op_gt (pe_callB (r := rLen K) call_len_seq (by rfl) B.len PySem.boot_len (pa_cons (pv 0) pa_nil)) (pv 2) (nomark _)))))) (pss_one (ps_ret pe_bl)) pss_nil)
      (pss_one (ps_ret (pe_cmpR op_eq (pe_callB (r := rLen K) call_len_seq (by rfl) B.len PySem.boot_len (pa_cons (pe_lc (own := [("item", 3)]) (g := gName 3) rfl nd (pi_tup (pv 0))
          (blkOk_by (N := ["thing", "least", "most", "item"]) (sc := defScope sLAS) (by decide +kernel)) (fun _ _ _ _ _ => pg_name (i := 3) nd rfl (.inl rfl)) (fun _ _ _ _ _ => pts_one (pt_not (pt_val (pe_call GS hr rfl DS.m DS.k DS.b .nil pass0 (pa_cons (pv 3) pa_nil)))))
          (fun _ _ _ _ _ => pv 3)) pa_nil)) pe_int (nomark _)))), ?_⟩
    obtain ⟨tt, bt, ty, kt0, h⟩ := kd.1.tyT (K := K)
    refine ⟨_, rfl, v, .ty "tuple", tt, .type "tuple", bt, rfl, .ty _, ty, kt0, _, rfl, ?_⟩
    rcases h with ⟨rfl, a, xs, rfl, ha⟩ | ⟨rfl, no⟩
    rotate_left
    · exact iteT (k false H rs ⟨fun z => (nomatch z), fun ⟨zs, ⟨a, e1, e2, _⟩, _⟩ => (no a _ e1 e2).elim⟩)
    obtain ⟨hl, hk⟩ := kd.2 a xs rfl ha
    have len_of : ∀ zs, Smalls H (.ref a) zs → zs.length = xs.length := fun zs ⟨a', e1, e2, _⟩ => by
      cases e1
      rw [ha] at e2
      obtain rfl := HO.tup.inj (Option.some.inj e2)
      rw [List.length_map]
    refine iteF ⟨_, rfl, a, xs, rfl, .inr (SqT.of ha), _, rfl, _, _, rfl, rfl, _, rfl, ite2 (fun c1 => ?_) (fun c1 => ?_)⟩
    · have c1' := of_decide_eq_true c1
      exact k false H rs ⟨fun z => (nomatch z), fun ⟨zs, s1, l1, l2⟩ => by have := len_of zs s1; omega⟩
    · have c1' : ¬ (xs.length : Int) < lo := fun z => c1 (decide_eq_true z)
      refine ⟨_, rfl, a, xs, rfl, .inr (SqT.of ha), _, rfl, _, _, rfl, rfl, _, rfl, ite2 (fun c2 => ?_) (fun c2 => ?_)⟩
      · have c2' := of_decide_eq_true c2
        exact k false H rs ⟨fun z => (nomatch z), fun ⟨zs, s1, l1, l2⟩ => by have := len_of zs s1; omega⟩
      · have c2' : ¬ hi < (xs.length : Int) := fun z => c2 (decide_eq_true z)
        refine ⟨_, rfl, a, rfl, ⟨_, SqT.of ha⟩, fun D hD => lc_tup (K := K) (a := a) (xs := xs) (fun i H' => ∃ acc : List V, H' D = some (.lst acc) ∧ acc.length ≤ i ∧ (acc = [] ↔ ∀ x ∈ xs.take i, ∃ z : Int, x = .int z ∧ Sm z) ∧ Same H H') ?_ ?_ ?_ ?_⟩
        · exact ⟨[], upd_same, Nat.le_refl _, ⟨fun _ x hx => absurd hx (by simp), fun _ => rfl⟩, sN hD⟩
        · rintro i H1 hi ⟨acc, _, _, _, s1⟩
          exact SqT.of (s1 _ _ ha)
        · rintro i x H1 hx ⟨acc, eD, hla, iff, s1⟩
          have hix : i < xs.length := (List.getElem?_eq_some_iff.mp hx).1
          have hm := List.mem_of_getElem? hx
          have tk : ∀ Qx : Prop, (∀ y ∈ xs.take (i + 1), ∃ z : Int, y = .int z ∧ Sm z) ↔ ((∀ y ∈ xs.take i, ∃ z : Int, y = .int z ∧ Sm z) ∧ ∃ z : Int, x = .int z ∧ Sm z) := fun _ => by
            rw [List.take_add_one, hx]
            constructor
            · intro h
              exact ⟨fun y hy => h y (List.mem_append_left _ hy), h x (List.mem_append_right _ (by simp))⟩
            · rintro ⟨h1, h2⟩ y hy
              rcases List.mem_append.mp hy with hy | hy
              · exact h1 y hy
              · have ey : y = x := by simpa using hy
                rw [ey]
                exact h2
          refine ⟨rfl, _, rfl, x, rfl, (hk x hm).same s1, fun b hb => ⟨_, rfl, ?_⟩⟩
          cases b with
          | true =>
            refine iteF ⟨acc, eD, by omega, iff.trans ?_, s1⟩
            rw [tk True]
            exact ⟨fun h => ⟨h, hb.mp rfl⟩, And.left⟩
          | false =>
            refine iteT ⟨_, rfl, _, eD, Nat.lt_of_le_of_lt hla (Nat.lt_of_lt_of_le (show i < 200 by omega) (by decide)), acc ++ [x], upd_same, by rw [List.length_append]; exact Nat.succ_le_succ hla, ?_, sNew s1 hD⟩
            rw [tk True]
            constructor
            · intro h
              exact absurd h (by simp)
            · rintro ⟨_, h⟩
              exact absurd (hb.mpr h) Bool.false_ne_true
        · rintro H1 ⟨acc, eD, hla, iff, s1⟩
          rw [List.take_length] at iff
          refine ⟨D, acc, rfl, .inl (SqL.of eD), rfl, ?_⟩
          rw [show decide (V.int ((acc.length : Nat) : Int) = V.int 0) = decide (acc.length = 0) from len_dec _ 0]
          refine k _ H1 s1 ⟨fun z => ?_, fun ⟨zs, ⟨a', e1, e2, h3⟩, _⟩ => ?_⟩
          · obtain ⟨zs, rfl, hz⟩ := smalls_of (iff.mp (List.eq_nil_of_length_eq_zero (of_decide_eq_true z)))
            rw [List.length_map] at c1' c2'
            exact ⟨zs, ⟨a, rfl, ha, hz⟩, by omega, by omega⟩
          · cases e1
            rw [ha] at e2
            obtain rfl := HO.tup.inj (Option.some.inj e2)
            have : acc = [] := iff.mpr fun x hx => by
              obtain ⟨z, hz, rfl⟩ := List.mem_map.mp hx
              exact ⟨z, rfl, h3 z hz⟩
            exact decide_eq_true (by rw [this]; rfl)
end
end Q

namespace Q
open PySem L2 QM QS
section
variable {P : Program} {w : World} {K : PySem.W.Frag} {mg : Str → Option Value} {base : Heap}
theorem scDue : FnScope ["which", "many", "cells_many", "house", "turn", "cells", "numbers"] ["which", "many", "cells_many", "house", "turn", "cells", "numbers"] (defScope sDue) := ⟨rfl, rfl, rfl, by decide +kernel, rfl, by decide +kernel, by decide +kernel⟩
theorem told_ix (b : Bool) : atI [V.str "NoNumber", V.str "told"] (if b = true then 1 else 0) = some (V.str (if b = true then "told" else "NoNumber")) := by
  cases b <;> rfl
theorem ok_due {f fA fS fW fI : Addr} {fd dA dS dW dI : FuncData} (F : Fun K "_law_due" "_law_due" sDue f fd) (B : Bts mg) (DA : Df K mg "_law_are_small" sLAS ["thing", "least", "most"] fA dA) (DS : Df K mg "_law_is_small" sLSm ["thing"] fS dS) (DW : Df K mg "_law_is_within" sWithin ["thing", "least", "most"] fW dW) (DI : Df K mg "_law_is_integer" sInt ["thing"] fI dI) :
    FnOk P w K mg base CX0 5 f fd ["which", "many", "cells_many", "house", "turn", "cells", "numbers"] spDue := by
  have GA : FnOk P w K mg base CX0 4 fA dA ["thing", "least", "most"] spLAS := ok_las DA.F B DS DW DI
  have GW : FnOk P w K mg base CX0 2 fW dW ["thing", "least", "most"] spWB := ok_wb DW.F B DI
  refine F.ok scDue (fun vs H Q E h => ?_) (fun cdv A outer s0 H vs Q E hr h => ?_)
  · obtain ⟨wh, M, c, v, r, cv, n, bc, bn, rfl, _⟩ := h
    rfl
  · obtain ⟨wh, M, c, v, r, cv, n, bc, bn, rfl, kv, kr, kc, kn, hbc, hbn, k⟩ := h
    have hr2 : Room 2 _ := hr.mono (by decide)
    refine ⟨_, pss_cons (ps_if (pt_cmpR op_gt (pv 0) pe_int (nomark _)) (pss_one (ps_ret (pe_ix ix_list (pe_lst (pa_cons pe_str (pa_cons pe_str pa_nil))) (pe_callTy call_int1 (by rfl) B.int PyProof.Rows.boot_int (pa_cons (pe_call GW hr2 rfl DW.m DW.k DW.b .nil pass0 (pa_cons (pv 4) (pa_cons pe_int (pa_cons pe_int pa_nil)))) pa_nil)) (fun _ _ => rfl)))) pss_nil)
      (pss_cons (ps_if (pt_not (pt_val (pe_call GW hr2 rfl DW.m DW.k DW.b .nil pass0 (pa_cons (pv 3) (pa_cons pe_int (pa_cons (pe_op op_sub (pv 1) pe_int) pa_nil)))))) (pss_one (ps_ret pe_str)) pss_nil)
      (pss_cons (ps_if (pt_cmpR op_eq (pv 0) pe_int (nomark _)) (pss_one (ps_ret pe_str)) pss_nil)
      (pss_cons (ps_if (pt_not (pt_val (pe_call GW hr2 rfl DW.m DW.k DW.b .nil pass0 (pa_cons (pv 4) (pa_cons pe_int (pa_cons pe_int pa_nil)))))) (pss_one (ps_ret pe_str)) pss_nil)
      (pss_cons (ps_if (pt_not (pt_val (pe_call GA hr rfl DA.m DA.k DA.b .nil pass0 (pa_cons (pv 5) (pa_cons (pv 2) (pa_cons (pv 2) pa_nil)))))) (pss_one (ps_ret pe_str)) pss_nil)
      (pss_cons (ps_if (PW.pt (pw_and (pt_cmpR op_eq (pv 0) pe_int (nomark _)) (pw_and1 (pt_not (pt_val (pe_call GA hr rfl DA.m DA.k DA.b .nil pass0 (pa_cons (pv 6) (pa_cons pe_int (pa_cons pe_int pa_nil))))))))) (pss_one (ps_ret pe_str)) pss_nil)
      (pss_one (ps_ret pe_str))))))), ?_⟩
    have rs : Same H H := fun _ _ e => e
    unfold dueW at k
    refine ⟨_, rfl, _, _, rfl, rfl, _, rfl, ite2 (fun c0 => ?_) (fun c0 => ?_)⟩
    · have c0' : wh > 2 := of_decide_eq_true c0
      rw [if_pos c0'] at k
      refine ⟨(by show 2 ≤ sizeLine; decide), fun t ht => ?_⟩
      have s1 := sN (o := .lst [.str "NoNumber", .str "told"]) ht
      refine ⟨_, rfl, r, 40, 41, rfl, rfl, kr.same s1, .inr ⟨_, rfl, ?_⟩⟩
      exact ⟨t, _, _, _, rfl, rfl, SqL.of upd_same, told_ix _, k _ s1⟩
    · have c0' : ¬ wh > 2 := fun z => c0 (decide_eq_true z)
      rw [if_neg c0'] at k
      refine ⟨_, rfl, _, rfl, _, _, rfl, rfl, v, (M : Int) - 1, (M : Int), rfl, by omega, kv, _, rfl, ?_⟩
      cases e : houseB M v with
      | false =>
        rw [e, if_neg Bool.false_ne_true] at k
        exact iteT (k _ rs)
      | true =>
        rw [e, if_pos rfl] at k
        refine iteF ⟨_, rfl, rfl, _, rfl, ite2 (fun c1 => ?_) (fun c1 => ?_)⟩
        · have c1' : wh = 0 := V.int.inj (of_decide_eq_true c1)
          rw [if_pos c1'] at k
          exact k _ rs
        · have c1' : ¬ wh = 0 := fun z => c1 (decide_eq_true (by rw [z]))
          rw [if_neg c1'] at k
          refine ⟨_, rfl, r, 1000, 1001, rfl, rfl, kr, _, rfl, ?_⟩
          cases e2 : houseB 1001 r with
          | false =>
            rw [e2, if_neg Bool.false_ne_true] at k
            exact iteT (k _ rs)
          | true =>
            rw [e2, if_pos rfl] at k
            refine iteF ⟨_, rfl, _, rfl, _, rfl, cv, c, c, rfl, kc, fun b H1 s1 hb => ⟨_, rfl, ?_⟩⟩
            have ebc : b = bc := by
              have z : b = true ↔ bc = true := hb.trans (Iff.trans ⟨fun ⟨zs, s, l1, l2⟩ => ⟨zs, s, by omega⟩, fun ⟨zs, s, l⟩ => ⟨zs, s, by omega, by omega⟩⟩ hbc.symm)
              exact Bool.eq_iff_iff.mpr z
            subst ebc
            cases b with
            | false =>
              rw [if_neg Bool.false_ne_true] at k
              exact iteT (k _ s1)
            | true =>
              rw [if_pos rfl] at k
              refine iteF ⟨_, rfl, rfl, _, rfl, ite2 (fun c2 => ?_) (fun c2 => ?_)⟩
              · have c2' : wh = 2 := V.int.inj (of_decide_eq_true c2)
                rw [if_pos c2'] at k
                refine ⟨_, rfl, n, 0, 39, rfl, kn.same s1, fun b2 H2 s2 hb2 => ⟨_, rfl, ?_⟩⟩
                have ebn : b2 = bn := by
                  have z : b2 = true ↔ bn = true := hb2.trans (Iff.trans ⟨fun ⟨zs, s, l1, l2⟩ => ⟨zs, s.back kn.1 s1, by omega⟩, fun ⟨zs, s, l⟩ => ⟨zs, s.same s1, by omega, by omega⟩⟩ hbn.symm)
                  exact Bool.eq_iff_iff.mpr z
                subst ebn
                cases b2 with
                | false =>
                  rw [if_neg Bool.false_ne_true] at k
                  exact iteT (k _ (sT s1 s2))
                | true =>
                  rw [if_pos rfl] at k
                  exact iteF (k _ (sT s1 s2))
              · have c2' : ¬ wh = 2 := fun z => c2 (decide_eq_true (by rw [z]))
                rw [if_neg c2'] at k
                exact k _ s1
theorem scWord : FnScope ["which", "web", "program", "house", "turn", "cells", "numbers"] ["which", "web", "program", "house", "turn", "cells", "numbers"] (defScope sWord) := ⟨rfl, rfl, rfl, by decide +kernel, rfl, by decide +kernel, by decide +kernel⟩
/-- the defs that are asked -/
structure ADefs (K : PySem.W.Frag) (mg : Str → Option Value) where
  fSt : Addr
  dSt : FuncData
  DSt : Df K mg "start_cells" sSt ["web", "program", "house"] fSt dSt
  fSy : Addr
  dSy : FuncData
  DSy : Df K mg "sayings" sSay ["web", "program", "house", "at", "cells"] fSy dSy
  fNx : Addr
  dNx : FuncData
  DNx : Df K mg "next_cells" sNxt ["web", "program", "house", "at", "cells", "numbers"] fNx dNx
  fLk : Addr
  dLk : FuncData
  DLk : Df K mg "lockstep" sLk ["web", "program", "rounds"] fLk dLk
  fMS : Addr
  dMS : FuncData
  DMS : Df K mg "many_said" sMS ["web", "program", "rounds"] fMS dMS
/-- other names -/
structure Oth3 (mg : Str → Option Value) : Prop where
  all : mg "all" = none
  sum : mg "sum" = none
  mr : ∃ t, mg "MOST_ROUND" = some (.int 1000 t)
  mrs : ∃ t, mg "MOST_ROUNDS" = some (.int 40 t)
  ms : ∃ t, mg "MOST_SAID" = some (.int 39 t)
theorem ok_word {f C CP CH CU CC CS fH fU fC fS : Addr} {fd : FuncData} (F : Fun K "_law_word" "_law_word" sWord f fd) (B : Bts mg) (O3 : Oth3 mg) (T : WTxt K mg C) (TP : PTxt K mg CP) (D : WDefs K mg) (R : RDefs K mg) (S : SDefs K mg) (O : OpsT P w K mg base) (N : KDefs K mg) (A0 : ADefs K mg) (Er : Errs P K mg CH CU CC CS fH fU fC fS) (Kn : Kin K CH CU CC CS) :
    FnOk P w K mg base CX0 20 f fd ["which", "web", "program", "house", "turn", "cells", "numbers"] (spWord C CP) := by
  have G1 : FnOk P w K mg base (L2.CX P w) 17 A0.fSt A0.dSt ["web", "program", "house"] (spStX C CP CH) := ok_stX A0.DSt.F B T TP D R S O Er
  have G2 : FnOk P w K mg base (L2.CX P w) 17 A0.fSy A0.dSy ["web", "program", "house", "at", "cells"] (spSayX C CP CH CU CC) := ok_sayX A0.DSy.F B O3.all O3.mr T TP D R S O Er
  have G3 : FnOk P w K mg base (L2.CX P w) 17 A0.fNx A0.dNx ["web", "program", "house", "at", "cells", "numbers"] (spNxtX C CP CH CU CC CS) := ok_nxtX A0.DNx.F B O3.all O3.sum O3.mr O3.ms T TP D R S O Er
  have G4 : FnOk P w K mg base (L2.CX P w) 19 A0.fLk A0.dLk ["web", "program", "rounds"] (spLkX C CP CU) := ok_lkX A0.DLk.F B O3.sum O3.mrs T TP D R O N Er
  have G5 : FnOk P w K mg base (L2.CX P w) 19 A0.fMS A0.dMS ["web", "program", "rounds"] (spLkX C CP CU) := ok_msX A0.DMS.F B O3.sum O3.mrs T TP D R O N Er
  refine F.ok scWord (fun vs H Q E h => ?_) (fun cdv A outer s0 H vs Q E hr h => ?_)
  · obtain ⟨wh, w, M, nb, x, q, qn, xs, t, y, us, v, r, cv, n, bc, bn, rfl, _⟩ := h
    rfl
  · obtain ⟨wh, w, M, nb, x, q, qn, xs, t, y, us, v, r, cv, n, bc, bn, rfl, w0, w5, pg, kv, kr, kc, kn, hbc, hbn, k⟩ := h
    have hr17 : Room 17 _ := hr.mono (by decide)
    refine ⟨_, pss_one (ps_try_many (tb := fun W => tSeq (tIfS (tTest (tOp rEq (tVar 0) (tC (.int 0)))) (tDrop (tCallS (spStX C CP CH) (WE W) (tCons (tVar 1) (tCons (tVar 2) (tCons (tVar 3) tNil)))))
          (tIfS (tTest (tOp rEq (tVar 0) (tC (.int 1)))) (tDrop (tCallS (spSayX C CP CH CU CC) (WE W) (tCons (tVar 1) (tCons (tVar 2) (tCons (tVar 3) (tCons (tVar 4) (tCons (tVar 5) tNil)))))))
          (tIfS (tTest (tOp rEq (tVar 0) (tC (.int 2)))) (tDrop (tCallS (spNxtX C CP CH CU CC CS) (WE W) (tCons (tVar 1) (tCons (tVar 2) (tCons (tVar 3) (tCons (tVar 4) (tCons (tVar 5) (tCons (tVar 6) tNil))))))))
          (tIfS (tTest (tOp rEq (tVar 0) (tC (.int 3)))) (tDrop (tCallS (spLkX C CP CU) (WE W) (tCons (tVar 1) (tCons (tVar 2) (tCons (tVar 4) tNil)))))
            (tDrop (tCallS (spLkX C CP CU) (WE W) (tCons (tVar 1) (tCons (tVar 2) (tCons (tVar 4) tNil))))))))) (tRet (tC (.str "told"))))
      (l := [(.ref CH, fun _ _ _ => tRet (tC (.str "NoHouse"))), (.ref CU, fun _ _ _ => tRet (tC (.str "NoNumber"))), (.ref CC, fun _ _ _ => tRet (tC (.str "NoCells"))), (.ref CS, fun _ _ _ => tRet (tC (.str "NoSayings")))]) (Wout := fun _ _ _ _ => False) rfl rfl takes0
      (fun W pn xe tk _ => pss_cons (ps_if (pt_cmpR op_eq (pv 0) pe_int (nomark _)) (pss_one (ps_expr (by exact (pe_callS G1 hr17 rfl A0.DSt.m A0.DSt.k A0.DSt.b (fun σ => passAt tk σ) (by exact (pa_cons (pv 1) (pa_cons (pv 2) (pa_cons (pv 3) pa_nil))))))))
        (pss_one (ps_if (pt_cmpR op_eq (pv 0) pe_int (nomark _)) (pss_one (ps_expr (by exact (pe_callS G2 hr17 rfl A0.DSy.m A0.DSy.k A0.DSy.b (fun σ => passAt tk σ) (by exact (pa_cons (pv 1) (pa_cons (pv 2) (pa_cons (pv 3) (pa_cons (pv 4) (pa_cons (pv 5) pa_nil))))))))))
        (pss_one (ps_if (pt_cmpR op_eq (pv 0) pe_int (nomark _)) (pss_one (ps_expr (by exact (pe_callS G3 hr17 rfl A0.DNx.m A0.DNx.k A0.DNx.b (fun σ => passAt tk σ) (by exact (pa_cons (pv 1) (pa_cons (pv 2) (pa_cons (pv 3) (pa_cons (pv 4) (pa_cons (pv 5) (pa_cons (pv 6) pa_nil)))))))))))
        (pss_one (ps_if (pt_cmpR op_eq (pv 0) pe_int (nomark _)) (pss_one (ps_expr (by exact (pe_callS G4 hr rfl A0.DLk.m A0.DLk.k A0.DLk.b (fun σ => passAt tk σ) (by exact (pa_cons (pv 1) (pa_cons (pv 2) (pa_cons (pv 4) pa_nil))))))))
          (pss_one (ps_expr (by exact (pe_callS G5 hr rfl A0.DMS.m A0.DMS.k A0.DMS.b (fun σ => passAt tk σ) (by exact (pa_cons (pv 1) (pa_cons (pv 2) (pa_cons (pv 4) pa_nil)))))))))))))))
        (pss_one (ps_ret pe_str)))
      (.cons ⟨rfl, by decide, .inl Er.eH.gN⟩ (fun a oe cls d pn _ _ => pss_one (ps_ret pe_str)) (.cons ⟨rfl, by decide, .inl Er.eU.gN⟩ (fun a oe cls d pn _ _ => pss_one (ps_ret pe_str)) (.cons ⟨rfl, by decide, .inl Er.eC.gN⟩ (fun a oe cls d pn _ _ => pss_one (ps_ret pe_str)) (.cons ⟨rfl, by decide, .inl Er.eS.gN⟩ (fun a oe cls d pn _ _ => pss_one (ps_ret pe_str)) .nil))))), ?_⟩
    have rs : Same H H := fun _ _ e => e
    unfold dueW at k
    refine ⟨_, rfl, rfl, _, rfl, ite2 (fun c => ?_) (fun c => ?_)⟩
    · have e0 : wh = 0 := V.int.inj (of_decide_eq_true c)
      rw [if_neg (by omega), if_pos e0] at k
      refine ⟨_, rfl, _, rfl, _, rfl, w, M, nb, x, q, qn, xs, t, y, us, v, rfl, pg, kv, fun e => ?_, fun e u H' s => ?_⟩
      · refine ⟨true, Kn.hh, fun _ a _ => ?_, fun q => nomatch q⟩
        rw [e, if_neg Bool.false_ne_true] at k
        exact k _ rs
      · rw [e, if_pos rfl] at k
        exact k _ s
    have n0 : ¬ wh = 0 := fun z => c (decide_eq_true (by rw [z]))
    have three : ∀ (Z : Prop → Prop), True := fun _ => trivial
    clear three
    refine ⟨_, rfl, rfl, _, rfl, ite2 (fun c => ?_) (fun c => ?_)⟩
    · have e1 : wh = 1 := V.int.inj (of_decide_eq_true c)
      rw [if_neg (by omega), if_neg n0, if_neg (show ¬ wh = 2 by omega)] at k
      refine ⟨_, rfl, _, rfl, _, rfl, _, rfl, _, rfl, w, M, nb, x, q, qn, xs, t, y, us, v, r, cv, rfl, pg, kv, kr, kc, fun e => ?_, fun e e2 => ?_, fun e e2 => ⟨fun nc H' s => ?_, fun ic u H' s => ?_⟩⟩
      · refine ⟨true, Kn.hh, fun _ a _ => ?_, fun q => nomatch q⟩
        rw [e, if_neg Bool.false_ne_true] at k
        exact k _ rs
      · refine ⟨false, Kn.uh, fun q => (nomatch q), fun _ => ⟨true, Kn.uu, fun _ a _ => ?_, fun q => nomatch q⟩⟩
        rw [e, if_pos rfl, e2, if_neg Bool.false_ne_true] at k
        exact k _ rs
      · refine ⟨false, Kn.ch, fun q => (nomatch q), fun _ => ⟨false, Kn.cu, fun q => (nomatch q), fun _ => ⟨true, Kn.cc, fun _ a _ => ?_, fun q => nomatch q⟩⟩⟩
        have ec : ¬ bc = true := fun z => nc (hbc.mp z)
        rw [e, if_pos rfl, e2, if_pos rfl, if_neg ec] at k
        exact k _ s
      · rw [e, if_pos rfl, e2, if_pos rfl, if_pos (hbc.mpr ic)] at k
        exact k _ s
    have n1 : ¬ wh = 1 := fun z => c (decide_eq_true (by rw [z]))
    refine ⟨_, rfl, rfl, _, rfl, ite2 (fun c => ?_) (fun c => ?_)⟩
    · have e1 : wh = 2 := V.int.inj (of_decide_eq_true c)
      rw [if_neg (by omega), if_neg n0, if_pos e1] at k
      refine ⟨_, rfl, _, rfl, _, rfl, _, rfl, _, rfl, _, rfl, w, M, nb, x, q, qn, xs, t, y, us, v, r, cv, n, rfl, pg, kv, kr, kc, kn, fun e => ?_, fun e e2 => ?_, fun e e2 => ⟨fun nc H' s => ?_, fun ic => ⟨fun nn H' s => ?_, fun inn u H' s => ?_⟩⟩⟩
      · refine ⟨true, Kn.hh, fun _ a _ => ?_, fun q => nomatch q⟩
        rw [e, if_neg Bool.false_ne_true] at k
        exact k _ rs
      · refine ⟨false, Kn.uh, fun q => (nomatch q), fun _ => ⟨true, Kn.uu, fun _ a _ => ?_, fun q => nomatch q⟩⟩
        rw [e, if_pos rfl, e2, if_neg Bool.false_ne_true] at k
        exact k _ rs
      · refine ⟨false, Kn.ch, fun q => (nomatch q), fun _ => ⟨false, Kn.cu, fun q => (nomatch q), fun _ => ⟨true, Kn.cc, fun _ a _ => ?_, fun q => nomatch q⟩⟩⟩
        have ec : ¬ bc = true := fun z => nc (hbc.mp z)
        rw [e, if_pos rfl, e2, if_pos rfl, if_neg ec] at k
        exact k _ s
      · refine ⟨false, Kn.sh, fun q => (nomatch q), fun _ => ⟨false, Kn.su, fun q => (nomatch q), fun _ => ⟨false, Kn.sc, fun q => (nomatch q), fun _ => ⟨true, Kn.ss, fun _ a _ => ?_, fun q => nomatch q⟩⟩⟩⟩
        have en : ¬ bn = true := fun z => nn (hbn.mp z)
        rw [e, if_pos rfl, e2, if_pos rfl, if_pos (hbc.mpr ic), if_neg en] at k
        exact k _ s
      · rw [e, if_pos rfl, e2, if_pos rfl, if_pos (hbc.mpr ic), if_pos (hbn.mpr inn)] at k
        exact k _ s
    have n2 : ¬ wh = 2 := fun z => c (decide_eq_true (by rw [z]))
    rw [if_pos (show wh > 2 by omega)] at k
    refine ⟨_, rfl, rfl, _, rfl, ite2 (fun c => ?_) (fun c => ?_)⟩
    · refine ⟨_, rfl, _, rfl, _, rfl, w, M, nb, x, q, qn, xs, t, y, us, r, rfl, pg, kr, fun e => ?_, fun e u H' s => ?_⟩
      · refine ⟨false, Kn.uh, fun q => (nomatch q), fun _ => ⟨true, Kn.uu, fun _ a _ => ?_, fun q => nomatch q⟩⟩
        rw [e, if_neg Bool.false_ne_true] at k
        exact k _ rs
      · rw [e, if_pos rfl] at k
        exact k _ s
    · refine ⟨_, rfl, _, rfl, _, rfl, w, M, nb, x, q, qn, xs, t, y, us, r, rfl, pg, kr, fun e => ?_, fun e u H' s => ?_⟩
      · refine ⟨false, Kn.uh, fun q => (nomatch q), fun _ => ⟨true, Kn.uu, fun _ a _ => ?_, fun q => nomatch q⟩⟩
        rw [e, if_neg Bool.false_ne_true] at k
        exact k _ rs
      · rw [e, if_pos rfl] at k
        exact k _ s
end
end Q

namespace Q
open PySem L2 QM QS
abbrev sLaw : Stmt := top 83
/-- a + b of tuples, a new one or one of them -/
def rCatS : R2 := fun x y H Q => ∃ a b xs ys, x = .ref a ∧ y = .ref b ∧ H a = some (.tup xs) ∧ H b = some (.tup ys) ∧ xs.length + ys.length ≤ sizeLine ∧ ∀ z H', Same H H' → H' z = some (.tup (xs ++ ys)) → Q (.ref z) H'
theorem op_catS {X : Cx} : OpR X (binaryOp .Add) rCatS := by
  intro pins s σ H x y v u Q I rx ry h
  obtain ⟨a, b, xs, ys, rfl, rfl, ha, hb, hz, k⟩ := h
  refine op_catA pins s σ H _ _ v u Q I rx ry ⟨a, b, xs, ys, rfl, rfl, SqT.of ha, SqT.of hb, hz, fun e => ?_, fun _ e => ?_, fun _ _ p hp => k p _ (sN hp) upd_same⟩
  · exact k b H (fun _ _ e => e) (by rw [hb, e]; rfl)
  · exact k a H (fun _ _ e => e) (by rw [ha, e, List.append_nil])
theorem HPre.ext {C CP : Addr} {H H' : Hp} {w p l : Addr} {m : Int} {nb : Nat → List Int} {x : Addr} {s t y n : V} {h : Nat} (d : HPre C CP H w m nb x s t y n h) (g : HandAt H p l) (z : Ext p H H') : HPre C CP H' w m nb x s t y n h := by
  obtain ⟨⟨dx, q, r, L, bs, a⟩, ⟨dp, b⟩, c, d, e, f⟩ := d
  obtain ⟨zs, ep⟩ := g.hp
  exact ⟨⟨dx, q, r, L, bs, a.ext g z⟩, ⟨dp, z _ _ b (ne_of b ep (fun z => by cases z))⟩, c, d, e, f⟩
theorem Pg.ext {C CP : Addr} {H H' : Hp} {w p l : Addr} {M : Nat} {nb : Nat → List Int} {x q qn : Addr} {xs : List V} {t y : V} {us : List V} (d : Pg C CP H w M nb x q qn xs t y us) (g : HandAt H p l) (g' : HandAt H' p l) (z : Ext p H H') : Pg C CP H' w M nb x q qn xs t y us := by
  have gr := Grow.of_ext g g' z
  exact ⟨⟨d.wp.N, fun h hh => (d.wp.pre h hh).ext g z⟩, gr.tup d.hq, d.lx, gr.tup d.hqn, d.lu, d.tr.grow gr⟩
def spLaw (K : PySem.W.Frag) : Sp := fun vs H Q _ => ∃ (a : Addr) (ns : List Int), vs = [.ref a] ∧ SqL K H a (ns.map V.int) ∧ ns.length ≤ 63 ∧ ∀ H', Q (.bl true) H'
theorem cut_mem {xs : List V} {a b : Option Int} {v : V} (h : v ∈ cutV xs a b) : v ∈ xs := List.mem_of_mem_drop (List.mem_of_mem_take h)
theorem cut_len (xs : List V) (a b : Option Int) : (cutV xs a b).length ≤ xs.length := by
  show ((xs.drop _).take _).length ≤ xs.length
  rw [List.length_take, List.length_drop]
  omega
theorem rep_mem {x v : V} {k : Nat} (h : v ∈ (List.replicate k [x]).flatten) : v = x := by
  obtain ⟨l, hl, hv⟩ := List.mem_flatten.mp h
  rw [(List.mem_replicate.mp hl).2] at hv
  exact List.mem_singleton.mp hv
theorem rep_len (x : V) (k : Nat) : (List.replicate k [x]).flatten.length = k := by
  induction k with
  | zero => rfl
  | succ k ih =>
    rw [List.replicate_succ, List.flatten_cons, List.length_append, ih, List.length_singleton]
    omega
theorem bool_of (p : Prop) : ∃ b : Bool, (b = true ↔ p) := by
  classical
  exact ⟨decide p, by simp⟩
theorem IsC.iff {H H' : Hp} {c : Nat} {v : V} (k : Kd H v) (s : Same H H') : IsC H c v ↔ IsC H' c v :=
  ⟨fun ⟨zs, h, l⟩ => ⟨zs, h.same s, l⟩, fun ⟨zs, h, l⟩ => ⟨zs, h.back k s, l⟩⟩
theorem IsN.iff {H H' : Hp} {v : V} (k : Kd H v) (s : Same H H') : IsN H v ↔ IsN H' v :=
  ⟨fun ⟨zs, h, l⟩ => ⟨zs, h.same s, l⟩, fun ⟨zs, h, l⟩ => ⟨zs, h.back k s, l⟩⟩
/-- the defs that the law itself calls -/
structure LDefs (K : PySem.W.Frag) (mg : Str → Option Value) where
  fH : Addr
  dH : FuncData
  DH : Df K mg "_law_hand" sHand ["script"] fH dH
  fT : Addr
  dT : FuncData
  DT : Df K mg "_law_take" sTake ["hand", "many"] fT dT
  fP : Addr
  dP : FuncData
  DP : Df K mg "_law_pick" sPick ["hand", "things"] fP dP
  fI : Addr
  dI : FuncData
  DI : Df K mg "_law_is_integer" sInt ["thing"] fI dI
  fW : Addr
  dW : FuncData
  DW : Df K mg "_law_is_within" sWithin ["thing", "least", "most"] fW dW
  fO : Addr
  dO : FuncData
  DO : Df K mg "_law_odd" sOdd ["hand"] fO dO
  fR : Addr
  dR : FuncData
  DR : Df K mg "_law_ties" sTies ["hand", "many"] fR dR
  fS : Addr
  dS : FuncData
  DS : Df K mg "_law_is_small" sLSm ["thing"] fS dS
  fL : Addr
  dL : FuncData
  DL : Df K mg "_law_leaf" sLeaf ["hand", "words", "cells"] fL dL
  fX : Addr
  dX : FuncData
  DX : Df K mg "_law_expression" sExpr ["hand", "words", "cells", "deep"] fX dX
  fV : Addr
  dV : FuncData
  DV : Df K mg "_law_words" sWords ["which"] fV dV
  fPP : Addr
  dPP : FuncData
  DPP : Df K mg "_law_program_parts" sPP ["hand"] fPP dPP
  fPO : Addr
  dPO : FuncData
  DPO : Df K mg "_law_program_of" sPO ["parts"] fPO dPO
  fWo : Addr
  dWo : FuncData
  DWo : Df K mg "_law_word" sWord ["which", "web", "program", "house", "turn", "cells", "numbers"] fWo dWo
  fA : Addr
  dA : FuncData
  DA : Df K mg "_law_are_small" sLAS ["thing", "least", "most"] fA dA
  fD : Addr
  dD : FuncData
  DD : Df K mg "_law_due" sDue ["which", "many", "cells_many", "house", "turn", "cells", "numbers"] fD dD
section
variable {P : Program} {w : World} {K : PySem.W.Frag} {mg : Str → Option Value} {base : Heap}
theorem scLaw : FnScope ["script", "hand", "many", "web", "parts", "program", "long", "k", "which", "house", "turn", "right", "cells", "numbers"] ["script"] (defScope sLaw) := ⟨rfl, rfl, rfl, by decide +kernel, rfl, by decide +kernel, by decide +kernel⟩
theorem ok_law {f C CP CB CH CU CC CS fH fU fC fS fM fM0 fBI : Addr} {fd fdM fdM0 fdB : FuncData} (F : Fun K "law" "law" sLaw f fd) (B : Bts mg) (O : Oth K w mg) (O3 : Oth3 mg) (T : WTxt K mg C) (M : Mk K C fM) (FM : Fun K "__init__" "Web.__init__" sWeb fM fdM) (bM : Binds K fdM ["self", "many", "ties"] []) (D : WDefs K mg)
    (TP : PTxt K mg CP) (BT : BTxt K mg CB fBI fdB) (M0 : Mk K CP fM0) (FM0 : Fun K "__init__" "Program.__init__" sProg fM0 fdM0) (bM0 : Binds K fdM0 ["self", "starts", "to", "say", "nexts"] []) (DP : PDefs K mg) (R : RDefs K mg) (S : SDefs K mg) (N : KDefs K mg) (A0 : ADefs K mg) (OT : OpsT P w K mg base) (Er : Errs P K mg CH CU CC CS fH fU fC fS) (Kn : Kin K CH CU CC CS) (E1 : LDefs K mg) :
    FnOk P w K mg base CX0 21 f fd ["script"] (spLaw K) := by
  have GH : FnOk P w K mg base CX0 1 E1.fH E1.dH ["script"] (spHand K) := ok_hand E1.DH.F B
  have GT : FnOk P w K mg base CX0 1 E1.fT E1.dT ["hand", "many"] spTake := ok_take E1.DT.F B
  have GP : FnOk P w K mg base CX0 2 E1.fP E1.dP ["hand", "things"] (spPick K) := ok_pick E1.DP.F B E1.DT
  have GR : FnOk P w K mg base CX0 2 E1.fR E1.dR ["hand", "many"] (spTies K) := ok_ties E1.DR.F B E1.DT
  have GM : FnOk P w K mg base CX0 5 fM fdM ["self", "many", "ties"] (spWeb C) := ok_web FM B T D
  have GO : FnOk P w K mg base CX0 2 E1.fO E1.dO ["hand"] spOdd := ok_odd E1.DO.F B E1.DT
  have GEX : ∀ d, FnOk P w K mg base CX0 (d + 4) E1.fX E1.dX ["hand", "words", "cells", "deep"] (spExpr (d + 1)) := ok_expr E1.DX B E1.DT E1.DP E1.DL
  have GPP : FnOk P w K mg base CX0 8 E1.fPP E1.dPP ["hand"] spPP := ok_pp E1.DPP.F B E1.DT E1.DP E1.DX E1.DV (GEX 2) (GEX 3)
  have GPO : FnOk P w K mg base (L2.CX P w) 8 E1.fPO E1.dPO ["parts"] (spPO CP CB) := ok_po E1.DPO.F B O TP DP BT M0 FM0 bM0
  have GW : FnOk P w K mg base CX0 20 E1.fWo E1.dWo ["which", "web", "program", "house", "turn", "cells", "numbers"] (spWord C CP) := ok_word E1.DWo.F B O3 T TP D R S OT N A0 Er Kn
  have GD : FnOk P w K mg base CX0 5 E1.fD E1.dD ["which", "many", "cells_many", "house", "turn", "cells", "numbers"] spDue := ok_due E1.DD.F B E1.DA E1.DS E1.DW E1.DI
  refine F.ok scLaw (fun vs H Q E h => ?_) (fun cdv A outer s0 H vs Q E hr h => ?_)
  · obtain ⟨a, ns, rfl, _⟩ := h
    rfl
  · obtain ⟨a, ns, rfl, hS, hlen, k⟩ := h
    have nd := scLaw.nd
    have hr1 : Room 1 _ := hr.mono (by decide)
    have hr2 : Room 2 _ := hr.mono (by decide)
    have hr5 : Room 5 _ := hr.mono (by decide)
    have hr6 : Room 6 _ := hr.mono (by decide)
    have hr8 : Room 8 _ := hr.mono (by decide)
    refine ⟨_, pss_cons (ps_set (i := 1) nd rfl (.inl rfl) (pe_call GH hr1 rfl E1.DH.m E1.DH.k E1.DH.b .nil pass0 (pa_cons (pv 0) pa_nil)))
      (pss_cons (ps_set (i := 2) nd rfl (.inl rfl) (pe_op op_add pe_int (pe_call GT hr1 rfl E1.DT.m E1.DT.k E1.DT.b .nil pass0 (pa_cons (pv 1) (pa_cons pe_int pa_nil)))))
      (pss_cons (ps_set (i := 3) nd rfl (.inl rfl) (pe_make M GM hr6 rfl T.mgC bM .nil pass0 (pa_cons (pv 2) (pa_cons (pe_call GR hr2 rfl E1.DR.m E1.DR.k E1.DR.b .nil pass0 (pa_cons (pv 1) (pa_cons (pv 2) pa_nil))) pa_nil))))
      (pss_cons (ps_set (i := 4) nd rfl (.inl rfl) (pe_call GPP hr8 rfl E1.DPP.m E1.DPP.k E1.DPP.b .nil pass0 (pa_cons (pv 1) pa_nil)))
      (pss_cons (ps_set (i := 5) nd rfl (.inl rfl) (pe_call GPO hr8 rfl E1.DPO.m E1.DPO.k E1.DPO.b .nil passF (pa_cons (pv 4) pa_nil)))
      (pss_cons (ps_set (i := 6) nd rfl (.inl rfl) (pe_callB (r := rLen K) call_len_seq (by rfl) B.len PySem.boot_len (pa_cons (pe_ix ix_tup (pv 4) pe_int (fun _ _ => rfl)) pa_nil)))
      (pss_cons (ps_for PassesOwn.never rfl (pi_range1 rfl B.range (pa_cons pe_int pa_nil)) (pg_name (i := 7) nd rfl (.inl rfl))
        (pss_cons (ps_set (i := 8) nd rfl (.inl rfl) (pe_call GT hr1 rfl E1.DT.m E1.DT.k E1.DT.b .nil pass0 (pa_cons (pv 1) (pa_cons pe_int pa_nil))))
        (pss_cons (ps_set (i := 9) nd rfl (.inl rfl) (pe_call GP hr2 rfl E1.DP.m E1.DP.k E1.DP.b .nil pass0 (pa_cons (pv 1) (pa_cons (pe_lst (pa_cons (pe_call GT hr1 rfl E1.DT.m E1.DT.k E1.DT.b .nil pass0 (pa_cons (pv 1) (pa_cons (pv 2) pa_nil))) (pa_cons pe_int (pa_cons (pe_op op_sub (pv 2) pe_int) (pa_cons pe_int (pa_cons (pv 2) (pa_cons (pe_un un_neg pe_int) (pa_cons pe_bl
            (pa_cons (pe_call GO hr2 rfl E1.DO.m E1.DO.k E1.DO.b .nil pass0 (pa_cons (pv 1) pa_nil)) pa_nil))))))))) pa_nil))))
        (pss_cons (ps_set (i := 10) nd rfl (.inl rfl) (pe_call GP hr2 rfl E1.DP.m E1.DP.k E1.DP.b .nil pass0 (pa_cons (pv 1) (pa_cons (pe_lst (pa_cons pe_int (pa_cons pe_int (pa_cons pe_int (pa_cons pe_int (pa_cons pe_int (pa_cons pe_int (pa_cons pe_int (pa_cons (pe_un un_neg pe_int) (pa_cons pe_bl (pa_cons pe_non pa_nil))))))))))) pa_nil))))
        (pss_cons (ps_set (i := 11) nd rfl (.inl rfl) (pe_op QT.op_repA (pe_tup (pa_cons pe_int pa_nil)) (pv 6)))
        (pss_cons (ps_set (i := 12) nd rfl (.inl rfl) (pe_call GP hr2 rfl E1.DP.m E1.DP.k E1.DP.b .nil pass0 (pa_cons (pv 1) (pa_cons (pe_lst (pa_cons (pv 11) (pa_cons (pv 11) (pa_cons (pv 11) (pa_cons (pe_slice sl_C (pv 11) (po_some pe_int) po_none) (pa_cons (pe_op op_catS (pv 11) (pe_tup (pa_cons pe_int pa_nil)))
            (pa_cons (pe_callTy call_list_of (by rfl) B.list PyProof.Rows.boot_list (pa_cons (pv 11) pa_nil)) (pa_cons (pe_op op_catS (pe_slice sl_C (pv 11) (po_some pe_int) po_none) (pe_tup (pa_cons pe_int pa_nil))) (pa_cons (pe_op op_catS (pe_slice sl_C (pv 11) (po_some pe_int) po_none) (pe_tup (pa_cons pe_bl pa_nil)))
            (pa_cons (pe_call GO hr2 rfl E1.DO.m E1.DO.k E1.DO.b .nil pass0 (pa_cons (pv 1) pa_nil)) pa_nil)))))))))) pa_nil))))
        (pss_cons (ps_set (i := 13) nd rfl (.inl rfl) (pe_call GP hr2 rfl E1.DP.m E1.DP.k E1.DP.b .nil pass0 (pa_cons (pv 1) (pa_cons (pe_lst (pa_cons (pe_tup pa_nil) (pa_cons (pe_tup (pa_cons pe_int pa_nil)) (pa_cons (pe_op QT.op_repA (pe_tup (pa_cons pe_int pa_nil)) pe_int) (pa_cons (pe_op QT.op_repA (pe_tup (pa_cons pe_int pa_nil)) pe_int) (pa_cons (pe_lst (pa_cons pe_int pa_nil))
            (pa_cons (pe_tup (pa_cons pe_int pa_nil)) (pa_cons (pe_tup (pa_cons (pe_un un_neg pe_int) pa_nil)) (pa_cons (pe_tup (pa_cons pe_bl pa_nil)) (pa_cons (pe_tup (pa_cons pe_non pa_nil))
            (pa_cons (pe_call GO hr2 rfl E1.DO.m E1.DO.k E1.DO.b .nil pass0 (pa_cons (pv 1) pa_nil)) pa_nil))))))))))) pa_nil))))
        (pss_one (ps_if (pt_cmpR op_ne (pe_call GW hr rfl E1.DWo.m E1.DWo.k E1.DWo.b .nil pass0 (pa_cons (pv 8) (pa_cons (pv 3) (pa_cons (pv 5) (pa_cons (pv 9) (pa_cons (pv 10) (pa_cons (pv 12) (pa_cons (pv 13) pa_nil))))))))
            (pe_call GD hr5 rfl E1.DD.m E1.DD.k E1.DD.b .nil pass0 (pa_cons (pv 8) (pa_cons (pv 2) (pa_cons (pv 6) (pa_cons (pv 9) (pa_cons (pv 10) (pa_cons (pv 12) (pa_cons (pv 13) pa_nil)))))))) (nomark _)) pss_never pss_nil)))))))))
      (pss_one (ps_ret pe_bl)))))))), ?_⟩
    refine ⟨_, rfl, a, ns, rfl, hS, hlen, fun p l H1 g1 hp0 hl0 s1 => ?_⟩
    refine ⟨_, rfl, p, l, 6, rfl, g1, by decide, by decide, fun d H3 d0 d1 g3 b3 => ?_⟩
    refine ⟨_, _, rfl, rfl, ?_⟩
    obtain ⟨Mm, em, m1, m40⟩ : ∃ Mm : Nat, 1 + d = (Mm : Int) ∧ 1 ≤ Mm ∧ Mm ≤ 6 := ⟨(1 + d).toNat, by omega, by omega, by omega⟩
    have ev : (fun i j : Int => V.int (i + j)) 1 d = V.int (Mm : Int) := by rw [← em]
    show gName 2 ((fun i j : Int => V.int (i + j)) 1 d) _ _ _
    rw [ev]
    refine ⟨_, rfl, _, rfl, _, rfl, p, l, Mm, rfl, g3, by omega, by omega, fun q L H4 tt g4 x4 => ?_⟩
    intro x dx nx ndx nex
    have sx : Same H4 (L2.upd (L2.upd H4 dx (.own x)) x (.ins C dx [])) := sNew (sNew (fun _ _ e => e) ndx) nx
    refine ⟨x, dx, Mm, q, L, rfl, upd_same, tt.same sx, by omega, by omega, fun r0 bs0 nb H5 wi x5 => ⟨rfl, ?_⟩⟩
    have s45 : Same H4 H5 := fun b o e => x5 b o (sx b o e) (ne_of_none e nx)
    have TT : TL (Mm : Int) L := ⟨tt.ok, tt.conn, by omega, by omega⟩
    have g5 := g4.same s45
    refine ⟨_, rfl, p, l, rfl, g5, fun z s t y n H6 g6 x6 ez6 pre6 fine6 => ?_⟩
    refine ⟨_, rfl, z, s, t, y, n, rfl, ez6, pre6, fun r' d' H' bp => (fine6.not_bad bp).elim, fun _ xp dxp H7 ex7 s7 => ?_⟩
    have g7 := g6.same s7
    have wi7 := (wi.ext g5 x6).same s7
    have eMm : ((Mm : Int)).toNat = Mm := Int.toNat_natCast Mm
    have hinn : ∀ h, h < Mm → ∀ o ∈ nb h, 0 ≤ o ∧ o < (Mm : Int) := fun h hh o ho => TT.in2 ((wi.nb h (by rw [eMm]; exact hh) o).mp ho)
    have NB : NbOk Mm nb := ⟨m1, by omega, fun h hh => wi.asc h (by rw [eMm]; exact hh), fun h hh => Nat.le_trans (asc_len (wi.asc h (by rw [eMm]; exact hh)) (hinn h hh)) (by omega), hinn⟩
    have l1 : 1 ≤ (match s with | .ref qs => (match H7 qs with | some (.tup xs) => xs.length | _ => 0) | _ => 0) := by
      obtain ⟨q1, xs, _, _, st, _⟩ := (fine6.same pre6 s7).ex
      rw [st.es]
      show 1 ≤ (match H7 q1 with | some (.tup xs) => xs.length | _ => 0)
      rw [st.hq]
      exact st.l1
    obtain ⟨qs, xs, qn, us, rfl, hqs, lx, rfl, hqn, lu, trees⟩ := trees_of (fine6.same pre6 s7)
    have lx1 : 1 ≤ xs.length := by
      have z : 1 ≤ (match H7 qs with | some (.tup xs) => xs.length | _ => 0) := l1
      rw [hqs] at z
      exact z
    clear l1
    have pg7 : Pg C CP H7 x Mm nb xp qs qn xs t y us := ⟨⟨NB, fun h hh => ⟨⟨dx, q, r0, L, bs0, wi7⟩, ⟨dxp, ex7⟩, by rw [eMm]; exact hh, by omega, NB.len h hh, NB.inn h hh⟩⟩, hqs, lx, hqn, lu, trees⟩
    have ez7 := s7 _ _ ez6
    refine ⟨_, rfl, z, _, 0, _, rfl, rfl, SqT.of ez7, at0 _ _, qs, xs, rfl, .inr (SqT.of hqs), ?_⟩
    clear pre6 fine6 ez6 wi wi7 tt
    refine ⟨12, rfl, by decide, by decide, for_range (lo := 0) (n := 12) (fun i σ H' => ∃ (y7 y8 y9 y10 y11 y12 y13 : Option V), σ = [some (.ref a), some (.ref p), some (.int (Mm : Int)), some (.ref x), some (.ref z), some (.ref xp), some (.int (xs.length : Int)), y7, y8, y9, y10, y11, y12, y13] ∧ HandAt H' p l ∧ Pg C CP H' x Mm nb xp qs qn xs t y us) ?_ ?_ ?_⟩
    · exact ⟨none, none, none, none, none, none, none, rfl, g7, pg7⟩
    · rintro i σ H8 hi ⟨y7, y8, y9, y10, y11, y12, y13, rfl, g8, pg8⟩
      -- which
      refine ⟨_, rfl, p, l, 5, rfl, g8, by decide, by decide, fun wh H9 wh0 wh5 g9 b9 => ?_⟩
      have pg9 := pg8.ext g8 g9 (Ext.rfl'.but b9)
      -- house
      refine ⟨_, rfl, _, rfl, _, rfl, p, l, Mm, rfl, g9, by omega, by omega, fun e H10 e0 e1 g10 b10 => ?_⟩
      have pg10 := pg9.ext g9 g10 (Ext.rfl'.but b10)
      refine ⟨_, rfl, _, _, rfl, rfl, _, rfl, _, rfl, _, rfl, p, l, rfl, g10, fun ov H11 ow g11 x11 => ?_⟩
      have pg11 := pg10.ext g10 g11 x11
      refine ⟨(by show 8 ≤ sizeLine; decide), fun m1' hm1 => ?_⟩
      have s12 := sN (o := .lst [.int e, .int 0, .int ((Mm : Int) - 1), .int 0, .int (Mm : Int), .int (-1), .bl true, ov]) hm1
      refine ⟨p, l, m1', _, rfl, g11.new hm1, upd_same, (g11.ne hm1).1, (by show 0 < 8; decide), (by show 8 < 1000; decide), fun hv H13 hhv g13 b13 => ?_⟩
      have w12 : Wh (L2.upd H11 m1' (.lst [.int e, .int 0, .int ((Mm : Int) - 1), .int 0, .int (Mm : Int), .int (-1), .bl true, ov])) hv := by
        simp only [List.mem_cons, List.not_mem_nil, or_false] at hhv
        rcases hhv with rfl | rfl | rfl | rfl | rfl | rfl | rfl | rfl
        · exact .int _
        · exact .int _
        · exact .int _
        · exact .int _
        · exact .int _
        · exact .int _
        · exact .bl _
        · exact ow.same s12
      have wv13 := w12.ext (g11.new hm1) g13 (Ext.rfl'.but b13)
      have pg13 := (pg11.same s12).ext (g11.new hm1) g13 (Ext.rfl'.but b13)
      clear w12 hhv b13 s12 pg11 pg10 pg9 pg8
      -- turn
      refine ⟨_, rfl, _, rfl, (by show 10 ≤ sizeLine; decide), fun m2 hm2 => ?_⟩
      have s14 := sN (o := .lst [.int 0, .int 1, .int 39, .int 40, .int 41, .int 1000, .int 1001, .int (-1), .bl false, .non]) hm2
      refine ⟨p, l, m2, _, rfl, g13.new hm2, upd_same, (g13.ne hm2).1, (by show 0 < 10; decide), (by show 10 < 1000; decide), fun tv H15 htv g15 b15 => ?_⟩
      have w14 : Wh (L2.upd H13 m2 (.lst [.int 0, .int 1, .int 39, .int 40, .int 41, .int 1000, .int 1001, .int (-1), .bl false, .non])) tv := by
        simp only [List.mem_cons, List.not_mem_nil, or_false] at htv
        rcases htv with rfl | rfl | rfl | rfl | rfl | rfl | rfl | rfl | rfl | rfl
        · exact .int _
        · exact .int _
        · exact .int _
        · exact .int _
        · exact .int _
        · exact .int _
        · exact .int _
        · exact .int _
        · exact .bl _
        · exact .non
      have x15 : Ext p H13 H15 := (Ext.rfl'.same s14).but b15
      have wt15 := w14.ext (g13.new hm2) g15 (Ext.rfl'.but b15)
      have wv15 := wv13.ext g13 g15 x15
      have pg15 := pg13.ext g13 g15 x15
      clear w14 htv b15 s14 pg13 wv13 x15
      -- right
      refine ⟨(by show 1 ≤ sizeLine; decide), fun m3 hm3 => ?_⟩
      have s16 := sN (o := .tup [.int 5]) hm3
      refine ⟨_, rfl, m3, (xs.length : Int), [.int 5], rfl, rfl, upd_same, by simp, by omega, by omega, by decide, fun rt H17 s17' ert => ?_⟩
      have s17 : Same H15 H17 := sT s16 s17'
      have mf := fun v => rep_mem (x := V.int 5) (v := v) (k := (xs.length : Int).toNat)
      have lf := rep_len (V.int 5) (xs.length : Int).toNat
      revert ert mf lf
      generalize (List.replicate (xs.length : Int).toNat [V.int 5]).flatten = fl
      intro ert mf lf
      have lf4 : fl.length ≤ 4 := by omega
      clear s17' s16
      have g17 := g15.same s17
      have wv17 := wv15.same s17
      have wt17 := wt15.same s17
      have pg17 := pg15.same s17
      have rs : ∀ H' : Hp, Same H' H' := fun _ _ _ e => e
      -- cells
      refine ⟨_, rfl, _, rfl, _, rfl, _, rfl, _, rfl, _, rfl, rt, fl, rfl, ert, fun z4 H18 s18 ez4 => ?_⟩
      refine ⟨_, rfl, (by show 1 ≤ sizeLine; decide), fun m5 hm5 => ?_⟩
      have s19 := sT s18 (sN (o := .tup [.int 0]) hm5)
      refine ⟨rt, m5, fl, [.int 0], rfl, rfl, s19 _ _ ert, upd_same, Nat.le_trans (show fl.length + 1 ≤ 5 by omega) (by decide), fun z5 H20 s20' ez5 => ?_⟩
      have s20 := sT s19 s20'
      refine ⟨_, rfl, rt, _, rfl, .inr (SqT.of (s20 _ _ ert)), fun z6 hz6 => ?_⟩
      have s21 := sT s20 (sN (o := .lst fl) hz6)
      refine ⟨_, rfl, _, rfl, rt, fl, rfl, s21 _ _ ert, fun z7 H22 s22' ez7' => ?_⟩
      have s22 := sT s21 s22'
      refine ⟨(by show 1 ≤ sizeLine; decide), fun m8 hm8 => ?_⟩
      have s23 := sT s22 (sN (o := .tup [.int 2147483648]) hm8)
      have c1 := cut_len fl (some 1) none
      refine ⟨z7, m8, _, [.int 2147483648], rfl, rfl, sN hm8 _ _ ez7', upd_same, Nat.le_trans (show (cutV fl (some 1) none).length + 1 ≤ 5 by omega) (by decide), fun z9 H24 s24' ez9 => ?_⟩
      have s24 := sT s23 s24'
      refine ⟨_, rfl, _, rfl, rt, fl, rfl, s24 _ _ ert, fun z10 H25 s25' ez10 => ?_⟩
      have s25 := sT s24 s25'
      refine ⟨(by show 1 ≤ sizeLine; decide), fun m11 hm11 => ?_⟩
      have s26 := sT s25 (sN (o := .tup [.bl true]) hm11)
      refine ⟨z10, m11, _, [.bl true], rfl, rfl, sN hm11 _ _ ez10, upd_same, Nat.le_trans (show (cutV fl (some 1) none).length + 1 ≤ 5 by omega) (by decide), fun z12 H27 s27' ez12 => ?_⟩
      have s27 := sT s26 s27'
      have wf : ∀ H' : Hp, ∀ v ∈ fl, Wh H' v := fun H' v hv => by rw [mf v hv]; exact .int 5
      have wc : ∀ H' : Hp, ∀ v ∈ cutV fl (some 1) none, Wh H' v := fun H' v hv => wf H' v (cut_mem hv)
      have k1 : Wh H27 (.ref rt) := .tup (s27 _ _ ert) (by omega) (wf _)
      have k2 : Wh H27 (.ref z4) := .tup (sT (sT (sN hm5) (sT s20' (sT (sN hz6) (sT s22' (sT (sN hm8) (sT s24' (sT s25' (sN hm11)))))))) s27' _ _ ez4) (by omega) (wc _)
      have k3 : Wh H27 (.ref z5) := .tup (sT (sT (sN hz6) (sT s22' (sT (sN hm8) (sT s24' (sT s25' (sN hm11)))))) s27' _ _ ez5) (by rw [List.length_append]; show fl.length + 1 ≤ 200; omega) (wh_app (wf _) (wh_cons (.int 0) wh_nil))
      have k4 : Wh H27 (.ref z6) := .lst (sT (sT s22' (sT (sN hm8) (sT s24' (sT s25' (sN hm11))))) s27' _ _ upd_same)
      have k5 : Wh H27 (.ref z9) := .tup (sT (sT s25' (sN hm11)) s27' _ _ ez9) (by rw [List.length_append]; show _ + 1 ≤ 200; omega) (wh_app (wc _) (wh_cons (.int _) wh_nil))
      have k6 : Wh H27 (.ref z12) := .tup ez12 (by rw [List.length_append]; show _ + 1 ≤ 200; omega) (wh_app (wc _) (wh_cons (.bl _) wh_nil))
      clear s18 s19 s20 s20' s21 s22 s22' s23 s24 s24' s25 s25' s26 s27' ez4 ez5 ez7' ez9 ez10 ez12
      have g27 := g17.same s27
      refine ⟨_, rfl, p, l, rfl, g27, fun ov2 H28 ow2 g28 x28 => ?_⟩
      refine ⟨(by show 9 ≤ sizeLine; decide), fun m4 hm4 => ?_⟩
      have s29 := sN (o := .lst [.ref rt, .ref rt, .ref rt, .ref z4, .ref z5, .ref z6, .ref z9, .ref z12, ov2]) hm4
      refine ⟨p, l, m4, _, rfl, g28.new hm4, upd_same, (g28.ne hm4).1, (by show 0 < 9; decide), (by show 9 < 1000; decide), fun cv H30 hcv g30 b30 => ?_⟩
      have x30 : Ext p H28 H30 := (Ext.rfl'.same s29).but b30
      have wc30 : Wh H30 cv := by
        have z : Wh H28 cv := by
          simp only [List.mem_cons, List.not_mem_nil, or_false] at hcv
          rcases hcv with rfl | rfl | rfl | rfl | rfl | rfl | rfl | rfl | rfl
          · exact k1.ext g27 g28 x28
          · exact k1.ext g27 g28 x28
          · exact k1.ext g27 g28 x28
          · exact k2.ext g27 g28 x28
          · exact k3.ext g27 g28 x28
          · exact k4.ext g27 g28 x28
          · exact k5.ext g27 g28 x28
          · exact k6.ext g27 g28 x28
          · exact ow2
        exact z.ext g28 g30 x30
      have x2730 : Ext p H27 H30 := x28.trans x30
      have wv30 := (wv17.same s27).ext g27 g30 x2730
      have wt30 := (wt17.same s27).ext g27 g30 x2730
      have pg30 := (pg17.same s27).ext g27 g30 x2730
      clear k1 k2 k3 k4 k5 k6 hcv x2730 x30 x28 b30 s29 s27 pg15 pg17 wv15 wv17 wt15 wt17
      -- numbers
      refine ⟨_, rfl, Nat.zero_le _, fun a1 n1 => ?_⟩
      refine ⟨(by show 1 ≤ sizeLine; decide), fun a2 n2 => ?_⟩
      refine ⟨(by show 1 ≤ sizeLine; decide), fun a3 n3 => ?_⟩
      have t3 := sT (sN (o := .tup []) n1) (sT (sN (o := .tup [.int 1]) n2) (sN (o := .tup [.int 0]) n3))
      refine ⟨a3, 39, [.int 0], rfl, rfl, upd_same, by simp, by decide, by decide, by decide, fun a4 H31 t31 ea4 => ?_⟩
      refine ⟨(by show 1 ≤ sizeLine; decide), fun a5 n5 => ?_⟩
      refine ⟨a5, 40, [.int 0], rfl, rfl, upd_same, by simp, by decide, by decide, by decide, fun a6 H32 t32 ea6 => ?_⟩
      refine ⟨(by show 1 ≤ sizeLine; decide), fun a7 n7 => ?_⟩
      refine ⟨(by show 1 ≤ sizeLine; decide), fun a8 n8 => ?_⟩
      refine ⟨_, rfl, (by show 1 ≤ sizeLine; decide), fun a9 n9 => ?_⟩
      refine ⟨(by show 1 ≤ sizeLine; decide), fun a10 n10 => ?_⟩
      refine ⟨(by show 1 ≤ sizeLine; decide), fun a11 n11 => ?_⟩
      have u11 := sN (o := .tup [.non]) n11
      have u10 := sT (sN (o := .tup [.bl true]) n10) u11
      have u9 := sT (sN (o := .tup [.int (-2147483648)]) n9) u10
      have u8 := sT (sN (o := .tup [.int 2147483648]) n8) u9
      have u7 := sT (sN (o := .lst [.int 1]) n7) u8
      have u6 := sT (sT (sN (o := .tup [.int 0]) n5) (show Same _ _ from t32)) u7
      have u4 := sT (show Same _ _ from t31) u6
      have u3 := sT (sN (o := .tup [.int 0]) n3) u4
      have u2 := sT (sN (o := .tup [.int 1]) n2) u3
      have u1 := sT (sN (o := .tup []) n1) u2
      have q1 := u2 _ _ (upd_same (H := H30) (a := a1) (o := .tup []))
      have q2 := u3 _ _ upd_same
      have q4 := u6 _ _ ea4
      have q6 := u7 _ _ ea6
      have q7 := u8 _ _ upd_same
      have q8 := u9 _ _ upd_same
      have q9 := u10 _ _ upd_same
      have q10 := u11 _ _ upd_same
      have q11 := upd_same (H := L2.upd (L2.upd (L2.upd (L2.upd H32 a7 (.lst [.int 1])) a8 (.tup [.int 2147483648])) a9 (.tup [.int (-2147483648)])) a10 (.tup [.bl true])) (a := a11) (o := .tup [.non])
      revert u1 q1 q2 q4 q6 q7 q8 q9 q10 q11
      generalize (L2.upd (L2.upd (L2.upd (L2.upd (L2.upd H32 a7 (.lst [.int 1])) a8 (.tup [.int 2147483648])) a9 (.tup [.int (-2147483648)])) a10 (.tup [.bl true])) a11 (.tup [.non])) = H40
      intro u1 q1 q2 q4 q6 q7 q8 q9 q10 q11
      have g40 := g30.same u1
      refine ⟨_, rfl, p, l, rfl, g40, fun ov3 H41 ow3 g41 x41 => ?_⟩
      refine ⟨(by show 10 ≤ sizeLine; decide), fun m5' hm5' => ?_⟩
      have s42 := sN (o := .lst [.ref a1, .ref a2, .ref a4, .ref a6, .ref a7, .ref a8, .ref a9, .ref a10, .ref a11, ov3]) hm5'
      refine ⟨p, l, m5', _, rfl, g41.new hm5', upd_same, (g41.ne hm5').1, (by show 0 < 10; decide), (by show 10 < 1000; decide), fun nv H43 hnv g43 b43 => ?_⟩
      have x43 : Ext p H41 H43 := (Ext.rfl'.same s42).but b43
      have z39 : ∀ H' : Hp, ∀ k : Nat, ∀ v ∈ (List.replicate k [V.int 0]).flatten, Wh H' v := fun H' k v hv => by rw [rep_mem hv]; exact .int 0
      have wn43 : Wh H43 nv := by
        have z : Wh H41 nv := by
          simp only [List.mem_cons, List.not_mem_nil, or_false] at hnv
          rcases hnv with rfl | rfl | rfl | rfl | rfl | rfl | rfl | rfl | rfl | rfl
          · exact (Wh.tup q1 (by decide) wh_nil).ext g40 g41 x41
          · exact (Wh.tup q2 (by show 1 ≤ 200; decide) (wh_cons (.int 1) wh_nil)).ext g40 g41 x41
          · exact (Wh.tup q4 (by rw [rep_len]; decide) (z39 _ _)).ext g40 g41 x41
          · exact (Wh.tup q6 (by rw [rep_len]; decide) (z39 _ _)).ext g40 g41 x41
          · exact (Wh.lst q7).ext g40 g41 x41
          · exact (Wh.tup q8 (by show 1 ≤ 200; decide) (wh_cons (.int _) wh_nil)).ext g40 g41 x41
          · exact (Wh.tup q9 (by show 1 ≤ 200; decide) (wh_cons (.int _) wh_nil)).ext g40 g41 x41
          · exact (Wh.tup q10 (by show 1 ≤ 200; decide) (wh_cons (.bl _) wh_nil)).ext g40 g41 x41
          · exact (Wh.tup q11 (by show 1 ≤ 200; decide) (wh_cons .non wh_nil)).ext g40 g41 x41
          · exact ow3
        exact z.ext g41 g43 x43
      have x3043 : Ext p H30 H43 := ((Ext.rfl'.same u1).trans x41).trans x43
      have wv := wv30.ext g30 g43 x3043
      have wt := wt30.ext g30 g43 x3043
      have wcv := wc30.ext g30 g43 x3043
      have pg43 := pg30.ext g30 g43 x3043
      obtain ⟨bc, hbc⟩ := bool_of (IsC H43 xs.length cv)
      obtain ⟨bn, hbn⟩ := bool_of (IsN H43 nv)
      refine ⟨_, rfl, _, rfl, _, rfl, _, rfl, _, rfl, _, rfl, _, rfl, wh, x, Mm, nb, xp, qs, qn, xs, t, y, us, hv, tv, cv, nv, bc, bn, rfl, wh0, wh5, pg43, wv.kd, wt.kd, wcv.kd1, wn43.kd1, hbc, hbn, fun H44 s44 => ?_⟩
      refine ⟨_, rfl, _, rfl, _, rfl, _, rfl, _, rfl, _, rfl, _, rfl, wh, Mm, xs.length, hv, tv, cv, nv, bc, bn, rfl, (wv.same s44).kd, (wt.same s44).kd, (wcv.same s44).kd1, (wn43.same s44).kd1, hbc.trans (IsC.iff wcv.kd s44), hbn.trans (IsN.iff wn43.kd s44), fun H45 s45' => ?_⟩
      refine ⟨rfl, _, rfl, ?_⟩
      rw [decide_eq_true rfl]
      have s4345 := sT s44 s45'
      exact iteF ⟨_, _, _, _, _, _, _, rfl, g43.same s4345, pg43.same s4345⟩
    · rintro σ H8 ⟨y7, y8, y9, y10, y11, y12, y13, rfl, g8, pg8⟩
      exact k _
end
end Q

namespace Q
open PySem L2 QM QS
theorem exm_me {K : PySem.W.Frag} {S : Addr} (h1 : PySem.W.subIn K (.ref S) (.type "BaseException") = some true) (h2 : PySem.W.isClsIn K S = true) (h3 : PySem.W.typeIn K (.ref S) = some (.type "type")) (h4 : PySem.W.subIn K (.ref S) (.ref S) = some true) : PySem.W.exmOne K (.ref S) (.ref S) = some true := by
  have u1 : (PySem.W.subIn K (.ref S) (.type "BaseException") == some true) = true := by rw [h1] <;> rfl
  have u2 : ((PySem.W.clsIn K S).isSome && PySem.W.typeIn K (.ref S) == some (.type "type")) = true := by
    have z : (PySem.W.clsIn K S).isSome = true := h2
    rw [z, h3] <;> rfl
  show (if (PySem.W.subIn K (.ref S) (.type "BaseException") == some true) = true then (if ((PySem.W.clsIn K S).isSome && PySem.W.typeIn K (.ref S) == some (.type "type")) = true then PySem.W.subIn K (.ref S) (.ref S) else none) else none) = some true
  rw [if_pos u1, if_pos u2, h4]
theorem exm_ot {K : PySem.W.Frag} {A S : Addr} {b : Bool} (h1 : PySem.W.subIn K (.ref S) (.type "BaseException") = some true) (h2 : PySem.W.isClsIn K S = true) (h3 : PySem.W.typeIn K (.ref S) = some (.type "type")) (h4 : PySem.W.subIn K (.ref A) (.ref S) = some b) : PySem.W.exmOne K (.ref A) (.ref S) = some b := by
  have u1 : (PySem.W.subIn K (.ref S) (.type "BaseException") == some true) = true := by rw [h1] <;> rfl
  have u2 : ((PySem.W.clsIn K S).isSome && PySem.W.typeIn K (.ref S) == some (.type "type")) = true := by
    have z : (PySem.W.clsIn K S).isSome = true := h2
    rw [z, h3] <;> rfl
  show (if (PySem.W.subIn K (.ref S) (.type "BaseException") == some true) = true then (if ((PySem.W.clsIn K S).isSome && PySem.W.typeIn K (.ref S) == some (.type "type")) = true then PySem.W.subIn K (.ref A) (.ref S) else none) else none) = some b
  rw [if_pos u1, if_pos u2, h4]
theorem all_mk {l : PySem.W.OpenLaw} {w : World} {K : PySem.W.Frag} {h : Heap} {mg : Str → Option Value} {fa : Addr} (X : K.In h) (G : h.Ns mainGlobals mg) (hfa : mg "law" = some (.ref fa))
    {C fM : Addr} {tmW : Tok} {odM anM : Option Addr} {slM : Array (Option Value)} {ocM kVM dcM pmM cdM ctM : Value}
    {CP fM0 : Addr} {tm tm1 tm2 : Tok} {aS aT aN dP : Addr} {ddS ddT ddN : Option Addr} {itS itT itN : Array Value} {nuS nuT nuN nuP : Nat} {slS slT slN : Array (Option Value)} {esP : Array DictEntry} {tx : Tok} {tz0 : Tok} {tz1 : Tok} {tz2 : Tok} {tz3 : Tok} {tz4 : Tok} {tz5 : Tok} {tz6 : Tok} {tz7 : Tok} {tz8 : Tok} {ty0 : Tok} {ty1 : Tok} {ty2 : Tok} {ty3 : Tok} {ty4 : Tok} {ty5 : Tok} {ty6 : Tok} {ty7 : Tok} {ty8 : Tok} {ty9 : Tok}
    {CB fB : Addr} {nmB qB : Str} {NB : Addr} {bsB bmB : List Value} {snB : List Str} {subB : List Value} {abB : Bool} {colB : Option Bool} {ddB : Option Addr} {k0B k1B k2B k3B k5B : Option Value} {ocB : Value} {odB anB : Option Addr} {slB : Array (Option Value)} {kVB dcB pmB cdB ctB : Value} {odM0 anM0 : Option Addr} {slM0 : Array (Option Value)} {ocM0 kVM0 dcM0 pmM0 cdM0 ctM0 : Value}
    {dO : Addr} {esO : Array DictEntry} {nuO : Nat}
    {tc_MOST_ROUND : Tok}
    {tc_MOST_ROUNDS : Tok}
    {tc_MOST_SAID : Tok}
    {Ceh feh cdaeh cceh : Addr} {nmeh qeh : Str} {Neh : Addr} {bseh bmeh : List Value} {sneh : List Str} {subeh : List Value} {abeh : Bool} {coleh : Option Bool} {ddeh : Option Addr} {k0eh k1eh k2eh k3eh k5eh : Option Value} {oceh : Value} {odeh : Option Addr} {doceh pmeh : Value} {aneh : Option Addr} {cteh : Value} {osleh : Array (Option Value)} {peh q1eh q2eh q3eh q4eh q5eh : Pos} {ccleh cleh : Value} {cddeh cldeh : Option Addr} {ccseh csleh : Array (Option Value)} {vseh : Array Value} {fileeh : Str} {tfeh : Tok}
    {Ceu feu cdaeu cceu : Addr} {nmeu qeu : Str} {Neu : Addr} {bseu bmeu : List Value} {sneu : List Str} {subeu : List Value} {abeu : Bool} {coleu : Option Bool} {ddeu : Option Addr} {k0eu k1eu k2eu k3eu k5eu : Option Value} {oceu : Value} {odeu : Option Addr} {doceu pmeu : Value} {aneu : Option Addr} {cteu : Value} {osleu : Array (Option Value)} {peu q1eu q2eu q3eu q4eu q5eu : Pos} {ccleu cleu : Value} {cddeu cldeu : Option Addr} {ccseu csleu : Array (Option Value)} {vseu : Array Value} {fileeu : Str} {tfeu : Tok}
    {Cec fec cdaec ccec : Addr} {nmec qec : Str} {Nec : Addr} {bsec bmec : List Value} {snec : List Str} {subec : List Value} {abec : Bool} {colec : Option Bool} {ddec : Option Addr} {k0ec k1ec k2ec k3ec k5ec : Option Value} {ocec : Value} {odec : Option Addr} {docec pmec : Value} {anec : Option Addr} {ctec : Value} {oslec : Array (Option Value)} {pec q1ec q2ec q3ec q4ec q5ec : Pos} {cclec clec : Value} {cddec cldec : Option Addr} {ccsec cslec : Array (Option Value)} {vsec : Array Value} {fileec : Str} {tfec : Tok}
    {Ces fes cdaes cces : Addr} {nmes qes : Str} {Nes : Addr} {bses bmes : List Value} {snes : List Str} {subes : List Value} {abes : Bool} {coles : Option Bool} {ddes : Option Addr} {k0es k1es k2es k3es k5es : Option Value} {oces : Value} {odes : Option Addr} {doces pmes : Value} {anes : Option Addr} {ctes : Value} {osles : Array (Option Value)} {pes q1es q2es q3es q4es q5es : Pos} {ccles cles : Value} {cddes cldes : Option Addr} {ccses csles : Array (Option Value)} {vses : Array Value} {filees : Str} {tfes : Tok}
    {f0 : Addr} {od0 an0 : Option Addr} {sl0 : Array (Option Value)} {oc0 kV0 dc0 pm0 cd0 ct0 : Value}
    {f1 : Addr} {od1 an1 : Option Addr} {sl1 : Array (Option Value)} {oc1 kV1 dc1 pm1 cd1 ct1 : Value}
    {f2 : Addr} {od2 an2 : Option Addr} {sl2 : Array (Option Value)} {oc2 kV2 dc2 pm2 cd2 ct2 : Value}
    {f3 : Addr} {od3 an3 : Option Addr} {sl3 : Array (Option Value)} {oc3 kV3 dc3 pm3 cd3 ct3 : Value}
    {f4 : Addr} {od4 an4 : Option Addr} {sl4 : Array (Option Value)} {oc4 kV4 dc4 pm4 cd4 ct4 : Value}
    {f5 : Addr} {od5 an5 : Option Addr} {sl5 : Array (Option Value)} {oc5 kV5 dc5 pm5 cd5 ct5 : Value}
    {f6 : Addr} {od6 an6 : Option Addr} {sl6 : Array (Option Value)} {oc6 kV6 dc6 pm6 cd6 ct6 : Value}
    {f7 : Addr} {od7 an7 : Option Addr} {sl7 : Array (Option Value)} {oc7 kV7 dc7 pm7 cd7 ct7 : Value}
    {f8 : Addr} {od8 an8 : Option Addr} {sl8 : Array (Option Value)} {oc8 kV8 dc8 pm8 cd8 ct8 : Value}
    {f9 : Addr} {od9 an9 : Option Addr} {sl9 : Array (Option Value)} {oc9 kV9 dc9 pm9 cd9 ct9 : Value}
    {f10 : Addr} {od10 an10 : Option Addr} {sl10 : Array (Option Value)} {oc10 kV10 dc10 pm10 cd10 ct10 : Value}
    {f11 : Addr} {od11 an11 : Option Addr} {sl11 : Array (Option Value)} {oc11 kV11 dc11 pm11 cd11 ct11 : Value}
    {f12 : Addr} {od12 an12 : Option Addr} {sl12 : Array (Option Value)} {oc12 kV12 dc12 pm12 cd12 ct12 : Value}
    {f13 : Addr} {od13 an13 : Option Addr} {sl13 : Array (Option Value)} {oc13 kV13 dc13 pm13 cd13 ct13 : Value}
    {f14 : Addr} {od14 an14 : Option Addr} {sl14 : Array (Option Value)} {oc14 kV14 dc14 pm14 cd14 ct14 : Value}
    {f15 : Addr} {od15 an15 : Option Addr} {sl15 : Array (Option Value)} {oc15 kV15 dc15 pm15 cd15 ct15 : Value}
    {f16 : Addr} {od16 an16 : Option Addr} {sl16 : Array (Option Value)} {oc16 kV16 dc16 pm16 cd16 ct16 : Value}
    {f17 : Addr} {od17 an17 : Option Addr} {sl17 : Array (Option Value)} {oc17 kV17 dc17 pm17 cd17 ct17 : Value}
    {f18 : Addr} {od18 an18 : Option Addr} {sl18 : Array (Option Value)} {oc18 kV18 dc18 pm18 cd18 ct18 : Value}
    {f19 : Addr} {od19 an19 : Option Addr} {sl19 : Array (Option Value)} {oc19 kV19 dc19 pm19 cd19 ct19 : Value}
    {f20 : Addr} {od20 an20 : Option Addr} {sl20 : Array (Option Value)} {oc20 kV20 dc20 pm20 cd20 ct20 : Value}
    {f21 : Addr} {od21 an21 : Option Addr} {sl21 : Array (Option Value)} {oc21 kV21 dc21 pm21 cd21 ct21 : Value}
    {f22 : Addr} {od22 an22 : Option Addr} {sl22 : Array (Option Value)} {oc22 kV22 dc22 pm22 cd22 ct22 : Value}
    {f23 : Addr} {od23 an23 : Option Addr} {sl23 : Array (Option Value)} {oc23 kV23 dc23 pm23 cd23 ct23 : Value}
    {f24 : Addr} {od24 an24 : Option Addr} {sl24 : Array (Option Value)} {oc24 kV24 dc24 pm24 cd24 ct24 : Value}
    {f25 : Addr} {od25 an25 : Option Addr} {sl25 : Array (Option Value)} {oc25 kV25 dc25 pm25 cd25 ct25 : Value}
    {f26 : Addr} {od26 an26 : Option Addr} {sl26 : Array (Option Value)} {oc26 kV26 dc26 pm26 cd26 ct26 : Value}
    {f27 : Addr} {od27 an27 : Option Addr} {sl27 : Array (Option Value)} {oc27 kV27 dc27 pm27 cd27 ct27 : Value}
    {f28 : Addr} {od28 an28 : Option Addr} {sl28 : Array (Option Value)} {oc28 kV28 dc28 pm28 cd28 ct28 : Value}
    {f29 : Addr} {od29 an29 : Option Addr} {sl29 : Array (Option Value)} {oc29 kV29 dc29 pm29 cd29 ct29 : Value}
    {f30 : Addr} {od30 an30 : Option Addr} {sl30 : Array (Option Value)} {oc30 kV30 dc30 pm30 cd30 ct30 : Value}
    {f31 : Addr} {od31 an31 : Option Addr} {sl31 : Array (Option Value)} {oc31 kV31 dc31 pm31 cd31 ct31 : Value}
    {f32 : Addr} {od32 an32 : Option Addr} {sl32 : Array (Option Value)} {oc32 kV32 dc32 pm32 cd32 ct32 : Value}
    {f33 : Addr} {od33 an33 : Option Addr} {sl33 : Array (Option Value)} {oc33 kV33 dc33 pm33 cd33 ct33 : Value}
    {f34 : Addr} {od34 an34 : Option Addr} {sl34 : Array (Option Value)} {oc34 kV34 dc34 pm34 cd34 ct34 : Value}
    {f35 : Addr} {od35 an35 : Option Addr} {sl35 : Array (Option Value)} {oc35 kV35 dc35 pm35 cd35 ct35 : Value}
    {f36 : Addr} {od36 an36 : Option Addr} {sl36 : Array (Option Value)} {oc36 kV36 dc36 pm36 cd36 ct36 : Value}
    {f37 : Addr} {od37 an37 : Option Addr} {sl37 : Array (Option Value)} {oc37 kV37 dc37 pm37 cd37 ct37 : Value}
    {f38 : Addr} {od38 an38 : Option Addr} {sl38 : Array (Option Value)} {oc38 kV38 dc38 pm38 cd38 ct38 : Value}
    {f39 : Addr} {od39 an39 : Option Addr} {sl39 : Array (Option Value)} {oc39 kV39 dc39 pm39 cd39 ct39 : Value}
    {f40 : Addr} {od40 an40 : Option Addr} {sl40 : Array (Option Value)} {oc40 kV40 dc40 pm40 cd40 ct40 : Value}
    {f41 : Addr} {od41 an41 : Option Addr} {sl41 : Array (Option Value)} {oc41 kV41 dc41 pm41 cd41 ct41 : Value}
    {f42 : Addr} {od42 an42 : Option Addr} {sl42 : Array (Option Value)} {oc42 kV42 dc42 pm42 cd42 ct42 : Value}
    {f43 : Addr} {od43 an43 : Option Addr} {sl43 : Array (Option Value)} {oc43 kV43 dc43 pm43 cd43 ct43 : Value}
    {f44 : Addr} {od44 an44 : Option Addr} {sl44 : Array (Option Value)} {oc44 kV44 dc44 pm44 cd44 ct44 : Value}
    {f45 : Addr} {od45 an45 : Option Addr} {sl45 : Array (Option Value)} {oc45 kV45 dc45 pm45 cd45 ct45 : Value}
    {f46 : Addr} {od46 an46 : Option Addr} {sl46 : Array (Option Value)} {oc46 kV46 dc46 pm46 cd46 ct46 : Value}
    {f47 : Addr} {od47 an47 : Option Addr} {sl47 : Array (Option Value)} {oc47 kV47 dc47 pm47 cd47 ct47 : Value}
    {f48 : Addr} {od48 an48 : Option Addr} {sl48 : Array (Option Value)} {oc48 kV48 dc48 pm48 cd48 ct48 : Value}
    {f49 : Addr} {od49 an49 : Option Addr} {sl49 : Array (Option Value)} {oc49 kV49 dc49 pm49 cd49 ct49 : Value}
    {f50 : Addr} {od50 an50 : Option Addr} {sl50 : Array (Option Value)} {oc50 kV50 dc50 pm50 cd50 ct50 : Value}
    {f51 : Addr} {od51 an51 : Option Addr} {sl51 : Array (Option Value)} {oc51 kV51 dc51 pm51 cd51 ct51 : Value}
    {f52 : Addr} {od52 an52 : Option Addr} {sl52 : Array (Option Value)} {oc52 kV52 dc52 pm52 cd52 ct52 : Value}
    {f53 : Addr} {od53 an53 : Option Addr} {sl53 : Array (Option Value)} {oc53 kV53 dc53 pm53 cd53 ct53 : Value}
    {f54 : Addr} {od54 an54 : Option Addr} {sl54 : Array (Option Value)} {oc54 kV54 dc54 pm54 cd54 ct54 : Value}
    {f55 : Addr} {od55 an55 : Option Addr} {sl55 : Array (Option Value)} {oc55 kV55 dc55 pm55 cd55 ct55 : Value}
    {f56 : Addr} {od56 an56 : Option Addr} {sl56 : Array (Option Value)} {oc56 kV56 dc56 pm56 cd56 ct56 : Value}
    (w_aC : PySem.W.nsIn K mainGlobals "Web" = some (some (.ref C)))
    (w_aM : PySem.W.findIn K (.ref C) "__init__" = some (some (.ref fM)))
    (w_iM : PySem.W.isFn K (.ref fM) = true)
    (w_lM : K.lookup fM = some ⟨ocM, odM, .func (PySem.W.fnOf "__init__" "Web.__init__" (defArgs sWeb) (defBody sWeb) (defScope sWeb) .none kVM dcM pmM anM cdM ctM), slM⟩)
    (w_cM : PySem.W.codeIn K cdM "Web.__init__" = true)
    (w_kM : PySem.W.keepIn K (.ref fM) = true)
    (w_pg : PySem.W.plainGet K C Str.empty = true)
    (w_hd : PySem.W.hasDictIn K C = true)
    (w_po : PySem.W.plainOver K C = true)
    (w_sa : PySem.W.findIn K (.ref C) "__setattr__" = some (some (.builtin "object.__setattr__")))
    (w_mk : PySem.W.makesIn K C = true)
    (w_kc : PySem.W.keepIn K (.ref C) = true)
    (w_aO : PySem.W.nsIn K mainGlobals "MOST_HOUSES" = some (some (.int 40 tmW)))
    (w_n0 : PySem.W.findIn K (.ref C) "many" = some none)
    (w_n1 : PySem.W.findIn K (.ref C) "ties" = some none)
    (w_n2 : PySem.W.findIn K (.ref C) "_beside" = some none)
    (p_aC : PySem.W.nsIn K mainGlobals "Program" = some (some (.ref CP)))
    (p_aM : PySem.W.findIn K (.ref CP) "__init__" = some (some (.ref fM0)))
    (p_iM : PySem.W.isFn K (.ref fM0) = true)
    (p_lM : K.lookup fM0 = some ⟨ocM0, odM0, .func (PySem.W.fnOf "__init__" "Program.__init__" (defArgs sProg) (defBody sProg) (defScope sProg) .none kVM0 dcM0 pmM0 anM0 cdM0 ctM0), slM0⟩)
    (p_cM : PySem.W.codeIn K cdM0 "Program.__init__" = true)
    (p_kM : PySem.W.keepIn K (.ref fM0) = true)
    (p_pg : PySem.W.plainGet K CP Str.empty = true)
    (p_hd : PySem.W.hasDictIn K CP = true)
    (p_po : PySem.W.plainOver K CP = true)
    (p_sa : PySem.W.findIn K (.ref CP) "__setattr__" = some (some (.builtin "object.__setattr__")))
    (p_mk : PySem.W.makesIn K CP = true)
    (p_kc : PySem.W.keepIn K (.ref CP) = true)
    (aO : PySem.W.nsIn K mainGlobals "MOST_STARTS" = some (some (.int 4 tm)))
    (aO1 : PySem.W.nsIn K mainGlobals "MOST_IN_ONE" = some (some (.int 60 tm1)))
    (aO2 : PySem.W.nsIn K mainGlobals "MOST_DEEP" = some (some (.int 12 tm2)))
    (p_n0 : PySem.W.findIn K (.ref CP) "starts" = some none)
    (p_n1 : PySem.W.findIn K (.ref CP) "to" = some none)
    (p_n2 : PySem.W.findIn K (.ref CP) "say" = some none)
    (p_n3 : PySem.W.findIn K (.ref CP) "nexts" = some none)
    (wN : PySem.W.nsIn K mainGlobals "BadProgram" = some (some (.ref CB)))
    (wl : K.lookup CB = some (PySem.excClassObj nmB qB CB NB bsB bmB true snB subB abB colB ddB k0B k1B k2B k3B k5B "ValueError.__new__"))
    (wbm : PySem.HandSPX.refsVE bmB = true)
    (wi : PySem.W.findIn K (.ref CB) "__init__" = some (some (.ref fB)))
    (wt : PySem.W.typeIn K (.ref fB) = some (.type "function"))
    (wk : PySem.W.keepIn K (.ref CB) = true)
    (wb : PySem.W.subIn K (.ref CB) (.type "BaseException") = some true)
    (wy : PySem.W.typeIn K (.ref CB) = some (.type "type"))
    (ws : PySem.W.subIn K (.ref CB) (.ref CB) = some true)
    (wz : PySem.W.isClsIn K CB = true)
    (wsa : PySem.W.findIn K (.ref CB) "__setattr__" = some (some (.builtin "object.__setattr__")))
    (wp : PySem.W.findIn K (.ref CB) "part" = some none)
    (wga : PySem.W.findIn K (.ref CB) "__getattribute__" = some (some (.builtin "BaseException.__getattribute__")))
    (wgg : PySem.W.findIn K (.ref CB) "__getattr__" = some none)
    (whd : PySem.W.hasDictIn K CB = true)
    (wf : K.lookup fB = some ⟨ocB, odB, .func (PySem.W.fnOf "__init__" "BadProgram.__init__" (defArgs sPart) (defBody sPart) (defScope sPart) .none kVB dcB pmB anB cdB ctB), slB⟩)
    (wc : PySem.W.codeIn K cdB "BadProgram.__init__" = true)
    (wfk : PySem.W.keepIn K (.ref fB) = true)
    (gS : PySem.W.nsIn K mainGlobals "NOT_IN_STARTS" = some (some (.ref aS)))
    (oS : K.lookup aS = some ⟨.type "tuple", ddS, .seq itS nuS, slS⟩)
    (sS : itS.size ≤ 64)
    (vS : Vals (bS.map V.str) itS.toList)
    (gT : PySem.W.nsIn K mainGlobals "NOT_IN_SAYINGS" = some (some (.ref aT)))
    (oT : K.lookup aT = some ⟨.type "tuple", ddT, .seq itT nuT, slT⟩)
    (sT : itT.size ≤ 64)
    (vT : Vals (bT.map V.str) itT.toList)
    (gN : PySem.W.nsIn K mainGlobals "NOT_IN_NEXTS" = some (some (.ref aN)))
    (oN : K.lookup aN = some ⟨.type "tuple", ddN, .seq itN nuN, slN⟩)
    (sN : itN.size ≤ 64)
    (vN : Vals (bN.map V.str) itN.toList)
    (gP : PySem.W.nsIn K mainGlobals "PARTS" = some (some (.ref dP)))
    (oP : K.lookup dP = some ⟨.type "dict", none, .dict esP nuP, #[]⟩)
    (kP : PySem.W.KeysLit w.params esP.toList)
    (lP : (dP == sysModules) = false)
    (p0_0 : PySem.W.nsIn K dP "me" = some (some (.int 0 tz0)))
    (p0_1 : PySem.W.nsIn K dP "many" = some (some (.int 0 tz1)))
    (p0_2 : PySem.W.nsIn K dP "ties" = some (some (.int 0 tz2)))
    (p0_3 : PySem.W.nsIn K dP "round" = some (some (.int 0 tz3)))
    (p0_4 : PySem.W.nsIn K dP "other" = some (some (.int 0 tz4)))
    (p0_5 : PySem.W.nsIn K dP "heard" = some (some (.int 0 tz5)))
    (p0_6 : PySem.W.nsIn K dP "sum" = some (some (.int 0 tz6)))
    (p0_7 : PySem.W.nsIn K dP "least" = some (some (.int 0 tz7)))
    (p0_8 : PySem.W.nsIn K dP "most" = some (some (.int 0 tz8)))
    (p2_0 : PySem.W.nsIn K dP "add" = some (some (.int 2 ty0)))
    (p2_1 : PySem.W.nsIn K dP "sub" = some (some (.int 2 ty1)))
    (p2_2 : PySem.W.nsIn K dP "mul" = some (some (.int 2 ty2)))
    (p2_3 : PySem.W.nsIn K dP "min" = some (some (.int 2 ty3)))
    (p2_4 : PySem.W.nsIn K dP "max" = some (some (.int 2 ty4)))
    (p2_5 : PySem.W.nsIn K dP "less" = some (some (.int 2 ty5)))
    (p2_6 : PySem.W.nsIn K dP "same" = some (some (.int 2 ty6)))
    (p2_7 : PySem.W.nsIn K dP "and" = some (some (.int 2 ty7)))
    (p2_8 : PySem.W.nsIn K dP "or" = some (some (.int 2 ty8)))
    (p2_9 : PySem.W.nsIn K dP "rest" = some (some (.int 2 ty9)))
    (p3 : PySem.W.nsIn K dP "if" = some (some (.int 3 tx)))
    (pn_0 : PySem.W.nsIn K dP "Add" = some none)
    (pn_1 : PySem.W.nsIn K dP "0" = some none)
    (pn_2 : PySem.W.nsIn K dP "" = some none)
    (a0 : PySem.W.nsIn K mainGlobals "is_plain_int" = some (some (.ref f0)))
    (l0 : K.lookup f0 = some ⟨oc0, od0, .func (PySem.W.fnOf "is_plain_int" "is_plain_int" (defArgs sPlain) (defBody sPlain) (defScope sPlain) .none kV0 dc0 pm0 an0 cd0 ct0), sl0⟩)
    (c0 : PySem.W.codeIn K cd0 "is_plain_int" = true)
    (k0 : PySem.W.keepIn K (.ref f0) = true)
    (a1 : PySem.W.nsIn K mainGlobals "is_number_below" = some (some (.ref f1)))
    (l1 : K.lookup f1 = some ⟨oc1, od1, .func (PySem.W.fnOf "is_number_below" "is_number_below" (defArgs sNum) (defBody sNum) (defScope sNum) .none kV1 dc1 pm1 an1 cd1 ct1), sl1⟩)
    (c1 : PySem.W.codeIn K cd1 "is_number_below" = true)
    (k1 : PySem.W.keepIn K (.ref f1) = true)
    (a2 : PySem.W.nsIn K mainGlobals "is_small" = some (some (.ref f2)))
    (l2 : K.lookup f2 = some ⟨oc2, od2, .func (PySem.W.fnOf "is_small" "is_small" (defArgs sSmall) (defBody sSmall) (defScope sSmall) .none kV2 dc2 pm2 an2 cd2 ct2), sl2⟩)
    (c2 : PySem.W.codeIn K cd2 "is_small" = true)
    (k2 : PySem.W.keepIn K (.ref f2) = true)
    (a3 : PySem.W.nsIn K mainGlobals "is_tie" = some (some (.ref f3)))
    (l3 : K.lookup f3 = some ⟨oc3, od3, .func (PySem.W.fnOf "is_tie" "is_tie" (defArgs sTie) (defBody sTie) (defScope sTie) .none kV3 dc3 pm3 an3 cd3 ct3), sl3⟩)
    (c3 : PySem.W.codeIn K cd3 "is_tie" = true)
    (k3 : PySem.W.keepIn K (.ref f3) = true)
    (a4 : PySem.W.nsIn K mainGlobals "first_wrong_tie" = some (some (.ref f4)))
    (l4 : K.lookup f4 = some ⟨oc4, od4, .func (PySem.W.fnOf "first_wrong_tie" "first_wrong_tie" (defArgs sFirst) (defBody sFirst) (defScope sFirst) .none kV4 dc4 pm4 an4 cd4 ct4), sl4⟩)
    (c4 : PySem.W.codeIn K cd4 "first_wrong_tie" = true)
    (k4 : PySem.W.keepIn K (.ref f4) = true)
    (a5 : PySem.W.nsIn K mainGlobals "houses_beside" = some (some (.ref f5)))
    (l5 : K.lookup f5 = some ⟨oc5, od5, .func (PySem.W.fnOf "houses_beside" "houses_beside" (defArgs sBeside) (defBody sBeside) (defScope sBeside) .none kV5 dc5 pm5 an5 cd5 ct5), sl5⟩)
    (c5 : PySem.W.codeIn K cd5 "houses_beside" = true)
    (k5 : PySem.W.keepIn K (.ref f5) = true)
    (a6 : PySem.W.nsIn K mainGlobals "steps_from" = some (some (.ref f6)))
    (l6 : K.lookup f6 = some ⟨oc6, od6, .func (PySem.W.fnOf "steps_from" "steps_from" (defArgs sSteps) (defBody sSteps) (defScope sSteps) .none kV6 dc6 pm6 an6 cd6 ct6), sl6⟩)
    (c6 : PySem.W.codeIn K cd6 "steps_from" = true)
    (k6 : PySem.W.keepIn K (.ref f6) = true)
    (a7 : PySem.W.nsIn K mainGlobals "begins_well" = some (some (.ref f7)))
    (l7 : K.lookup f7 = some ⟨oc7, od7, .func (PySem.W.fnOf "begins_well" "begins_well" (defArgs sBegins) (defBody sBegins) (defScope sBegins) .none kV7 dc7 pm7 an7 cd7 ct7), sl7⟩)
    (c7 : PySem.W.codeIn K cd7 "begins_well" = true)
    (k7 : PySem.W.keepIn K (.ref f7) = true)
    (a8 : PySem.W.nsIn K mainGlobals "inner_parts" = some (some (.ref f8)))
    (l8 : K.lookup f8 = some ⟨oc8, od8, .func (PySem.W.fnOf "inner_parts" "inner_parts" (defArgs sInner) (defBody sInner) (defScope sInner) .none kV8 dc8 pm8 an8 cd8 ct8), sl8⟩)
    (c8 : PySem.W.codeIn K cd8 "inner_parts" = true)
    (k8 : PySem.W.keepIn K (.ref f8) = true)
    (a9 : PySem.W.nsIn K mainGlobals "is_expression" = some (some (.ref f9)))
    (l9 : K.lookup f9 = some ⟨oc9, od9, .func (PySem.W.fnOf "is_expression" "is_expression" (defArgs sIsEx) (defBody sIsEx) (defScope sIsEx) .none kV9 dc9 pm9 an9 cd9 ct9), sl9⟩)
    (c9 : PySem.W.codeIn K cd9 "is_expression" = true)
    (k9 : PySem.W.keepIn K (.ref f9) = true)
    (a10 : PySem.W.nsIn K mainGlobals "are_expressions" = some (some (.ref f10)))
    (l10 : K.lookup f10 = some ⟨oc10, od10, .func (PySem.W.fnOf "are_expressions" "are_expressions" (defArgs sAre) (defBody sAre) (defScope sAre) .none kV10 dc10 pm10 an10 cd10 ct10), sl10⟩)
    (c10 : PySem.W.codeIn K cd10 "are_expressions" = true)
    (k10 : PySem.W.keepIn K (.ref f10) = true)
    (a11 : PySem.W.nsIn K mainGlobals "neighbours" = some (some (.ref f11)))
    (l11 : K.lookup f11 = some ⟨oc11, od11, .func (PySem.W.fnOf "neighbours" "neighbours" (defArgs sNbr) (defBody sNbr) (defScope sNbr) .none kV11 dc11 pm11 an11 cd11 ct11), sl11⟩)
    (c11 : PySem.W.codeIn K cd11 "neighbours" = true)
    (k11 : PySem.W.keepIn K (.ref f11) = true)
    (a12 : PySem.W.nsIn K mainGlobals "brought_back" = some (some (.ref f12)))
    (l12 : K.lookup f12 = some ⟨oc12, od12, .func (PySem.W.fnOf "brought_back" "brought_back" (defArgs sBB) (defBody sBB) (defScope sBB) .none kV12 dc12 pm12 an12 cd12 ct12), sl12⟩)
    (c12 : PySem.W.codeIn K cd12 "brought_back" = true)
    (k12 : PySem.W.keepIn K (.ref f12) = true)
    (a13 : PySem.W.nsIn K mainGlobals "sum_of" = some (some (.ref f13)))
    (l13 : K.lookup f13 = some ⟨oc13, od13, .func (PySem.W.fnOf "sum_of" "sum_of" (defArgs sO1) (defBody sO1) (defScope sO1) .none kV13 dc13 pm13 an13 cd13 ct13), sl13⟩)
    (c13 : PySem.W.codeIn K cd13 "sum_of" = true)
    (k13 : PySem.W.keepIn K (.ref f13) = true)
    (a14 : PySem.W.nsIn K mainGlobals "difference_of" = some (some (.ref f14)))
    (l14 : K.lookup f14 = some ⟨oc14, od14, .func (PySem.W.fnOf "difference_of" "difference_of" (defArgs sO2) (defBody sO2) (defScope sO2) .none kV14 dc14 pm14 an14 cd14 ct14), sl14⟩)
    (c14 : PySem.W.codeIn K cd14 "difference_of" = true)
    (k14 : PySem.W.keepIn K (.ref f14) = true)
    (a15 : PySem.W.nsIn K mainGlobals "product_of" = some (some (.ref f15)))
    (l15 : K.lookup f15 = some ⟨oc15, od15, .func (PySem.W.fnOf "product_of" "product_of" (defArgs sO3) (defBody sO3) (defScope sO3) .none kV15 dc15 pm15 an15 cd15 ct15), sl15⟩)
    (c15 : PySem.W.codeIn K cd15 "product_of" = true)
    (k15 : PySem.W.keepIn K (.ref f15) = true)
    (a16 : PySem.W.nsIn K mainGlobals "lesser_of" = some (some (.ref f16)))
    (l16 : K.lookup f16 = some ⟨oc16, od16, .func (PySem.W.fnOf "lesser_of" "lesser_of" (defArgs sO4) (defBody sO4) (defScope sO4) .none kV16 dc16 pm16 an16 cd16 ct16), sl16⟩)
    (c16 : PySem.W.codeIn K cd16 "lesser_of" = true)
    (k16 : PySem.W.keepIn K (.ref f16) = true)
    (a17 : PySem.W.nsIn K mainGlobals "greater_of" = some (some (.ref f17)))
    (l17 : K.lookup f17 = some ⟨oc17, od17, .func (PySem.W.fnOf "greater_of" "greater_of" (defArgs sO5) (defBody sO5) (defScope sO5) .none kV17 dc17 pm17 an17 cd17 ct17), sl17⟩)
    (c17 : PySem.W.codeIn K cd17 "greater_of" = true)
    (k17 : PySem.W.keepIn K (.ref f17) = true)
    (a18 : PySem.W.nsIn K mainGlobals "is_less" = some (some (.ref f18)))
    (l18 : K.lookup f18 = some ⟨oc18, od18, .func (PySem.W.fnOf "is_less" "is_less" (defArgs sO6) (defBody sO6) (defScope sO6) .none kV18 dc18 pm18 an18 cd18 ct18), sl18⟩)
    (c18 : PySem.W.codeIn K cd18 "is_less" = true)
    (k18 : PySem.W.keepIn K (.ref f18) = true)
    (a19 : PySem.W.nsIn K mainGlobals "is_same" = some (some (.ref f19)))
    (l19 : K.lookup f19 = some ⟨oc19, od19, .func (PySem.W.fnOf "is_same" "is_same" (defArgs sO7) (defBody sO7) (defScope sO7) .none kV19 dc19 pm19 an19 cd19 ct19), sl19⟩)
    (c19 : PySem.W.codeIn K cd19 "is_same" = true)
    (k19 : PySem.W.keepIn K (.ref f19) = true)
    (a20 : PySem.W.nsIn K mainGlobals "are_both" = some (some (.ref f20)))
    (l20 : K.lookup f20 = some ⟨oc20, od20, .func (PySem.W.fnOf "are_both" "are_both" (defArgs sO8) (defBody sO8) (defScope sO8) .none kV20 dc20 pm20 an20 cd20 ct20), sl20⟩)
    (c20 : PySem.W.codeIn K cd20 "are_both" = true)
    (k20 : PySem.W.keepIn K (.ref f20) = true)
    (a21 : PySem.W.nsIn K mainGlobals "is_either" = some (some (.ref f21)))
    (l21 : K.lookup f21 = some ⟨oc21, od21, .func (PySem.W.fnOf "is_either" "is_either" (defArgs sO9) (defBody sO9) (defScope sO9) .none kV21 dc21 pm21 an21 cd21 ct21), sl21⟩)
    (c21 : PySem.W.codeIn K cd21 "is_either" = true)
    (k21 : PySem.W.keepIn K (.ref f21) = true)
    (a22 : PySem.W.nsIn K mainGlobals "rest_of" = some (some (.ref f22)))
    (l22 : K.lookup f22 = some ⟨oc22, od22, .func (PySem.W.fnOf "rest_of" "rest_of" (defArgs sO10) (defBody sO10) (defScope sO10) .none kV22 dc22 pm22 an22 cd22 ct22), sl22⟩)
    (c22 : PySem.W.codeIn K cd22 "rest_of" = true)
    (k22 : PySem.W.keepIn K (.ref f22) = true)
    (a23 : PySem.W.nsIn K mainGlobals "come_to" = some (some (.ref f23)))
    (l23 : K.lookup f23 = some ⟨oc23, od23, .func (PySem.W.fnOf "come_to" "come_to" (defArgs sCT) (defBody sCT) (defScope sCT) .none kV23 dc23 pm23 an23 cd23 ct23), sl23⟩)
    (c23 : PySem.W.codeIn K cd23 "come_to" = true)
    (k23 : PySem.W.keepIn K (.ref f23) = true)
    (a24 : PySem.W.nsIn K mainGlobals "first_view" = some (some (.ref f24)))
    (l24 : K.lookup f24 = some ⟨oc24, od24, .func (PySem.W.fnOf "first_view" "first_view" (defArgs sFV) (defBody sFV) (defScope sFV) .none kV24 dc24 pm24 an24 cd24 ct24), sl24⟩)
    (c24 : PySem.W.codeIn K cd24 "first_view" = true)
    (k24 : PySem.W.keepIn K (.ref f24) = true)
    (a25 : PySem.W.nsIn K mainGlobals "starts_come_to" = some (some (.ref f25)))
    (l25 : K.lookup f25 = some ⟨oc25, od25, .func (PySem.W.fnOf "starts_come_to" "starts_come_to" (defArgs sSC) (defBody sSC) (defScope sSC) .none kV25 dc25 pm25 an25 cd25 ct25), sl25⟩)
    (c25 : PySem.W.codeIn K cd25 "starts_come_to" = true)
    (k25 : PySem.W.keepIn K (.ref f25) = true)
    (a26 : PySem.W.nsIn K mainGlobals "sayings_come_to" = some (some (.ref f26)))
    (l26 : K.lookup f26 = some ⟨oc26, od26, .func (PySem.W.fnOf "sayings_come_to" "sayings_come_to" (defArgs sSY) (defBody sSY) (defScope sSY) .none kV26 dc26 pm26 an26 cd26 ct26), sl26⟩)
    (c26 : PySem.W.codeIn K cd26 "sayings_come_to" = true)
    (k26 : PySem.W.keepIn K (.ref f26) = true)
    (a27 : PySem.W.nsIn K mainGlobals "nexts_come_to" = some (some (.ref f27)))
    (l27 : K.lookup f27 = some ⟨oc27, od27, .func (PySem.W.fnOf "nexts_come_to" "nexts_come_to" (defArgs sNX) (defBody sNX) (defScope sNX) .none kV27 dc27 pm27 an27 cd27 ct27), sl27⟩)
    (c27 : PySem.W.codeIn K cd27 "nexts_come_to" = true)
    (k27 : PySem.W.keepIn K (.ref f27) = true)
    (a28 : PySem.W.nsIn K mainGlobals "are_smalls" = some (some (.ref f28)))
    (l28 : K.lookup f28 = some ⟨oc28, od28, .func (PySem.W.fnOf "are_smalls" "are_smalls" (defArgs sAS) (defBody sAS) (defScope sAS) .none kV28 dc28 pm28 an28 cd28 ct28), sl28⟩)
    (c28 : PySem.W.codeIn K cd28 "are_smalls" = true)
    (k28 : PySem.W.keepIn K (.ref f28) = true)
    (a29 : PySem.W.nsIn K mainGlobals "are_cells" = some (some (.ref f29)))
    (l29 : K.lookup f29 = some ⟨oc29, od29, .func (PySem.W.fnOf "are_cells" "are_cells" (defArgs sAC) (defBody sAC) (defScope sAC) .none kV29 dc29 pm29 an29 cd29 ct29), sl29⟩)
    (c29 : PySem.W.codeIn K cd29 "are_cells" = true)
    (k29 : PySem.W.keepIn K (.ref f29) = true)
    (a30 : PySem.W.nsIn K mainGlobals "start_cells" = some (some (.ref f30)))
    (l30 : K.lookup f30 = some ⟨oc30, od30, .func (PySem.W.fnOf "start_cells" "start_cells" (defArgs sSt) (defBody sSt) (defScope sSt) .none kV30 dc30 pm30 an30 cd30 ct30), sl30⟩)
    (c30 : PySem.W.codeIn K cd30 "start_cells" = true)
    (k30 : PySem.W.keepIn K (.ref f30) = true)
    (a31 : PySem.W.nsIn K mainGlobals "check_round" = some (some (.ref f31)))
    (l31 : K.lookup f31 = some ⟨oc31, od31, .func (PySem.W.fnOf "check_round" "check_round" (defArgs sCR) (defBody sCR) (defScope sCR) .none kV31 dc31 pm31 an31 cd31 ct31), sl31⟩)
    (c31 : PySem.W.codeIn K cd31 "check_round" = true)
    (k31 : PySem.W.keepIn K (.ref f31) = true)
    (a32 : PySem.W.nsIn K mainGlobals "sayings" = some (some (.ref f32)))
    (l32 : K.lookup f32 = some ⟨oc32, od32, .func (PySem.W.fnOf "sayings" "sayings" (defArgs sSay) (defBody sSay) (defScope sSay) .none kV32 dc32 pm32 an32 cd32 ct32), sl32⟩)
    (c32 : PySem.W.codeIn K cd32 "sayings" = true)
    (k32 : PySem.W.keepIn K (.ref f32) = true)
    (a33 : PySem.W.nsIn K mainGlobals "next_cells" = some (some (.ref f33)))
    (l33 : K.lookup f33 = some ⟨oc33, od33, .func (PySem.W.fnOf "next_cells" "next_cells" (defArgs sNxt) (defBody sNxt) (defScope sNxt) .none kV33 dc33 pm33 an33 cd33 ct33), sl33⟩)
    (c33 : PySem.W.codeIn K cd33 "next_cells" = true)
    (k33 : PySem.W.keepIn K (.ref f33) = true)
    (a34 : PySem.W.nsIn K mainGlobals "all_sayings" = some (some (.ref f34)))
    (l34 : K.lookup f34 = some ⟨oc34, od34, .func (PySem.W.fnOf "all_sayings" "all_sayings" (defArgs sAll) (defBody sAll) (defScope sAll) .none kV34 dc34 pm34 an34 cd34 ct34), sl34⟩)
    (c34 : PySem.W.codeIn K cd34 "all_sayings" = true)
    (k34 : PySem.W.keepIn K (.ref f34) = true)
    (a35 : PySem.W.nsIn K mainGlobals "said_to_each" = some (some (.ref f35)))
    (l35 : K.lookup f35 = some ⟨oc35, od35, .func (PySem.W.fnOf "said_to_each" "said_to_each" (defArgs sSE) (defBody sSE) (defScope sSE) .none kV35 dc35 pm35 an35 cd35 ct35), sl35⟩)
    (c35 : PySem.W.codeIn K cd35 "said_to_each" = true)
    (k35 : PySem.W.keepIn K (.ref f35) = true)
    (a36 : PySem.W.nsIn K mainGlobals "rows_behind" = some (some (.ref f36)))
    (l36 : K.lookup f36 = some ⟨oc36, od36, .func (PySem.W.fnOf "rows_behind" "rows_behind" (defArgs sRB) (defBody sRB) (defScope sRB) .none kV36 dc36 pm36 an36 cd36 ct36), sl36⟩)
    (c36 : PySem.W.codeIn K cd36 "rows_behind" = true)
    (k36 : PySem.W.keepIn K (.ref f36) = true)
    (a37 : PySem.W.nsIn K mainGlobals "round_by_round" = some (some (.ref f37)))
    (l37 : K.lookup f37 = some ⟨oc37, od37, .func (PySem.W.fnOf "round_by_round" "round_by_round" (defArgs sRR) (defBody sRR) (defScope sRR) .none kV37 dc37 pm37 an37 cd37 ct37), sl37⟩)
    (c37 : PySem.W.codeIn K cd37 "round_by_round" = true)
    (k37 : PySem.W.keepIn K (.ref f37) = true)
    (a38 : PySem.W.nsIn K mainGlobals "lockstep" = some (some (.ref f38)))
    (l38 : K.lookup f38 = some ⟨oc38, od38, .func (PySem.W.fnOf "lockstep" "lockstep" (defArgs sLk) (defBody sLk) (defScope sLk) .none kV38 dc38 pm38 an38 cd38 ct38), sl38⟩)
    (c38 : PySem.W.codeIn K cd38 "lockstep" = true)
    (k38 : PySem.W.keepIn K (.ref f38) = true)
    (a39 : PySem.W.nsIn K mainGlobals "many_said" = some (some (.ref f39)))
    (l39 : K.lookup f39 = some ⟨oc39, od39, .func (PySem.W.fnOf "many_said" "many_said" (defArgs sMS) (defBody sMS) (defScope sMS) .none kV39 dc39 pm39 an39 cd39 ct39), sl39⟩)
    (c39 : PySem.W.codeIn K cd39 "many_said" = true)
    (k39 : PySem.W.keepIn K (.ref f39) = true)
    (a40 : PySem.W.nsIn K mainGlobals "_law_hand" = some (some (.ref f40)))
    (l40 : K.lookup f40 = some ⟨oc40, od40, .func (PySem.W.fnOf "_law_hand" "_law_hand" (defArgs sHand) (defBody sHand) (defScope sHand) .none kV40 dc40 pm40 an40 cd40 ct40), sl40⟩)
    (c40 : PySem.W.codeIn K cd40 "_law_hand" = true)
    (k40 : PySem.W.keepIn K (.ref f40) = true)
    (a41 : PySem.W.nsIn K mainGlobals "_law_take" = some (some (.ref f41)))
    (l41 : K.lookup f41 = some ⟨oc41, od41, .func (PySem.W.fnOf "_law_take" "_law_take" (defArgs sTake) (defBody sTake) (defScope sTake) .none kV41 dc41 pm41 an41 cd41 ct41), sl41⟩)
    (c41 : PySem.W.codeIn K cd41 "_law_take" = true)
    (k41 : PySem.W.keepIn K (.ref f41) = true)
    (a42 : PySem.W.nsIn K mainGlobals "_law_pick" = some (some (.ref f42)))
    (l42 : K.lookup f42 = some ⟨oc42, od42, .func (PySem.W.fnOf "_law_pick" "_law_pick" (defArgs sPick) (defBody sPick) (defScope sPick) .none kV42 dc42 pm42 an42 cd42 ct42), sl42⟩)
    (c42 : PySem.W.codeIn K cd42 "_law_pick" = true)
    (k42 : PySem.W.keepIn K (.ref f42) = true)
    (a43 : PySem.W.nsIn K mainGlobals "_law_is_integer" = some (some (.ref f43)))
    (l43 : K.lookup f43 = some ⟨oc43, od43, .func (PySem.W.fnOf "_law_is_integer" "_law_is_integer" (defArgs sInt) (defBody sInt) (defScope sInt) .none kV43 dc43 pm43 an43 cd43 ct43), sl43⟩)
    (c43 : PySem.W.codeIn K cd43 "_law_is_integer" = true)
    (k43 : PySem.W.keepIn K (.ref f43) = true)
    (a44 : PySem.W.nsIn K mainGlobals "_law_is_within" = some (some (.ref f44)))
    (l44 : K.lookup f44 = some ⟨oc44, od44, .func (PySem.W.fnOf "_law_is_within" "_law_is_within" (defArgs sWithin) (defBody sWithin) (defScope sWithin) .none kV44 dc44 pm44 an44 cd44 ct44), sl44⟩)
    (c44 : PySem.W.codeIn K cd44 "_law_is_within" = true)
    (k44 : PySem.W.keepIn K (.ref f44) = true)
    (a45 : PySem.W.nsIn K mainGlobals "_law_odd" = some (some (.ref f45)))
    (l45 : K.lookup f45 = some ⟨oc45, od45, .func (PySem.W.fnOf "_law_odd" "_law_odd" (defArgs sOdd) (defBody sOdd) (defScope sOdd) .none kV45 dc45 pm45 an45 cd45 ct45), sl45⟩)
    (c45 : PySem.W.codeIn K cd45 "_law_odd" = true)
    (k45 : PySem.W.keepIn K (.ref f45) = true)
    (a46 : PySem.W.nsIn K mainGlobals "_law_ties" = some (some (.ref f46)))
    (l46 : K.lookup f46 = some ⟨oc46, od46, .func (PySem.W.fnOf "_law_ties" "_law_ties" (defArgs sTies) (defBody sTies) (defScope sTies) .none kV46 dc46 pm46 an46 cd46 ct46), sl46⟩)
    (c46 : PySem.W.codeIn K cd46 "_law_ties" = true)
    (k46 : PySem.W.keepIn K (.ref f46) = true)
    (a47 : PySem.W.nsIn K mainGlobals "_law_is_small" = some (some (.ref f47)))
    (l47 : K.lookup f47 = some ⟨oc47, od47, .func (PySem.W.fnOf "_law_is_small" "_law_is_small" (defArgs sLSm) (defBody sLSm) (defScope sLSm) .none kV47 dc47 pm47 an47 cd47 ct47), sl47⟩)
    (c47 : PySem.W.codeIn K cd47 "_law_is_small" = true)
    (k47 : PySem.W.keepIn K (.ref f47) = true)
    (a48 : PySem.W.nsIn K mainGlobals "_law_leaf" = some (some (.ref f48)))
    (l48 : K.lookup f48 = some ⟨oc48, od48, .func (PySem.W.fnOf "_law_leaf" "_law_leaf" (defArgs sLeaf) (defBody sLeaf) (defScope sLeaf) .none kV48 dc48 pm48 an48 cd48 ct48), sl48⟩)
    (c48 : PySem.W.codeIn K cd48 "_law_leaf" = true)
    (k48 : PySem.W.keepIn K (.ref f48) = true)
    (a49 : PySem.W.nsIn K mainGlobals "_law_expression" = some (some (.ref f49)))
    (l49 : K.lookup f49 = some ⟨oc49, od49, .func (PySem.W.fnOf "_law_expression" "_law_expression" (defArgs sExpr) (defBody sExpr) (defScope sExpr) .none kV49 dc49 pm49 an49 cd49 ct49), sl49⟩)
    (c49 : PySem.W.codeIn K cd49 "_law_expression" = true)
    (k49 : PySem.W.keepIn K (.ref f49) = true)
    (a50 : PySem.W.nsIn K mainGlobals "_law_words" = some (some (.ref f50)))
    (l50 : K.lookup f50 = some ⟨oc50, od50, .func (PySem.W.fnOf "_law_words" "_law_words" (defArgs sWords) (defBody sWords) (defScope sWords) .none kV50 dc50 pm50 an50 cd50 ct50), sl50⟩)
    (c50 : PySem.W.codeIn K cd50 "_law_words" = true)
    (k50 : PySem.W.keepIn K (.ref f50) = true)
    (a51 : PySem.W.nsIn K mainGlobals "_law_program_parts" = some (some (.ref f51)))
    (l51 : K.lookup f51 = some ⟨oc51, od51, .func (PySem.W.fnOf "_law_program_parts" "_law_program_parts" (defArgs sPP) (defBody sPP) (defScope sPP) .none kV51 dc51 pm51 an51 cd51 ct51), sl51⟩)
    (c51 : PySem.W.codeIn K cd51 "_law_program_parts" = true)
    (k51 : PySem.W.keepIn K (.ref f51) = true)
    (a52 : PySem.W.nsIn K mainGlobals "_law_program_of" = some (some (.ref f52)))
    (l52 : K.lookup f52 = some ⟨oc52, od52, .func (PySem.W.fnOf "_law_program_of" "_law_program_of" (defArgs sPO) (defBody sPO) (defScope sPO) .none kV52 dc52 pm52 an52 cd52 ct52), sl52⟩)
    (c52 : PySem.W.codeIn K cd52 "_law_program_of" = true)
    (k52 : PySem.W.keepIn K (.ref f52) = true)
    (a53 : PySem.W.nsIn K mainGlobals "_law_word" = some (some (.ref f53)))
    (l53 : K.lookup f53 = some ⟨oc53, od53, .func (PySem.W.fnOf "_law_word" "_law_word" (defArgs sWord) (defBody sWord) (defScope sWord) .none kV53 dc53 pm53 an53 cd53 ct53), sl53⟩)
    (c53 : PySem.W.codeIn K cd53 "_law_word" = true)
    (k53 : PySem.W.keepIn K (.ref f53) = true)
    (a54 : PySem.W.nsIn K mainGlobals "_law_are_small" = some (some (.ref f54)))
    (l54 : K.lookup f54 = some ⟨oc54, od54, .func (PySem.W.fnOf "_law_are_small" "_law_are_small" (defArgs sLAS) (defBody sLAS) (defScope sLAS) .none kV54 dc54 pm54 an54 cd54 ct54), sl54⟩)
    (c54 : PySem.W.codeIn K cd54 "_law_are_small" = true)
    (k54 : PySem.W.keepIn K (.ref f54) = true)
    (a55 : PySem.W.nsIn K mainGlobals "_law_due" = some (some (.ref f55)))
    (l55 : K.lookup f55 = some ⟨oc55, od55, .func (PySem.W.fnOf "_law_due" "_law_due" (defArgs sDue) (defBody sDue) (defScope sDue) .none kV55 dc55 pm55 an55 cd55 ct55), sl55⟩)
    (c55 : PySem.W.codeIn K cd55 "_law_due" = true)
    (k55 : PySem.W.keepIn K (.ref f55) = true)
    (a56 : PySem.W.nsIn K mainGlobals "law" = some (some (.ref f56)))
    (l56 : K.lookup f56 = some ⟨oc56, od56, .func (PySem.W.fnOf "law" "law" (defArgs sLaw) (defBody sLaw) (defScope sLaw) .none kV56 dc56 pm56 an56 cd56 ct56), sl56⟩)
    (c56 : PySem.W.codeIn K cd56 "law" = true)
    (k56 : PySem.W.keepIn K (.ref f56) = true)
    (gO : PySem.W.nsIn K mainGlobals "OF_TWO" = some (some (.ref dO)))
    (oO : K.lookup dO = some ⟨.type "dict", none, .dict esO nuO, #[]⟩)
    (kO : PySem.W.KeysLit w.params esO.toList)
    (lO : (dO == sysModules) = false)
    (po_0 : PySem.W.nsIn K dO "add" = some (some (.ref f13)))
    (po_1 : PySem.W.nsIn K dO "sub" = some (some (.ref f14)))
    (po_2 : PySem.W.nsIn K dO "mul" = some (some (.ref f15)))
    (po_3 : PySem.W.nsIn K dO "min" = some (some (.ref f16)))
    (po_4 : PySem.W.nsIn K dO "max" = some (some (.ref f17)))
    (po_5 : PySem.W.nsIn K dO "less" = some (some (.ref f18)))
    (po_6 : PySem.W.nsIn K dO "same" = some (some (.ref f19)))
    (po_7 : PySem.W.nsIn K dO "and" = some (some (.ref f20)))
    (po_8 : PySem.W.nsIn K dO "or" = some (some (.ref f21)))
    (po_9 : PySem.W.nsIn K dO "rest" = some (some (.ref f22)))
    (cc_MOST_ROUND : PySem.W.nsIn K mainGlobals "MOST_ROUND" = some (some (.int 1000 tc_MOST_ROUND)))
    (cc_MOST_ROUNDS : PySem.W.nsIn K mainGlobals "MOST_ROUNDS" = some (some (.int 40 tc_MOST_ROUNDS)))
    (cc_MOST_SAID : PySem.W.nsIn K mainGlobals "MOST_SAID" = some (some (.int 39 tc_MOST_SAID)))
    (xN_eh : PySem.W.nsIn K mainGlobals "NoHouse" = some (some (.ref Ceh)))
    (xl_eh : K.lookup Ceh = some (PySem.excClassObj nmeh qeh Ceh Neh bseh bmeh true sneh subeh abeh coleh ddeh k0eh k1eh k2eh k3eh k5eh "ValueError.__new__"))
    (xi_eh : PySem.W.findIn K (.ref Ceh) "__init__" = some (some (.ref feh)))
    (xt_eh : PySem.W.typeIn K (.ref feh) = some (.type "function"))
    (xk_eh : PySem.W.keepIn K (.ref Ceh) = true)
    (xb_eh : PySem.W.subIn K (.ref Ceh) (.type "BaseException") = some true)
    (xv_eh : PySem.W.subIn K (.ref Ceh) (.type "ValueError") = some true)
    (xy_eh : PySem.W.typeIn K (.ref Ceh) = some (.type "type"))
    (xm_eh : PySem.W.mroIn K Ceh (.ref Ceh) = some true)
    (xs_eh : PySem.W.subIn K (.ref Ceh) (.ref Ceh) = some true)
    (xz_eh : PySem.W.isClsIn K Ceh = true)
    (xsu_eh : PySem.W.nsIn K mainGlobals "super" = some none)
    (xo_eh : PySem.W.nsIn K cStatics "thirdparty.any" = some none)
    (xf_eh : K.lookup feh = some ⟨oceh, odeh, .func (PySem.W.ksFn "__init__" "NoHouse.__init__" (supAr peh) (supB q1eh q2eh q3eh q4eh q5eh) supSc .none .none doceh pmeh aneh (.ref cdaeh) cteh cceh), osleh⟩)
    (xc_eh : PySem.W.codeIn K (.ref cdaeh) "NoHouse.__init__" = true)
    (xd_eh : K.lookup cdaeh = some ⟨ccleh, cddeh, .fields vseh, ccseh⟩)
    (xe_eh : K.lookup cceh = some ⟨cleh, cldeh, .cell (some (.ref Ceh)), csleh⟩)
    (xu_eh : PySem.W.ks_superIn K Ceh Ceh "__init__" = some (some (.builtin "ValueError.__init__")))
    (yb_eh : PySem.HandSPX.refsVE bmeh = true)
    (yv_eh : vseh[2]? = some (.str fileeh tfeh))
    (yf_eh : ((l.prog.main.file : Str) == fileeh) = true)
    (yt_eh : (l.prog.main.scope.names.lookup ("super" : Str)).isSome = false)
    (yl_eh : (q3eh.endLine == q4eh.line) = true)
    (xN_eu : PySem.W.nsIn K mainGlobals "NoNumber" = some (some (.ref Ceu)))
    (xl_eu : K.lookup Ceu = some (PySem.excClassObj nmeu qeu Ceu Neu bseu bmeu true sneu subeu abeu coleu ddeu k0eu k1eu k2eu k3eu k5eu "ValueError.__new__"))
    (xi_eu : PySem.W.findIn K (.ref Ceu) "__init__" = some (some (.ref feu)))
    (xt_eu : PySem.W.typeIn K (.ref feu) = some (.type "function"))
    (xk_eu : PySem.W.keepIn K (.ref Ceu) = true)
    (xb_eu : PySem.W.subIn K (.ref Ceu) (.type "BaseException") = some true)
    (xv_eu : PySem.W.subIn K (.ref Ceu) (.type "ValueError") = some true)
    (xy_eu : PySem.W.typeIn K (.ref Ceu) = some (.type "type"))
    (xm_eu : PySem.W.mroIn K Ceu (.ref Ceu) = some true)
    (xs_eu : PySem.W.subIn K (.ref Ceu) (.ref Ceu) = some true)
    (xz_eu : PySem.W.isClsIn K Ceu = true)
    (xsu_eu : PySem.W.nsIn K mainGlobals "super" = some none)
    (xo_eu : PySem.W.nsIn K cStatics "thirdparty.any" = some none)
    (xf_eu : K.lookup feu = some ⟨oceu, odeu, .func (PySem.W.ksFn "__init__" "NoNumber.__init__" (supAr peu) (supB q1eu q2eu q3eu q4eu q5eu) supSc .none .none doceu pmeu aneu (.ref cdaeu) cteu cceu), osleu⟩)
    (xc_eu : PySem.W.codeIn K (.ref cdaeu) "NoNumber.__init__" = true)
    (xd_eu : K.lookup cdaeu = some ⟨ccleu, cddeu, .fields vseu, ccseu⟩)
    (xe_eu : K.lookup cceu = some ⟨cleu, cldeu, .cell (some (.ref Ceu)), csleu⟩)
    (xu_eu : PySem.W.ks_superIn K Ceu Ceu "__init__" = some (some (.builtin "ValueError.__init__")))
    (yb_eu : PySem.HandSPX.refsVE bmeu = true)
    (yv_eu : vseu[2]? = some (.str fileeu tfeu))
    (yf_eu : ((l.prog.main.file : Str) == fileeu) = true)
    (yt_eu : (l.prog.main.scope.names.lookup ("super" : Str)).isSome = false)
    (yl_eu : (q3eu.endLine == q4eu.line) = true)
    (xN_ec : PySem.W.nsIn K mainGlobals "NoCells" = some (some (.ref Cec)))
    (xl_ec : K.lookup Cec = some (PySem.excClassObj nmec qec Cec Nec bsec bmec true snec subec abec colec ddec k0ec k1ec k2ec k3ec k5ec "ValueError.__new__"))
    (xi_ec : PySem.W.findIn K (.ref Cec) "__init__" = some (some (.ref fec)))
    (xt_ec : PySem.W.typeIn K (.ref fec) = some (.type "function"))
    (xk_ec : PySem.W.keepIn K (.ref Cec) = true)
    (xb_ec : PySem.W.subIn K (.ref Cec) (.type "BaseException") = some true)
    (xv_ec : PySem.W.subIn K (.ref Cec) (.type "ValueError") = some true)
    (xy_ec : PySem.W.typeIn K (.ref Cec) = some (.type "type"))
    (xm_ec : PySem.W.mroIn K Cec (.ref Cec) = some true)
    (xs_ec : PySem.W.subIn K (.ref Cec) (.ref Cec) = some true)
    (xz_ec : PySem.W.isClsIn K Cec = true)
    (xsu_ec : PySem.W.nsIn K mainGlobals "super" = some none)
    (xo_ec : PySem.W.nsIn K cStatics "thirdparty.any" = some none)
    (xf_ec : K.lookup fec = some ⟨ocec, odec, .func (PySem.W.ksFn "__init__" "NoCells.__init__" (supAr pec) (supB q1ec q2ec q3ec q4ec q5ec) supSc .none .none docec pmec anec (.ref cdaec) ctec ccec), oslec⟩)
    (xc_ec : PySem.W.codeIn K (.ref cdaec) "NoCells.__init__" = true)
    (xd_ec : K.lookup cdaec = some ⟨cclec, cddec, .fields vsec, ccsec⟩)
    (xe_ec : K.lookup ccec = some ⟨clec, cldec, .cell (some (.ref Cec)), cslec⟩)
    (xu_ec : PySem.W.ks_superIn K Cec Cec "__init__" = some (some (.builtin "ValueError.__init__")))
    (yb_ec : PySem.HandSPX.refsVE bmec = true)
    (yv_ec : vsec[2]? = some (.str fileec tfec))
    (yf_ec : ((l.prog.main.file : Str) == fileec) = true)
    (yt_ec : (l.prog.main.scope.names.lookup ("super" : Str)).isSome = false)
    (yl_ec : (q3ec.endLine == q4ec.line) = true)
    (xN_es : PySem.W.nsIn K mainGlobals "NoSayings" = some (some (.ref Ces)))
    (xl_es : K.lookup Ces = some (PySem.excClassObj nmes qes Ces Nes bses bmes true snes subes abes coles ddes k0es k1es k2es k3es k5es "ValueError.__new__"))
    (xi_es : PySem.W.findIn K (.ref Ces) "__init__" = some (some (.ref fes)))
    (xt_es : PySem.W.typeIn K (.ref fes) = some (.type "function"))
    (xk_es : PySem.W.keepIn K (.ref Ces) = true)
    (xb_es : PySem.W.subIn K (.ref Ces) (.type "BaseException") = some true)
    (xv_es : PySem.W.subIn K (.ref Ces) (.type "ValueError") = some true)
    (xy_es : PySem.W.typeIn K (.ref Ces) = some (.type "type"))
    (xm_es : PySem.W.mroIn K Ces (.ref Ces) = some true)
    (xs_es : PySem.W.subIn K (.ref Ces) (.ref Ces) = some true)
    (xz_es : PySem.W.isClsIn K Ces = true)
    (xsu_es : PySem.W.nsIn K mainGlobals "super" = some none)
    (xo_es : PySem.W.nsIn K cStatics "thirdparty.any" = some none)
    (xf_es : K.lookup fes = some ⟨oces, odes, .func (PySem.W.ksFn "__init__" "NoSayings.__init__" (supAr pes) (supB q1es q2es q3es q4es q5es) supSc .none .none doces pmes anes (.ref cdaes) ctes cces), osles⟩)
    (xc_es : PySem.W.codeIn K (.ref cdaes) "NoSayings.__init__" = true)
    (xd_es : K.lookup cdaes = some ⟨ccles, cddes, .fields vses, ccses⟩)
    (xe_es : K.lookup cces = some ⟨cles, cldes, .cell (some (.ref Ces)), csles⟩)
    (xu_es : PySem.W.ks_superIn K Ces Ces "__init__" = some (some (.builtin "ValueError.__init__")))
    (yb_es : PySem.HandSPX.refsVE bmes = true)
    (yv_es : vses[2]? = some (.str filees tfes))
    (yf_es : ((l.prog.main.file : Str) == filees) = true)
    (yt_es : (l.prog.main.scope.names.lookup ("super" : Str)).isSome = false)
    (yl_es : (q3es.endLine == q4es.line) = true)
    (xp_eu_eh : PySem.W.subIn K (.ref Ceu) (.ref Ceh) = some false)
    (xp_ec_eh : PySem.W.subIn K (.ref Cec) (.ref Ceh) = some false)
    (xp_ec_eu : PySem.W.subIn K (.ref Cec) (.ref Ceu) = some false)
    (xp_es_eh : PySem.W.subIn K (.ref Ces) (.ref Ceh) = some false)
    (xp_es_eu : PySem.W.subIn K (.ref Ces) (.ref Ceu) = some false)
    (xp_es_ec : PySem.W.subIn K (.ref Ces) (.ref Cec) = some false)
    (zn_str : PySem.W.nsIn K mainGlobals "str" = some none)
    (zn_all : PySem.W.nsIn K mainGlobals "all" = some none)
    (zn_zip : PySem.W.nsIn K mainGlobals "zip" = some none)
    (zn_sum : PySem.W.nsIn K mainGlobals "sum" = some none)
    (z_len : PySem.W.nsIn K mainGlobals "len" = some none)
    (z_int : PySem.W.nsIn K mainGlobals "int" = some none)
    (z_list : PySem.W.nsIn K mainGlobals "list" = some none)
    (z_range : PySem.W.nsIn K mainGlobals "range" = some none)
    (z_min : PySem.W.nsIn K mainGlobals "min" = some none)
    (z_max : PySem.W.nsIn K mainGlobals "max" = some none)
    (z_tuple : PySem.W.nsIn K mainGlobals "tuple" = some none)
    (z_sorted : PySem.W.nsIn K mainGlobals "sorted" = some none)
    (z_set : PySem.W.nsIn K mainGlobals "set" = some none)
    (z_isinstance : PySem.W.nsIn K mainGlobals "isinstance" = some none)
    (z_enumerate : PySem.W.nsIn K mainGlobals "enumerate" = some none)
    (z_bool : PySem.W.nsIn K mainGlobals "bool" = some none)
    : ∃ fd : FuncData, (∀ (s : Shared) (v : Value), BindsTo s fd ⟨[v], []⟩ [("script", v)]) ∧ ∀ base : Heap, K.In base → base.Ns mainGlobals mg → FnOk l.prog w K mg base CX0 21 fa fd ["script"] (spLaw K) := by
  have e := hfa.symm.trans (PySem.W.mg_of X G a56)
  cases e
  have B : Bts mg := ⟨PySem.W.mg_none_of X G z_len, PySem.W.mg_none_of X G z_int, PySem.W.mg_none_of X G z_list, PySem.W.mg_none_of X G z_range, PySem.W.mg_none_of X G z_min, PySem.W.mg_none_of X G z_max, PySem.W.mg_none_of X G z_tuple, PySem.W.mg_none_of X G z_sorted, PySem.W.mg_none_of X G z_set, PySem.W.mg_none_of X G z_isinstance, PySem.W.mg_none_of X G z_enumerate, PySem.W.mg_none_of X G z_bool⟩
  have T : WTxt K mg C := ⟨⟨w_pg, w_hd, w_po, w_sa⟩, w_n0, w_n1, w_n2, PySem.W.mg_of X G w_aC, ⟨tmW, PySem.W.mg_of X G w_aO⟩⟩
  have FM := fun_mk (st := sWeb) w_lM w_cM w_kM
  have bM := FM.binds (ps := ["self", "many", "ties"]) fun _ _ _ _ _ _ us hl => match us, hl with | [_, _, _], _ => rfl
  have TP : PTxt K mg CP := ⟨⟨p_pg, p_hd, p_po, p_sa⟩, p_n0, p_n1, p_n2, p_n3, PySem.W.mg_of X G p_aC, ⟨aS, PySem.W.mg_of X G gS, ⟨_, _, _, oS, rfl, rfl, Nat.le_trans sS (by decide), vS⟩⟩, ⟨aT, PySem.W.mg_of X G gT, ⟨_, _, _, oT, rfl, rfl, Nat.le_trans sT (by decide), vT⟩⟩, ⟨aN, PySem.W.mg_of X G gN, ⟨_, _, _, oN, rfl, rfl, Nat.le_trans sN (by decide), vN⟩⟩⟩
  have PZ : ∀ s ∈ zeroL, ∃ t, PySem.W.nsIn K dP s = some (some (.int 0 t)) := by
    intro s hs
    simp only [zeroL, List.mem_cons, List.not_mem_nil, or_false] at hs
    rcases hs with rfl | rfl | rfl | rfl | rfl | rfl | rfl | rfl | rfl
    · exact ⟨_, p0_0⟩
    · exact ⟨_, p0_1⟩
    · exact ⟨_, p0_2⟩
    · exact ⟨_, p0_3⟩
    · exact ⟨_, p0_4⟩
    · exact ⟨_, p0_5⟩
    · exact ⟨_, p0_6⟩
    · exact ⟨_, p0_7⟩
    · exact ⟨_, p0_8⟩
  have PO2 : ∀ s ∈ opsL, ∃ t, PySem.W.nsIn K dP s = some (some (.int 2 t)) := by
    intro s hs
    simp only [opsL, List.mem_cons, List.not_mem_nil, or_false] at hs
    rcases hs with rfl | rfl | rfl | rfl | rfl | rfl | rfl | rfl | rfl | rfl
    · exact ⟨_, p2_0⟩
    · exact ⟨_, p2_1⟩
    · exact ⟨_, p2_2⟩
    · exact ⟨_, p2_3⟩
    · exact ⟨_, p2_4⟩
    · exact ⟨_, p2_5⟩
    · exact ⟨_, p2_6⟩
    · exact ⟨_, p2_7⟩
    · exact ⟨_, p2_8⟩
    · exact ⟨_, p2_9⟩
  have PN : ∀ s ∈ noneL, PySem.W.nsIn K dP s = some none := by
    intro s hs
    simp only [noneL, List.mem_cons, List.not_mem_nil, or_false] at hs
    rcases hs with rfl | rfl | rfl
    · exact pn_0
    · exact pn_1
    · exact pn_2
  have OO : Oth K w mg := ⟨PySem.W.mg_none_of X G zn_str, PySem.W.mg_none_of X G zn_all, PySem.W.mg_none_of X G zn_zip, ⟨dP, esP, nuP, ⟨oP, kP, lP⟩, PySem.W.mg_of X G gP, PZ, PO2, ⟨_, p3⟩, PN⟩, ⟨⟨_, PySem.W.mg_of X G aO1⟩, ⟨_, PySem.W.mg_of X G aO2⟩, ⟨_, PySem.W.mg_of X G aO⟩⟩⟩
  have FB0 := fun_mk (st := sPart) wf wc wfk
  have BT : BTxt K mg CB fB _ := ⟨⟨⟨nmB, qB, NB, bsB, bmB, snB, subB, abB, colB, ddB, k0B, k1B, k2B, k3B, k5B, wl, wbm⟩, wsa, wb, wy, wk⟩, wi, wt, FB0, FB0.binds (ps := ["self", "part"]) (fun _ _ _ _ _ _ us hl => match us, hl with | [_, _], _ => rfl), wp, PySem.W.mg_of X G wN, exm_me wb wz wy ws, ⟨wga, wgg, wb, whd⟩⟩
  have FM0 := fun_mk (st := sProg) p_lM p_cM p_kM
  have bM0 := FM0.binds (ps := ["self", "starts", "to", "say", "nexts"]) fun _ _ _ _ _ _ us hl => match us, hl with | [_, _, _, _, _], _ => rfl
  have SUeh : SupC l.prog K mg Ceh feh "NoHouse.__init__" := ⟨⟨nmeh, qeh, Neh, bseh, bmeh, sneh, subeh, abeh, coleh, ddeh, k0eh, k1eh, k2eh, k3eh, k5eh, xl_eh, yb_eh⟩, xi_eh, xt_eh, xk_eh, xb_eh, xv_eh, xy_eh, xm_eh, PySem.W.mg_none_of X G xsu_eh, xo_eh, xu_eh, yt_eh, ⟨oceh, odeh, doceh, pmeh, aneh, cdaeh, cceh, cteh, osleh, peh, q1eh, q2eh, q3eh, q4eh, q5eh, ccleh, cleh, cddeh, cldeh, ccseh, csleh, vseh, fileeh, tfeh, xf_eh, xc_eh, xd_eh, yv_eh, yf_eh, xe_eh, yl_eh⟩⟩
  have SUeu : SupC l.prog K mg Ceu feu "NoNumber.__init__" := ⟨⟨nmeu, qeu, Neu, bseu, bmeu, sneu, subeu, abeu, coleu, ddeu, k0eu, k1eu, k2eu, k3eu, k5eu, xl_eu, yb_eu⟩, xi_eu, xt_eu, xk_eu, xb_eu, xv_eu, xy_eu, xm_eu, PySem.W.mg_none_of X G xsu_eu, xo_eu, xu_eu, yt_eu, ⟨oceu, odeu, doceu, pmeu, aneu, cdaeu, cceu, cteu, osleu, peu, q1eu, q2eu, q3eu, q4eu, q5eu, ccleu, cleu, cddeu, cldeu, ccseu, csleu, vseu, fileeu, tfeu, xf_eu, xc_eu, xd_eu, yv_eu, yf_eu, xe_eu, yl_eu⟩⟩
  have SUec : SupC l.prog K mg Cec fec "NoCells.__init__" := ⟨⟨nmec, qec, Nec, bsec, bmec, snec, subec, abec, colec, ddec, k0ec, k1ec, k2ec, k3ec, k5ec, xl_ec, yb_ec⟩, xi_ec, xt_ec, xk_ec, xb_ec, xv_ec, xy_ec, xm_ec, PySem.W.mg_none_of X G xsu_ec, xo_ec, xu_ec, yt_ec, ⟨ocec, odec, docec, pmec, anec, cdaec, ccec, ctec, oslec, pec, q1ec, q2ec, q3ec, q4ec, q5ec, cclec, clec, cddec, cldec, ccsec, cslec, vsec, fileec, tfec, xf_ec, xc_ec, xd_ec, yv_ec, yf_ec, xe_ec, yl_ec⟩⟩
  have SUes : SupC l.prog K mg Ces fes "NoSayings.__init__" := ⟨⟨nmes, qes, Nes, bses, bmes, snes, subes, abes, coles, ddes, k0es, k1es, k2es, k3es, k5es, xl_es, yb_es⟩, xi_es, xt_es, xk_es, xb_es, xv_es, xy_es, xm_es, PySem.W.mg_none_of X G xsu_es, xo_es, xu_es, yt_es, ⟨oces, odes, doces, pmes, anes, cdaes, cces, ctes, osles, pes, q1es, q2es, q3es, q4es, q5es, ccles, cles, cddes, cldes, ccses, csles, vses, filees, tfes, xf_es, xc_es, xd_es, yv_es, yf_es, xe_es, yl_es⟩⟩
  have F0 := fun_mk (st := sPlain) l0 c0 k0
  have D_is_plain_int : Df K mg "is_plain_int" sPlain ["thing"] f0 _ := ⟨F0, PySem.W.mg_of X G a0, F0.binds (ps := ["thing"]) fun _ _ _ _ _ _ us hl => match us, hl with | [_], _ => rfl⟩
  have F1 := fun_mk (st := sNum) l1 c1 k1
  have D_is_number_below : Df K mg "is_number_below" sNum ["limit", "thing"] f1 _ := ⟨F1, PySem.W.mg_of X G a1, F1.binds (ps := ["limit", "thing"]) fun _ _ _ _ _ _ us hl => match us, hl with | [_, _], _ => rfl⟩
  have F2 := fun_mk (st := sSmall) l2 c2 k2
  have D_is_small : Df K mg "is_small" sSmall ["thing"] f2 _ := ⟨F2, PySem.W.mg_of X G a2, F2.binds (ps := ["thing"]) fun _ _ _ _ _ _ us hl => match us, hl with | [_], _ => rfl⟩
  have F3 := fun_mk (st := sTie) l3 c3 k3
  have D_is_tie : Df K mg "is_tie" sTie ["many", "thing"] f3 _ := ⟨F3, PySem.W.mg_of X G a3, F3.binds (ps := ["many", "thing"]) fun _ _ _ _ _ _ us hl => match us, hl with | [_, _], _ => rfl⟩
  have F4 := fun_mk (st := sFirst) l4 c4 k4
  have D_first_wrong_tie : Df K mg "first_wrong_tie" sFirst ["many", "ties"] f4 _ := ⟨F4, PySem.W.mg_of X G a4, F4.binds (ps := ["many", "ties"]) fun _ _ _ _ _ _ us hl => match us, hl with | [_, _], _ => rfl⟩
  have F5 := fun_mk (st := sBeside) l5 c5 k5
  have D_houses_beside : Df K mg "houses_beside" sBeside ["many", "ties"] f5 _ := ⟨F5, PySem.W.mg_of X G a5, F5.binds (ps := ["many", "ties"]) fun _ _ _ _ _ _ us hl => match us, hl with | [_, _], _ => rfl⟩
  have F6 := fun_mk (st := sSteps) l6 c6 k6
  have D_steps_from : Df K mg "steps_from" sSteps ["beside", "start"] f6 _ := ⟨F6, PySem.W.mg_of X G a6, F6.binds (ps := ["beside", "start"]) fun _ _ _ _ _ _ us hl => match us, hl with | [_, _], _ => rfl⟩
  have F7 := fun_mk (st := sBegins) l7 c7 k7
  have D_begins_well : Df K mg "begins_well" sBegins ["barred", "cells", "thing"] f7 _ := ⟨F7, PySem.W.mg_of X G a7, F7.binds (ps := ["barred", "cells", "thing"]) fun _ _ _ _ _ _ us hl => match us, hl with | [_, _, _], _ => rfl⟩
  have F8 := fun_mk (st := sInner) l8 c8 k8
  have D_inner_parts : Df K mg "inner_parts" sInner ["expression"] f8 _ := ⟨F8, PySem.W.mg_of X G a8, F8.binds (ps := ["expression"]) fun _ _ _ _ _ _ us hl => match us, hl with | [_], _ => rfl⟩
  have F9 := fun_mk (st := sIsEx) l9 c9 k9
  have D_is_expression : Df K mg "is_expression" sIsEx ["barred", "cells", "thing"] f9 _ := ⟨F9, PySem.W.mg_of X G a9, F9.binds (ps := ["barred", "cells", "thing"]) fun _ _ _ _ _ _ us hl => match us, hl with | [_, _, _], _ => rfl⟩
  have F10 := fun_mk (st := sAre) l10 c10 k10
  have D_are_expressions : Df K mg "are_expressions" sAre ["barred", "cells", "things"] f10 _ := ⟨F10, PySem.W.mg_of X G a10, F10.binds (ps := ["barred", "cells", "things"]) fun _ _ _ _ _ _ us hl => match us, hl with | [_, _, _], _ => rfl⟩
  have F11 := fun_mk (st := sNbr) l11 c11 k11
  have D_neighbours : Df K mg "neighbours" sNbr ["web", "house"] f11 _ := ⟨F11, PySem.W.mg_of X G a11, F11.binds (ps := ["web", "house"]) fun _ _ _ _ _ _ us hl => match us, hl with | [_, _], _ => rfl⟩
  have F12 := fun_mk (st := sBB) l12 c12 k12
  have D_brought_back : Df K mg "brought_back" sBB ["number"] f12 _ := ⟨F12, PySem.W.mg_of X G a12, F12.binds (ps := ["number"]) fun _ _ _ _ _ _ us hl => match us, hl with | [_], _ => rfl⟩
  have F13 := fun_mk (st := sO1) l13 c13 k13
  have D_sum_of : Df K mg "sum_of" sO1 ["one", "other"] f13 _ := ⟨F13, PySem.W.mg_of X G a13, F13.binds (ps := ["one", "other"]) fun _ _ _ _ _ _ us hl => match us, hl with | [_, _], _ => rfl⟩
  have F14 := fun_mk (st := sO2) l14 c14 k14
  have D_difference_of : Df K mg "difference_of" sO2 ["one", "other"] f14 _ := ⟨F14, PySem.W.mg_of X G a14, F14.binds (ps := ["one", "other"]) fun _ _ _ _ _ _ us hl => match us, hl with | [_, _], _ => rfl⟩
  have F15 := fun_mk (st := sO3) l15 c15 k15
  have D_product_of : Df K mg "product_of" sO3 ["one", "other"] f15 _ := ⟨F15, PySem.W.mg_of X G a15, F15.binds (ps := ["one", "other"]) fun _ _ _ _ _ _ us hl => match us, hl with | [_, _], _ => rfl⟩
  have F16 := fun_mk (st := sO4) l16 c16 k16
  have D_lesser_of : Df K mg "lesser_of" sO4 ["one", "other"] f16 _ := ⟨F16, PySem.W.mg_of X G a16, F16.binds (ps := ["one", "other"]) fun _ _ _ _ _ _ us hl => match us, hl with | [_, _], _ => rfl⟩
  have F17 := fun_mk (st := sO5) l17 c17 k17
  have D_greater_of : Df K mg "greater_of" sO5 ["one", "other"] f17 _ := ⟨F17, PySem.W.mg_of X G a17, F17.binds (ps := ["one", "other"]) fun _ _ _ _ _ _ us hl => match us, hl with | [_, _], _ => rfl⟩
  have F18 := fun_mk (st := sO6) l18 c18 k18
  have D_is_less : Df K mg "is_less" sO6 ["one", "other"] f18 _ := ⟨F18, PySem.W.mg_of X G a18, F18.binds (ps := ["one", "other"]) fun _ _ _ _ _ _ us hl => match us, hl with | [_, _], _ => rfl⟩
  have F19 := fun_mk (st := sO7) l19 c19 k19
  have D_is_same : Df K mg "is_same" sO7 ["one", "other"] f19 _ := ⟨F19, PySem.W.mg_of X G a19, F19.binds (ps := ["one", "other"]) fun _ _ _ _ _ _ us hl => match us, hl with | [_, _], _ => rfl⟩
  have F20 := fun_mk (st := sO8) l20 c20 k20
  have D_are_both : Df K mg "are_both" sO8 ["one", "other"] f20 _ := ⟨F20, PySem.W.mg_of X G a20, F20.binds (ps := ["one", "other"]) fun _ _ _ _ _ _ us hl => match us, hl with | [_, _], _ => rfl⟩
  have F21 := fun_mk (st := sO9) l21 c21 k21
  have D_is_either : Df K mg "is_either" sO9 ["one", "other"] f21 _ := ⟨F21, PySem.W.mg_of X G a21, F21.binds (ps := ["one", "other"]) fun _ _ _ _ _ _ us hl => match us, hl with | [_, _], _ => rfl⟩
  have F22 := fun_mk (st := sO10) l22 c22 k22
  have D_rest_of : Df K mg "rest_of" sO10 ["one", "other"] f22 _ := ⟨F22, PySem.W.mg_of X G a22, F22.binds (ps := ["one", "other"]) fun _ _ _ _ _ _ us hl => match us, hl with | [_, _], _ => rfl⟩
  have F23 := fun_mk (st := sCT) l23 c23 k23
  have D_come_to : Df K mg "come_to" sCT ["view", "expression"] f23 _ := ⟨F23, PySem.W.mg_of X G a23, F23.binds (ps := ["view", "expression"]) fun _ _ _ _ _ _ us hl => match us, hl with | [_, _], _ => rfl⟩
  have F24 := fun_mk (st := sFV) l24 c24 k24
  have D_first_view : Df K mg "first_view" sFV ["web", "house"] f24 _ := ⟨F24, PySem.W.mg_of X G a24, F24.binds (ps := ["web", "house"]) fun _ _ _ _ _ _ us hl => match us, hl with | [_, _], _ => rfl⟩
  have F25 := fun_mk (st := sSC) l25 c25 k25
  have D_starts_come_to : Df K mg "starts_come_to" sSC ["web", "program", "house"] f25 _ := ⟨F25, PySem.W.mg_of X G a25, F25.binds (ps := ["web", "program", "house"]) fun _ _ _ _ _ _ us hl => match us, hl with | [_, _, _], _ => rfl⟩
  have F26 := fun_mk (st := sSY) l26 c26 k26
  have D_sayings_come_to : Df K mg "sayings_come_to" sSY ["web", "program", "house", "at", "cells"] f26 _ := ⟨F26, PySem.W.mg_of X G a26, F26.binds (ps := ["web", "program", "house", "at", "cells"]) fun _ _ _ _ _ _ us hl => match us, hl with | [_, _, _, _, _], _ => rfl⟩
  have F27 := fun_mk (st := sNX) l27 c27 k27
  have D_nexts_come_to : Df K mg "nexts_come_to" sNX ["web", "program", "house", "at", "cells", "numbers"] f27 _ := ⟨F27, PySem.W.mg_of X G a27, F27.binds (ps := ["web", "program", "house", "at", "cells", "numbers"]) fun _ _ _ _ _ _ us hl => match us, hl with | [_, _, _, _, _, _], _ => rfl⟩
  have F28 := fun_mk (st := sAS) l28 c28 k28
  have D_are_smalls : Df K mg "are_smalls" sAS ["thing"] f28 _ := ⟨F28, PySem.W.mg_of X G a28, F28.binds (ps := ["thing"]) fun _ _ _ _ _ _ us hl => match us, hl with | [_], _ => rfl⟩
  have F29 := fun_mk (st := sAC) l29 c29 k29
  have D_are_cells : Df K mg "are_cells" sAC ["program", "thing"] f29 _ := ⟨F29, PySem.W.mg_of X G a29, F29.binds (ps := ["program", "thing"]) fun _ _ _ _ _ _ us hl => match us, hl with | [_, _], _ => rfl⟩
  have F30 := fun_mk (st := sSt) l30 c30 k30
  have D_start_cells : Df K mg "start_cells" sSt ["web", "program", "house"] f30 _ := ⟨F30, PySem.W.mg_of X G a30, F30.binds (ps := ["web", "program", "house"]) fun _ _ _ _ _ _ us hl => match us, hl with | [_, _, _], _ => rfl⟩
  have F31 := fun_mk (st := sCR) l31 c31 k31
  have D_check_round : Df K mg "check_round" sCR ["web", "program", "house", "at", "cells"] f31 _ := ⟨F31, PySem.W.mg_of X G a31, F31.binds (ps := ["web", "program", "house", "at", "cells"]) fun _ _ _ _ _ _ us hl => match us, hl with | [_, _, _, _, _], _ => rfl⟩
  have F32 := fun_mk (st := sSay) l32 c32 k32
  have D_sayings : Df K mg "sayings" sSay ["web", "program", "house", "at", "cells"] f32 _ := ⟨F32, PySem.W.mg_of X G a32, F32.binds (ps := ["web", "program", "house", "at", "cells"]) fun _ _ _ _ _ _ us hl => match us, hl with | [_, _, _, _, _], _ => rfl⟩
  have F33 := fun_mk (st := sNxt) l33 c33 k33
  have D_next_cells : Df K mg "next_cells" sNxt ["web", "program", "house", "at", "cells", "numbers"] f33 _ := ⟨F33, PySem.W.mg_of X G a33, F33.binds (ps := ["web", "program", "house", "at", "cells", "numbers"]) fun _ _ _ _ _ _ us hl => match us, hl with | [_, _, _, _, _, _], _ => rfl⟩
  have F34 := fun_mk (st := sAll) l34 c34 k34
  have D_all_sayings : Df K mg "all_sayings" sAll ["web", "program", "at", "rows"] f34 _ := ⟨F34, PySem.W.mg_of X G a34, F34.binds (ps := ["web", "program", "at", "rows"]) fun _ _ _ _ _ _ us hl => match us, hl with | [_, _, _, _], _ => rfl⟩
  have F35 := fun_mk (st := sSE) l35 c35 k35
  have D_said_to_each : Df K mg "said_to_each" sSE ["web", "said"] f35 _ := ⟨F35, PySem.W.mg_of X G a35, F35.binds (ps := ["web", "said"]) fun _ _ _ _ _ _ us hl => match us, hl with | [_, _], _ => rfl⟩
  have F36 := fun_mk (st := sRB) l36 c36 k36
  have D_rows_behind : Df K mg "rows_behind" sRB ["web", "program", "at", "rows", "said"] f36 _ := ⟨F36, PySem.W.mg_of X G a36, F36.binds (ps := ["web", "program", "at", "rows", "said"]) fun _ _ _ _ _ _ us hl => match us, hl with | [_, _, _, _, _], _ => rfl⟩
  have F37 := fun_mk (st := sRR) l37 c37 k37
  have D_round_by_round : Df K mg "round_by_round" sRR ["web", "program", "rounds"] f37 _ := ⟨F37, PySem.W.mg_of X G a37, F37.binds (ps := ["web", "program", "rounds"]) fun _ _ _ _ _ _ us hl => match us, hl with | [_, _, _], _ => rfl⟩
  have F38 := fun_mk (st := sLk) l38 c38 k38
  have D_lockstep : Df K mg "lockstep" sLk ["web", "program", "rounds"] f38 _ := ⟨F38, PySem.W.mg_of X G a38, F38.binds (ps := ["web", "program", "rounds"]) fun _ _ _ _ _ _ us hl => match us, hl with | [_, _, _], _ => rfl⟩
  have F39 := fun_mk (st := sMS) l39 c39 k39
  have D_many_said : Df K mg "many_said" sMS ["web", "program", "rounds"] f39 _ := ⟨F39, PySem.W.mg_of X G a39, F39.binds (ps := ["web", "program", "rounds"]) fun _ _ _ _ _ _ us hl => match us, hl with | [_, _, _], _ => rfl⟩
  have F40 := fun_mk (st := sHand) l40 c40 k40
  have D__law_hand : Df K mg "_law_hand" sHand ["script"] f40 _ := ⟨F40, PySem.W.mg_of X G a40, F40.binds (ps := ["script"]) fun _ _ _ _ _ _ us hl => match us, hl with | [_], _ => rfl⟩
  have F41 := fun_mk (st := sTake) l41 c41 k41
  have D__law_take : Df K mg "_law_take" sTake ["hand", "many"] f41 _ := ⟨F41, PySem.W.mg_of X G a41, F41.binds (ps := ["hand", "many"]) fun _ _ _ _ _ _ us hl => match us, hl with | [_, _], _ => rfl⟩
  have F42 := fun_mk (st := sPick) l42 c42 k42
  have D__law_pick : Df K mg "_law_pick" sPick ["hand", "things"] f42 _ := ⟨F42, PySem.W.mg_of X G a42, F42.binds (ps := ["hand", "things"]) fun _ _ _ _ _ _ us hl => match us, hl with | [_, _], _ => rfl⟩
  have F43 := fun_mk (st := sInt) l43 c43 k43
  have D__law_is_integer : Df K mg "_law_is_integer" sInt ["thing"] f43 _ := ⟨F43, PySem.W.mg_of X G a43, F43.binds (ps := ["thing"]) fun _ _ _ _ _ _ us hl => match us, hl with | [_], _ => rfl⟩
  have F44 := fun_mk (st := sWithin) l44 c44 k44
  have D__law_is_within : Df K mg "_law_is_within" sWithin ["thing", "least", "most"] f44 _ := ⟨F44, PySem.W.mg_of X G a44, F44.binds (ps := ["thing", "least", "most"]) fun _ _ _ _ _ _ us hl => match us, hl with | [_, _, _], _ => rfl⟩
  have F45 := fun_mk (st := sOdd) l45 c45 k45
  have D__law_odd : Df K mg "_law_odd" sOdd ["hand"] f45 _ := ⟨F45, PySem.W.mg_of X G a45, F45.binds (ps := ["hand"]) fun _ _ _ _ _ _ us hl => match us, hl with | [_], _ => rfl⟩
  have F46 := fun_mk (st := sTies) l46 c46 k46
  have D__law_ties : Df K mg "_law_ties" sTies ["hand", "many"] f46 _ := ⟨F46, PySem.W.mg_of X G a46, F46.binds (ps := ["hand", "many"]) fun _ _ _ _ _ _ us hl => match us, hl with | [_, _], _ => rfl⟩
  have F47 := fun_mk (st := sLSm) l47 c47 k47
  have D__law_is_small : Df K mg "_law_is_small" sLSm ["thing"] f47 _ := ⟨F47, PySem.W.mg_of X G a47, F47.binds (ps := ["thing"]) fun _ _ _ _ _ _ us hl => match us, hl with | [_], _ => rfl⟩
  have F48 := fun_mk (st := sLeaf) l48 c48 k48
  have D__law_leaf : Df K mg "_law_leaf" sLeaf ["hand", "words", "cells"] f48 _ := ⟨F48, PySem.W.mg_of X G a48, F48.binds (ps := ["hand", "words", "cells"]) fun _ _ _ _ _ _ us hl => match us, hl with | [_, _, _], _ => rfl⟩
  have F49 := fun_mk (st := sExpr) l49 c49 k49
  have D__law_expression : Df K mg "_law_expression" sExpr ["hand", "words", "cells", "deep"] f49 _ := ⟨F49, PySem.W.mg_of X G a49, F49.binds (ps := ["hand", "words", "cells", "deep"]) fun _ _ _ _ _ _ us hl => match us, hl with | [_, _, _, _], _ => rfl⟩
  have F50 := fun_mk (st := sWords) l50 c50 k50
  have D__law_words : Df K mg "_law_words" sWords ["which"] f50 _ := ⟨F50, PySem.W.mg_of X G a50, F50.binds (ps := ["which"]) fun _ _ _ _ _ _ us hl => match us, hl with | [_], _ => rfl⟩
  have F51 := fun_mk (st := sPP) l51 c51 k51
  have D__law_program_parts : Df K mg "_law_program_parts" sPP ["hand"] f51 _ := ⟨F51, PySem.W.mg_of X G a51, F51.binds (ps := ["hand"]) fun _ _ _ _ _ _ us hl => match us, hl with | [_], _ => rfl⟩
  have F52 := fun_mk (st := sPO) l52 c52 k52
  have D__law_program_of : Df K mg "_law_program_of" sPO ["parts"] f52 _ := ⟨F52, PySem.W.mg_of X G a52, F52.binds (ps := ["parts"]) fun _ _ _ _ _ _ us hl => match us, hl with | [_], _ => rfl⟩
  have F53 := fun_mk (st := sWord) l53 c53 k53
  have D__law_word : Df K mg "_law_word" sWord ["which", "web", "program", "house", "turn", "cells", "numbers"] f53 _ := ⟨F53, PySem.W.mg_of X G a53, F53.binds (ps := ["which", "web", "program", "house", "turn", "cells", "numbers"]) fun _ _ _ _ _ _ us hl => match us, hl with | [_, _, _, _, _, _, _], _ => rfl⟩
  have F54 := fun_mk (st := sLAS) l54 c54 k54
  have D__law_are_small : Df K mg "_law_are_small" sLAS ["thing", "least", "most"] f54 _ := ⟨F54, PySem.W.mg_of X G a54, F54.binds (ps := ["thing", "least", "most"]) fun _ _ _ _ _ _ us hl => match us, hl with | [_, _, _], _ => rfl⟩
  have F55 := fun_mk (st := sDue) l55 c55 k55
  have D__law_due : Df K mg "_law_due" sDue ["which", "many", "cells_many", "house", "turn", "cells", "numbers"] f55 _ := ⟨F55, PySem.W.mg_of X G a55, F55.binds (ps := ["which", "many", "cells_many", "house", "turn", "cells", "numbers"]) fun _ _ _ _ _ _ us hl => match us, hl with | [_, _, _, _, _, _, _], _ => rfl⟩
  have DD : WDefs K mg := ⟨_, _, D_is_plain_int, _, _, D_is_number_below, _, _, D_is_tie, _, _, D_first_wrong_tie, _, _, D_houses_beside, _, _, D_steps_from⟩
  have DDP : PDefs K mg := ⟨_, _, D_is_plain_int, _, _, D_is_number_below, _, _, D_is_small, _, _, D_begins_well, _, _, D_inner_parts, _, _, D_is_expression, _, _, D_are_expressions⟩
  have RR : RDefs K mg := ⟨_, _, D_brought_back, _, _, D_neighbours, _, _, D_first_view, _, _, D_come_to⟩
  have NN : KDefs K mg := ⟨_, _, D_starts_come_to, _, _, D_sayings_come_to, _, _, D_nexts_come_to, _, _, D_all_sayings, _, _, D_said_to_each, _, _, D_rows_behind, _, _, D_round_by_round⟩
  have SS : SDefs K mg := ⟨_, _, D_is_small, _, _, D_are_smalls, _, _, D_are_cells, _, _, D_check_round, _, _, D_starts_come_to, _, _, D_sayings_come_to, _, _, D_nexts_come_to⟩
  have AA : ADefs K mg := ⟨_, _, D_start_cells, _, _, D_sayings, _, _, D_next_cells, _, _, D_lockstep, _, _, D_many_said⟩
  have EE : LDefs K mg := ⟨_, _, D__law_hand, _, _, D__law_take, _, _, D__law_pick, _, _, D__law_is_integer, _, _, D__law_is_within, _, _, D__law_odd, _, _, D__law_ties, _, _, D__law_is_small, _, _, D__law_leaf, _, _, D__law_expression, _, _, D__law_words, _, _, D__law_program_parts, _, _, D__law_program_of, _, _, D__law_word, _, _, D__law_are_small, _, _, D__law_due⟩
  have OT : ∀ base : Heap, OpsT l.prog w K mg base := fun base => by
    refine ⟨dO, esO, nuO, ⟨oO, kO, lO⟩, PySem.W.mg_of X G gO, fun s hs => ?_⟩
    rcases ops_cases hs with rfl | rfl | rfl | rfl | rfl | rfl | rfl | rfl | rfl | rfl
    · exact ⟨f13, _, po_0, ok_o1 F13 D_brought_back, k13, D_sum_of.b⟩
    · exact ⟨f14, _, po_1, ok_o2 F14 D_brought_back, k14, D_difference_of.b⟩
    · exact ⟨f15, _, po_2, ok_o3 F15 D_brought_back, k15, D_product_of.b⟩
    · exact ⟨f16, _, po_3, ok_o4 F16 B, k16, D_lesser_of.b⟩
    · exact ⟨f17, _, po_4, ok_o5 F17 B, k17, D_greater_of.b⟩
    · exact ⟨f18, _, po_5, ok_o6 F18 , k18, D_is_less.b⟩
    · exact ⟨f19, _, po_6, ok_o7 F19 , k19, D_is_same.b⟩
    · exact ⟨f20, _, po_7, ok_o8 F20 , k20, D_are_both.b⟩
    · exact ⟨f21, _, po_8, ok_o9 F21 , k21, D_is_either.b⟩
    · exact ⟨f22, _, po_9, ok_o10 F22 , k22, D_rest_of.b⟩
  have O3 : Oth3 mg := ⟨PySem.W.mg_none_of X G zn_all, PySem.W.mg_none_of X G zn_sum, ⟨_, PySem.W.mg_of X G cc_MOST_ROUND⟩, ⟨_, PySem.W.mg_of X G cc_MOST_ROUNDS⟩, ⟨_, PySem.W.mg_of X G cc_MOST_SAID⟩⟩
  have Er : Errs l.prog K mg Ceh Ceu Cec Ces feh feu fec fes := ⟨⟨SUeh, PySem.W.mg_of X G xN_eh⟩, ⟨SUeu, PySem.W.mg_of X G xN_eu⟩, ⟨SUec, PySem.W.mg_of X G xN_ec⟩, ⟨SUes, PySem.W.mg_of X G xN_es⟩⟩
  have Kn : Kin K Ceh Ceu Cec Ces := ⟨exm_ot xb_eh xz_eh xy_eh xs_eh, exm_ot xb_eh xz_eh xy_eh xp_eu_eh, exm_ot xb_eu xz_eu xy_eu xs_eu, exm_ot xb_eh xz_eh xy_eh xp_ec_eh, exm_ot xb_eu xz_eu xy_eu xp_ec_eu, exm_ot xb_ec xz_ec xy_ec xs_ec, exm_ot xb_eh xz_eh xy_eh xp_es_eh, exm_ot xb_eu xz_eu xy_eu xp_es_eu, exm_ot xb_ec xz_ec xy_ec xp_es_ec, exm_ot xb_es xz_es xy_es xs_es⟩
  exact ⟨PySem.W.fnOf "law" "law" (defArgs sLaw) (defBody sLaw) (defScope sLaw) .none kV56 dc56 pm56 an56 cd56 ct56, fun s v => .of_eq rfl, fun base _ _ =>
    ok_law (fun_mk (st := sLaw) l56 c56 k56) B OO O3 T ⟨w_mk, w_aM, w_iM, w_kc⟩ FM bM DD TP BT ⟨p_mk, p_aM, p_iM, p_kc⟩ FM0 bM0 DDP RR SS NN AA (OT base) Er Kn EE⟩
theorem walk {l : PySem.W.OpenLaw} {q : Program} {loose : List Str} {XP : (Str → Option Value) → Heap → Prop} {YP : World → Heap → Prop} {d : DefRec} {K : Params → PySem.W.Frag} (hn : l.most = some 63) (hdf : d.params.defaults = [])
    (hY : ∀ (w : World) (h : Heap), YP w h → (K w.params).In h)
    (F : ∀ (w : World) (mg : Str → Option Value) (fa : Addr) (h : Heap), (K w.params).In h → h.Ns mainGlobals mg → mg d.name = some (.ref fa) →
      ∃ fd : FuncData, (∀ (s : Shared) (u : Value), BindsTo s fd ⟨[u], []⟩ [("script", u)]) ∧ ∀ base : Heap, (K w.params).In base → base.Ns mainGlobals mg → FnOk l.prog w (K w.params) mg base CX0 21 fa fd ["script"] (spLaw (K w.params))) :
    PySem.W.WalkO q loose XP YP l.row.toRowW d [] (fun f vs => PySem.call f vs) :=
  L2.walk_of (n := 63) (k := 21) (x := "script") (CX := fun _ => CX0) (sp := fun w => spLaw (K w.params)) hn (by decide) hdf ⟨rfl, by decide, by decide⟩ hY F (fun _ _ a ns hl _ hS => ⟨a, ns, rfl, hS, hl, fun _ => rfl⟩) fun _ _ _ _ _ z => z
end Q
open PySem PySem.W PyProof.Rows in
set_option maxRecDepth 100000 in
set_option maxHeartbeats 0 in
theorem PySem.Challenge.cw_sameround_k09_refusals_of_programs_holds : PySem.Challenge.rw_sameround_k09_refusals_of_programs.Holds := by
  w_on; o_law; k_head; (case hw => w_witness2)
  k_fill
  refine Q.walk (l := PySem.Challenge.rw_sameround_k09_refusals_of_programs) rfl rfl (fun w h Y => PySem.W.kIn_of Y) ?F
  case F =>
    intro w mg fa h KX G hmg
    refine' Q.all_mk KX G hmg ?w_aC ?w_aM ?w_iM ?w_lM ?w_cM ?w_kM ?w_pg ?w_hd ?w_po ?w_sa ?w_mk ?w_kc ?w_aO ?w_n0 ?w_n1 ?w_n2 ?p_aC ?p_aM ?p_iM ?p_lM ?p_cM ?p_kM ?p_pg ?p_hd ?p_po ?p_sa ?p_mk ?p_kc ?aO ?aO1 ?aO2 ?p_n0 ?p_n1 ?p_n2 ?p_n3 ?wN ?wl ?wbm ?wi ?wt ?wk ?wb ?wy ?ws ?wz ?wsa ?wp ?wga ?wgg ?whd ?wf ?wc ?wfk ?gS ?oS ?sS ?vS ?gT ?oT ?sT ?vT ?gN ?oN ?sN ?vN ?gP ?oP ?kP ?lP ?p0_0 ?p0_1 ?p0_2 ?p0_3 ?p0_4 ?p0_5 ?p0_6 ?p0_7 ?p0_8 ?p2_0 ?p2_1 ?p2_2 ?p2_3 ?p2_4 ?p2_5 ?p2_6 ?p2_7 ?p2_8 ?p2_9 ?p3 ?pn_0 ?pn_1 ?pn_2 ?a0 ?l0 ?c0 ?k0 ?a1 ?l1 ?c1 ?k1 ?a2 ?l2 ?c2 ?k2 ?a3 ?l3 ?c3 ?k3 ?a4 ?l4 ?c4 ?k4 ?a5 ?l5 ?c5 ?k5 ?a6 ?l6 ?c6 ?k6 ?a7 ?l7 ?c7 ?k7 ?a8 ?l8 ?c8 ?k8 ?a9 ?l9 ?c9 ?k9 ?a10 ?l10 ?c10 ?k10 ?a11 ?l11 ?c11 ?k11 ?a12 ?l12 ?c12 ?k12 ?a13 ?l13 ?c13 ?k13 ?a14 ?l14 ?c14 ?k14 ?a15 ?l15 ?c15 ?k15 ?a16 ?l16 ?c16 ?k16 ?a17 ?l17 ?c17 ?k17 ?a18 ?l18 ?c18 ?k18 ?a19 ?l19 ?c19 ?k19 ?a20 ?l20 ?c20 ?k20 ?a21 ?l21 ?c21 ?k21 ?a22 ?l22 ?c22 ?k22 ?a23 ?l23 ?c23 ?k23 ?a24 ?l24 ?c24 ?k24 ?a25 ?l25 ?c25 ?k25 ?a26 ?l26 ?c26 ?k26 ?a27 ?l27 ?c27 ?k27 ?a28 ?l28 ?c28 ?k28 ?a29 ?l29 ?c29 ?k29 ?a30 ?l30 ?c30 ?k30 ?a31 ?l31 ?c31 ?k31 ?a32 ?l32 ?c32 ?k32 ?a33 ?l33 ?c33 ?k33 ?a34 ?l34 ?c34 ?k34 ?a35 ?l35 ?c35 ?k35 ?a36 ?l36 ?c36 ?k36 ?a37 ?l37 ?c37 ?k37 ?a38 ?l38 ?c38 ?k38 ?a39 ?l39 ?c39 ?k39 ?a40 ?l40 ?c40 ?k40 ?a41 ?l41 ?c41 ?k41 ?a42 ?l42 ?c42 ?k42 ?a43 ?l43 ?c43 ?k43 ?a44 ?l44 ?c44 ?k44 ?a45 ?l45 ?c45 ?k45 ?a46 ?l46 ?c46 ?k46 ?a47 ?l47 ?c47 ?k47 ?a48 ?l48 ?c48 ?k48 ?a49 ?l49 ?c49 ?k49 ?a50 ?l50 ?c50 ?k50 ?a51 ?l51 ?c51 ?k51 ?a52 ?l52 ?c52 ?k52 ?a53 ?l53 ?c53 ?k53 ?a54 ?l54 ?c54 ?k54 ?a55 ?l55 ?c55 ?k55 ?a56 ?l56 ?c56 ?k56 ?gO ?oO ?kO ?lO ?po_0 ?po_1 ?po_2 ?po_3 ?po_4 ?po_5 ?po_6 ?po_7 ?po_8 ?po_9 ?cc_MOST_ROUND ?cc_MOST_ROUNDS ?cc_MOST_SAID ?xN_eh ?xl_eh ?xi_eh ?xt_eh ?xk_eh ?xb_eh ?xv_eh ?xy_eh ?xm_eh ?xs_eh ?xz_eh ?xsu_eh ?xo_eh ?xf_eh ?xc_eh ?xd_eh ?xe_eh ?xu_eh ?yb_eh ?yv_eh ?yf_eh ?yt_eh ?yl_eh ?xN_eu ?xl_eu ?xi_eu ?xt_eu ?xk_eu ?xb_eu ?xv_eu ?xy_eu ?xm_eu ?xs_eu ?xz_eu ?xsu_eu ?xo_eu ?xf_eu ?xc_eu ?xd_eu ?xe_eu ?xu_eu ?yb_eu ?yv_eu ?yf_eu ?yt_eu ?yl_eu ?xN_ec ?xl_ec ?xi_ec ?xt_ec ?xk_ec ?xb_ec ?xv_ec ?xy_ec ?xm_ec ?xs_ec ?xz_ec ?xsu_ec ?xo_ec ?xf_ec ?xc_ec ?xd_ec ?xe_ec ?xu_ec ?yb_ec ?yv_ec ?yf_ec ?yt_ec ?yl_ec ?xN_es ?xl_es ?xi_es ?xt_es ?xk_es ?xb_es ?xv_es ?xy_es ?xm_es ?xs_es ?xz_es ?xsu_es ?xo_es ?xf_es ?xc_es ?xd_es ?xe_es ?xu_es ?yb_es ?yv_es ?yf_es ?yt_es ?yl_es ?xp_eu_eh ?xp_ec_eh ?xp_ec_eu ?xp_es_eh ?xp_es_eu ?xp_es_ec ?zn_str ?zn_all ?zn_zip ?zn_sum ?z_len ?z_int ?z_list ?z_range ?z_min ?z_max ?z_tuple ?z_sorted ?z_set ?z_isinstance ?z_enumerate ?z_bool
    (case w_aC => k_is)
    (case w_aM => k_is)
    (case w_iM => k_is)
    (case w_lM => k_is)
    (case w_cM => k_is)
    (case w_kM => k_is)
    (case w_pg => k_is)
    (case w_hd => k_is)
    (case w_po => k_is)
    (case w_sa => k_is)
    (case w_mk => k_is)
    (case w_kc => k_is)
    (case w_aO => k_is)
    (case w_n0 => k_is)
    (case w_n1 => k_is)
    (case w_n2 => k_is)
    (case p_aC => k_is)
    (case p_aM => k_is)
    (case p_iM => k_is)
    (case p_lM => k_is)
    (case p_cM => k_is)
    (case p_kM => k_is)
    (case p_pg => k_is)
    (case p_hd => k_is)
    (case p_po => k_is)
    (case p_sa => k_is)
    (case p_mk => k_is)
    (case p_kc => k_is)
    (case aO => k_is)
    (case aO1 => k_is)
    (case aO2 => k_is)
    (case p_n0 => k_is)
    (case p_n1 => k_is)
    (case p_n2 => k_is)
    (case p_n3 => k_is)
    (case wN => k_is)
    (case wl => k_is)
    (case wbm => decide +kernel)
    (case wi => k_is)
    (case wt => k_is)
    (case wk => k_is)
    (case wb => k_is)
    (case wy => k_is)
    (case ws => k_is)
    (case wz => k_is)
    (case wsa => k_is)
    (case wp => k_is)
    (case wga => k_is)
    (case wgg => k_is)
    (case whd => k_is)
    (case wf => k_is)
    (case wc => k_is)
    (case wfk => k_is)
    (case gS => k_is)
    (case oS => k_is)
    (case sS => decide)
    (case vS => (repeat (first | exact .nil | refine .cons ⟨_, rfl⟩ ?_)))
    (case gT => k_is)
    (case oT => k_is)
    (case sT => decide)
    (case vT => (repeat (first | exact .nil | refine .cons ⟨_, rfl⟩ ?_)))
    (case gN => k_is)
    (case oN => k_is)
    (case sN => decide)
    (case vN => (repeat (first | exact .nil | refine .cons ⟨_, rfl⟩ ?_)))
    (case gP => k_is)
    (case oP => k_is)
    (case kP => (repeat (first | exact trivial | refine ⟨⟨_, _, rfl, rfl⟩, ?_⟩)))
    (case lP => decide +kernel)
    (case p0_0 => k_is)
    (case p0_1 => k_is)
    (case p0_2 => k_is)
    (case p0_3 => k_is)
    (case p0_4 => k_is)
    (case p0_5 => k_is)
    (case p0_6 => k_is)
    (case p0_7 => k_is)
    (case p0_8 => k_is)
    (case p2_0 => k_is)
    (case p2_1 => k_is)
    (case p2_2 => k_is)
    (case p2_3 => k_is)
    (case p2_4 => k_is)
    (case p2_5 => k_is)
    (case p2_6 => k_is)
    (case p2_7 => k_is)
    (case p2_8 => k_is)
    (case p2_9 => k_is)
    (case p3 => k_is)
    (case pn_0 => k_is)
    (case pn_1 => k_is)
    (case pn_2 => k_is)
    (case a0 => k_is)
    (case l0 => k_is)
    (case c0 => k_is)
    (case k0 => k_is)
    (case a1 => k_is)
    (case l1 => k_is)
    (case c1 => k_is)
    (case k1 => k_is)
    (case a2 => k_is)
    (case l2 => k_is)
    (case c2 => k_is)
    (case k2 => k_is)
    (case a3 => k_is)
    (case l3 => k_is)
    (case c3 => k_is)
    (case k3 => k_is)
    (case a4 => k_is)
    (case l4 => k_is)
    (case c4 => k_is)
    (case k4 => k_is)
    (case a5 => k_is)
    (case l5 => k_is)
    (case c5 => k_is)
    (case k5 => k_is)
    (case a6 => k_is)
    (case l6 => k_is)
    (case c6 => k_is)
    (case k6 => k_is)
    (case a7 => k_is)
    (case l7 => k_is)
    (case c7 => k_is)
    (case k7 => k_is)
    (case a8 => k_is)
    (case l8 => k_is)
    (case c8 => k_is)
    (case k8 => k_is)
    (case a9 => k_is)
    (case l9 => k_is)
    (case c9 => k_is)
    (case k9 => k_is)
    (case a10 => k_is)
    (case l10 => k_is)
    (case c10 => k_is)
    (case k10 => k_is)
    (case a11 => k_is)
    (case l11 => k_is)
    (case c11 => k_is)
    (case k11 => k_is)
    (case a12 => k_is)
    (case l12 => k_is)
    (case c12 => k_is)
    (case k12 => k_is)
    (case a13 => k_is)
    (case l13 => k_is)
    (case c13 => k_is)
    (case k13 => k_is)
    (case a14 => k_is)
    (case l14 => k_is)
    (case c14 => k_is)
    (case k14 => k_is)
    (case a15 => k_is)
    (case l15 => k_is)
    (case c15 => k_is)
    (case k15 => k_is)
    (case a16 => k_is)
    (case l16 => k_is)
    (case c16 => k_is)
    (case k16 => k_is)
    (case a17 => k_is)
    (case l17 => k_is)
    (case c17 => k_is)
    (case k17 => k_is)
    (case a18 => k_is)
    (case l18 => k_is)
    (case c18 => k_is)
    (case k18 => k_is)
    (case a19 => k_is)
    (case l19 => k_is)
    (case c19 => k_is)
    (case k19 => k_is)
    (case a20 => k_is)
    (case l20 => k_is)
    (case c20 => k_is)
    (case k20 => k_is)
    (case a21 => k_is)
    (case l21 => k_is)
    (case c21 => k_is)
    (case k21 => k_is)
    (case a22 => k_is)
    (case l22 => k_is)
    (case c22 => k_is)
    (case k22 => k_is)
    (case a23 => k_is)
    (case l23 => k_is)
    (case c23 => k_is)
    (case k23 => k_is)
    (case a24 => k_is)
    (case l24 => k_is)
    (case c24 => k_is)
    (case k24 => k_is)
    (case a25 => k_is)
    (case l25 => k_is)
    (case c25 => k_is)
    (case k25 => k_is)
    (case a26 => k_is)
    (case l26 => k_is)
    (case c26 => k_is)
    (case k26 => k_is)
    (case a27 => k_is)
    (case l27 => k_is)
    (case c27 => k_is)
    (case k27 => k_is)
    (case a28 => k_is)
    (case l28 => k_is)
    (case c28 => k_is)
    (case k28 => k_is)
    (case a29 => k_is)
    (case l29 => k_is)
    (case c29 => k_is)
    (case k29 => k_is)
    (case a30 => k_is)
    (case l30 => k_is)
    (case c30 => k_is)
    (case k30 => k_is)
    (case a31 => k_is)
    (case l31 => k_is)
    (case c31 => k_is)
    (case k31 => k_is)
    (case a32 => k_is)
    (case l32 => k_is)
    (case c32 => k_is)
    (case k32 => k_is)
    (case a33 => k_is)
    (case l33 => k_is)
    (case c33 => k_is)
    (case k33 => k_is)
    (case a34 => k_is)
    (case l34 => k_is)
    (case c34 => k_is)
    (case k34 => k_is)
    (case a35 => k_is)
    (case l35 => k_is)
    (case c35 => k_is)
    (case k35 => k_is)
    (case a36 => k_is)
    (case l36 => k_is)
    (case c36 => k_is)
    (case k36 => k_is)
    (case a37 => k_is)
    (case l37 => k_is)
    (case c37 => k_is)
    (case k37 => k_is)
    (case a38 => k_is)
    (case l38 => k_is)
    (case c38 => k_is)
    (case k38 => k_is)
    (case a39 => k_is)
    (case l39 => k_is)
    (case c39 => k_is)
    (case k39 => k_is)
    (case a40 => k_is)
    (case l40 => k_is)
    (case c40 => k_is)
    (case k40 => k_is)
    (case a41 => k_is)
    (case l41 => k_is)
    (case c41 => k_is)
    (case k41 => k_is)
    (case a42 => k_is)
    (case l42 => k_is)
    (case c42 => k_is)
    (case k42 => k_is)
    (case a43 => k_is)
    (case l43 => k_is)
    (case c43 => k_is)
    (case k43 => k_is)
    (case a44 => k_is)
    (case l44 => k_is)
    (case c44 => k_is)
    (case k44 => k_is)
    (case a45 => k_is)
    (case l45 => k_is)
    (case c45 => k_is)
    (case k45 => k_is)
    (case a46 => k_is)
    (case l46 => k_is)
    (case c46 => k_is)
    (case k46 => k_is)
    (case a47 => k_is)
    (case l47 => k_is)
    (case c47 => k_is)
    (case k47 => k_is)
    (case a48 => k_is)
    (case l48 => k_is)
    (case c48 => k_is)
    (case k48 => k_is)
    (case a49 => k_is)
    (case l49 => k_is)
    (case c49 => k_is)
    (case k49 => k_is)
    (case a50 => k_is)
    (case l50 => k_is)
    (case c50 => k_is)
    (case k50 => k_is)
    (case a51 => k_is)
    (case l51 => k_is)
    (case c51 => k_is)
    (case k51 => k_is)
    (case a52 => k_is)
    (case l52 => k_is)
    (case c52 => k_is)
    (case k52 => k_is)
    (case a53 => k_is)
    (case l53 => k_is)
    (case c53 => k_is)
    (case k53 => k_is)
    (case a54 => k_is)
    (case l54 => k_is)
    (case c54 => k_is)
    (case k54 => k_is)
    (case a55 => k_is)
    (case l55 => k_is)
    (case c55 => k_is)
    (case k55 => k_is)
    (case a56 => k_is)
    (case l56 => k_is)
    (case c56 => k_is)
    (case k56 => k_is)
    (case gO => k_is)
    (case oO => k_is)
    (case kO => (repeat (first | exact trivial | refine ⟨⟨_, _, rfl, rfl⟩, ?_⟩)))
    (case lO => decide +kernel)
    (case po_0 => k_is)
    (case po_1 => k_is)
    (case po_2 => k_is)
    (case po_3 => k_is)
    (case po_4 => k_is)
    (case po_5 => k_is)
    (case po_6 => k_is)
    (case po_7 => k_is)
    (case po_8 => k_is)
    (case po_9 => k_is)
    (case cc_MOST_ROUND => k_is)
    (case cc_MOST_ROUNDS => k_is)
    (case cc_MOST_SAID => k_is)
    (case xN_eh => k_is)
    (case xl_eh => k_is)
    (case xi_eh => k_is)
    (case xt_eh => k_is)
    (case xk_eh => k_is)
    (case xb_eh => k_is)
    (case xv_eh => k_is)
    (case xy_eh => k_is)
    (case xm_eh => k_is)
    (case xs_eh => k_is)
    (case xz_eh => k_is)
    (case xsu_eh => k_is)
    (case xo_eh => k_is)
    (case xf_eh => k_is)
    (case xc_eh => k_is)
    (case xd_eh => k_is)
    (case xe_eh => k_is)
    (case xu_eh => ks_is)
    (case yb_eh => decide +kernel)
    (case yv_eh => rfl)
    (case yf_eh => decide +kernel)
    (case yt_eh => decide +kernel)
    (case yl_eh => decide +kernel)
    (case xN_eu => k_is)
    (case xl_eu => k_is)
    (case xi_eu => k_is)
    (case xt_eu => k_is)
    (case xk_eu => k_is)
    (case xb_eu => k_is)
    (case xv_eu => k_is)
    (case xy_eu => k_is)
    (case xm_eu => k_is)
    (case xs_eu => k_is)
    (case xz_eu => k_is)
    (case xsu_eu => k_is)
    (case xo_eu => k_is)
    (case xf_eu => k_is)
    (case xc_eu => k_is)
    (case xd_eu => k_is)
    (case xe_eu => k_is)
    (case xu_eu => ks_is)
    (case yb_eu => decide +kernel)
    (case yv_eu => rfl)
    (case yf_eu => decide +kernel)
    (case yt_eu => decide +kernel)
    (case yl_eu => decide +kernel)
    (case xN_ec => k_is)
    (case xl_ec => k_is)
    (case xi_ec => k_is)
    (case xt_ec => k_is)
    (case xk_ec => k_is)
    (case xb_ec => k_is)
    (case xv_ec => k_is)
    (case xy_ec => k_is)
    (case xm_ec => k_is)
    (case xs_ec => k_is)
    (case xz_ec => k_is)
    (case xsu_ec => k_is)
    (case xo_ec => k_is)
    (case xf_ec => k_is)
    (case xc_ec => k_is)
    (case xd_ec => k_is)
    (case xe_ec => k_is)
    (case xu_ec => ks_is)
    (case yb_ec => decide +kernel)
    (case yv_ec => rfl)
    (case yf_ec => decide +kernel)
    (case yt_ec => decide +kernel)
    (case yl_ec => decide +kernel)
    (case xN_es => k_is)
    (case xl_es => k_is)
    (case xi_es => k_is)
    (case xt_es => k_is)
    (case xk_es => k_is)
    (case xb_es => k_is)
    (case xv_es => k_is)
    (case xy_es => k_is)
    (case xm_es => k_is)
    (case xs_es => k_is)
    (case xz_es => k_is)
    (case xsu_es => k_is)
    (case xo_es => k_is)
    (case xf_es => k_is)
    (case xc_es => k_is)
    (case xd_es => k_is)
    (case xe_es => k_is)
    (case xu_es => ks_is)
    (case yb_es => decide +kernel)
    (case yv_es => rfl)
    (case yf_es => decide +kernel)
    (case yt_es => decide +kernel)
    (case yl_es => decide +kernel)
    (case xp_eu_eh => k_is)
    (case xp_ec_eh => k_is)
    (case xp_ec_eu => k_is)
    (case xp_es_eh => k_is)
    (case xp_es_eu => k_is)
    (case xp_es_ec => k_is)
    (case zn_str => k_is)
    (case zn_all => k_is)
    (case zn_zip => k_is)
    (case zn_sum => k_is)
    (case z_len => k_is)
    (case z_int => k_is)
    (case z_list => k_is)
    (case z_range => k_is)
    (case z_min => k_is)
    (case z_max => k_is)
    (case z_tuple => k_is)
    (case z_sorted => k_is)
    (case z_set => k_is)
    (case z_isinstance => k_is)
    (case z_enumerate => k_is)
    (case z_bool => k_is)

