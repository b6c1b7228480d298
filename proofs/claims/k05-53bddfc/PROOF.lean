import PyProof.Rows.All
import Wide.All
import OpenK.AllK
import Wide.FinOn
import HandS.ForMost
import HandS.Codes
import HandS.TupSets
import HandS.TupLe
import HandS.IsInst
import HandS.SortInts
import HandS.ForExc
import HandS.ExcInit
import HandS.ExcField
import HandS.TryMany
import HandS.Zip
import HandS.TupAny
import HandS.OwnEq
import KE.GoesMore
import PyProof.Draws
import PyProof.EnumMake
import PyProof.P3In
import PySem.Challenge.RW_sameround_k05_whole_programs_judged
set_option Elab.async false
set_option linter.all false
set_option maxRecDepth 100000
set_option maxHeartbeats 4000000
namespace Q
open PySem L2
def top (i : Nat) : Stmt := PySem.Challenge.pw_sameround_k05_whole_programs_judged.main.body.getD i (.Pass ⟨0, 0, 0, 0⟩)
abbrev sHand : Stmt := top 21
abbrev sTake : Stmt := top 22
abbrev sPick : Stmt := top 23
/-- what the built-in names still are -/
structure Bts (mg : Str → Option Value) : Prop where
  len : mg "len" = none
  int : mg "int" = none
  list : mg "list" = none
  range : mg "range" = none
  min : mg "min" = none
  max : mg "max" = none
  tuple : mg "tuple" = none
  sorted : mg "sorted" = none
  set : mg "set" = none
  isinstance : mg "isinstance" = none
  enumerate : mg "enumerate" = none
  bool : mg "bool" = none

def HL (l : Addr) (i : Nat) (r s c : Int) : List V := [.ref l, .int (i : Int), .int r, .int s, .int c]
/-- the drawing hand at p -/
structure HandX (H : Hp) (p l : Addr) (ns : List Int) (i : Nat) (r s c : Int) : Prop where
  at_ : H p = some (.lst (HL l i r s c))
  lst : H l = some (.lst (ns.map V.int))
  len : ns.length ≤ 63
  r0 : 0 ≤ r
  s0 : 0 ≤ s
  s1 : s < 2147483647
def HandAt (H : Hp) (p l : Addr) : Prop := ∃ ns i r s c, HandX H p l ns i r s c
/-- nothing is otherwise but at p -/
def But (p : Addr) (H H' : Hp) : Prop := ∀ b, b ≠ p → H' b = H b
theorem But.rfl' {p : Addr} {H : Hp} : But p H H := fun _ _ => rfl
theorem But.upd {p : Addr} {H H' : Hp} {o : HO} (h : But p H H') : But p H (upd H' p o) := fun b hb => by rw [upd_ne hb]; exact h b hb
theorem But.trans {p : Addr} {H H1 H2 : Hp} (h : But p H H1) (g : But p H1 H2) : But p H H2 := fun b hb => (g b hb).trans (h b hb)
theorem HandX.np {H : Hp} {p l : Addr} {ns : List Int} {i : Nat} {r s c : Int} (h : HandX H p l ns i r s c) : l ≠ p := fun e => by
  have h1 := h.at_
  rw [← e, h.lst] at h1
  have h2 := HO.lst.inj (Option.some.inj h1)
  cases ns with
  | nil => exact absurd h2 (by simp [HL])
  | cons a t =>
    rw [List.map_cons] at h2
    exact V.noConfusion (List.cons.inj h2).1
theorem HandX.put {H H' : Hp} {p l : Addr} {ns : List Int} {i i' : Nat} {r s c r' s' c' : Int} (h : HandX H p l ns i r s c) (e : H' p = some (.lst (HL l i' r' s' c'))) (b : But p H H') (h0 : 0 ≤ r') (h1 : 0 ≤ s') (h2 : s' < 2147483647) : HandX H' p l ns i' r' s' c' :=
  ⟨e, by rw [b l h.np]; exact h.lst, h.len, h0, h1, h2⟩
def spHand (K : PySem.W.Frag) : Sp := fun vs H Q _ => ∃ (a : Addr) (ns : List Int), vs = [.ref a] ∧ SqL K H a (ns.map V.int) ∧ ns.length ≤ 63 ∧
  ∀ (p l : Addr) (H' : Hp), HandAt H' p l → H p = none → H l = none → Same H H' → Q (.ref p) H'
def spTake : Sp := fun vs H Q _ => ∃ (p l : Addr) (m : Int), vs = [.ref p, .int m] ∧ HandAt H p l ∧ 0 < m ∧ m < 1073741824 ∧ ∀ (d : Int) (H' : Hp), 0 ≤ d → d < m → HandAt H' p l → But p H H' → Q (.int d) H'
section
variable {P : Program} {w : World} {K : PySem.W.Frag} {mg : Str → Option Value} {base : Heap}
theorem scHand : FnScope ["script"] ["script"] (defScope sHand) := ⟨rfl, rfl, rfl, by decide +kernel, rfl, by decide +kernel, by decide +kernel⟩
theorem ok_hand {f : Addr} {fd : FuncData} (F : Fun K "_law_hand" "_law_hand" sHand f fd) (B : Bts mg) : FnOk P w K mg base CX0 1 f fd ["script"] (spHand K) := by
  refine F.ok scHand (fun vs H Q E h => ?_) (fun cdv A outer s H vs Q E hr h => ?_)
  · obtain ⟨a, ns, rfl, _⟩ := h
    rfl
  · obtain ⟨a, ns, rfl, hS, hlen, k⟩ := h
    refine ⟨_, pss_one (ps_ret (pe_lst (pa_cons (pe_callTy call_list_of (by rfl) B.list PyProof.Rows.boot_list (pa_cons (pv 0) pa_nil)) (pa_cons pe_int (pa_cons pe_int (pa_cons pe_int (pa_cons pe_int pa_nil))))))), ?_⟩
    refine ⟨_, rfl, a, _, rfl, .inl hS, fun l hl => ?_⟩
    refine ⟨(by show 5 ≤ sizeLine; decide), fun p hp => ?_⟩
    have npl : p ≠ l := fun e => by rw [e, upd_same] at hp; cases hp
    rw [upd_ne npl] at hp
    refine k p l _ ⟨ns, 0, 0, 1, 0, upd_same, ?_, hlen, by decide, by decide, by decide⟩ hp hl fun b o e => ?_
    · rw [upd_ne npl.symm, upd_same]
    · rw [upd_ne (ne_of_none e hp), upd_ne (ne_of_none e hl)]
      exact e
theorem scTake : FnScope ["hand", "many", "cell", "found", "number"] ["hand", "many"] (defScope sTake) := ⟨rfl, rfl, rfl, by decide +kernel, rfl, by decide +kernel, by decide +kernel⟩
theorem ok_take {f : Addr} {fd : FuncData} (F : Fun K "_law_take" "_law_take" sTake f fd) (B : Bts mg) : FnOk P w K mg base CX0 1 f fd ["hand", "many"] spTake := by
  refine F.ok scTake (fun vs H Q E h => ?_) (fun cdv A outer s H vs Q E hr h => ?_)
  · obtain ⟨p, l, m, rfl, _⟩ := h
    rfl
  · obtain ⟨p, l, m, rfl, ⟨ns, i, r, s, c, hx⟩, hm0, hm1, k⟩ := h
    have nd := scTake.nd
    refine ⟨_, pss_cons (ps_asg (pe_op op_add (pe_ix ix_list (pv 0) pe_int (fun _ _ => rfl)) pe_int) (pg_sub (pv 0) pe_int set_list))
      (C8.pss_cut (ps_if (PW.pt (pw_and (pt_cmpR op_eq (pe_ix ix_list (pv 0) pe_int (fun _ _ => rfl)) pe_int (nomark _))
            (pw_and1 (pt_cmpR op_lt (pe_ix ix_list (pv 0) pe_int (fun _ _ => rfl)) (pe_callB call_len_seq (by rfl) B.len PySem.boot_len (pa_cons (pe_ix ix_list (pv 0) pe_int (fun _ _ => rfl)) pa_nil)) (nomark _)))))
          (pss_cons (ps_set (i := 2) nd rfl (.inl rfl) (pe_callTy call_int1 (by rfl) B.int PyProof.Rows.boot_int (pa_cons (pe_ix ix_list (pe_ix ix_list (pv 0) pe_int (fun _ _ => rfl)) (pe_ix ix_list (pv 0) pe_int (fun _ _ => rfl)) (fun _ _ => rfl)) pa_nil)))
          (pss_cons (ps_asg (pe_op op_add (pe_ix ix_list (pv 0) pe_int (fun _ _ => rfl)) pe_int) (pg_sub (pv 0) pe_int set_list))
          (pss_one (ps_if (pt_cmpR op_ge (pv 2) (pe_op op_pow pe_int pe_int) (nomark _))
            (pss_one (ps_asg (pv 2) (pg_sub (pv 0) pe_int set_list)))
            (pss_one (ps_asg (pe_op op_mod (pe_callTy call_int1 (by rfl) B.int PyProof.Rows.boot_int (pa_cons (pe_op op_add (pe_op op_add (pe_op op_mul (pe_ix ix_list (pv 0) pe_int (fun _ _ => rfl)) pe_int) (pe_op op_mod (pe_callTy call_int1 (by rfl) B.int PyProof.Rows.boot_int (pa_cons (pv 2) pa_nil)) pe_int)) pe_int) pa_nil)) pe_int) (pg_sub (pv 0) pe_int set_list)))))))
          pss_nil)
      (pss_cons (ps_if (pt_cmpR op_gt (pe_ix ix_list (pv 0) pe_int (fun _ _ => rfl)) pe_int (nomark _))
          (pss_cons (ps_set (i := 3) nd rfl (.inl rfl) (pe_op op_mod (pe_callTy call_int1 (by rfl) B.int PyProof.Rows.boot_int (pa_cons (pe_ix ix_list (pv 0) pe_int (fun _ _ => rfl)) pa_nil)) (pv 1)))
          (pss_cons (ps_asg (pe_op op_fdiv (pe_callTy call_int1 (by rfl) B.int PyProof.Rows.boot_int (pa_cons (pe_ix ix_list (pv 0) pe_int (fun _ _ => rfl)) pa_nil)) (pv 1)) (pg_sub (pv 0) pe_int set_list))
          (pss_one (ps_ret (pv 3)))))
          pss_nil)
      (pss_cons (ps_asg (pe_op op_mod (pe_callTy call_int1 (by rfl) B.int PyProof.Rows.boot_int (pa_cons (pe_op op_add (pe_op op_mul (pe_ix ix_list (pv 0) pe_int (fun _ _ => rfl)) pe_int) (pe_op op_mul pe_int (pe_ix ix_list (pv 0) pe_int (fun _ _ => rfl)))) pa_nil)) pe_int) (pg_sub (pv 0) pe_int set_list))
      (pss_cons (ps_set (i := 4) nd rfl (.inl rfl) (pe_op op_mod (pe_callTy call_int1 (by rfl) B.int PyProof.Rows.boot_int (pa_cons (pe_op op_mul (pe_ix ix_list (pv 0) pe_int (fun _ _ => rfl)) (pe_op op_add (pe_op op_fdiv (pe_ix ix_list (pv 0) pe_int (fun _ _ => rfl)) pe_int) pe_int)) pa_nil)) pe_int))
      (pss_cons (ps_set (i := 4) nd rfl (.inl rfl) (pe_op op_mod (pe_callTy call_int1 (by rfl) B.int PyProof.Rows.boot_int (pa_cons (pe_op op_mul (pv 4) (pe_op op_add (pe_op op_fdiv (pv 4) pe_int) pe_int)) pa_nil)) pe_int))
      (pss_one (ps_ret (pe_op op_mod (pe_callTy call_int1 (by rfl) B.int PyProof.Rows.boot_int (pa_cons (pe_op op_fdiv (pv 4) pe_int) pa_nil)) (pv 1))))))))), ?_⟩
    -- hand[4] = hand[4] + 1
    refine ⟨_, rfl, p, _, 4, _, rfl, rfl, SqL.of hx.at_, rfl, _, _, rfl, rfl, _, rfl, p, _, 4, 4, rfl, rfl, hx.at_, rfl, ?_⟩
    have b1 : But p H (upd H p (.lst (HL l i r s (c + 1)))) := But.rfl'.upd
    have x1 : HandX (upd H p (.lst (HL l i r s (c + 1)))) p l ns i r s (c + 1) := hx.put upd_same b1 hx.r0 hx.s0 hx.s1
    show C8.tCut _ _ _ _ (upd H p (.lst (HL l i r s (c + 1))))
    revert b1 x1
    generalize upd H p (.lst (HL l i r s (c + 1))) = H1
    intro b1 x1
    refine ⟨fun σ H2 => ∃ x2 i r s c, σ = [some (.ref p), some (.int m), x2, none, none] ∧ HandX H2 p l ns i r s c ∧ But p H H2, ?_, ?_⟩
    · refine ⟨_, rfl, p, _, 2, _, rfl, rfl, SqL.of x1.at_, rfl, rfl, _, rfl, ?_⟩
      refine ite2 (fun _ => ?_) (fun _ => ?_)
      · refine ⟨_, rfl, p, _, 1, _, rfl, rfl, SqL.of x1.at_, rfl, _, rfl, p, _, 0, _, rfl, rfl, SqL.of x1.at_, rfl, l, _, rfl, .inl (SqL.of x1.lst), _, _, rfl, rfl, _, rfl, ?_⟩
        refine ite2 (fun c2 => ?_) (fun _ => ?_)
        · -- cell = int(hand[0][hand[1]])
          have hi : i < ns.length := by
            have z := of_decide_eq_true c2
            rw [List.length_map] at z
            omega
          have hg : atI (ns.map V.int) (i : Int) = some (V.int ns[i]) := atI_nat (by rw [List.getElem?_map, List.getElem?_eq_getElem hi]; rfl)
          refine ⟨_, rfl, p, _, 0, _, rfl, rfl, SqL.of x1.at_, rfl, _, rfl, p, _, 1, _, rfl, rfl, SqL.of x1.at_, rfl, l, _, _, _, rfl, rfl, SqL.of x1.lst, hg, .inl ⟨_, rfl, ?_⟩⟩
          -- hand[1] = hand[1] + 1
          refine ⟨_, rfl, p, _, 1, _, rfl, rfl, SqL.of x1.at_, rfl, _, _, rfl, rfl, _, rfl, p, _, 1, 1, rfl, rfl, x1.at_, rfl, ?_⟩
          have e1 : ((i : Int) + 1) = ((i + 1 : Nat) : Int) := by omega
          have b2 : But p H (upd H1 p (.lst (HL l (i + 1) r s (c + 1)))) := b1.upd
          have x2 : HandX (upd H1 p (.lst (HL l (i + 1) r s (c + 1)))) p l ns (i + 1) r s (c + 1) := x1.put upd_same But.rfl'.upd x1.r0 x1.s0 x1.s1
          have eH : upd H1 p (.lst ((HL l i r s (c + 1)).set 1 (V.int ((i : Int) + 1)))) = upd H1 p (.lst (HL l (i + 1) r s (c + 1))) := by
            rw [e1]
            rfl
          rw [eH]
          revert b2 x2
          generalize upd H1 p (.lst (HL l (i + 1) r s (c + 1))) = H2
          intro b2 x2
          refine ⟨_, rfl, _, _, rfl, rfl, ⟨by decide, by decide, by decide⟩, _, _, rfl, rfl, _, rfl, ?_⟩
          refine ite2 (fun c3 => ?_) (fun _ => ?_)
          · refine ⟨_, rfl, _, rfl, p, _, 2, 2, rfl, rfl, x2.at_, rfl, ?_⟩
            refine ⟨_, i + 1, ns[i], s, c + 1, rfl, x2.put upd_same But.rfl'.upd ?_ x2.s0 x2.s1, b2.upd⟩
            have z := of_decide_eq_true c3
            refine Int.le_trans ?_ z
            decide
          · refine ⟨_, rfl, p, _, 3, _, rfl, rfl, SqL.of x2.at_, rfl, _, _, rfl, rfl, .inr ⟨by decide, by decide⟩, _, rfl, .inl ⟨_, rfl, ?_⟩⟩
            refine ⟨_, _, rfl, rfl, (by decide : (0 : Int) < 2147483647), _, _, rfl, rfl, _, _, rfl, rfl, .inl ⟨_, rfl, ?_⟩⟩
            refine ⟨_, _, rfl, rfl, (by decide : (0 : Int) < 2147483647), _, rfl, p, _, 3, 3, rfl, rfl, x2.at_, rfl, ?_⟩
            exact ⟨_, i + 1, r, _, c + 1, rfl, x2.put upd_same But.rfl'.upd x2.r0 (Int.emod_nonneg _ (by decide)) (Int.emod_lt_of_pos _ (by decide)), b2.upd⟩
        · exact ⟨_, i, r, s, c + 1, rfl, x1, b1⟩
      · exact ⟨_, i, r, s, c + 1, rfl, x1, b1⟩
    · rintro σ H2 ⟨x2, i, r, s, c, rfl, y1, c1⟩
      refine ⟨_, rfl, p, _, 2, _, rfl, rfl, SqL.of y1.at_, rfl, _, _, rfl, rfl, _, rfl, ?_⟩
      refine ite2 (fun _ => ?_) (fun _ => ?_)
      · -- found = int(hand[2]) % many; hand[2] = int(hand[2]) // many; return found
        refine ⟨_, rfl, p, _, 2, _, rfl, rfl, SqL.of y1.at_, rfl, .inl ⟨_, rfl, ?_⟩⟩
        refine ⟨_, rfl, _, _, rfl, rfl, hm0, ?_⟩
        refine ⟨_, rfl, p, _, 2, _, rfl, rfl, SqL.of y1.at_, rfl, .inl ⟨_, rfl, ?_⟩⟩
        refine ⟨_, rfl, _, _, rfl, rfl, ⟨hm0, hm1⟩, _, rfl, p, _, 2, 2, rfl, rfl, y1.at_, rfl, ?_⟩
        refine ⟨_, rfl, k _ _ (Int.emod_nonneg _ (by omega)) (Int.emod_lt_of_pos _ hm0) ⟨ns, i, _, s, c, y1.put upd_same But.rfl'.upd (Int.ediv_nonneg y1.r0 (by omega)) y1.s0 y1.s1⟩ c1.upd⟩
      · -- hand[3] = int(hand[3] * 69621 + 7919 * hand[4]) % 2147483647
        refine ⟨_, rfl, p, _, 3, _, rfl, rfl, SqL.of y1.at_, rfl, _, _, rfl, rfl, .inr ⟨by decide, by decide⟩, _, rfl, p, _, 4, _, rfl, rfl, SqL.of y1.at_, rfl, _, _, rfl, rfl, .inl ⟨by decide, by decide⟩, _, _, rfl, rfl, .inl ⟨_, rfl, ?_⟩⟩
        refine ⟨_, _, rfl, rfl, (by decide : (0 : Int) < 2147483647), _, rfl, p, _, 3, 3, rfl, rfl, y1.at_, rfl, ?_⟩
        have z0 : 0 ≤ (s * 69621 + 7919 * c) % 2147483647 := Int.emod_nonneg _ (by decide)
        have z1 : (s * 69621 + 7919 * c) % 2147483647 < 2147483647 := Int.emod_lt_of_pos _ (by decide)
        have b2 : But p H (upd H2 p (.lst (HL l i r ((s * 69621 + 7919 * c) % 2147483647) c))) := c1.upd
        have y2 : HandX (upd H2 p (.lst (HL l i r ((s * 69621 + 7919 * c) % 2147483647) c))) p l ns i r ((s * 69621 + 7919 * c) % 2147483647) c := y1.put upd_same But.rfl'.upd y1.r0 z0 z1
        show tSeq _ _ _ _ (upd H2 p (.lst (HL l i r ((s * 69621 + 7919 * c) % 2147483647) c)))
        revert b2 y2
        generalize upd H2 p (.lst (HL l i r ((s * 69621 + 7919 * c) % 2147483647) c)) = H3
        revert z0 z1
        generalize (s * 69621 + 7919 * c) % 2147483647 = s2
        intro z0 z1 b2 y2
        refine ⟨_, rfl, p, _, 3, _, rfl, rfl, SqL.of y2.at_, rfl, _, rfl, p, _, 3, _, rfl, rfl, SqL.of y2.at_, rfl, _, _, rfl, rfl, ⟨by decide, by decide⟩, _, _, rfl, rfl, _, _, rfl, rfl, .inl ⟨by omega, by omega⟩, .inl ⟨_, rfl, ?_⟩⟩
        refine ⟨_, _, rfl, rfl, (by decide : (0 : Int) < 2147483647), ?_⟩
        have q0 : 0 ≤ (s2 * (s2 / 1009 + 69621)) % 2147483647 := Int.emod_nonneg _ (by decide)
        have q1 : (s2 * (s2 / 1009 + 69621)) % 2147483647 < 2147483647 := Int.emod_lt_of_pos _ (by decide)
        revert q0 q1
        generalize (s2 * (s2 / 1009 + 69621)) % 2147483647 = n1
        intro q0 q1
        refine ⟨_, rfl, _, rfl, _, _, rfl, rfl, ⟨by decide, by decide⟩, _, _, rfl, rfl, _, _, rfl, rfl, .inl ⟨by omega, by omega⟩, .inl ⟨_, rfl, ?_⟩⟩
        refine ⟨_, _, rfl, rfl, (by decide : (0 : Int) < 2147483399), ?_⟩
        refine ⟨_, rfl, _, _, rfl, rfl, ⟨by decide, by decide⟩, .inl ⟨_, rfl, ?_⟩⟩
        refine ⟨_, rfl, _, _, rfl, rfl, hm0, ?_⟩
        exact k _ _ (Int.emod_nonneg _ (by omega)) (Int.emod_lt_of_pos _ hm0) ⟨ns, i, r, s2, c, y2⟩ b2
end
end Q

namespace Q
open PySem L2
/-- a def of the text: where it stands, how it is called -/
structure Df (K : PySem.W.Frag) (mg : Str → Option Value) (x : Str) (st : Stmt) (ps : List Str) (f : Addr) (fd : FuncData) : Prop where
  F : Fun K x x st f fd
  m : mg x = some (.ref f)
  b : Binds K fd ps []
theorem Df.k {K : PySem.W.Frag} {mg : Str → Option Value} {x : Str} {st : Stmt} {ps : List Str} {f : Addr} {fd : FuncData} (D : Df K mg x st ps f fd) : PySem.W.keepIn K (.ref f) = true := D.F.kp
theorem HandAt.stay {H : Hp} {p l q : Addr} {o : HO} (h : HandAt H p l) (n1 : q ≠ p) (n2 : q ≠ l) : HandAt (L2.upd H q o) p l := by
  obtain ⟨ns, i, r, s, c, x⟩ := h
  exact ⟨ns, i, r, s, c, (upd_ne n1.symm).trans x.at_, (upd_ne n2.symm).trans x.lst, x.len, x.r0, x.s0, x.s1⟩
theorem HandAt.new {H : Hp} {p l q : Addr} {o : HO} (h : HandAt H p l) (n : H q = none) : HandAt (L2.upd H q o) p l := by
  obtain ⟨ns, i, r, s, c, x⟩ := id h
  exact h.stay (fun e => by rw [e, x.at_] at n; cases n) (fun e => by rw [e, x.lst] at n; cases n)
/-- all that stood stands, but for p -/
def Ext (p : Addr) (H H' : Hp) : Prop := ∀ b o, H b = some o → b ≠ p → H' b = some o
theorem Ext.rfl' {p : Addr} {H : Hp} : Ext p H H := fun _ _ e _ => e
theorem Ext.trans {p : Addr} {H H1 H2 : Hp} (h : Ext p H H1) (g : Ext p H1 H2) : Ext p H H2 := fun b o e n => g b o (h b o e n) n
theorem Ext.but {p : Addr} {H H1 H2 : Hp} (h : Ext p H H1) (g : But p H1 H2) : Ext p H H2 := fun b o e n => by rw [g b n]; exact h b o e n
theorem Ext.upd {p q : Addr} {o : HO} {H H1 : Hp} (h : Ext p H H1) (n : H1 q = none) : Ext p H (L2.upd H1 q o) := fun b u e nb => by
  rw [upd_ne (ne_of_none (h b u e nb) n)]; exact h b u e nb
theorem min_ok {X : Int} (h : 0 ≤ X ∧ X ≤ 20) : 0 ≤ (if 1 < X then 1 else X) ∧ (if 1 < X then 1 else X) ≤ 20 := by
  split <;> omega
theorem HandAt.hp {H : Hp} {p l : Addr} (h : HandAt H p l) : ∃ xs, H p = Option.some (HO.lst (V.ref l :: xs)) := by
  obtain ⟨ns, i, r, s, c, x⟩ := h
  exact ⟨_, x.at_⟩
theorem HandAt.hl {H : Hp} {p l : Addr} (h : HandAt H p l) : ∃ ns : List Int, H l = some (.lst (ns.map V.int)) ∧ l ≠ p := by
  obtain ⟨ns, i, r, s, c, x⟩ := h
  exact ⟨_, x.lst, x.np⟩
theorem HandAt.ne {H : Hp} {p l q : Addr} (h : HandAt H p l) (n : H q = none) : q ≠ p ∧ q ≠ l := by
  obtain ⟨ns, i, r, s, c, x⟩ := h
  exact ⟨fun e => (by rw [e, x.at_] at n; cases n), fun e => (by rw [e, x.lst] at n; cases n)⟩
def spPick (K : PySem.W.Frag) : Sp := fun vs H Q _ => ∃ (p l t : Addr) (xs : List V), vs = [.ref p, .ref t] ∧ HandAt H p l ∧ H t = some (.lst xs) ∧ t ≠ p ∧ 0 < xs.length ∧ xs.length < 1000 ∧
  ∀ (v : V) (H' : Hp), v ∈ xs → HandAt H' p l → But p H H' → Q v H'
section
variable {P : Program} {w : World} {K : PySem.W.Frag} {mg : Str → Option Value} {base : Heap}
theorem scPick : FnScope ["hand", "things"] ["hand", "things"] (defScope sPick) := ⟨rfl, rfl, rfl, by decide +kernel, rfl, by decide +kernel, by decide +kernel⟩
theorem ok_pick {f fT : Addr} {fd fdT : FuncData} (F : Fun K "_law_pick" "_law_pick" sPick f fd) (B : Bts mg) (DT : Df K mg "_law_take" sTake ["hand", "many"] fT fdT) : FnOk P w K mg base CX0 2 f fd ["hand", "things"] (spPick K) := by
  have GT : FnOk P w K mg base CX0 1 fT fdT ["hand", "many"] spTake := ok_take DT.F B
  refine F.ok scPick (fun vs H Q E h => ?_) (fun cdv A outer s H vs Q E hr h => ?_)
  · obtain ⟨p, l, t, xs, rfl, _⟩ := h
    rfl
  · obtain ⟨p, l, t, xs, rfl, hh, ht, ntp, h0, h1, k⟩ := h
    refine ⟨_, pss_one (ps_ret (pe_ix ix_list (pv 1) (pe_call GT hr rfl DT.m DT.k DT.b .nil pass0 (pa_cons (pv 0) (pa_cons (pe_callB call_len_seq (by rfl) B.len PySem.boot_len (pa_cons (pv 1) pa_nil)) pa_nil))) (fun _ _ => rfl))), ?_⟩
    refine ⟨_, rfl, _, rfl, _, rfl, t, _, rfl, .inl (SqL.of ht), p, l, _, rfl, hh, by omega, by omega, fun d H' d0 d1 hh' hb => ?_⟩
    have hd : d.toNat < xs.length := by omega
    have e1 : ((d.toNat : Nat) : Int) = d := Int.toNat_of_nonneg d0
    refine ⟨t, xs, d, xs[d.toNat], rfl, rfl, SqL.of (by rw [hb t ntp]; exact ht), ?_, k _ _ (List.getElem_mem hd) hh' hb⟩
    have z := atI_nat (xs := xs) (j := d.toNat) (List.getElem?_eq_getElem hd)
    rw [e1] at z
    exact z
end
end Q

namespace Q
open PySem L2
abbrev sPlain : Stmt := top 4
abbrev sNum : Stmt := top 5
abbrev kInt (K : PySem.W.Frag) (t : Value) (b : Bool) : Prop := PySem.W.kitOne K t (.type "int") = some b
abbrev kBool (K : PySem.W.Frag) (t : Value) (b : Bool) : Prop := PySem.W.kitOne K t (.type "bool") = some b
def spPlain (K : PySem.W.Frag) : Sp := fun vs H Q _ => ∃ (v : V) (t : Value) (b c : Bool), vs = [v] ∧ TyX K H v t ∧ kInt K t b ∧ kBool K t c ∧ Q (.bl (b && !c)) H
def NoInt (K : PySem.W.Frag) (H : Hp) (v : V) : Prop := ∃ (t : Value) (b c : Bool), TyX K H v t ∧ kInt K t b ∧ kBool K t c ∧ (b && !c) = false
def spNum (K : PySem.W.Frag) : Sp := fun vs H Q _ => ∃ (n : Int) (v : V), vs = [.int n, v] ∧ ((∃ i : Int, v = .int i ∧ Q (.bl (decide (0 ≤ i) && decide (i < n))) H) ∨ (NoInt K H v ∧ Q (.bl false) H))
theorem kInt_int {K : PySem.W.Frag} : kInt K (.type "int") true := kit_ty (by decide +kernel)
theorem kBool_int {K : PySem.W.Frag} : kBool K (.type "int") false := kit_ty (by decide +kernel)
theorem NoInt.int {K : PySem.W.Frag} {H : Hp} {i : Int} (n : NoInt K H (.int i)) : False := by
  obtain ⟨t, b, c, ty, k1, k2, e⟩ := n
  cases ty with
  | base ty =>
    cases ty
    have z1 : some b = some true := k1.symm.trans kInt_int
    have z2 : some c = some false := k2.symm.trans kBool_int
    cases z1
    cases z2
    cases e
/-- a thing whose kind is known -/
inductive Kd (H : Hp) : V → Prop
  | int (i : Int) : Kd H (.int i)
  | non : Kd H .non
  | bl (b : Bool) : Kd H (.bl b)
  | str (z : Str) : Kd H (.str z)
  | tup {a : Addr} {xs : List V} (e : H a = some (.tup xs)) : Kd H (.ref a)
  | lst {a : Addr} {xs : List V} (e : H a = some (.lst xs)) : Kd H (.ref a)
  | dk {a : Addr} {kvs : List (Key × V)} (e : H a = some (.dK kvs)) : Kd H (.ref a)
theorem Kd.same {H H' : Hp} {v : V} (h : Kd H v) (s : Same H H') : Kd H' v := by
  cases h with
  | int i => exact .int i
  | non => exact .non
  | bl b => exact .bl b
  | str z => exact .str z
  | tup e => exact .tup (s _ _ e)
  | lst e => exact .lst (s _ _ e)
  | dk e => exact .dk (s _ _ e)
theorem Kd.ext {H H' : Hp} {v : V} {p l : Addr} (h : Kd H v) (g : HandAt H p l) (g' : HandAt H' p l) (x : Ext p H H') : Kd H' v := by
  obtain ⟨xs0, e0⟩ := g.hp
  obtain ⟨xs1, e1⟩ := g'.hp
  cases h with
  | int i => exact .int i
  | non => exact .non
  | bl b => exact .bl b
  | str z => exact .str z
  | tup e => exact .tup (x _ _ e (ne_of e e0 (fun z => by cases z)))
  | @lst a xs e =>
    by_cases c : a = p
    · rw [c]
      exact .lst e1
    · exact .lst (x _ _ e c)
  | dk e => exact .dk (x _ _ e (ne_of e e0 (fun z => by cases z)))
theorem Kd.cl {K : PySem.W.Frag} {H : Hp} {v : V} (h : Kd H v) : (∃ i : Int, v = .int i) ∨ NoInt K H v := by
  cases h with
  | int i => exact .inl ⟨i, rfl⟩
  | non => exact .inr ⟨_, false, false, .base .non, kit_ty (by decide +kernel), kit_ty (by decide +kernel), rfl⟩
  | bl b => exact .inr ⟨_, true, true, .base (.bl b), kit_ty (by decide +kernel), kit_ty (by decide +kernel), rfl⟩
  | str z => exact .inr ⟨_, false, false, .base (.str z), kit_ty (by decide +kernel), kit_ty (by decide +kernel), rfl⟩
  | tup e => exact .inr ⟨_, false, false, .base (.tup e), kit_ty (by decide +kernel), kit_ty (by decide +kernel), rfl⟩
  | lst e => exact .inr ⟨_, false, false, .base (.lst e), kit_ty (by decide +kernel), kit_ty (by decide +kernel), rfl⟩
  | dk e => exact .inr ⟨_, false, false, .base (.dK e), kit_ty (by decide +kernel), kit_ty (by decide +kernel), rfl⟩
theorem Kd.tyT {K : PySem.W.Frag} {H : Hp} {v : V} (h : Kd H v) : ∃ (t : Value) (b : Bool), TyX K H v t ∧ PySem.W.kitOne K t (.type "tuple") = some b ∧ ((b = true ∧ ∃ a xs, v = .ref a ∧ H a = some (.tup xs)) ∨ (b = false ∧ ∀ a xs, v = .ref a → H a = some (.tup xs) → False)) := by
  cases h with
  | int i => exact ⟨_, false, .base (.int _), kit_ty (by decide +kernel), .inr ⟨rfl, fun a xs e => nomatch e⟩⟩
  | non => exact ⟨_, false, .base .non, kit_ty (by decide +kernel), .inr ⟨rfl, fun a xs e => nomatch e⟩⟩
  | bl b => exact ⟨_, false, .base (.bl b), kit_ty (by decide +kernel), .inr ⟨rfl, fun a xs e => nomatch e⟩⟩
  | str z => exact ⟨_, false, .base (.str z), kit_ty (by decide +kernel), .inr ⟨rfl, fun a xs e => nomatch e⟩⟩
  | tup e => exact ⟨_, true, .base (.tup e), kit_ty (by decide +kernel), .inl ⟨rfl, _, _, rfl, e⟩⟩
  | lst e => exact ⟨_, false, .base (.lst e), kit_ty (by decide +kernel), .inr ⟨rfl, fun a xs e1 e2 => by
      cases e1
      rw [e] at e2
      cases e2⟩⟩
  | dk e => exact ⟨_, false, .base (.dK e), kit_ty (by decide +kernel), .inr ⟨rfl, fun a xs e1 e2 => by
      cases e1
      rw [e] at e2
      cases e2⟩⟩
theorem Kd.at_ {H : Hp} {a : Addr} (h : Kd H (.ref a)) : ∃ o, H a = some o := by
  cases h with
  | tup e => exact ⟨_, e⟩
  | lst e => exact ⟨_, e⟩
  | dk e => exact ⟨_, e⟩
section
variable {P : Program} {w : World} {K : PySem.W.Frag} {mg : Str → Option Value} {base : Heap}
theorem scPlain : FnScope ["thing"] ["thing"] (defScope sPlain) := ⟨rfl, rfl, rfl, by decide +kernel, rfl, by decide +kernel, by decide +kernel⟩
theorem ok_plain {f : Addr} {fd : FuncData} {x : Str} {st : Stmt} (F : Fun K "is_plain_int" "is_plain_int" sPlain f fd) (B : Bts mg) : FnOk P w K mg base CX0 1 f fd ["thing"] (spPlain K) := by
  refine F.ok scPlain (fun vs H Q E h => ?_) (fun cdv A outer s H vs Q E hr h => ?_)
  · obtain ⟨v, t, b, c, rfl, _⟩ := h
    rfl
  · obtain ⟨v, t, b, c, rfl, ty, kb, kc, k⟩ := h
    refine ⟨_, pss_one (ps_ret (pe_and (pe_callB call_isi (by rfl) B.isinstance PyProof.Rows.boot_isinstance (pa_cons (pv 0) (pa_cons (pe_bltn (v := .ty "int") rfl B.int PyProof.Rows.boot_int rfl) pa_nil)))
      (pe_one (pe_not (pe_callB call_isi (by rfl) B.isinstance PyProof.Rows.boot_isinstance (pa_cons (pv 0) (pa_cons (pe_bltn (v := .ty "bool") rfl B.bool (by decide +kernel) rfl) pa_nil))))))), ?_⟩
    refine ⟨_, rfl, v, .ty "int", t, .type "int", b, rfl, .ty _, ty, kb, _, rfl, ?_⟩
    cases b with
    | false => exact iteF k
    | true => exact iteT ⟨_, rfl, v, .ty "bool", t, .type "bool", c, rfl, .ty _, ty, kc, _, rfl, k⟩
theorem scNum : FnScope ["limit", "thing"] ["limit", "thing"] (defScope sNum) := ⟨rfl, rfl, rfl, by decide +kernel, rfl, by decide +kernel, by decide +kernel⟩
theorem ok_num {f fP : Addr} {fd fdP : FuncData} (F : Fun K "is_number_below" "is_number_below" sNum f fd) (B : Bts mg) (DP : Df K mg "is_plain_int" sPlain ["thing"] fP fdP) : FnOk P w K mg base CX0 2 f fd ["limit", "thing"] (spNum K) := by
  have GP : FnOk P w K mg base CX0 1 fP fdP ["thing"] (spPlain K) := ok_plain (x := "") (st := sPlain) DP.F B
  refine F.ok scNum (fun vs H Q E h => ?_) (fun cdv A outer s H vs Q E hr h => ?_)
  · obtain ⟨n, v, rfl, _⟩ := h
    rfl
  · obtain ⟨n, v, rfl, h⟩ := h
    refine ⟨_, pss_one (ps_ret (pe_and (pe_call GP hr rfl DP.m DP.k DP.b .nil pass0 (pa_cons (pv 1) pa_nil)) (pe_one (pe_chain op_le op_lt pe_int (pv 1) (pv 0))))), ?_⟩
    rcases h with ⟨i, rfl, k⟩ | ⟨⟨t, b, c, ty, kb, kc, e⟩, k⟩
    · refine ⟨_, rfl, .int i, .type "int", true, false, rfl, .base (.int _), kInt_int, kBool_int, _, rfl, iteT ?_⟩
      refine ⟨_, rfl, _, _, rfl, rfl, _, rfl, ?_⟩
      by_cases c : (0 : Int) ≤ i
      · rw [decide_eq_true c] at k ⊢
        exact iteT ⟨_, rfl, _, _, rfl, rfl, k⟩
      · rw [decide_eq_false c] at k ⊢
        exact iteF k
    · refine ⟨_, rfl, v, t, b, c, rfl, ty, kb, kc, _, rfl, ?_⟩
      rw [e]
      exact iteF k
end
end Q

namespace Q
open PySem L2
theorem sNew {H H1 : Hp} {p : Addr} {o : HO} (s : Same H H1) (n : H p = none) : Same H (upd H1 p o) := fun b u e => by
  rw [upd_ne (ne_of_none e n)]
  exact s b u e
theorem sN {H : Hp} {q : Addr} {o : HO} (n : H q = none) : Same H (upd H q o) := sNew (fun _ _ e => e) n
theorem sT {H H1 H2 : Hp} (a : Same H H1) (b : Same H1 H2) : Same H H2 := fun c o h => b c o (a c o h)
theorem HandAt.same {H H' : Hp} {p l : Addr} (h : HandAt H p l) (s : Same H H') : HandAt H' p l := by
  obtain ⟨ns, i, r, z, c, x⟩ := h
  exact ⟨ns, i, r, z, c, s _ _ x.at_, s _ _ x.lst, x.len, x.r0, x.s0, x.s1⟩
theorem Ext.same {p : Addr} {H H1 H2 : Hp} (h : Ext p H H1) (s : Same H1 H2) : Ext p H H2 := fun b o e n => s _ _ (h b o e n)
theorem hand_no {H : Hp} {p l : Addr} (g : HandAt H p l) : ∀ xs, H p ≠ some (.tup xs) := fun xs e => by
  obtain ⟨zs, z⟩ := g.hp
  rw [z] at e
  cases e
/-- the texts that are drawn -/
def txtL : List Str := ["me", "many", "ties", "round", "other", "heard", "sum", "least", "most", "add", "sub", "mul", "min", "max", "less", "same", "and", "or", "rest", "if", "number", "cell", "Add", "0", ""]
def TxtOk (v : V) : Prop := ∀ z, v = .str z → z ∈ txtL
/-- of known kinds, to nesting n -/
def Kt (H : Hp) : Nat → V → Prop
  | 0 => fun _ => True
  | n + 1 => fun v => (Kd H v ∧ TxtOk v) ∧ ∀ a xs, v = .ref a → H a = some (.tup xs) → xs.length ≤ 200 ∧ ∀ x ∈ xs, Kt H n x
def Wh (H : Hp) (v : V) : Prop := ∀ n, Kt H n v
theorem Wh.kd {H : Hp} {v : V} (h : Wh H v) : Kd H v := (h 1).1.1
theorem Wh.txt {H : Hp} {z : Str} (h : Wh H (.str z)) : z ∈ txtL := (h 1).1.2 z rfl
theorem Wh.items {H : Hp} {a : Addr} {xs : List V} (h : Wh H (.ref a)) (e : H a = some (.tup xs)) : xs.length ≤ 200 ∧ ∀ x ∈ xs, Wh H x :=
  ⟨((h 1).2 a xs rfl e).1, fun x hx n => ((h (n + 1)).2 a xs rfl e).2 x hx⟩
theorem Wh.tup {H : Hp} {a : Addr} {xs : List V} (e : H a = some (.tup xs)) (hl : xs.length ≤ 200) (h : ∀ x ∈ xs, Wh H x) : Wh H (.ref a)
  | 0 => trivial
  | n + 1 => ⟨⟨.tup e, fun z e => nomatch e⟩, fun a' ys e1 e2 => by
    cases e1
    rw [e] at e2
    cases e2
    exact ⟨hl, fun x hx => h x hx n⟩⟩
theorem Wh.nt {H : Hp} {v : V} (k : Kd H v) (tx : TxtOk v) (no : ∀ a xs, v = .ref a → H a = some (.tup xs) → False) : Wh H v
  | 0 => trivial
  | n + 1 => ⟨⟨k, tx⟩, fun a xs e1 e2 => (no a xs e1 e2).elim⟩
theorem Wh.int {H : Hp} (i : Int) : Wh H (.int i) := .nt (.int i) (fun _ e => nomatch e) fun _ _ e => nomatch e
theorem Wh.non {H : Hp} : Wh H .non := .nt .non (fun _ e => nomatch e) fun _ _ e => nomatch e
theorem Wh.bl {H : Hp} (b : Bool) : Wh H (.bl b) := .nt (.bl b) (fun _ e => nomatch e) fun _ _ e => nomatch e
theorem Wh.str {H : Hp} {z : Str} (h : z ∈ txtL) : Wh H (.str z) := .nt (.str z) (fun y e => by cases e; exact h) fun _ _ e => nomatch e
theorem Wh.lst {H : Hp} {a : Addr} {xs : List V} (e : H a = some (.lst xs)) : Wh H (.ref a) := .nt (.lst e) (fun _ e => nomatch e) fun a' _ e1 e2 => by
  cases e1
  rw [e] at e2
  cases e2
theorem Wh.dk {H : Hp} {a : Addr} {xs : List (Key × V)} (e : H a = some (.dK xs)) : Wh H (.ref a) := .nt (.dk e) (fun _ e => nomatch e) fun a' _ e1 e2 => by
  cases e1
  rw [e] at e2
  cases e2
theorem Kt.ext {H H' : Hp} {p l : Addr} (g : HandAt H p l) (g' : HandAt H' p l) (s : Ext p H H') : ∀ {n : Nat} {v : V}, Kt H n v → Kt H' n v
  | 0, _, _ => trivial
  | n + 1, v, h => ⟨⟨h.1.1.ext g g' s, h.1.2⟩, fun a xs e1 e2 => by
    subst e1
    obtain ⟨o, eo⟩ := h.1.1.at_
    obtain ⟨zs, ez⟩ := g'.hp
    have ne : a ≠ p := ne_of e2 ez (fun z => by cases z)
    rw [s _ _ eo ne] at e2
    cases e2
    obtain ⟨h1, h2⟩ := h.2 a xs rfl eo
    exact ⟨h1, fun x hx => (h2 x hx).ext g g' s⟩⟩
theorem Wh.ext {H H' : Hp} {p l : Addr} {v : V} (h : Wh H v) (g : HandAt H p l) (g' : HandAt H' p l) (s : Ext p H H') : Wh H' v := fun n => (h n).ext g g' s
theorem Kt.same {H H' : Hp} (s : Same H H') : ∀ {n : Nat} {v : V}, Kt H n v → Kt H' n v
  | 0, _, _ => trivial
  | n + 1, v, h => ⟨⟨h.1.1.same s, h.1.2⟩, fun a xs e1 e2 => by
    subst e1
    obtain ⟨o, eo⟩ := h.1.1.at_
    rw [s _ _ eo] at e2
    cases e2
    obtain ⟨h1, h2⟩ := h.2 a xs rfl eo
    exact ⟨h1, fun x hx => (h2 x hx).same s⟩⟩
theorem Wh.same {H H' : Hp} {v : V} (h : Wh H v) (s : Same H H') : Wh H' v := fun n => (h n).same s
theorem wh_nil {H : Hp} : ∀ x ∈ ([] : List V), Wh H x := fun _ h => absurd h List.not_mem_nil
theorem wh_cons {H : Hp} {v : V} {xs : List V} (h : Wh H v) (k : ∀ x ∈ xs, Wh H x) : ∀ x ∈ v :: xs, Wh H x := fun x hx => (List.mem_cons.mp hx).elim (fun e => by rw [e]; exact h) (k x)
theorem wh_same {H H' : Hp} {xs : List V} (h : ∀ x ∈ xs, Wh H x) (s : Same H H') : ∀ x ∈ xs, Wh H' x := fun x hx => (h x hx).same s
theorem wh_ext {H H' : Hp} {p l : Addr} {xs : List V} (h : ∀ x ∈ xs, Wh H x) (g : HandAt H p l) (g' : HandAt H' p l) (s : Ext p H H') : ∀ x ∈ xs, Wh H' x := fun x hx => (h x hx).ext g g' s
theorem wh_app {H : Hp} {xs ys : List V} (h : ∀ x ∈ xs, Wh H x) (k : ∀ x ∈ ys, Wh H x) : ∀ x ∈ xs ++ ys, Wh H x := fun x hx => (List.mem_append.mp hx).elim (h x) (k x)
theorem wh_sub {H : Hp} {xs ys : List V} (h : ∀ x ∈ xs, Wh H x) (s : ∀ x ∈ ys, x ∈ xs) : ∀ x ∈ ys, Wh H x := fun x hx => h x (s x hx)
/-! ### what an expression is -/
def opsL : List Str := ["add", "sub", "mul", "min", "max", "less", "same", "and", "or", "rest"]
/-- the head at v is well; ks: the expressions behind its word -/
def Node (H : Hp) (W : List Str) (c : Int) (v : V) (ks : List V) : Prop := ∃ (a : Addr) (s : Str) (r : List V), v = .ref a ∧ H a = some (.tup (.str s :: r)) ∧
  ((s = "number" ∧ ks = [] ∧ ∃ i : Int, r = [.int i] ∧ -2147483648 ≤ i ∧ i ≤ 2147483647) ∨ (s = "cell" ∧ ks = [] ∧ ∃ i : Int, r = [.int i] ∧ 0 ≤ i ∧ i < c) ∨ (s ∈ W ∧ r = [] ∧ ks = []) ∨ (s = "if" ∧ r.length = 3 ∧ ks = r) ∨ (s ∈ opsL ∧ r.length = 2 ∧ ks = r))
/-- words that stand alone -/
structure Alone (W : List Str) : Prop where
  number : ¬ ("number" : Str) ∈ W
  cell : ¬ ("cell" : Str) ∈ W
  iff : ¬ ("if" : Str) ∈ W
  ops : ∀ s ∈ opsL, ¬ s ∈ W
theorem ops_number : ¬ ("number" : Str) ∈ opsL := by decide +kernel
theorem ops_cell : ¬ ("cell" : Str) ∈ opsL := by decide +kernel
theorem ops_if : ¬ ("if" : Str) ∈ opsL := by decide +kernel
theorem ne_nc : ("number" : Str) ≠ "cell" := by decide +kernel
theorem ne_ni : ("number" : Str) ≠ "if" := by decide +kernel
theorem ne_ci : ("cell" : Str) ≠ "if" := by decide +kernel
theorem Node.uniq {H : Hp} {W : List Str} {c : Int} {v : V} {ks ks' : List V} (h : Node H W c v ks) (g : Node H W c v ks') : ks = ks' := by
  obtain ⟨a, s, r, rfl, e, h⟩ := h
  obtain ⟨a', s', r', e1, e', g⟩ := g
  cases e1
  rw [e] at e'
  simp only [Option.some.injEq, HO.tup.injEq, List.cons.injEq, V.str.injEq] at e'
  obtain ⟨rfl, rfl⟩ := e'
  have key : ∀ {k : List V}, ((s = "number" ∧ k = [] ∧ ∃ i : Int, r = [.int i] ∧ -2147483648 ≤ i ∧ i ≤ 2147483647) ∨ (s = "cell" ∧ k = [] ∧ ∃ i : Int, r = [.int i] ∧ 0 ≤ i ∧ i < c) ∨ (s ∈ W ∧ r = [] ∧ k = []) ∨ (s = "if" ∧ r.length = 3 ∧ k = r) ∨ (s ∈ opsL ∧ r.length = 2 ∧ k = r)) → k = if r.length ≤ 1 then [] else r := fun h => by
    rcases h with ⟨_, rfl, i, rfl, _⟩ | ⟨_, rfl, i, rfl, _⟩ | ⟨_, rfl, rfl⟩ | ⟨_, hl, rfl⟩ | ⟨_, hl, rfl⟩
    · rfl
    · rfl
    · rfl
    · rw [if_neg (by omega)]
    · rw [if_neg (by omega)]
  exact (key h).trans (key g).symm
/-- right to nesting n, of k expressions -/
def TS (H : Hp) (W : List Str) (c : Int) : Nat → V → Nat → Prop
  | 0 => fun _ _ => False
  | n + 1 => fun v k => ∃ ks, Node H W c v ks ∧ ∃ szs : List Nat, Paired (TS H W c n) ks szs ∧ k = 1 + szs.sum
theorem paired_uniq {R : V → Nat → Prop} (u : ∀ x k k', R x k → R x k' → k = k') : ∀ {xs : List V} {as bs : List Nat}, Paired R xs as → Paired R xs bs → as = bs
  | _, _, _, .nil, .nil => rfl
  | _, _, _, .cons h t, .cons g s => by
    have e1 := u _ _ _ h g
    have e2 := paired_uniq u t s
    subst e1
    subst e2
    rfl
theorem TS.uniq {H : Hp} {W : List Str} {c : Int} : ∀ {n : Nat} {v : V} {k k' : Nat}, TS H W c n v k → TS H W c n v k' → k = k'
  | 0, _, _, _, h, _ => h.elim
  | n + 1, v, k, k', ⟨ks, a, szs, p, e⟩, ⟨ks', a', szs', p', e'⟩ => by
    obtain rfl := a.uniq a'
    have z := paired_uniq (R := TS H W c n) (fun x k k' h g => TS.uniq h g) p p'
    rw [e, e', z]
def Right (H : Hp) (W : List Str) (c : Int) (v : V) : Prop := ∃ k, TS H W c 12 v k ∧ k ≤ 60
theorem Node.same {H H' : Hp} {W : List Str} {c : Int} {v : V} {ks : List V} (h : Node H W c v ks) (s : Same H H') : Node H' W c v ks := by
  obtain ⟨a, z, r, e1, e2, h⟩ := h
  exact ⟨a, z, r, e1, s _ _ e2, h⟩
theorem Node.ext {H H' : Hp} {W : List Str} {c : Int} {v : V} {ks : List V} {p l : Addr} (h : Node H W c v ks) (g : HandAt H p l) (s : Ext p H H') : Node H' W c v ks := by
  obtain ⟨a, z, r, e1, e2, h⟩ := h
  exact ⟨a, z, r, e1, s _ _ e2 (fun e => hand_no g _ (by rw [← e]; exact e2)), h⟩
theorem Node.back {H H' : Hp} {W : List Str} {c : Int} {v : V} {ks : List V} (w : Kd H v) (h : Node H' W c v ks) (s : Same H H') : Node H W c v ks := by
  obtain ⟨a, z, r, rfl, e2, h⟩ := h
  obtain ⟨o, eo⟩ := w.at_
  have y := s _ _ eo
  rw [e2] at y
  cases y
  exact ⟨a, z, r, rfl, eo, h⟩
theorem paired_mono {R R' : V → Nat → Prop} {xs : List V} {as : List Nat} (h : ∀ x k, x ∈ xs → R x k → R' x k) (p : Paired R xs as) : Paired R' xs as := by
  induction p with
  | nil => exact .nil
  | cons a _ ih => exact .cons (h _ _ List.mem_cons_self a) (ih fun x k hx => h x k (List.mem_cons_of_mem _ hx))
theorem TS.same {H H' : Hp} {W : List Str} {c : Int} (s : Same H H') : ∀ {n : Nat} {v : V} {k : Nat}, TS H W c n v k → TS H' W c n v k
  | 0, _, _, h => h.elim
  | n + 1, v, k, ⟨ks, a, szs, p, e⟩ => ⟨ks, a.same s, szs, paired_mono (fun x k _ h => h.same s) p, e⟩
theorem TS.ext {H H' : Hp} {W : List Str} {c : Int} {p l : Addr} (g : HandAt H p l) (s : Ext p H H') : ∀ {n : Nat} {v : V} {k : Nat}, TS H W c n v k → TS H' W c n v k
  | 0, _, _, h => h.elim
  | n + 1, v, k, ⟨ks, a, szs, q, e⟩ => ⟨ks, a.ext g s, szs, paired_mono (fun x k _ h => h.ext g s) q, e⟩
theorem Node.kids {H : Hp} {W : List Str} {c : Int} {v : V} {ks : List V} (w : Wh H v) (h : Node H W c v ks) : ∀ x ∈ ks, Wh H x := by
  obtain ⟨a, z, r, rfl, e2, h⟩ := h
  have it := (w.items e2).2
  have hr : ∀ x ∈ r, Wh H x := fun x hx => it x (List.mem_cons_of_mem _ hx)
  rcases h with ⟨_, rfl, _⟩ | ⟨_, rfl, _⟩ | ⟨_, _, rfl⟩ | ⟨_, _, rfl⟩ | ⟨_, _, rfl⟩
  · exact wh_nil
  · exact wh_nil
  · exact wh_nil
  · exact hr
  · exact hr
theorem TS.back {H H' : Hp} {W : List Str} {c : Int} (s : Same H H') : ∀ {n : Nat} {v : V} {k : Nat}, Wh H v → TS H' W c n v k → TS H W c n v k
  | 0, _, _, _, h => h.elim
  | n + 1, v, k, w, ⟨ks, a, szs, q, e⟩ => by
    have a' := a.back w.kd s
    exact ⟨ks, a', szs, paired_mono (fun x k hx h => h.back s (a'.kids w x hx)) q, e⟩
theorem right_iff {H H' : Hp} {W : List Str} {c : Int} {v : V} (w : Wh H v) (s : Same H H') : Right H W c v ↔ Right H' W c v :=
  ⟨fun ⟨k, h, l⟩ => ⟨k, h.same s, l⟩, fun ⟨k, h, l⟩ => ⟨k, h.back s w, l⟩⟩
theorem TS.mono {H : Hp} {W : List Str} {c : Int} : ∀ {n m : Nat} {v : V} {k : Nat}, n ≤ m → TS H W c n v k → TS H W c m v k
  | 0, _, _, _, _, h => h.elim
  | n + 1, 0, _, _, l, _ => absurd l (by omega)
  | n + 1, m + 1, v, k, l, ⟨ks, a, szs, q, e⟩ => ⟨ks, a, szs, paired_mono (fun x k _ h => h.mono (by omega)) q, e⟩
theorem TS.pos {H : Hp} {W : List Str} {c : Int} {n : Nat} {v : V} {k : Nat} (h : TS H W c n v k) : 1 ≤ k := by
  cases n with
  | zero => exact h.elim
  | succ n =>
    obtain ⟨ks, _, szs, _, e⟩ := h
    omega
end Q

namespace Q
open PySem L2
abbrev sSmall : Stmt := top 6
abbrev sBegins : Stmt := top 18
abbrev sInner : Stmt := top 19
def zeroL : List Str := ["me", "many", "ties", "round", "other", "heard", "sum", "least", "most"]
def noneL : List Str := ["Add", "0", ""]
/-- a tuple of texts in the written part -/
def KTup (K : PySem.W.Frag) (a : Addr) (xs : List V) : Prop := ∃ (o : Obj) (its : Array Value) (n : Nat), K.lookup a = some o ∧ o.cls = .type "tuple" ∧ o.data = .seq its n ∧ its.size ≤ sizeLine ∧ Vals xs its.toList
theorem KTup.sq {K : PySem.W.Frag} {a : Addr} {xs : List V} (h : KTup K a xs) (H : Hp) : SqT K H a xs := .inr h
/-- what is barred, and what is let -/
structure BarOk (bs W : List Str) (cells cw : Int) : Prop where
  al : Alone W
  sub : ∀ s ∈ W, s ∈ zeroL
  zero : ∀ s ∈ zeroL, (s ∈ W ↔ ¬ s ∈ bs)
  num : ¬ ("number" : Str) ∈ bs
  iff : ¬ ("if" : Str) ∈ bs
  ops : ∀ s ∈ opsL, ¬ s ∈ bs
  cell : (("cell" : Str) ∈ bs ∧ cw ≤ 0) ∨ (¬ ("cell" : Str) ∈ bs ∧ cw = cells)
/-- the words and how much stands behind each -/
structure Parts (K : PySem.W.Frag) (w : World) (mg : Str → Option Value) : Prop where
  ex : ∃ (d : Addr) (es : Array DictEntry) (n : Nat), KDict K w d es n ∧ mg "PARTS" = some (.ref d) ∧ (∀ s ∈ zeroL, ∃ t, PySem.W.nsIn K d s = some (some (.int 0 t))) ∧ (∀ s ∈ opsL, ∃ t, PySem.W.nsIn K d s = some (some (.int 2 t))) ∧
    (∃ t, PySem.W.nsIn K d "if" = some (some (.int 3 t))) ∧ (∀ s ∈ noneL, PySem.W.nsIn K d s = some none)
theorem Kd.tyS {K : PySem.W.Frag} {H : Hp} {v : V} (h : Kd H v) : ∃ (t : Value) (b : Bool), TyX K H v t ∧ PySem.W.kitOne K t (.type "str") = some b ∧ ((b = true ∧ ∃ z, v = .str z) ∨ (b = false ∧ ∀ z, v ≠ .str z)) := by
  cases h with
  | int i => exact ⟨_, false, .base (.int _), kit_ty (by decide +kernel), .inr ⟨rfl, fun z e => nomatch e⟩⟩
  | non => exact ⟨_, false, .base .non, kit_ty (by decide +kernel), .inr ⟨rfl, fun z e => nomatch e⟩⟩
  | bl b => exact ⟨_, false, .base (.bl b), kit_ty (by decide +kernel), .inr ⟨rfl, fun z e => nomatch e⟩⟩
  | str z => exact ⟨_, true, .base (.str z), kit_ty (by decide +kernel), .inl ⟨rfl, z, rfl⟩⟩
  | tup e => exact ⟨_, false, .base (.tup e), kit_ty (by decide +kernel), .inr ⟨rfl, fun z e => nomatch e⟩⟩
  | lst e => exact ⟨_, false, .base (.lst e), kit_ty (by decide +kernel), .inr ⟨rfl, fun z e => nomatch e⟩⟩
  | dk e => exact ⟨_, false, .base (.dK e), kit_ty (by decide +kernel), .inr ⟨rfl, fun z e => nomatch e⟩⟩
theorem inV_str (s : Str) : ∀ bs : List Str, inV (.str s) (bs.map V.str) = decide (s ∈ bs)
  | [] => by simp [inV]
  | b :: r => by
    have ih := inV_str s r
    unfold inV at ih ⊢
    rw [List.map_cons, List.any_cons, ih]
    have e : eqV (.str b) (.str s) = decide (s = b) := by
      show (b == s) = decide (s = b)
      by_cases c : s = b
      · rw [c, decide_eq_true rfl]
        simp
      · rw [decide_eq_false c]
        exact beq_eq_false_iff_ne.mpr fun z => c z.symm
    rw [e]
    by_cases c : s = b
    · simp [c]
    · simp [c]
theorem flat_str : ∀ bs : List Str, (bs.map V.str).all flatV = true
  | [] => rfl
  | b :: r => by
    rw [List.map_cons, List.all_cons, flat_str r]
    rfl
def spSmall : Sp := fun vs H Q _ => ∃ v : V, vs = [v] ∧ Kd H v ∧ ∀ b : Bool, (b = true ↔ ∃ i : Int, v = .int i ∧ -2147483648 ≤ i ∧ i ≤ 2147483647) → Q (.bl b) H
def spBegins (K : PySem.W.Frag) : Sp := fun vs H Q _ => ∃ (bA : Addr) (bs W : List Str) (cells cw : Int) (v : V), vs = [.ref bA, .int cells, v] ∧ KTup K bA (bs.map V.str) ∧ BarOk bs W cells cw ∧ Wh H v ∧ ∀ b : Bool, (b = true ↔ ∃ ks, Node H W cw v ks) → Q (.bl b) H
def spInner : Sp := fun vs H Q _ => ∃ (W : List Str) (cw : Int) (v : V) (ks : List V), vs = [v] ∧ Alone W ∧ Node H W cw v ks ∧ Wh H v ∧ ∀ t H', Same H H' → H' t = some (.tup ks) → Q (.ref t) H'
section
variable {P : Program} {w : World} {K : PySem.W.Frag} {mg : Str → Option Value} {base : Heap}
theorem scSmall : FnScope ["thing"] ["thing"] (defScope sSmall) := ⟨rfl, rfl, rfl, by decide +kernel, rfl, by decide +kernel, by decide +kernel⟩
theorem ok_small {f fP : Addr} {fd fdP : FuncData} (F : Fun K "is_small" "is_small" sSmall f fd) (B : Bts mg) (DP : Df K mg "is_plain_int" sPlain ["thing"] fP fdP) : FnOk P w K mg base CX0 2 f fd ["thing"] spSmall := by
  have GP : FnOk P w K mg base CX0 1 fP fdP ["thing"] (spPlain K) := ok_plain (x := "") (st := sPlain) DP.F B
  refine F.ok scSmall (fun vs H Q E h => ?_) (fun cdv A outer s H vs Q E hr h => ?_)
  · obtain ⟨v, rfl, _⟩ := h
    rfl
  · obtain ⟨v, rfl, kd, k⟩ := h
    refine ⟨_, pss_one (ps_ret (pe_and (pe_call GP hr rfl DP.m DP.k DP.b .nil pass0 (pa_cons (pv 0) pa_nil)) (pe_one (pe_chain op_le op_lt (pe_un un_neg (pe_op op_pow pe_int pe_int)) (pv 0) (pe_op op_pow pe_int pe_int))))), ?_⟩
    rcases kd.cl (K := K) with ⟨i, rfl⟩ | n
    · refine ⟨_, rfl, .int i, .type "int", true, false, rfl, .base (.int _), kInt_int, kBool_int, _, rfl, iteT ?_⟩
      refine ⟨_, _, rfl, rfl, ⟨by decide, by decide, by decide⟩, _, rfl, _, rfl, _, _, rfl, rfl, _, rfl, ?_⟩
      have e1 : (-(2 : Int) ^ (31 : Int).toNat) = -2147483648 := by decide
      have e2 : ((2 : Int) ^ (31 : Int).toNat) = 2147483648 := by decide
      refine ite2 (fun c => ?_) (fun c => ?_)
      · refine ⟨_, _, rfl, rfl, ⟨by decide, by decide, by decide⟩, _, _, rfl, rfl, ?_⟩
        refine k _ ⟨fun z => ⟨i, rfl, ?_, ?_⟩, fun ⟨j, e, a, b⟩ => ?_⟩
        · have := of_decide_eq_true c
          omega
        · have := of_decide_eq_true z
          omega
        · cases e
          exact decide_eq_true (by omega)
      · refine k false ⟨fun z => (nomatch z), fun ⟨j, e, a, b⟩ => (c ?_).elim⟩
        cases e
        exact decide_eq_true (by omega)
    · obtain ⟨t, b, c, ty, kb, kc, e0⟩ := id n
      refine ⟨_, rfl, v, t, b, c, rfl, ty, kb, kc, _, rfl, ?_⟩
      rw [e0]
      refine iteF (k false ⟨fun z => (nomatch z), fun ⟨j, e, _⟩ => ?_⟩)
      subst e
      exact n.int.elim
end
end Q

namespace Q
open PySem L2
theorem zero_not {s : Str} (h : s ∈ zeroL) : s ≠ "number" ∧ s ≠ "cell" ∧ s ≠ "if" ∧ ¬ s ∈ opsL := by
  have key : ∀ s ∈ zeroL, s ≠ "number" ∧ s ≠ "cell" ∧ s ≠ "if" ∧ ¬ s ∈ opsL := by decide +kernel
  exact key s h
theorem ops_not {s : Str} (h : s ∈ opsL) : s ≠ "number" ∧ s ≠ "cell" ∧ s ≠ "if" ∧ ¬ s ∈ zeroL := by
  have key : ∀ s ∈ opsL, s ≠ "number" ∧ s ≠ "cell" ∧ s ≠ "if" ∧ ¬ s ∈ zeroL := by decide +kernel
  exact key s h
theorem none_not {s : Str} (h : s ∈ noneL) : s ≠ "number" ∧ s ≠ "cell" ∧ s ≠ "if" ∧ ¬ s ∈ zeroL ∧ ¬ s ∈ opsL := by
  have key : ∀ s ∈ noneL, s ≠ "number" ∧ s ≠ "cell" ∧ s ≠ "if" ∧ ¬ s ∈ zeroL ∧ ¬ s ∈ opsL := by decide +kernel
  exact key s h
theorem txt_cases {s : Str} (h : s ∈ txtL) : s = "number" ∨ s = "cell" ∨ s = "if" ∨ s ∈ zeroL ∨ s ∈ opsL ∨ s ∈ noneL := by
  have key : ∀ s ∈ txtL, s = "number" ∨ s = "cell" ∨ s = "if" ∨ s ∈ zeroL ∨ s ∈ opsL ∨ s ∈ noneL := by decide +kernel
  exact key s h
/-- the head of a node, split -/
theorem node_iff {H : Hp} {W : List Str} {c : Int} {a : Addr} {s : Str} {r : List V} (e : H a = some (.tup (.str s :: r))) (ks : List V) : Node H W c (.ref a) ks ↔
    ((s = "number" ∧ ks = [] ∧ ∃ i : Int, r = [.int i] ∧ -2147483648 ≤ i ∧ i ≤ 2147483647) ∨ (s = "cell" ∧ ks = [] ∧ ∃ i : Int, r = [.int i] ∧ 0 ≤ i ∧ i < c) ∨ (s ∈ W ∧ r = [] ∧ ks = []) ∨ (s = "if" ∧ r.length = 3 ∧ ks = r) ∨ (s ∈ opsL ∧ r.length = 2 ∧ ks = r)) := by
  constructor
  · rintro ⟨a', s', r', e1, e2, h⟩
    cases e1
    rw [e] at e2
    simp only [Option.some.injEq, HO.tup.injEq, List.cons.injEq, V.str.injEq] at e2
    obtain ⟨rfl, rfl⟩ := e2
    exact h
  · exact fun h => ⟨a, s, r, rfl, e, h⟩
theorem at0 (x : V) (r : List V) : atI (x :: r) 0 = some x := atI_nat (xs := x :: r) (j := 0) rfl
theorem at1 (x y : V) (r : List V) : atI (x :: y :: r) 1 = some y := atI_nat (xs := x :: y :: r) (j := 1) rfl
theorem len_dec (n k : Nat) : decide (V.int ((n : Nat) : Int) = V.int ((k : Nat) : Int)) = decide (n = k) := by
  by_cases c : n = k
  · rw [c, decide_eq_true rfl, decide_eq_true rfl]
  · rw [decide_eq_false c, decide_eq_false fun z => c (by
      have z2 := V.int.inj z
      omega)]
section
variable {P : Program} {w : World} {K : PySem.W.Frag} {mg : Str → Option Value} {base : Heap}
theorem scBegins : FnScope ["barred", "cells", "thing", "word"] ["barred", "cells", "thing"] (defScope sBegins) := ⟨rfl, rfl, rfl, by decide +kernel, rfl, by decide +kernel, by decide +kernel⟩
theorem ok_begins {f fP fN fS : Addr} {fd fdP fdN fdS : FuncData} (F : Fun K "begins_well" "begins_well" sBegins f fd) (B : Bts mg) (hs : mg "str" = none) (T : Parts K w mg) (DP : Df K mg "is_plain_int" sPlain ["thing"] fP fdP) (DN : Df K mg "is_number_below" sNum ["limit", "thing"] fN fdN) (DS : Df K mg "is_small" sSmall ["thing"] fS fdS) :
    FnOk P w K mg base CX0 3 f fd ["barred", "cells", "thing"] (spBegins K) := by
  have GN : FnOk P w K mg base CX0 2 fN fdN ["limit", "thing"] (spNum K) := ok_num DN.F B DP
  have GS : FnOk P w K mg base CX0 2 fS fdS ["thing"] spSmall := ok_small DS.F B DP
  obtain ⟨d, es, n, KD, hm, z0, z2, ⟨t3, z3⟩, zn⟩ := T.ex
  refine F.ok scBegins (fun vs H Q E h => ?_) (fun cdv A outer s H vs Q E hr h => ?_)
  · obtain ⟨bA, bs, W, cells, cw, v, rfl, _⟩ := h
    rfl
  · obtain ⟨bA, bs, W, cells, cw, v, rfl, kt, bo, wh, k⟩ := h
    have nd := scBegins.nd
    refine ⟨_, pss_cons (ps_if (PW.pt (pw_or (pt_not (pt_val (pe_callB call_isi (by rfl) B.isinstance PyProof.Rows.boot_isinstance (pa_cons (pv 2) (pa_cons (pe_bltn (v := .ty "tuple") rfl B.tuple PyProof.Rows.boot_tuple rfl) pa_nil)))))
        (pw_or (pt_not (pt_truth (pv 2) (fun _ => rfl))) (pw_or1 (pt_not (pt_val (pe_callB call_isi (by rfl) B.isinstance PyProof.Rows.boot_isinstance (pa_cons (pe_ix ix_tup (pv 2) pe_int (fun _ _ => rfl)) (pa_cons (pe_bltn (v := .ty "str") rfl hs PyProof.Rows.boot_str rfl) pa_nil))))))))) (pss_one (ps_ret pe_bl)) pss_nil)
      (pss_cons (ps_set (i := 3) nd rfl (.inl rfl) (pe_ix ix_tup (pv 2) pe_int (fun _ _ => rfl)))
      (pss_cons (ps_if (pt_cmpR op_in_seq (pv 3) (pv 0) rfl) (pss_one (ps_ret pe_bl)) pss_nil)
      (pss_cons (ps_if (pt_cmpR op_eq (pv 3) pe_str (nomark _)) (pss_one (ps_ret (pe_and (pe_cmpR op_eq (pe_callB call_len_seq (by rfl) B.len PySem.boot_len (pa_cons (pv 2) pa_nil)) pe_int (nomark _)) (pe_one (pe_call GS hr rfl DS.m DS.k DS.b .nil pass0 (pa_cons (pe_ix ix_tup (pv 2) pe_int (fun _ _ => rfl)) pa_nil)))))) pss_nil)
      (pss_cons (ps_if (pt_cmpR op_eq (pv 3) pe_str (nomark _)) (pss_one (ps_ret (pe_and (pe_cmpR op_eq (pe_callB call_len_seq (by rfl) B.len PySem.boot_len (pa_cons (pv 2) pa_nil)) pe_int (nomark _)) (pe_one (pe_call GN hr rfl DN.m DN.k DN.b .nil pass0 (pa_cons (pv 1) (pa_cons (pe_ix ix_tup (pv 2) pe_int (fun _ _ => rfl)) pa_nil))))))) pss_nil)
      (pss_one (ps_ret (pe_and (pe_cmpR (op_in_kd KD) (pv 3) (pe_glob (v := .ref d) rfl hm rfl) rfl) (pe_one (pe_cmpR op_eq (pe_callB call_len_seq (by rfl) B.len PySem.boot_len (pa_cons (pv 2) pa_nil)) (pe_op op_add (pe_ix ix_kdict (pe_glob (v := .ref d) rfl hm rfl) (pv 3) (fun _ _ => rfl)) pe_int) (nomark _)))))))))), ?_⟩
    obtain ⟨t, bt, ty, kt0, h⟩ := wh.kd.tyT (K := K)
    refine ⟨_, rfl, v, .ty "tuple", t, .type "tuple", bt, rfl, .ty _, ty, kt0, _, rfl, ?_⟩
    rcases h with ⟨rfl, a, xs, rfl, ht⟩ | ⟨rfl, no⟩
    rotate_left
    · exact iteT (k false ⟨fun z => (nomatch z), fun ⟨ks, a, s, r, e1, e2, _⟩ => (no a _ e1 e2).elim⟩)
    obtain ⟨hl, its⟩ := wh.items ht
    refine iteF ⟨_, rfl, !xs.isEmpty, .inr (.inl ⟨xs, SqT.of ht, rfl⟩), ?_⟩
    cases xs with
    | nil =>
      refine iteT (k false ⟨fun z => (nomatch z), fun ⟨ks, a', s, r, e1, e2, _⟩ => ?_⟩)
      cases e1
      rw [ht] at e2
      cases e2
    | cons x r =>
      refine iteF ⟨_, rfl, a, x :: r, 0, x, rfl, rfl, SqT.of ht, at0 _ _, ?_⟩
      obtain ⟨tx, bx, tyx, ktx, hx⟩ := (its x List.mem_cons_self).kd.tyS (K := K)
      refine ⟨x, .ty "str", tx, .type "str", bx, rfl, .ty _, tyx, ktx, _, rfl, ?_⟩
      rcases hx with ⟨rfl, s, rfl⟩ | ⟨rfl, no⟩
      rotate_left
      · refine iteT (k false ⟨fun z => (nomatch z), fun ⟨ks, a', s, r', e1, e2, _⟩ => ?_⟩)
        cases e1
        rw [ht] at e2
        simp only [Option.some.injEq, HO.tup.injEq, List.cons.injEq] at e2
        exact (no s e2.1).elim
      have hst : s ∈ txtL := (its _ List.mem_cons_self).txt
      refine iteF ⟨_, rfl, a, _, 0, .str s, rfl, rfl, SqT.of ht, at0 _ _, ?_⟩
      refine ⟨_, rfl, _, rfl, bA, _, rfl, .inr (kt.sq _), rfl, flat_str bs, _, rfl, ?_⟩
      have en : (if false = true then !inV (V.str s) (bs.map V.str) else inV (V.str s) (bs.map V.str)) = decide (s ∈ bs) := inV_str s bs
      rw [en]
      refine ite2 (fun c => ?_) (fun c => ?_)
      · have hb : s ∈ bs := of_decide_eq_true c
        refine k false ⟨fun z => (nomatch z), fun ⟨ks, g⟩ => ?_⟩
        rcases (node_iff ht ks).mp g with ⟨rfl, _⟩ | ⟨rfl, _, i, _, h0, h1⟩ | ⟨hw, _⟩ | ⟨rfl, _⟩ | ⟨ho, _⟩
        · exact (bo.num hb).elim
        · rcases bo.cell with ⟨_, z⟩ | ⟨z, _⟩
          · omega
          · exact (z hb).elim
        · exact ((bo.zero s (bo.sub s hw)).mp hw hb).elim
        · exact (bo.iff hb).elim
        · exact (bo.ops s ho hb).elim
      · have hb : ¬ s ∈ bs := fun z => c (decide_eq_true z)
        refine ⟨_, rfl, rfl, _, rfl, ite2 (fun c1 => ?_) (fun c1 => ?_)⟩
        · have es : s = "number" := V.str.inj (of_decide_eq_true c1)
          subst es
          refine ⟨_, rfl, a, _, rfl, .inr (SqT.of ht), rfl, _, rfl, ?_⟩
          rw [show decide (V.int (((V.str "number" :: r).length : Nat) : Int) = V.int 2) = decide ((V.str "number" :: r).length = 2) from len_dec _ 2]
          cases r with
          | nil =>
            refine iteF (k false ⟨fun z => (nomatch z), fun ⟨ks, g⟩ => ?_⟩)
            rcases (node_iff ht ks).mp g with ⟨_, _, i, e, _⟩ | ⟨e, _⟩ | ⟨hw, _⟩ | ⟨e, _⟩ | ⟨ho, _⟩
            · cases e
            · exact (ne_nc e).elim
            · exact (bo.al.number hw).elim
            · exact (ne_ni e).elim
            · exact (ops_number ho).elim
          | cons y r2 =>
            cases r2 with
            | cons y2 r3 =>
              refine ite2 (fun c2 => absurd (of_decide_eq_true c2) (by simp)) (fun _ => k false ⟨fun z => (nomatch z), fun ⟨ks, g⟩ => ?_⟩)
              rcases (node_iff ht ks).mp g with ⟨_, _, i, e, _⟩ | ⟨e, _⟩ | ⟨hw, _⟩ | ⟨e, _⟩ | ⟨ho, _⟩
              · cases e
              · exact (ne_nc e).elim
              · exact (bo.al.number hw).elim
              · exact (ne_ni e).elim
              · exact (ops_number ho).elim
            | nil =>
              refine iteT ⟨_, rfl, a, _, 1, y, rfl, rfl, SqT.of ht, at1 _ _ _, y, rfl, (its y (by simp)).kd, fun b hb' => k b (hb'.trans ⟨fun ⟨i, e, h0, h1⟩ => ⟨[], (node_iff ht []).mpr (.inl ⟨rfl, rfl, i, by rw [e], h0, h1⟩)⟩, fun ⟨ks, g⟩ => ?_⟩)⟩
              rcases (node_iff ht ks).mp g with ⟨_, _, i, e, h0, h1⟩ | ⟨e, _⟩ | ⟨hw, _⟩ | ⟨e, _⟩ | ⟨ho, _⟩
              · cases e
                exact ⟨i, rfl, h0, h1⟩
              · exact (ne_nc e).elim
              · exact (bo.al.number hw).elim
              · exact (ne_ni e).elim
              · exact (ops_number ho).elim
        · have n1 : s ≠ "number" := fun z => c1 (by rw [z]; exact decide_eq_true rfl)
          refine ⟨_, rfl, rfl, _, rfl, ite2 (fun c2 => ?_) (fun c2 => ?_)⟩
          · have es : s = "cell" := V.str.inj (of_decide_eq_true c2)
            subst es
            have ecw : cw = cells := by
              rcases bo.cell with ⟨z, _⟩ | ⟨_, z⟩
              · exact (hb z).elim
              · exact z
            have out : ∀ {ks : List V}, Node H W cw (.ref a) ks → ∃ i : Int, r = [.int i] ∧ 0 ≤ i ∧ i < cw := fun {ks} g => by
              rcases (node_iff ht ks).mp g with ⟨e, _⟩ | ⟨_, _, z⟩ | ⟨hw, _⟩ | ⟨e, _⟩ | ⟨ho, _⟩
              · exact (n1 e).elim
              · exact z
              · exact (bo.al.cell hw).elim
              · exact (ne_ci e).elim
              · exact (ops_cell ho).elim
            refine ⟨_, rfl, a, _, rfl, .inr (SqT.of ht), rfl, _, rfl, ?_⟩
            rw [show decide (V.int (((V.str "cell" :: r).length : Nat) : Int) = V.int 2) = decide ((V.str "cell" :: r).length = 2) from len_dec _ 2]
            by_cases hl2 : r.length = 1
            · obtain ⟨y, rfl⟩ : ∃ y, r = [y] := by
                match r, hl2 with
                | [y], _ => exact ⟨y, rfl⟩
              refine iteT ⟨_, rfl, _, rfl, a, _, 1, y, rfl, rfl, SqT.of ht, at1 _ _ _, cells, y, rfl, ?_⟩
              rcases (its y (by simp)).kd.cl (K := K) with ⟨i, rfl⟩ | ny
              · refine .inl ⟨i, rfl, k _ ⟨fun z => ?_, fun ⟨ks, g⟩ => ?_⟩⟩
                · rw [Bool.and_eq_true] at z
                  exact ⟨[], (node_iff ht []).mpr (.inr (.inl ⟨rfl, rfl, i, rfl, of_decide_eq_true z.1, by rw [ecw]; exact of_decide_eq_true z.2⟩))⟩
                · obtain ⟨j, e, h0, h1⟩ := out g
                  cases e
                  rw [Bool.and_eq_true]
                  exact ⟨decide_eq_true h0, decide_eq_true (by rw [← ecw]; exact h1)⟩
              · refine .inr ⟨ny, k false ⟨fun z => (nomatch z), fun ⟨ks, g⟩ => ?_⟩⟩
                obtain ⟨j, e, _⟩ := out g
                cases e
                exact ny.int.elim
            · refine ite2 (fun c3 => absurd (of_decide_eq_true c3) (by simp; omega)) (fun _ => k false ⟨fun z => (nomatch z), fun ⟨ks, g⟩ => ?_⟩)
              obtain ⟨j, e, _⟩ := out g
              rw [e] at hl2
              exact absurd rfl hl2
          · have n2 : s ≠ "cell" := fun z => c2 (by rw [z]; exact decide_eq_true rfl)
            have out : ∀ {ks : List V}, Node H W cw (.ref a) ks → (s ∈ W ∧ r = [] ∧ ks = []) ∨ (s = "if" ∧ r.length = 3 ∧ ks = r) ∨ (s ∈ opsL ∧ r.length = 2 ∧ ks = r) := fun {ks} g => by
              rcases (node_iff ht ks).mp g with ⟨e, _⟩ | ⟨e, _⟩ | z
              · exact (n1 e).elim
              · exact (n2 e).elim
              · exact z
            have len3 : ∀ (q : Nat), (V.str s :: r).length = q + 1 ↔ r.length = q := fun q => by
              rw [List.length_cons]
              omega
            rcases txt_cases hst with e | e | e | hz | ho | hn
            · exact (n1 e).elim
            · exact (n2 e).elim
            · subst e
              refine ⟨_, rfl, _, _, rfl, rfl, z3, _, rfl, iteT ?_⟩
              refine ⟨_, rfl, a, _, rfl, .inr (SqT.of ht), _, rfl, d, _, .int 3, rfl, rfl, ⟨es, n, _, KD.at_, KD.lit, z3, ⟨_, rfl⟩⟩, _, _, rfl, rfl, rfl, ?_⟩
              rw [show decide (V.int (((V.str "if" :: r).length : Nat) : Int) = V.int (3 + 1)) = decide ((V.str "if" :: r).length = 4) from len_dec _ 4]
              refine k _ ⟨fun z => ⟨r, (node_iff ht r).mpr (.inr (.inr (.inr (.inl ⟨rfl, (len3 3).mp (of_decide_eq_true z), rfl⟩))))⟩, fun ⟨ks, g⟩ => ?_⟩
              rcases out g with ⟨hw, _⟩ | ⟨_, z, _⟩ | ⟨ho, _⟩
              · exact (bo.al.iff hw).elim
              · exact decide_eq_true ((len3 3).mpr z)
              · exact (ops_if ho).elim
            · obtain ⟨t0, hq⟩ := z0 s hz
              have hw : s ∈ W := (bo.zero s hz).mpr hb
              refine ⟨_, rfl, _, _, rfl, rfl, hq, _, rfl, iteT ?_⟩
              refine ⟨_, rfl, a, _, rfl, .inr (SqT.of ht), _, rfl, d, _, .int 0, rfl, rfl, ⟨es, n, _, KD.at_, KD.lit, hq, ⟨_, rfl⟩⟩, _, _, rfl, rfl, rfl, ?_⟩
              rw [show decide (V.int (((V.str s :: r).length : Nat) : Int) = V.int (0 + 1)) = decide ((V.str s :: r).length = 1) from len_dec _ 1]
              refine k _ ⟨fun z => ⟨[], (node_iff ht []).mpr (.inr (.inr (.inl ⟨hw, List.length_eq_zero_iff.mp ((len3 0).mp (of_decide_eq_true z)), rfl⟩)))⟩, fun ⟨ks, g⟩ => ?_⟩
              rcases out g with ⟨_, z, _⟩ | ⟨e, _⟩ | ⟨ho, _⟩
              · exact decide_eq_true ((len3 0).mpr (by rw [z]; rfl))
              · exact ((zero_not hz).2.2.1 e).elim
              · exact ((zero_not hz).2.2.2 ho).elim
            · obtain ⟨t2, hq⟩ := z2 s ho
              refine ⟨_, rfl, _, _, rfl, rfl, hq, _, rfl, iteT ?_⟩
              refine ⟨_, rfl, a, _, rfl, .inr (SqT.of ht), _, rfl, d, _, .int 2, rfl, rfl, ⟨es, n, _, KD.at_, KD.lit, hq, ⟨_, rfl⟩⟩, _, _, rfl, rfl, rfl, ?_⟩
              rw [show decide (V.int (((V.str s :: r).length : Nat) : Int) = V.int (2 + 1)) = decide ((V.str s :: r).length = 3) from len_dec _ 3]
              refine k _ ⟨fun z => ⟨r, (node_iff ht r).mpr (.inr (.inr (.inr (.inr ⟨ho, (len3 2).mp (of_decide_eq_true z), rfl⟩))))⟩, fun ⟨ks, g⟩ => ?_⟩
              rcases out g with ⟨hw, _⟩ | ⟨e, _⟩ | ⟨_, z, _⟩
              · exact (bo.al.ops s ho hw).elim
              · exact ((ops_not ho).2.2.1 e).elim
              · exact decide_eq_true ((len3 2).mpr z)
            · refine ⟨_, rfl, _, _, rfl, rfl, zn s hn, _, rfl, iteF ?_⟩
              refine k false ⟨fun z => (nomatch z), fun ⟨ks, g⟩ => ?_⟩
              rcases out g with ⟨hw, _⟩ | ⟨e, _⟩ | ⟨ho, _⟩
              · exact ((none_not hn).2.2.2.1 (bo.sub s hw)).elim
              · exact ((none_not hn).2.2.1 e).elim
              · exact ((none_not hn).2.2.2.2 ho).elim
end
end Q

namespace Q
open PySem L2
abbrev sIsEx : Stmt := top 17
/-- t[lo:hi], its items -/
def rSlC : V → Option Int → Option Int → Hp → VK → Prop := fun x lo hi H Q => ∃ a xs, x = .ref a ∧ H a = some (.tup xs) ∧ ∀ z H', Same H H' → H' z = some (.tup (cutV xs lo hi)) → Q (.ref z) H'
theorem sl_C {X : Cx} : SlR X rSlC := by
  intro pins s σ H x v vl vu lo hi sl Q I rx hs pl pu h
  obtain ⟨a, xs, rfl, ha, k⟩ := h
  refine sl_tupA pins s σ H _ v vl vu lo hi sl Q I rx hs pl pu ⟨a, xs, rfl, SqT.of ha, fun e => k a H (fun _ _ e => e) ?_, fun _ p hp => k p _ (sN hp) upd_same⟩
  rw [ha]
  congr 2
  unfold cutV
  rw [e.1, e.2]
  simp
theorem cut_tail (x : V) (r : List V) : cutV (x :: r) (some 1) none = r := by
  unfold cutV
  have e1 : HT.sIx (x :: r).length 0 (some ((1 : Nat) : Int)) = min 1 (x :: r).length := HT.sIx_nat _ _ 1
  have e2 : HT.sIx (x :: r).length (x :: r).length none = (x :: r).length := rfl
  show ((x :: r).drop (HT.sIx (x :: r).length 0 (some ((1 : Nat) : Int)))).take (HT.sIx (x :: r).length (x :: r).length none - HT.sIx (x :: r).length 0 (some ((1 : Nat) : Int))) = r
  rw [e1, e2, List.length_cons]
  rw [show min 1 (r.length + 1) = 1 by omega]
  simp
/-! ### the walk -/
abbrev Pt := Addr × V × Nat
def Good (H : Hp) (W : List Str) (c : Int) (ps : List Pt) (m : Nat) : Prop := ∃ szs : List Nat, Paired (fun (p : Pt) k => TS H W c (13 - p.2.2) p.2.1 k) ps szs ∧ m + szs.sum ≤ 60
theorem paired_app {α β : Type} {R : α → β → Prop} : ∀ {xs ys : List α} {as : List β}, Paired R (xs ++ ys) as → ∃ a1 a2, as = a1 ++ a2 ∧ Paired R xs a1 ∧ Paired R ys a2
  | [], _, as, h => ⟨[], as, rfl, .nil, h⟩
  | x :: xs, _, _, .cons h t => by
    obtain ⟨a1, a2, rfl, p1, p2⟩ := paired_app t
    exact ⟨_ :: a1, a2, rfl, .cons h p1, p2⟩
theorem app_paired {α β : Type} {R : α → β → Prop} {xs ys : List α} {a1 a2 : List β} (p1 : Paired R xs a1) (p2 : Paired R ys a2) : Paired R (xs ++ ys) (a1 ++ a2) := by
  induction p1 with
  | nil => exact p2
  | cons h _ ih => exact .cons h ih
theorem paired_kids {H : Hp} {W : List Str} {c : Int} {d : Nat} : ∀ {zs : List Pt} {ks : List V} {szs : List Nat}, zs.map (fun p => p.2) = ks.map (fun x => (x, d + 1)) → (Paired (fun (p : Pt) k => TS H W c (13 - p.2.2) p.2.1 k) zs szs ↔ Paired (TS H W c (12 - d)) ks szs)
  | [], [], szs, _ => ⟨fun h => by cases h; exact .nil, fun h => by cases h; exact .nil⟩
  | [], _ :: _, _, e => by simp at e
  | _ :: _, [], _, e => by simp at e
  | p :: zs, x :: ks, szs, e => by
    simp only [List.map_cons, List.cons.injEq] at e
    obtain ⟨e1, e2⟩ := e
    have ep : 13 - p.2.2 = 12 - d := by rw [e1]; show 13 - (d + 1) = 12 - d; omega
    have ev : p.2.1 = x := by rw [e1]
    constructor
    · intro h
      cases h with
      | cons a t =>
        rw [ep, ev] at a
        exact .cons a ((paired_kids e2).mp t)
    · intro h
      cases h with
      | cons a t =>
        refine .cons ?_ ((paired_kids e2).mpr t)
        rw [ep, ev]
        exact a
theorem Good.one {H : Hp} {W : List Str} {c : Int} {a : Addr} {v : V} : Good H W c [(a, v, 1)] 0 ↔ Right H W c v := by
  constructor
  · rintro ⟨szs, p, l⟩
    cases p with
    | cons h t =>
      cases t
      exact ⟨_, h, by simpa using l⟩
  · rintro ⟨k, h, l⟩
    exact ⟨[k], .cons h .nil, by simpa using l⟩
theorem Good.step {H : Hp} {W : List Str} {c : Int} {qs zs : List Pt} {p : Pt} {ks : List V} {m : Nat} (n : Node H W c p.2.1 ks) (hd : p.2.2 ≤ 12) (hz : zs.map (fun p => p.2) = ks.map (fun x => (x, p.2.2 + 1))) : Good H W c (qs ++ [p]) m ↔ Good H W c (qs ++ zs) (m + 1) := by
  have ef : 13 - p.2.2 = (12 - p.2.2) + 1 := by omega
  constructor
  · rintro ⟨szs, pp, l⟩
    obtain ⟨a1, a2, rfl, p1, p2⟩ := paired_app pp
    cases p2 with
    | cons h t =>
      cases t
      rw [ef] at h
      obtain ⟨ks', n', s2, q, e⟩ := h
      obtain rfl := n.uniq n'
      refine ⟨a1 ++ s2, app_paired p1 ((paired_kids hz).mpr q), ?_⟩
      simp only [List.sum_append, List.sum_cons, List.sum_nil] at l ⊢
      omega
  · rintro ⟨szs, pp, l⟩
    obtain ⟨a1, a2, rfl, p1, p2⟩ := paired_app pp
    refine ⟨a1 ++ [1 + a2.sum], app_paired p1 (.cons ?_ .nil), ?_⟩
    · show TS H W c (13 - p.2.2) p.2.1 (1 + a2.sum)
      rw [ef]
      exact ⟨ks, n, a2, (paired_kids hz).mp p2, rfl⟩
    · simp only [List.sum_append, List.sum_cons, List.sum_nil] at l ⊢
      omega
theorem Good.bad {H : Hp} {W : List Str} {c : Int} {qs : List Pt} {p : Pt} {m : Nat} (h : m + 1 > 60 ∨ p.2.2 > 12 ∨ ¬ ∃ ks, Node H W c p.2.1 ks) : ¬ Good H W c (qs ++ [p]) m := by
  rintro ⟨szs, pp, l⟩
  obtain ⟨a1, a2, rfl, p1, p2⟩ := paired_app pp
  cases p2 with
  | cons g t =>
    cases t
    have pos := g.pos
    simp only [List.sum_append, List.sum_cons, List.sum_nil] at l
    rcases h with h | h | h
    · omega
    · rw [show 13 - p.2.2 = 0 by omega] at g
      exact g
    · cases e : 13 - p.2.2 with
      | zero =>
        rw [e] at g
        exact g
      | succ n =>
        rw [e] at g
        obtain ⟨ks, n', _⟩ := g
        exact h ⟨ks, n'⟩
def spIsEx (K : PySem.W.Frag) : Sp := fun vs H Q _ => ∃ (bA : Addr) (bs W : List Str) (cells cw : Int) (v : V), vs = [.ref bA, .int cells, v] ∧ KTup K bA (bs.map V.str) ∧ BarOk bs W cells cw ∧ Wh H v ∧ ∀ (b : Bool) H', Same H H' → (b = true ↔ Right H W cw v) → Q (.bl b) H'
structure Lim (mg : Str → Option Value) : Prop where
  one : ∃ t, mg "MOST_IN_ONE" = some (.int 60 t)
  deep : ∃ t, mg "MOST_DEEP" = some (.int 12 t)
  starts : ∃ t, mg "MOST_STARTS" = some (.int 4 t)
section
variable {P : Program} {w : World} {K : PySem.W.Frag} {mg : Str → Option Value} {base : Heap}
theorem scInner : FnScope ["expression"] ["expression"] (defScope sInner) := ⟨rfl, rfl, rfl, by decide +kernel, rfl, by decide +kernel, by decide +kernel⟩
theorem ok_inner {f : Addr} {fd : FuncData} (F : Fun K "inner_parts" "inner_parts" sInner f fd) (B : Bts mg) : FnOk P w K mg base CX0 1 f fd ["expression"] spInner := by
  refine F.ok scInner (fun vs H Q E h => ?_) (fun cdv A outer s H vs Q E hr h => ?_)
  · obtain ⟨W, cw, v, ks, rfl, _⟩ := h
    rfl
  · obtain ⟨W, cw, v, ks, rfl, al, ⟨a, s, r, rfl, e, h⟩, wh, k⟩ := h
    refine ⟨_, pss_cons (ps_if (pt_cmpR op_in_seq (pe_ix ix_tup (pv 0) pe_int (fun _ _ => rfl)) (pe_tup (pa_cons pe_str (pa_cons pe_str pa_nil))) rfl) (pss_one (ps_ret (pe_tup pa_nil))) pss_nil)
      (pss_one (ps_ret (pe_slice sl_C (pv 0) (po_some pe_int) po_none))), ?_⟩
    refine ⟨_, rfl, a, _, 0, .str s, rfl, rfl, SqT.of e, at0 _ _, (by show 2 ≤ sizeLine; decide), fun t ht => ?_⟩
    have s1 := sN (o := .tup [.str "number", .str "cell"]) ht
    refine ⟨t, _, rfl, .inr (SqT.of upd_same), rfl, flat_str ["number", "cell"], _, rfl, ?_⟩
    have en : (if false = true then !inV (V.str s) [.str "number", .str "cell"] else inV (V.str s) [.str "number", .str "cell"]) = decide (s ∈ (["number", "cell"] : List Str)) := inV_str s ["number", "cell"]
    rw [en]
    refine ite2 (fun c => ?_) (fun c => ?_)
    · have hs : s = "number" ∨ s = "cell" := by simpa using of_decide_eq_true c
      have ek : ks = [] := by
        rcases h with ⟨_, z, _⟩ | ⟨_, z, _⟩ | ⟨_, _, z⟩ | ⟨e1, _⟩ | ⟨ho, _⟩
        · exact z
        · exact z
        · exact z
        · rcases hs with rfl | rfl
          · exact (ne_ni e1).elim
          · exact (ne_ci e1).elim
        · rcases hs with rfl | rfl
          · exact (ops_number ho).elim
          · exact (ops_cell ho).elim
      refine ⟨Nat.zero_le _, fun t2 ht2 => k t2 _ (sT s1 (sN ht2)) ?_⟩
      rw [upd_same, ek]
    · have hs : s ≠ "number" ∧ s ≠ "cell" := ⟨fun z => c (decide_eq_true (by rw [z]; simp)), fun z => c (decide_eq_true (by rw [z]; simp))⟩
      have ek : ks = r := by
        rcases h with ⟨z, _⟩ | ⟨z, _⟩ | ⟨_, z1, z2⟩ | ⟨_, _, z⟩ | ⟨_, _, z⟩
        · exact (hs.1 z).elim
        · exact (hs.2 z).elim
        · rw [z1, z2]
        · exact z
        · exact z
      refine ⟨_, rfl, _, rfl, a, _, rfl, s1 _ _ e, fun z H2 s2 e2 => k z H2 (sT s1 s2) ?_⟩
      rw [e2, ek]
      exact congrArg (fun l => some (HO.tup l)) (cut_tail _ _)
end
end Q

namespace Q
open PySem L2
section
variable {P : Program} {w : World} {K : PySem.W.Frag} {mg : Str → Option Value} {base : Heap}
theorem scIsEx : FnScope ["barred", "cells", "thing", "many", "waiting", "part", "deep", "inner"] ["barred", "cells", "thing"] (defScope sIsEx) := ⟨rfl, rfl, rfl, by decide +kernel, rfl, by decide +kernel, by decide +kernel⟩
theorem ok_isex {f fP fN fS fB fI : Addr} {fd fdP fdN fdS fdB fdI : FuncData} (F : Fun K "is_expression" "is_expression" sIsEx f fd) (B : Bts mg) (hs : mg "str" = none) (T : Parts K w mg) (LM : Lim mg) (DP : Df K mg "is_plain_int" sPlain ["thing"] fP fdP) (DN : Df K mg "is_number_below" sNum ["limit", "thing"] fN fdN) (DS : Df K mg "is_small" sSmall ["thing"] fS fdS)
    (DB : Df K mg "begins_well" sBegins ["barred", "cells", "thing"] fB fdB) (DI : Df K mg "inner_parts" sInner ["expression"] fI fdI) :
    FnOk P w K mg base CX0 4 f fd ["barred", "cells", "thing"] (spIsEx K) := by
  have GB : FnOk P w K mg base CX0 3 fB fdB ["barred", "cells", "thing"] (spBegins K) := ok_begins DB.F B hs T DP DN DS
  have GI : FnOk P w K mg base CX0 1 fI fdI ["expression"] spInner := ok_inner DI.F B
  obtain ⟨t1, hone⟩ := LM.one
  obtain ⟨t2, hdeep⟩ := LM.deep
  refine F.ok scIsEx (fun vs H Q E h => ?_) (fun cdv A outer s H vs Q E hr h => ?_)
  · obtain ⟨bA, bs, W, cells, cw, v, rfl, _⟩ := h
    rfl
  · obtain ⟨bA, bs, W, cells, cw, v, rfl, kt, bo, wh, k⟩ := h
    have nd := scIsEx.nd
    have hr1 : Room 1 _ := hr.mono (by decide)
    refine ⟨_, pss_cons (ps_set (i := 3) nd rfl (.inl rfl) pe_int)
      (pss_cons (ps_set (i := 4) nd rfl (.inl rfl) (pe_lst (pa_cons (pe_tup (pa_cons (pv 2) (pa_cons pe_int pa_nil))) pa_nil)))
      (pss_cons (ps_while PassesOwn.never (pt_truth (pv 4) (fun _ => rfl))
        (pss_cons (ps_asg (pe_bm0 PySem.F.plainAttrs_list PySem.F.slot_list_pop PySem.F.type_list_pop mt_pop (pv 4)) (pg_tup rfl (pgs_cons (pg_name (i := 5) nd rfl (.inl rfl)) (pgs_cons (pg_name (i := 6) nd rfl (.inr rfl)) pgs_nil))))
        (pss_cons (ps_aug (i := 3) nd rfl (.inl rfl) pe_int ip_add)
        (pss_cons (ps_if (PW.pt (pw_or (pt_cmpR op_gt (pv 3) (pe_glob (v := .int 60) rfl hone ⟨_, rfl⟩) (nomark _)) (pw_or (pt_cmpR op_gt (pv 6) (pe_glob (v := .int 12) rfl hdeep ⟨_, rfl⟩) (nomark _))
          (pw_or1 (pt_not (pt_val (pe_call GB hr rfl DB.m DB.k DB.b .nil pass0 (pa_cons (pv 0) (pa_cons (pv 1) (pa_cons (pv 5) pa_nil)))))))))) (pss_one (ps_ret pe_bl)) pss_nil)
        (pss_one (ps_expr (pe_bm PySem.F.plainAttrs_list PySem.F.slot_list_extend PySem.F.type_list_extend mt_extend (pv 4) (pa_cons (pe_lc (own := [("inner", 7)]) (g := gName 7) (tt := tYes) rfl nd (pi_tup (pe_call GI hr1 rfl DI.m DI.k DI.b .nil pass0 (pa_cons (pv 5) pa_nil)))
          (blkOk_by (N := ["barred", "cells", "thing", "many", "waiting", "part", "deep", "inner"]) (sc := defScope sIsEx) (by decide +kernel)) (fun _ _ _ _ _ => pg_name (i := 7) nd rfl (.inl rfl)) (fun _ _ _ _ _ => pts_nil)
          (fun _ _ _ _ _ => pe_tup (pa_cons (pv 7) (pa_cons (pe_op op_add (pv 6) pe_int) pa_nil)))) pa_nil))))))))
      (pss_one (ps_ret pe_bl)))), ?_⟩
    refine ⟨_, rfl, (by show 2 ≤ sizeLine; decide), fun t0 n0 => ?_⟩
    refine ⟨(by show 1 ≤ sizeLine; decide), fun wl nwl => ?_⟩
    have s0 := sN (o := .tup [v, .int 1]) n0
    have nwl0 : H wl = none := by
      by_cases e : wl = t0
      · rw [e, upd_same] at nwl
        cases nwl
      · rw [upd_ne e] at nwl
        exact nwl
    refine ⟨fun n σ H' => ∃ (many : Nat) (ps : List Pt) (x5 x6 : Option V), n = 61 - many ∧ σ = [some (.ref bA), some (.int cells), some v, some (.int (many : Int)), some (.ref wl), x5, x6, none] ∧ H' wl = some (.lst (ps.map fun p => V.ref p.1)) ∧
      (∀ p ∈ ps, H' p.1 = some (.tup [p.2.1, .int (p.2.2 : Int)]) ∧ Wh H p.2.1) ∧ ps.length ≤ 1 + 2 * many ∧ many ≤ 60 ∧ Same H H' ∧ (Good H W cw ps many ↔ Right H W cw v), ⟨61, 0, [(t0, v, 1)], none, none, rfl, rfl, upd_same, ?_, (by show 1 ≤ 1; decide), by decide, sT s0 (sN nwl), Good.one⟩, ?_⟩
    · intro p hp
      rw [List.mem_singleton.mp hp]
      refine ⟨?_, wh⟩
      rw [upd_ne (fun e => by rw [← e, upd_same] at nwl; cases nwl), upd_same]
      rfl
    · rintro n σ H1 ⟨many, ps, x5, x6, rfl, rfl, ewl, hps, hlen, hm, s1, iff⟩
      by_cases hemp : ps = []
      · subst hemp
        refine ⟨_, rfl, false, .inl ⟨_, SqL.of ewl, rfl⟩, iteF ?_⟩
        exact k true H1 s1 ⟨fun _ => iff.mp ⟨[], .nil, by simpa using hm⟩, fun _ => rfl⟩
      · obtain ⟨qs, p, rfl⟩ : ∃ qs p, ps = qs ++ [p] := ⟨ps.dropLast, ps.getLast hemp, (List.dropLast_concat_getLast hemp).symm⟩
        have hne : (!((qs ++ [p]).map fun p : Pt => V.ref p.1).isEmpty) = true := by simp
        refine ⟨_, rfl, true, .inl ⟨_, SqL.of ewl, hne.symm⟩, iteT ⟨fun σ' H' => ∃ m', m' < 61 - many ∧ ∃ (many : Nat) (ps : List Pt) (x5 x6 : Option V), m' = 61 - many ∧ σ' = [some (.ref bA), some (.int cells), some v, some (.int (many : Int)), some (.ref wl), x5, x6, none] ∧ H' wl = some (.lst (ps.map fun p => V.ref p.1)) ∧
          (∀ p ∈ ps, H' p.1 = some (.tup [p.2.1, .int (p.2.2 : Int)]) ∧ Wh H p.2.1) ∧ ps.length ≤ 1 + 2 * many ∧ many ≤ 60 ∧ Same H H' ∧ (Good H W cw ps many ↔ Right H W cw v), fun σ' H' ⟨m', a, b⟩ => ⟨m', a, b⟩, ?_⟩⟩
        obtain ⟨ep, wp⟩ := hps p (by simp)
        have npw : p.1 ≠ wl := ne_of ep ewl (fun z => by cases z)
        have elast : ((qs ++ [p]).map fun p : Pt => V.ref p.1)[((qs ++ [p]).map fun p : Pt => V.ref p.1).length - 1]? = some (.ref p.1) := by simp
        have edrop : ((qs ++ [p]).map fun p : Pt => V.ref p.1).dropLast = qs.map fun p : Pt => V.ref p.1 := by simp
        refine ⟨_, rfl, .inl ⟨rfl, _, SqL.of ewl⟩, wl, _, .ref p.1, rfl, rfl, ewl, elast, ?_⟩
        rw [edrop]
        have s2 : Same H (upd H1 wl (.lst (qs.map fun p : Pt => V.ref p.1))) := sNew s1 nwl0
        have keep : ∀ z : Pt, z ∈ qs → upd H1 wl (.lst (qs.map fun p : Pt => V.ref p.1)) z.1 = some (.tup [z.2.1, .int (z.2.2 : Int)]) ∧ Wh H z.2.1 := fun z hz => by
          obtain ⟨a, b⟩ := hps z (List.mem_append_left _ hz)
          exact ⟨by rw [upd_ne (ne_of a ewl (fun z => by cases z))]; exact a, b⟩
        refine ⟨p.1, _, rfl, SqT.of (by rw [upd_ne npw]; exact ep), rfl, _, _, rfl, _, _, rfl, rfl, ?_⟩
        refine ⟨_, rfl, _, _, rfl, rfl, ?_⟩
        have stop : (many + 1 > 60 ∨ p.2.2 > 12 ∨ ¬ ∃ ks, Node H W cw p.2.1 ks) → Q (.bl false) (upd H1 wl (.lst (qs.map fun p : Pt => V.ref p.1))) := fun h => k false _ s2 ⟨fun z => (nomatch z), fun z => (Good.bad h (iff.mpr z)).elim⟩
        refine ⟨_, rfl, _, _, rfl, rfl, _, rfl, ite2 (fun c => ?_) (fun c1 => ?_)⟩
        · exact stop (.inl (by
            have z : (60 : Int) < (many : Int) + 1 := of_decide_eq_true c
            omega))
        have h60 : many + 1 ≤ 60 := by
          by_cases z : many + 1 ≤ 60
          · exact z
          · exact absurd (decide_eq_true (show (60 : Int) < (many : Int) + 1 by omega)) c1
        refine ⟨_, rfl, _, _, rfl, rfl, _, rfl, ite2 (fun c => ?_) (fun c2 => ?_)⟩
        · exact stop (.inr (.inl (by
            have z : (12 : Int) < (p.2.2 : Int) := of_decide_eq_true c
            omega)))
        have h12 : p.2.2 ≤ 12 := by
          by_cases z : p.2.2 ≤ 12
          · exact z
          · exact absurd (decide_eq_true (show (12 : Int) < (p.2.2 : Int) by omega)) c2
        refine ⟨_, rfl, _, rfl, _, rfl, bA, bs, W, cells, cw, p.2.1, rfl, kt, bo, wp.same s2, fun b hb => ⟨_, rfl, ?_⟩⟩
        cases b with
        | false => exact iteT (stop (.inr (.inr fun ⟨ks, g⟩ => absurd (hb.mpr ⟨ks, g.same s2⟩) Bool.false_ne_true)))
        | true =>
          obtain ⟨ks, g2⟩ := hb.mp rfl
          have g := g2.back wp.kd s2
          have hk3 : ks.length ≤ 3 := by
            obtain ⟨_, _, r, _, _, h⟩ := g
            rcases h with ⟨_, e, _⟩ | ⟨_, e, _⟩ | ⟨_, _, e⟩ | ⟨_, l, e⟩ | ⟨_, l, e⟩
            · rw [e]; decide
            · rw [e]; decide
            · rw [e]; decide
            · rw [e]; omega
            · rw [e]; omega
          refine iteF ⟨_, rfl, .inl ⟨rfl, _, SqL.of upd_same⟩, _, rfl, W, cw, p.2.1, ks, rfl, bo.al, g2, wp.same s2, fun tt H2 s3 ett => ?_⟩
          have e2 : H2 wl = some (.lst (qs.map fun p : Pt => V.ref p.1)) := s3 _ _ upd_same
          refine ⟨tt, rfl, ⟨_, SqT.of ett⟩, fun D hD => lc_tup (K := K) (a := tt) (xs := ks) (fun i H' => ∃ zs : List Pt, H' D = some (.lst (zs.map fun p => V.ref p.1)) ∧ zs.map (fun p => p.2) = (ks.take i).map (fun x => (x, p.2.2 + 1)) ∧ (∀ z ∈ zs, H' z.1 = some (.tup [z.2.1, .int (z.2.2 : Int)])) ∧ Same H2 H') ?_ ?_ ?_ ?_⟩
          · exact ⟨[], upd_same, rfl, fun z hz => absurd hz List.not_mem_nil, sN hD⟩
          · rintro i H3 hi ⟨zs, _, _, _, s4⟩
            exact SqT.of (s4 _ _ ett)
          · rintro i x H3 hx ⟨zs, eD, emap, hz, s4⟩
            have hik : i < ks.length := (List.getElem?_eq_some_iff.mp hx).1
            have hlz : zs.length = i := by
              have z := congrArg List.length emap
              simp only [List.length_map, List.length_take] at z
              omega
            refine ⟨rfl, ?_⟩
            refine ⟨_, rfl, _, rfl, _, _, rfl, rfl, (by show 2 ≤ sizeLine; decide), fun z nz => ?_⟩
            have nDz : D ≠ z := ne_of_none eD nz
            refine ⟨zs.map (fun p => V.ref p.1), by rw [upd_ne nDz]; exact eD, ?_, zs ++ [(z, x, p.2.2 + 1)], ?_, ?_, ?_, ?_⟩
            · rw [List.length_map, hlz]
              exact Nat.lt_of_lt_of_le (show i < 64 by omega) (by decide)
            · rw [upd_same, List.map_append]
              rfl
            · rw [List.map_append, emap, List.take_add_one, hx, List.map_append]
              rfl
            · intro y hy
              rcases List.mem_append.mp hy with hy | hy
              · have ey := hz y hy
                rw [upd_ne (ne_of ey eD (fun z => by cases z)), upd_ne (ne_of_none ey nz)]
                exact ey
              · rw [List.mem_singleton.mp hy]
                rw [upd_ne nDz.symm, upd_same]
                rfl
            · intro b o e
              have e3 := s4 _ _ e
              rw [upd_ne (ne_of_none e hD), upd_ne (ne_of_none e3 nz)]
              exact e3
          · rintro H3 ⟨zs, eD, emap, hz, s4⟩
            rw [List.take_length] at emap
            have hlz : zs.length = ks.length := by
              have z := congrArg List.length emap
              simpa using z
            have nwD : D ≠ wl := fun e => by
              rw [e, e2] at hD
              cases hD
            refine ⟨wl, D, _, _, rfl, rfl, s4 _ _ e2, eD, ?_, ?_⟩
            · rw [List.length_map, List.length_map, hlz]
              rw [List.length_append, List.length_singleton] at hlen
              exact Nat.le_trans (show qs.length + ks.length ≤ 200 by omega) (by decide)
            · refine ⟨61 - (many + 1), by omega, many + 1, qs ++ zs, _, _, rfl, rfl, ?_, ?_, ?_, h60, ?_, ?_⟩
              · rw [upd_same, List.map_append]
              · intro y hy
                rcases List.mem_append.mp hy with hy | hy
                · obtain ⟨a, b⟩ := keep y hy
                  have a3 := s4 _ _ (s3 _ _ a)
                  exact ⟨by rw [upd_ne (ne_of a3 (s4 _ _ e2) (fun z => by cases z))]; exact a3, b⟩
                · have a3 := hz y hy
                  refine ⟨by rw [upd_ne (ne_of a3 (s4 _ _ e2) (fun z => by cases z))]; exact a3, ?_⟩
                  have hmem : y.2 ∈ ks.map (fun x => (x, p.2.2 + 1)) := by
                    rw [← emap]
                    exact List.mem_map_of_mem (f := fun p : Pt => p.2) hy
                  obtain ⟨x, hx, e⟩ := List.mem_map.mp hmem
                  rw [← e]
                  exact g.kids wp x hx
              · rw [List.length_append, hlz]
                rw [List.length_append, List.length_singleton] at hlen
                omega
              · exact sNew (sT s2 (sT s3 s4)) nwl0
              · exact (Good.step g h12 emap).symm.trans iff
end
end Q

namespace Q
open PySem L2
abbrev sPart : Stmt := inClass (top 2) 0
abbrev sAre : Stmt := top 16
def xdP (y : V) : HO := .xd [("part", y)]
def spPart (CB : Addr) : Sp := fun vs H Q _ => ∃ (a : Addr) (y : V), vs = [.ref a, y] ∧ H a = some (exo a CB none) ∧ ∀ d, H d = none → d ≠ a → Q .non (upd (upd H d (exd d [("part", y)])) a (exo a CB (some d)))
/-- what the top says of BadProgram -/
structure BTxt (K : PySem.W.Frag) (mg : Str → Option Value) (CB fI : Addr) (fd : FuncData) : Prop where
  ox : OexC K CB
  iC : PySem.W.findIn K (.ref CB) "__init__" = some (some (.ref fI))
  tI : PySem.W.typeIn K (.ref fI) = some (.type "function")
  F : Fun K "__init__" "BadProgram.__init__" sPart fI fd
  b : Binds K fd ["self", "part"] []
  no : PySem.W.findIn K (.ref CB) "part" = some none
  g : mg "BadProgram" = some (.ref CB)
  ex : PySem.W.exmOne K (.ref CB) (.ref CB) = some true
  xf : XfC K CB
section
variable {P : Program} {w : World} {K : PySem.W.Frag} {mg : Str → Option Value} {base : Heap}
theorem scPart : FnScope ["self", "part"] ["self", "part"] (defScope sPart) := ⟨rfl, rfl, rfl, by decide +kernel, rfl, by decide +kernel, by decide +kernel⟩
theorem ok_part {CB fI : Addr} {fd : FuncData} (T : BTxt K mg CB fI fd) (B : Bts mg) : FnOk P w K mg base CX0 1 fI fd ["self", "part"] (spPart CB) := by
  refine T.F.ok scPart (fun vs H Q E h => ?_) (fun cdv A outer s H vs Q E hr h => ?_)
  · obtain ⟨a, y, rfl, _⟩ := h
    rfl
  · obtain ⟨a, y, rfl, e, k⟩ := h
    refine ⟨_, pss_one (ps_ost (pv 0) (pv 1)), ?_⟩
    exact ⟨_, rfl, _, rfl, a, CB, rfl, T.ox, T.no, .inl ⟨e, fun d n ne => k d n ne⟩⟩
/-- raise BadProgram(y) -/
theorem bad_raise {CB : Addr} {H H1 : Hp} {y : V} {E : XK} (s : Same H H1) (k : ∀ d H', H' d = some (xdP y) → Same H H' → E (.ref CB) (some d) H') :
    [y].length ≤ 1000 ∧ ∀ a, H1 a = none → spPart CB (.ref a :: ([y] ++ [])) (upd H1 a (exo a CB none)) (fun v H2 => v = .non ∧ ∃ (d : Addr) (fs : List (Str × V)), H2 a = some (exo a CB (some d)) ∧ H2 d = some (exd d fs) ∧ H1 d = none ∧ E (.ref CB) (some d) (upd (del H2 a) d (.xd fs))) (fun _ _ _ => False) := by
  refine ⟨(by show 1 ≤ 1000; decide), fun a ha => ⟨a, y, rfl, upd_same, fun d hd hda => ⟨rfl, d, _, upd_same, ?_, ?_, k d _ upd_same fun b o e => ?_⟩⟩⟩
  · rw [upd_ne hda, upd_same]
  · rw [upd_ne hda] at hd
    exact hd
  · have hb := s _ _ e
    have nba : b ≠ a := ne_of_none hb ha
    rw [upd_ne hda] at hd
    have nbd : b ≠ d := ne_of_none hb hd
    rw [upd_ne nbd, del_ne nba, upd_ne nba, upd_ne nbd, upd_ne nba]
    exact hb
end
section
variable {X : Cx} {CX : CXT} {k : Nat} {f C : Addr} {fd : FuncData} {ps : List Str} {sp : Sp} {E : St → XK} {x : Str} {p pos : Pos} {e : Expr} {es : List Expr} {t : TA}
def tMakeS (C : Addr) (sp : Sp) (E : St → XK) (t : TA) : TE := fun σ H Q => t σ H fun vs H1 => ∀ x dx, H1 x = none → H1 dx = none → dx ≠ x → sp (.ref x :: vs) (upd (upd H1 dx (.own x)) x (.ins C dx [])) (fun v H2 => v = .non ∧ Q (.ref x) H2) (E σ)
theorem run_makeS {pins : List (Addr × Obj)} {σ : St} {H : Hp} {s : Shared} {Q : VK} {us : List Value} {vs : List V} (M : Mk X.K C f) (F : FnOk X.prog X.w X.K X.mg X.base CX k f fd ps sp) (hr : Room (k + 1) X.A) (hb : Binds X.K fd ps [])
    (hx : PassesAt CX X σ (E σ)) (I : Inv X pins σ H s) (r : Vals vs us)
    (h : ∀ x dx, H x = none → H dx = none → dx ≠ x → sp (.ref x :: vs) (upd (upd H dx (.own x)) x (.ins C dx [])) (fun v H2 => v = .non ∧ Q (.ref x) H2) (E σ)) :
    wpAny (model X.prog X.w) X.A (call (.ref C) us) (EP X pins σ Q) X.xe s := by
  have hq := h (s.heap.objs.size + 1) s.heap.objs.size (I.hok.fresh (Nat.le_succ _)) (I.hok.fresh (Nat.le_refl _)) (Nat.ne_of_lt (Nat.lt_succ_self _))
  have I2 := Inv.made (C := C) I
  have r2 : Vals (V.ref (s.heap.objs.size + 1) :: vs) (Value.ref (s.heap.objs.size + 1) :: us) := .cons rfl r
  have hl : (Value.ref (s.heap.objs.size + 1) :: us).length = ps.length := by
    have e := r2.length
    rw [F.len _ _ _ _ hq] at e
    exact e.symm
  have bb := hb { heap := _, gens := _, drawn := _, toks := _, os := _ } (Value.ref (s.heap.objs.size + 1) :: us) I2.kIn (by rw [List.append_nil]; exact hl)
  rw [List.append_nil] at bb
  refine wpAny_call (make_map (f := f) I.kIn M.makes M.init (beq_iff_eq.mp M.fn) (codeAny_mono (F.run _ X.stack _ _ ⟨Value.ref (s.heap.objs.size + 1) :: us, []⟩ (Value.ref (s.heap.objs.size + 1) :: us) _ _ (E σ) (hr.make C us [])
    (I2.env0.make C us []) bb r2 hq) fun r s' hq' => ?_))
  cases r with
  | error e => exact hx pins _ _ e s' I2 hq'
  | ok fl =>
    cases fl with
    | ret u =>
      obtain ⟨v, H', I3, rv, ev, q3⟩ := I2.after hq'
      subst ev
      exact ⟨rv, ⟨V.ref (s.heap.objs.size + 1), H', I3, rfl, q3⟩⟩
    | next => exact False.elim hq'
    | brk => exact False.elim hq'
    | cont => exact False.elim hq'
theorem pe_makeS (M : Mk X.K C f) (F : FnOk X.prog X.w X.K X.mg X.base CX k f fd ps sp) (hr : Room (k + 1) X.A) (hg : Gl X x) (hm : X.mg x = some (.ref C)) (hb : Binds X.K fd ps []) (hx : ∀ σ, PassesAt CX X σ (E σ))
    (ha : PA X (e :: es) t) (hdb : (x == ("__debug__" : Str)) = false := by decide) (he : starEach (e :: es) X.env = (false, eval e X.env) :: starEach es X.env := by rfl) (hpl : (backTo pos (starEach es X.env)).any (·.1) = false := by rfl) :
    PE X (.Call (.Name x p) (e :: es) [] pos) (tMakeS C sp E t) := by
  refine ⟨fun pins s σ H Q I h => ?_⟩
  refine wpAny_Call_Name_kw (ld_glob I hg hm ?_ hdb)
  refine PySem.W.callWith_K (h₀ := X.base) I.ok.mod.kin M.kp (thn (ha.run pos pins s σ H _ I h) fun us s1 ⟨vs, H1, I1, r, q⟩ => ⟨I1.kIn, ?_⟩) he hpl
  exact run_makeS M F hr hb (hx σ) I1 r q
end
def spAre (K : PySem.W.Frag) : Sp := fun vs H Q _ => ∃ (bA : Addr) (bs W : List Str) (cells cw : Int) (q : Addr) (xs : List V), vs = [.ref bA, .int cells, .ref q] ∧ KTup K bA (bs.map V.str) ∧ BarOk bs W cells cw ∧ H q = some (.tup xs) ∧ xs.length ≤ 200 ∧ (∀ x ∈ xs, Wh H x) ∧ ∀ (b : Bool) H', Same H H' → (b = true ↔ ∀ x ∈ xs, Right H W cw x) → Q (.bl b) H'
section
variable {P : Program} {w : World} {K : PySem.W.Frag} {mg : Str → Option Value} {base : Heap}
theorem scAre : FnScope ["barred", "cells", "things", "thing"] ["barred", "cells", "things"] (defScope sAre) := ⟨rfl, rfl, rfl, by decide +kernel, rfl, by decide +kernel, by decide +kernel⟩
theorem ok_are {f fE : Addr} {fd fdE : FuncData} (F : Fun K "are_expressions" "are_expressions" sAre f fd) (hall : mg "all" = none) (DE : Df K mg "is_expression" sIsEx ["barred", "cells", "thing"] fE fdE)
    (GE : FnOk P w K mg base CX0 4 fE fdE ["barred", "cells", "thing"] (spIsEx K)) : FnOk P w K mg base CX0 5 f fd ["barred", "cells", "things"] (spAre K) := by
  refine F.ok scAre (fun vs H Q E h => ?_) (fun cdv A outer s H vs Q E hr h => ?_)
  · obtain ⟨bA, bs, W, cells, cw, q, xs, rfl, _⟩ := h
    rfl
  · obtain ⟨bA, bs, W, cells, cw, q, xs, rfl, kt, bo, hq, hl, wh, k⟩ := h
    have nd := scAre.nd
    refine ⟨_, pss_one (ps_ret (pe_callB (cr_all rfl) (by rfl) hall PyProof.Rows.boot_all (pa_cons (pe_lc (own := [("thing", 3)]) (g := gName 3) (tt := tYes) rfl nd (pi_tup (pv 2))
          (blkOk_by (N := ["barred", "cells", "things", "thing"]) (sc := defScope sAre) (by decide +kernel)) (fun _ _ _ _ _ => pg_name (i := 3) nd rfl (.inl rfl)) (fun _ _ _ _ _ => pts_nil)
          (fun _ _ _ _ _ => pe_call GE hr rfl DE.m DE.k DE.b .nil pass0 (pa_cons (pv 0) (pa_cons (pv 1) (pa_cons (pv 3) pa_nil))))) pa_nil))), ?_⟩
    refine ⟨_, rfl, q, rfl, ⟨_, SqT.of hq⟩, fun D hD => lc_tup (K := K) (a := q) (xs := xs) (fun i H' => ∃ bs : List Bool, H' D = some (.lst (bs.map V.bl)) ∧ bs.length = i ∧ (bs.all id = true ↔ ∀ x ∈ xs.take i, Right H W cw x) ∧ Same H H') ?_ ?_ ?_ ?_⟩
    · exact ⟨[], upd_same, rfl, ⟨fun _ x hx => absurd hx (by simp), fun _ => rfl⟩, sN hD⟩
    · rintro i H1 hi ⟨bs, _, _, _, s1⟩
      exact SqT.of (s1 _ _ hq)
    · rintro i x H1 hx ⟨bs', eD, hlb, iff, s1⟩
      have hix : i < xs.length := (List.getElem?_eq_some_iff.mp hx).1
      have hm := List.mem_of_getElem? hx
      refine ⟨rfl, ?_⟩
      refine ⟨_, rfl, _, rfl, _, rfl, bA, bs, W, cells, cw, x, rfl, kt, bo, (wh x hm).same s1, fun b H2 s2 hb => ?_⟩
      refine ⟨_, s2 _ _ eD, ?_, bs' ++ [b], ?_, ?_, ?_, ?_⟩
      · rw [List.length_map, hlb]
        exact Nat.lt_of_lt_of_le (show i < 200 by omega) (by decide)
      · rw [upd_same, List.map_append]
        rfl
      · rw [List.length_append, hlb]
        rfl
      · rw [List.all_append, Bool.and_eq_true, iff, List.take_add_one, hx]
        have e : ([b].all id = true) ↔ b = true := by simp
        rw [e, hb, ← right_iff (wh x hm) s1]
        constructor
        · rintro ⟨h1, h2⟩ y hy
          rcases List.mem_append.mp hy with hy | hy
          · exact h1 y hy
          · have ey : y = x := by simpa using hy
            rw [ey]
            exact h2
        · intro h
          exact ⟨fun y hy => h y (List.mem_append_left _ hy), h x (List.mem_append_right _ (by simp))⟩
      · exact sNew (sT s1 s2) hD
    · rintro H1 ⟨bs', eD, hlb, iff, s1⟩
      refine ⟨D, bs', rfl, SqL.of eD, k _ _ s1 ?_⟩
      rw [List.take_length] at iff
      exact iff
end
end Q

namespace Q
open PySem L2
abbrev sProg : Stmt := inClass (top 15) 0
def bS : List Str := ["cell", "round", "other", "heard", "sum", "least", "most"]
def bT : List Str := ["heard", "sum", "least", "most"]
def bN : List Str := ["other"]
def wS : List Str := ["me", "many", "ties"]
def wT : List Str := ["me", "many", "ties", "round", "other"]
def wN : List Str := ["me", "many", "ties", "round", "heard", "sum", "least", "most"]
theorem alS : Alone wS := ⟨by decide +kernel, by decide +kernel, by decide +kernel, by decide +kernel⟩
theorem alT : Alone wT := ⟨by decide +kernel, by decide +kernel, by decide +kernel, by decide +kernel⟩
theorem alN : Alone wN := ⟨by decide +kernel, by decide +kernel, by decide +kernel, by decide +kernel⟩
theorem boS (c : Int) : BarOk bS wS c 0 := ⟨alS, by decide +kernel, by decide +kernel, by decide +kernel, by decide +kernel, by decide +kernel, .inl ⟨by decide +kernel, by decide⟩⟩
theorem boT (c : Int) : BarOk bT wT c c := ⟨alT, by decide +kernel, by decide +kernel, by decide +kernel, by decide +kernel, by decide +kernel, .inr ⟨by decide +kernel, rfl⟩⟩
theorem boN (c : Int) : BarOk bN wN c c := ⟨alN, by decide +kernel, by decide +kernel, by decide +kernel, by decide +kernel, by decide +kernel, .inr ⟨by decide +kernel, rfl⟩⟩
/-- the starts are right -/
structure St (H : Hp) (s : V) (q : Addr) (xs : List V) : Prop where
  es : s = .ref q
  hq : H q = some (.tup xs)
  l1 : 1 ≤ xs.length
  l4 : xs.length ≤ 4
  rs : ∀ x ∈ xs, Right H wS 0 x
inductive BadP (H : Hp) (s t y n : V) : V → Prop
  | starts (no : ∀ q xs, ¬ St H s q xs) : BadP H s t y n (.str "starts")
  | to (q : Addr) (xs : List V) (st : St H s q xs) (no : ¬ Right H wT xs.length t) : BadP H s t y n (.str "to")
  | say (q : Addr) (xs : List V) (st : St H s q xs) (rt : Right H wT xs.length t) (no : ¬ Right H wT xs.length y) : BadP H s t y n (.str "say")
  | nexts (q : Addr) (xs : List V) (st : St H s q xs) (rt : Right H wT xs.length t) (ry : Right H wT xs.length y) (no : ∀ q' ns, n = .ref q' → H q' = some (.tup ns) → ns.length = xs.length → (∀ x ∈ ns, Right H wN xs.length x) → False) : BadP H s t y n (.str "nexts")
structure FineP (H : Hp) (s t y n : V) : Prop where
  ex : ∃ (q : Addr) (xs : List V) (q' : Addr) (ns : List V), St H s q xs ∧ Right H wT xs.length t ∧ Right H wT xs.length y ∧ n = .ref q' ∧ H q' = some (.tup ns) ∧ ns.length = xs.length ∧ ∀ x ∈ ns, Right H wN xs.length x
theorem St.uniq {H : Hp} {s : V} {q q' : Addr} {xs xs' : List V} (h : St H s q xs) (g : St H s q' xs') : xs = xs' := by
  have e := h.es.symm.trans g.es
  cases e
  have z := h.hq.symm.trans g.hq
  simpa using z
theorem BadP.uniq {H : Hp} {s t y n r r' : V} (h : BadP H s t y n r) (g : BadP H s t y n r') : r = r' := by
  cases h with
  | starts no => cases g with
    | starts => rfl
    | to q xs st => exact (no _ _ st).elim
    | say q xs st => exact (no _ _ st).elim
    | nexts q xs st => exact (no _ _ st).elim
  | to q xs st no => cases g with
    | starts no' => exact (no' _ _ st).elim
    | to => rfl
    | say q' xs' st' rt => cases st.uniq st'; exact (no rt).elim
    | nexts q' xs' st' rt => cases st.uniq st'; exact (no rt).elim
  | say q xs st rt no => cases g with
    | starts no' => exact (no' _ _ st).elim
    | to q' xs' st' no' => cases st.uniq st'; exact (no' rt).elim
    | say => rfl
    | nexts q' xs' st' rt' ry => cases st.uniq st'; exact (no ry).elim
  | nexts q xs st rt ry no => cases g with
    | starts no' => exact (no' _ _ st).elim
    | to q' xs' st' no' => cases st.uniq st'; exact (no' rt).elim
    | say q' xs' st' _ no' => cases st.uniq st'; exact (no' ry).elim
    | nexts => rfl
theorem FineP.not_bad {H : Hp} {s t y n r : V} (h : FineP H s t y n) (g : BadP H s t y n r) : False := by
  obtain ⟨q, xs, q', ns, st, rt, ry, en, hn, ln, rn⟩ := h.ex
  cases g with
  | starts no => exact no _ _ st
  | to q' xs' st' no => cases st.uniq st'; exact no rt
  | say q' xs' st' _ no => cases st.uniq st'; exact no ry
  | nexts q2 xs' st' _ _ no => cases st.uniq st'; exact no _ _ en hn ln rn
structure PreP (H : Hp) (s t y n : V) : Prop where
  s : Wh H s
  t : Wh H t
  y : Wh H y
  n : Wh H n
theorem PreP.same {H H' : Hp} {s t y n : V} (h : PreP H s t y n) (z : Same H H') : PreP H' s t y n := ⟨h.s.same z, h.t.same z, h.y.same z, h.n.same z⟩
theorem tup_back {H H' : Hp} {u : V} (k : Kd H u) (s : Same H H') {q : Addr} (e : u = .ref q) {ys : List V} (h : H' q = some (.tup ys)) : H q = some (.tup ys) := by
  rw [e] at k
  obtain ⟨o, eo⟩ := k.at_
  have z := s _ _ eo
  rw [h] at z
  rw [eo, z]
theorem st_iff {H H' : Hp} {s : V} {q : Addr} {xs : List V} (w : Wh H s) (z : Same H H') : St H s q xs ↔ St H' s q xs := by
  constructor
  · intro h
    have e := h.es
    subst e
    have it := (w.items h.hq).2
    exact ⟨rfl, z _ _ h.hq, h.l1, h.l4, fun x hx => (right_iff (it x hx) z).mp (h.rs x hx)⟩
  · intro h
    have hq := tup_back w.kd z h.es h.hq
    have e := h.es
    subst e
    have it := (w.items hq).2
    exact ⟨rfl, hq, h.l1, h.l4, fun x hx => (right_iff (it x hx) z).mpr (h.rs x hx)⟩
theorem BadP.back {H H' : Hp} {s t y n r : V} (p : PreP H s t y n) (z : Same H H') (h : BadP H' s t y n r) : BadP H s t y n r := by
  cases h with
  | starts no => exact .starts fun q xs st => no q xs ((st_iff p.s z).mp st)
  | to q xs st no => exact .to q xs ((st_iff p.s z).mpr st) fun h => no ((right_iff p.t z).mp h)
  | say q xs st rt no => exact .say q xs ((st_iff p.s z).mpr st) ((right_iff p.t z).mpr rt) fun h => no ((right_iff p.y z).mp h)
  | nexts q xs st rt ry no => exact .nexts q xs ((st_iff p.s z).mpr st) ((right_iff p.t z).mpr rt) ((right_iff p.y z).mpr ry) fun q' ns e hn hl hr => no q' ns e (z _ _ hn) hl fun x hx => (right_iff (((show Wh H (.ref q') from e ▸ p.n).items hn).2 x hx) z).mp (hr x hx)
theorem FineP.back {H H' : Hp} {s t y n : V} (p : PreP H s t y n) (z : Same H H') (h : FineP H' s t y n) : FineP H s t y n := by
  obtain ⟨q, xs, q', ns, st, rt, ry, en, hn, ln, rn⟩ := h.ex
  have hn' := tup_back p.n.kd z en hn
  have w := p.n
  rw [en] at w
  exact ⟨q, xs, q', ns, (st_iff p.s z).mpr st, (right_iff p.t z).mpr rt, (right_iff p.y z).mpr ry, en, hn', ln, fun x hx => (right_iff ((w.items hn').2 x hx) z).mpr (rn x hx)⟩
theorem FineP.same {H H' : Hp} {s t y n : V} (p : PreP H s t y n) (z : Same H H') (h : FineP H s t y n) : FineP H' s t y n := by
  obtain ⟨q, xs, q', ns, st, rt, ry, en, hn, ln, rn⟩ := h.ex
  have w := p.n
  rw [en] at w
  exact ⟨q, xs, q', ns, (st_iff p.s z).mp st, (right_iff p.t z).mp rt, (right_iff p.y z).mp ry, en, z _ _ hn, ln, fun x hx => (right_iff ((w.items hn).2 x hx) z).mp (rn x hx)⟩
/-! ### a program's attributes -/
def pf (s t y n : V) : List (Str × V) := putF "nexts" n (putF "say" y (putF "to" t (putF "starts" s [])))
theorem pf_starts (s t y n : V) : (pf s t y n).lookup ("starts" : Str) = some s := by
  unfold pf
  rw [lookup_putF, if_neg (by decide +kernel), lookup_putF, if_neg (by decide +kernel), lookup_putF, if_neg (by decide +kernel), lookup_putF, if_pos rfl]
theorem pf_to (s t y n : V) : (pf s t y n).lookup ("to" : Str) = some t := by
  unfold pf
  rw [lookup_putF, if_neg (by decide +kernel), lookup_putF, if_neg (by decide +kernel), lookup_putF, if_pos rfl]
theorem pf_say (s t y n : V) : (pf s t y n).lookup ("say" : Str) = some y := by
  unfold pf
  rw [lookup_putF, if_neg (by decide +kernel), lookup_putF, if_pos rfl]
theorem pf_nexts (s t y n : V) : (pf s t y n).lookup ("nexts" : Str) = some n := by
  unfold pf
  rw [lookup_putF, if_pos rfl]
end Q

namespace Q
open PySem L2
/-- what the top says of Program -/
structure PTxt (K : PySem.W.Frag) (mg : Str → Option Value) (C : Addr) : Prop where
  cl : Cls K C
  nS : NoAttr K C "starts"
  nT : NoAttr K C "to"
  nY : NoAttr K C "say"
  nN : NoAttr K C "nexts"
  mgC : mg "Program" = some (.ref C)
  kS : ∃ a, mg "NOT_IN_STARTS" = some (.ref a) ∧ KTup K a (bS.map V.str)
  kT : ∃ a, mg "NOT_IN_SAYINGS" = some (.ref a) ∧ KTup K a (bT.map V.str)
  kN : ∃ a, mg "NOT_IN_NEXTS" = some (.ref a) ∧ KTup K a (bN.map V.str)
/-- the defs that a program leans on -/
structure PDefs (K : PySem.W.Frag) (mg : Str → Option Value) where
  fP : Addr
  dP : FuncData
  DP : Df K mg "is_plain_int" sPlain ["thing"] fP dP
  fN : Addr
  dN : FuncData
  DN : Df K mg "is_number_below" sNum ["limit", "thing"] fN dN
  fS : Addr
  dS : FuncData
  DS : Df K mg "is_small" sSmall ["thing"] fS dS
  fB : Addr
  dB : FuncData
  DB : Df K mg "begins_well" sBegins ["barred", "cells", "thing"] fB dB
  fI : Addr
  dI : FuncData
  DI : Df K mg "inner_parts" sInner ["expression"] fI dI
  fE : Addr
  dE : FuncData
  DE : Df K mg "is_expression" sIsEx ["barred", "cells", "thing"] fE dE
  fA : Addr
  dA : FuncData
  DA : Df K mg "are_expressions" sAre ["barred", "cells", "things"] fA dA
/-- the names that stand for built-ins, and the limits -/
structure Oth (K : PySem.W.Frag) (w : World) (mg : Str → Option Value) : Prop where
  str : mg "str" = none
  all : mg "all" = none
  zip : mg "zip" = none
  parts : Parts K w mg
  lim : Lim mg
def spProgX (C CB : Addr) : Sp := fun vs H Q E => ∃ (p dx : Addr) (s t y n : V), vs = [.ref p, s, t, y, n] ∧ H p = some (.ins C dx []) ∧ PreP H s t y n ∧
  (∀ r d H', BadP H s t y n r → H' d = some (xdP r) → Same H H' → E (.ref CB) (some d) H') ∧ (FineP H s t y n → ∀ H', H' p = some (.ins C dx (pf s t y n)) → Ext p H H' → Q .non H')
theorem passF {X : Cx} : Passes (L2.CX X.prog X.w) X (fun _ _ _ => False) := fun _ _ _ _ _ _ _ h => by
  obtain ⟨_, _, _, _, _, _, _, _, _, _, _, _, _, _, z⟩ := h
section
variable {P : Program} {w : World} {K : PySem.W.Frag} {mg : Str → Option Value} {base : Heap}
theorem scProg : FnScope ["self", "starts", "to", "say", "nexts", "cells"] ["self", "starts", "to", "say", "nexts"] (defScope sProg) := ⟨rfl, rfl, rfl, by decide +kernel, rfl, by decide +kernel, by decide +kernel⟩
theorem ok_progX {f C CB fI : Addr} {fd fdI : FuncData} (F : Fun K "__init__" "Program.__init__" sProg f fd) (B : Bts mg) (O : Oth K w mg) (T : PTxt K mg C) (D : PDefs K mg) (BT : BTxt K mg CB fI fdI) : FnOk P w K mg base (L2.CX P w) 6 f fd ["self", "starts", "to", "say", "nexts"] (spProgX C CB) := by
  have GE : FnOk P w K mg base CX0 4 D.fE D.dE ["barred", "cells", "thing"] (spIsEx K) := ok_isex D.DE.F B O.str O.parts O.lim D.DP D.DN D.DS D.DB D.DI
  have GA : FnOk P w K mg base CX0 5 D.fA D.dA ["barred", "cells", "things"] (spAre K) := ok_are D.DA.F O.all D.DE GE
  have GI : FnOk P w K mg base CX0 1 fI fdI ["self", "part"] (spPart CB) := ok_part BT B
  obtain ⟨aS, gS, kS⟩ := T.kS
  obtain ⟨aT, gT, kT⟩ := T.kT
  obtain ⟨aN, gN, kN⟩ := T.kN
  obtain ⟨tm, hmost⟩ := O.lim.starts
  refine F.okX scProg (fun vs H Q E h => ?_) (fun cdv A outer s0 H vs Q E hr h => ?_)
  · obtain ⟨p, dx, s, t, y, n, rfl, _⟩ := h
    rfl
  · obtain ⟨p, dx, s, t, y, n, rfl, hp, pre, kE, k⟩ := h
    have nd := scProg.nd
    have hr2 : Room 2 _ := hr.mono (by decide)
    have hr4 : Room 4 _ := hr.mono (by decide)
    refine ⟨_, pss_cons (ps_if (PW.pt (pw_or (pt_not (pt_val (pe_callB call_isi (by rfl) B.isinstance PyProof.Rows.boot_isinstance (pa_cons (pv 1) (pa_cons (pe_bltn (v := .ty "tuple") rfl B.tuple PyProof.Rows.boot_tuple rfl) pa_nil)))))
        (pw_or1 (pt_not (pt_chain op_le op_le pe_int (pe_callB call_len_seq (by rfl) B.len PySem.boot_len (pa_cons (pv 1) pa_nil)) (pe_glob (v := .int 4) rfl hmost ⟨_, rfl⟩)))))) (pss_one (ps_raise rfl (takes_of rfl rfl rfl rfl) (pmk_oex BT.ox BT.iC BT.tI GI hr2 BT.b .nil pass0 rfl BT.g (pa_cons pe_str pa_nil)))) pss_nil)
      (pss_cons (ps_set (i := 5) nd rfl (.inl rfl) (pe_callB call_len_seq (by rfl) B.len PySem.boot_len (pa_cons (pv 1) pa_nil)))
      (pss_cons (ps_if (pt_not (pt_val (pe_call GA hr rfl D.DA.m D.DA.k D.DA.b .nil pass0 (pa_cons (pe_glob (v := .ref aS) rfl gS rfl) (pa_cons (pv 5) (pa_cons (pv 1) pa_nil)))))) (pss_one (ps_raise rfl (takes_of rfl rfl rfl rfl) (pmk_oex BT.ox BT.iC BT.tI GI hr2 BT.b .nil pass0 rfl BT.g (pa_cons pe_str pa_nil)))) pss_nil)
      (pss_cons (ps_if (pt_not (pt_val (pe_call GE hr4 rfl D.DE.m D.DE.k D.DE.b .nil pass0 (pa_cons (pe_glob (v := .ref aT) rfl gT rfl) (pa_cons (pv 5) (pa_cons (pv 2) pa_nil)))))) (pss_one (ps_raise rfl (takes_of rfl rfl rfl rfl) (pmk_oex BT.ox BT.iC BT.tI GI hr2 BT.b .nil pass0 rfl BT.g (pa_cons pe_str pa_nil)))) pss_nil)
      (pss_cons (ps_if (pt_not (pt_val (pe_call GE hr4 rfl D.DE.m D.DE.k D.DE.b .nil pass0 (pa_cons (pe_glob (v := .ref aT) rfl gT rfl) (pa_cons (pv 5) (pa_cons (pv 3) pa_nil)))))) (pss_one (ps_raise rfl (takes_of rfl rfl rfl rfl) (pmk_oex BT.ox BT.iC BT.tI GI hr2 BT.b .nil pass0 rfl BT.g (pa_cons pe_str pa_nil)))) pss_nil)
      (pss_cons (ps_if (PW.pt (pw_or (pt_not (pt_val (pe_callB call_isi (by rfl) B.isinstance PyProof.Rows.boot_isinstance (pa_cons (pv 4) (pa_cons (pe_bltn (v := .ty "tuple") rfl B.tuple PyProof.Rows.boot_tuple rfl) pa_nil)))))
        (pw_or1 (pt_cmpR op_ne (pe_callB call_len_seq (by rfl) B.len PySem.boot_len (pa_cons (pv 4) pa_nil)) (pv 5) (nomark _))))) (pss_one (ps_raise rfl (takes_of rfl rfl rfl rfl) (pmk_oex BT.ox BT.iC BT.tI GI hr2 BT.b .nil pass0 rfl BT.g (pa_cons pe_str pa_nil)))) pss_nil)
      (pss_cons (ps_if (pt_not (pt_val (pe_call GA hr rfl D.DA.m D.DA.k D.DA.b .nil pass0 (pa_cons (pe_glob (v := .ref aN) rfl gN rfl) (pa_cons (pv 5) (pa_cons (pv 4) pa_nil)))))) (pss_one (ps_raise rfl (takes_of rfl rfl rfl rfl) (pmk_oex BT.ox BT.iC BT.tI GI hr2 BT.b .nil pass0 rfl BT.g (pa_cons pe_str pa_nil)))) pss_nil)
      (pss_cons (ps_fld (pv 0) (pv 1) rfl)
      (pss_cons (ps_fld (pv 0) (pv 2) rfl)
      (pss_cons (ps_fld (pv 0) (pv 3) rfl)
      (pss_one (ps_fld (pv 0) (pv 4) rfl))))))))))), ?_⟩
    have rs : Same H H := fun _ _ e => e
    obtain ⟨ts, bs0, tys, kts, hs⟩ := pre.s.kd.tyT (K := K)
    refine ⟨_, rfl, s, .ty "tuple", ts, .type "tuple", bs0, rfl, .ty _, tys, kts, _, rfl, ?_⟩
    rcases hs with ⟨rfl, q, xs, rfl, hq⟩ | ⟨rfl, no⟩
    rotate_left
    · refine iteT ?_
      exact bad_raise rs fun d H' e s1 => kE _ d H' (.starts fun q xs st => no q xs st.es st.hq) e s1
    have its := (pre.s.items hq)
    refine iteF ⟨_, rfl, q, xs, rfl, .inr (SqT.of hq), _, _, rfl, rfl, _, rfl, ite2 (fun c1 => ?_) (fun c1 => ?_)⟩
    rotate_left
    · refine ⟨_, rfl, iteT ?_⟩
      exact bad_raise rs fun d H' e s1 => kE _ d H' (.starts fun q' xs' st => c1 (decide_eq_true (by
        have e1 := st.es
        cases e1
        have z := st.hq
        rw [hq] at z
        cases z
        have := st.l1
        omega))) e s1
    have l1 : 1 ≤ xs.length := by
      have := of_decide_eq_true c1
      omega
    refine ⟨_, _, rfl, rfl, _, rfl, ite2 (fun c2 => ?_) (fun c2 => ?_)⟩
    · have no4 : ¬ xs.length ≤ 4 := fun z => by
        rw [decide_eq_true (show ((xs.length : Nat) : Int) ≤ 4 by omega)] at c2
        exact absurd c2 (by decide)
      exact bad_raise rs fun d H' e s1 => kE _ d H' (.starts fun q' xs' st => by
        have e1 := st.es
        cases e1
        have z := st.hq
        rw [hq] at z
        cases z
        exact no4 st.l4) e s1
    have l4 : xs.length ≤ 4 := by
      by_cases z : ((xs.length : Nat) : Int) ≤ 4
      · omega
      · rw [decide_eq_false z] at c2
        exact absurd rfl c2
    refine ⟨_, rfl, q, xs, rfl, .inr (SqT.of hq), ?_⟩
    refine ⟨_, rfl, _, rfl, aS, bS, wS, _, 0, q, xs, rfl, kS, boS _, hq, its.1, its.2, fun b H1 s1 hb => ⟨_, rfl, ?_⟩⟩
    cases b with
    | false =>
      refine iteT ?_
      exact bad_raise s1 fun d H' e s2 => kE _ d H' (.starts fun q' xs' st => by
        have e1 := st.es
        cases e1
        have z := st.hq
        rw [hq] at z
        cases z
        exact Bool.false_ne_true (hb.mpr st.rs)) e s2
    | true =>
    have st : St H (.ref q) q xs := ⟨rfl, hq, l1, l4, hb.mp rfl⟩
    refine iteF ⟨_, rfl, _, rfl, aT, bT, wT, _, _, t, rfl, kT, boT _, pre.t.same s1, fun b H2 s2 hb2 => ⟨_, rfl, ?_⟩⟩
    rw [← right_iff pre.t s1] at hb2
    cases b with
    | false =>
      refine iteT ?_
      exact bad_raise (sT s1 s2) fun d H' e s3 => kE _ d H' (.to q xs st fun z => Bool.false_ne_true (hb2.mpr z)) e s3
    | true =>
    have rt := hb2.mp rfl
    refine iteF ⟨_, rfl, _, rfl, aT, bT, wT, _, _, y, rfl, kT, boT _, pre.y.same (sT s1 s2), fun b H3 s3 hb3 => ⟨_, rfl, ?_⟩⟩
    rw [← right_iff pre.y (sT s1 s2)] at hb3
    have s03 := sT (sT s1 s2) s3
    cases b with
    | false =>
      refine iteT ?_
      exact bad_raise s03 fun d H' e s4 => kE _ d H' (.say q xs st rt fun z => Bool.false_ne_true (hb3.mpr z)) e s4
    | true =>
    have ry := hb3.mp rfl
    obtain ⟨tn, bn0, tyn, ktn, hn⟩ := (pre.n.same s03).kd.tyT (K := K)
    refine iteF ⟨_, rfl, n, .ty "tuple", tn, .type "tuple", bn0, rfl, .ty _, tyn, ktn, _, rfl, ?_⟩
    rcases hn with ⟨rfl, q', ns, rfl, hq'⟩ | ⟨rfl, no⟩
    rotate_left
    · refine iteT ?_
      exact bad_raise s03 fun d H' e s4 => kE _ d H' (.nexts q xs st rt ry fun q' ns e hn _ _ => no q' ns e (s03 _ _ hn)) e s4
    have hq0 := tup_back pre.n.kd s03 rfl hq'
    have itn := pre.n.items hq0
    refine iteF ⟨_, rfl, q', ns, rfl, .inr (SqT.of hq'), _, rfl, rfl, _, rfl, ite2 (fun c => ?_) (fun c => ?_)⟩
    · exact bad_raise s03 fun d H' e s4 => kE _ d H' (.nexts q xs st rt ry fun q2 ns2 e hn hl _ => by
        cases e
        rw [hq0] at hn
        cases hn
        rw [hl, decide_eq_true rfl] at c
        exact absurd c (by decide)) e s4
    have ln : ns.length = xs.length := by
      by_cases z : ns.length = xs.length
      · exact z
      · rw [decide_eq_false (fun e => z (by
          have z2 := V.int.inj e
          omega))] at c
        exact absurd rfl c
    refine ⟨_, rfl, _, rfl, aN, bN, wN, _, _, q', ns, rfl, kN, boN _, hq', itn.1, wh_same itn.2 s03, fun b H4 s4 hb4 => ⟨_, rfl, ?_⟩⟩
    have s04 := sT s03 s4
    have iff4 : b = true ↔ ∀ x ∈ ns, Right H wN xs.length x := hb4.trans ⟨fun h x hx => (right_iff (itn.2 x hx) s03).mpr (h x hx), fun h x hx => (right_iff (itn.2 x hx) s03).mp (h x hx)⟩
    cases b with
    | false =>
      refine iteT ?_
      exact bad_raise s04 fun d H' e s5 => kE _ d H' (.nexts q xs st rt ry fun q2 ns2 e hn _ hr => by
        cases e
        rw [hq0] at hn
        cases hn
        exact Bool.false_ne_true (iff4.mpr hr)) e s5
    | true =>
    have rn := iff4.mp rfl
    refine iteF ⟨_, rfl, _, rfl, p, C, dx, _, rfl, s04 _ _ hp, T.cl, T.nS, (by show 0 < 1000; decide), ?_⟩
    refine ⟨_, rfl, _, rfl, p, C, dx, _, rfl, upd_same, T.cl, T.nT, (by show 1 < 1000; decide), ?_⟩
    refine ⟨_, rfl, _, rfl, p, C, dx, _, rfl, upd_same, T.cl, T.nY, (by show 2 < 1000; decide), ?_⟩
    refine ⟨_, rfl, _, rfl, p, C, dx, _, rfl, upd_same, T.cl, T.nN, (by show 3 < 1000; decide), ?_⟩
    refine k ⟨q, xs, q', ns, st, rt, ry, rfl, hq0, ln, rn⟩ _ upd_same fun b o e nb => ?_
    rw [upd_ne nb, upd_ne nb, upd_ne nb, upd_ne nb]
    exact s04 _ _ e
end
end Q

namespace Q
open PySem L2
theorem pe_fldO {X : Cx} {e : Expr} {f : Str} {pos : Pos} {ta : TE} {K0 : PySem.W.Frag} (hK : X.K = K0) (he : PE X e ta) (hb : attributeBase e f X.env (eval e X.env) = eval e X.env) : PE X (.Attribute e f pos) (tFld K0 ta f) := by
  subst hK
  exact pe_fld he hb
theorem part_look (y : V) : List.lookup ("part" : Str) ([(("part" : Str), y)] : List (Str × V)) = some y := by
  show (match (("part" : Str) == ("part" : Str)) with | true => some y | false => List.lookup ("part" : Str) []) = some y
  rw [show (("part" : Str) == ("part" : Str)) = true by decide]
section
variable {X : Cx}
/-- a == b by the own __eq__ of a's class -/
def rEqI (C : Addr) (sp : Sp) : R2 := fun x y H Q => ∃ (a dx : Addr) (fs : List (Str × V)), x = .ref a ∧ H a = some (.ins C dx fs) ∧ ((∃ b dy gs, y = .ref b ∧ H b = some (.ins C dy gs)) ∨ (∃ b ys, y = .ref b ∧ H b = some (.tup ys))) ∧ sp [x, y] H (fun v H' => (∃ c, v = .bl c) ∧ Q v H') (fun _ _ _ => False)
theorem op_eqI {CX : CXT} {n : Nat} {C f : Addr} {fd : FuncData} {ps : List Str} {sp : Sp} (F : FnOk X.prog X.w X.K X.mg X.base CX n f fd ps sp) (hs : PySem.W.findIn X.K (.ref C) "__eq__" = some (some (.ref f))) (hf : PySem.W.isFn X.K (.ref f) = true)
    (nf : PySem.W.notFirst X.K C (.type "tuple") = true) (hb : Binds X.K fd ps []) (hx : Passes CX X (fun _ _ _ => False)) (hr : Room n X.A) : OpR X (compareOp .Eq) (rEqI C sp) := by
  intro pins s σ H x y v u Q I rx ry h
  obtain ⟨a, dx, fs, rfl, ha, hy, hsp⟩ := h
  cases rx
  obtain ⟨mA, J, _⟩ := ins_get I.hok ha
  obtain ⟨od, J, _⟩ := J.look
  obtain ⟨m, hF⟩ := I.fr
  obtain ⟨b, rfl⟩ : ∃ b, y = .ref b := by
    rcases hy with ⟨b, _, _, e, _⟩ | ⟨b, _, e, _⟩ <;> exact ⟨b, e⟩
  cases ry
  have hl := F.len _ _ _ _ hsp
  have r2 : Vals [V.ref a, V.ref b] [Value.ref a, Value.ref b] := .cons rfl (.cons rfl .nil)
  have call : wpAny (model X.prog X.w) X.A (call (.ref f) [.ref a, .ref b]) (PySem.W.CmpBack (EP X pins σ Q)) X.xe s := by
    refine wpAny_call (codeAny_mono (F.run X.A X.stack s H ⟨[.ref a, .ref b], []⟩ [.ref a, .ref b] [.ref a, .ref b] _ _ hr I.env0 (by
      have := hb s [.ref a, .ref b] I.kIn (by simpa using hl)
      simpa using this) r2 hsp) fun r s' hq => ?_)
    cases r with
    | error e => exact hx pins σ H s e s' I hq
    | ok fl =>
      cases fl with
      | ret w =>
        obtain ⟨z, H', I', rz, ⟨c, ez⟩, q⟩ := I.after hq
        subst ez
        cases rz
        exact ⟨.bl c, H', I', rfl, q⟩
      | next => exact False.elim hq
      | brk => exact False.elim hq
      | cont => exact False.elim hq
  show wpAny (model X.prog X.w) X.A (richCompare .Eq (.ref a) (.ref b)) (EP X pins σ Q) X.xe s
  rcases hy with ⟨b', dy, gs, e, hb'⟩ | ⟨b', ys, e, hb'⟩
  · cases e
    obtain ⟨mB, J', _⟩ := ins_get I.hok hb'
    obtain ⟨od', J', _⟩ := J'.look
    exact PySem.W.cmp_K (op := .Eq) (tb := .ref C) hr.units0 hF I.ok.mod.kin J J'.type (by simp [PySem.W.notFirst]) hs hf call
  · cases e
    obtain ⟨_, its, rv, o, h1, h2, n', h3⟩ := (show ObjOk X.prog X.w H s.heap b (.tup ys) from I.hok b _ hb')
    have ty : PySem.W.Looks (model X.prog X.w) s.heap (typeOf (.ref b)) (.type "tuple") := fun A Q E s k q => wpAny_typeOf_ref (k _ _ h1) (by rw [h2]; exact q)
    exact PySem.W.cmp_K (op := .Eq) (tb := .type "tuple") hr.units0 hF I.ok.mod.kin J ty nf hs hf call
end

abbrev sEq : Stmt := inClass (top 15) 1
/-- data that can be compared -/
def Dat (K : PySem.W.Frag) (H : Hp) (n : Nat) (v : V) (d : PyData) : Prop := Dp K H v d ∧ d.canLay0 = true ∧ d.depth ≤ n ∧ PyData.eqv d d = true
def DatL (K : PySem.W.Frag) (H : Hp) (n : Nat) (vs : List V) (ds : List PyData) : Prop := DpAll K H vs ds ∧ PyData.canLayAll0 ds = true ∧ PyData.depthAll ds ≤ n ∧ PyData.eqvAll ds ds = true
theorem DatL.nil {K : PySem.W.Frag} {H : Hp} {n : Nat} : DatL K H n [] [] := ⟨.nil, by simp [PyData.canLayAll0], by simp [PyData.depthAll], by simp [PyData.eqvAll]⟩
theorem DatL.cons {K : PySem.W.Frag} {H : Hp} {n : Nat} {v : V} {vs : List V} {d : PyData} {ds : List PyData} (h : Dat K H n v d) (k : DatL K H n vs ds) : DatL K H n (v :: vs) (d :: ds) :=
  ⟨.cons h.1 k.1, by simp only [PyData.canLayAll0, h.2.1, k.2.1, Bool.and_self], by simp only [PyData.depthAll]; exact Nat.max_le.mpr ⟨h.2.2.1, k.2.2.1⟩, by simp only [PyData.eqvAll, h.2.2.2, k.2.2.2, Bool.and_self]⟩
theorem Dat.tup {K : PySem.W.Frag} {H : Hp} {n : Nat} {a : Addr} {vs : List V} {ds : List PyData} (e : H a = some (.tup vs)) (h : DatL K H n vs ds) : Dat K H (n + 1) (.ref a) (.tuple ds) :=
  ⟨.tup (SqT.of e) h.1, by simp only [PyData.canLay0, h.2.1], by simp only [PyData.depth]; have := h.2.2.1; omega, by simp only [PyData.eqv, h.2.2.2]⟩
theorem Dat.str {K : PySem.W.Frag} {H : Hp} {n : Nat} (z : Str) (ok : PyData.strOk z = true) : Dat K H n (.str z) (.str z) := ⟨.str z, by simp only [PyData.canLay0, ok], by simp [PyData.depth], by simp [PyData.eqv]⟩
theorem Dat.int {K : PySem.W.Frag} {H : Hp} {n : Nat} (z : Int) : Dat K H n (.int z) (.int z) := ⟨.int z, by simp [PyData.canLay0], by simp [PyData.depth], by simp [PyData.eqv]⟩
theorem datL_of {K : PySem.W.Frag} {H : Hp} {n : Nat} : ∀ {xs : List V}, (∀ x ∈ xs, ∃ d, Dat K H n x d) → ∃ ds, DatL K H n xs ds
  | [], _ => ⟨[], .nil⟩
  | x :: r, h => by
    obtain ⟨d, hd⟩ := h x List.mem_cons_self
    obtain ⟨ds, hds⟩ := datL_of (xs := r) fun y hy => h y (List.mem_cons_of_mem _ hy)
    exact ⟨d :: ds, .cons hd hds⟩
theorem paired_left {R : V → Nat → Prop} {xs : List V} {as : List Nat} (p : Paired R xs as) : ∀ x ∈ xs, ∃ k, R x k := by
  induction p with
  | nil => exact fun x hx => absurd hx List.not_mem_nil
  | cons h _ ih => exact fun x hx => (List.mem_cons.mp hx).elim (fun e => by subst e; exact ⟨_, h⟩) (ih x)
theorem ok_ops : ∀ s ∈ opsL, PyData.strOk s = true := by decide +kernel
theorem ok_wS : ∀ s ∈ wS, PyData.strOk s = true := by decide +kernel
theorem ok_wT : ∀ s ∈ wT, PyData.strOk s = true := by decide +kernel
theorem ok_wN : ∀ s ∈ wN, PyData.strOk s = true := by decide +kernel
theorem ts_dat {K : PySem.W.Frag} {H : Hp} {W : List Str} {c : Int} (hW : ∀ s ∈ W, PyData.strOk s = true) : ∀ {n : Nat} {v : V} {k : Nat}, TS H W c n v k → ∃ d, Dat K H n v d
  | 0, _, _, h => h.elim
  | n + 1, v, k, h => by
    obtain ⟨ks, ⟨a, s, r, rfl, e, h⟩, szs, p, _⟩ := h
    have kids : ∀ x ∈ ks, ∃ d, Dat K H n x d := fun x hx => by
      obtain ⟨k', hk⟩ := paired_left p x hx
      exact ts_dat hW hk
    have items : ∀ x ∈ r, ∃ d, Dat K H n x d := by
      rcases h with ⟨_, _, i, rfl, _⟩ | ⟨_, _, i, rfl, _⟩ | ⟨_, rfl, _⟩ | ⟨_, _, rfl⟩ | ⟨_, _, rfl⟩
      · exact fun x hx => by
          have e := List.mem_singleton.mp hx
          subst e
          exact ⟨_, .int i⟩
      · exact fun x hx => by
          have e := List.mem_singleton.mp hx
          subst e
          exact ⟨_, .int i⟩
      · exact fun x hx => absurd hx List.not_mem_nil
      · exact kids
      · exact kids
    have sok : PyData.strOk s = true := by
      rcases h with ⟨rfl, _⟩ | ⟨rfl, _⟩ | ⟨hw, _⟩ | ⟨rfl, _⟩ | ⟨ho, _⟩
      · decide +kernel
      · decide +kernel
      · exact hW s hw
      · decide +kernel
      · exact ok_ops s ho
    obtain ⟨ds, hds⟩ := datL_of items
    exact ⟨_, .tup e (.cons (.str s sok) hds)⟩
theorem Dat.mono {K : PySem.W.Frag} {H : Hp} {n m : Nat} {v : V} {d : PyData} (h : Dat K H n v d) (l : n ≤ m) : Dat K H m v d := ⟨h.1, h.2.1, Nat.le_trans h.2.2.1 l, h.2.2.2⟩
theorem Dat.shaped {K : PySem.W.Frag} {H : Hp} {n : Nat} {v : V} {d : PyData} (h : Dat K H n v d) (l : n ≤ 60) : SeqAt.shaped d = true := by
  unfold SeqAt.shaped
  rw [Bool.and_eq_true]
  exact ⟨h.2.1, decide_eq_true (Nat.le_trans h.2.2.1 (by omega))⟩
theorem right_dat {K : PySem.W.Frag} {H : Hp} {W : List Str} {c : Int} {v : V} (hW : ∀ s ∈ W, PyData.strOk s = true) (h : Right H W c v) : ∃ d, Dat K H 13 v d := by
  obtain ⟨k, h, _⟩ := h
  obtain ⟨d, hd⟩ := ts_dat (K := K) hW h
  exact ⟨d, hd.mono (by omega)⟩
theorem fine_dat {K : PySem.W.Frag} {H : Hp} {s t y n : V} (h : FineP H s t y n) : ∃ d1 d2 d3 d4, Dat K H 14 s d1 ∧ Dat K H 14 t d2 ∧ Dat K H 14 y d3 ∧ Dat K H 14 n d4 := by
  obtain ⟨q, xs, q', ns, st, rt, ry, rfl, hn, ln, rn⟩ := h.ex
  obtain ⟨ds, hds⟩ := datL_of (K := K) (n := 13) fun x hx => right_dat ok_wS (st.rs x hx)
  obtain ⟨es, hes⟩ := datL_of (K := K) (n := 13) fun x hx => right_dat ok_wN (rn x hx)
  obtain ⟨d2, h2⟩ := right_dat (K := K) ok_wT rt
  obtain ⟨d3, h3⟩ := right_dat (K := K) ok_wT ry
  have e := st.es
  subst e
  exact ⟨_, d2, d3, _, .tup st.hq hds, h2.mono (by omega), h3.mono (by omega), .tup hn hes⟩
def spEqP (K : PySem.W.Frag) (C : Addr) : Sp := fun vs H Q _ => ∃ (w dx : Addr) (s t y n z : V), vs = [.ref w, z] ∧ H w = some (.ins C dx (pf s t y n)) ∧
  ((∃ (w2 dx2 : Addr) (s2 t2 y2 n2 : V) (d1 d2 d3 d4 e1 e2 e3 e4 : PyData), z = .ref w2 ∧ H w2 = some (.ins C dx2 (pf s2 t2 y2 n2)) ∧ Dat K H 14 s d1 ∧ Dat K H 14 t d2 ∧ Dat K H 14 y d3 ∧ Dat K H 14 n d4 ∧ Dat K H 14 s2 e1 ∧ Dat K H 14 t2 e2 ∧ Dat K H 14 y2 e3 ∧ Dat K H 14 n2 e4 ∧
      Q (.bl (PyData.eqv d1 e1 && (PyData.eqv d2 e2 && (PyData.eqv d3 e3 && PyData.eqv d4 e4)))) H) ∨ (∃ tt ys, z = .ref tt ∧ H tt = some (.tup ys) ∧ Q (.bl false) H))
structure EqT (K : PySem.W.Frag) (C f : Addr) (fd : FuncData) : Prop where
  find : PySem.W.findIn K (.ref C) "__eq__" = some (some (.ref f))
  fn : PySem.W.isFn K (.ref f) = true
  F : Fun K "__eq__" "Program.__eq__" sEq f fd
  b : Binds K fd ["self", "other"] []
  ha : PySem.W.findIn K (.ref C) "__class__" = some (some (.builtin "object.__class__"))
  hn : PySem.W.specialIn K (.builtin "object.__class__") "__get__" = some (some (.builtin "getset_descriptor.__get__"))
  htk : PySem.W.takesIn K (.builtin "object.__class__") = some true
  hm : PySem.W.mroIn K C (.type "object") = some true
  isC : PySem.W.isClsIn K C = true
  tyC : PySem.W.typeIn K (.ref C) = some (.type "type")
  nT : PySem.W.subIn K (.type "tuple") (.ref C) = some false
  nf : PySem.W.notFirst K C (.type "tuple") = true
section
variable {P : Program} {w : World} {K : PySem.W.Frag} {mg : Str → Option Value} {base : Heap}
theorem EqT.tup {C f : Addr} {fd : FuncData} (T : EqT K C f fd) : PySem.W.kitOne K (.type "tuple") (.ref C) = some false := by
  have z : (PySem.W.clsIn K C).isSome = true := T.isC
  show (if (Value.type "tuple" == Value.ref C) = true then some true else if ((PySem.W.clsIn K C).isSome && PySem.W.typeIn K (.ref C) == some (.type "type")) = true then PySem.W.subIn K (.type "tuple") (.ref C) else none) = some false
  rw [if_neg (by simp), z, T.tyC, T.nT]
  rfl
theorem EqT.me {C f : Addr} {fd : FuncData} (T : EqT K C f fd) : PySem.W.kitOne K (.ref C) (.ref C) = some true := by
  show (if (Value.ref C == Value.ref C) = true then some true else _) = some true
  rw [if_pos (by simp)]
theorem scEq : FnScope ["self", "other"] ["self", "other"] (defScope sEq) := ⟨rfl, rfl, rfl, by decide +kernel, rfl, by decide +kernel, by decide +kernel⟩
theorem ok_eqp {C f : Addr} {fd : FuncData} (B : Bts mg) (T : PTxt K mg C) (E1 : EqT K C f fd) : FnOk P w K mg base CX0 1 f fd ["self", "other"] (spEqP K C) := by
  refine E1.F.ok scEq (fun vs H Q E h => ?_) (fun cdv A outer s0 H vs Q E hr h => ?_)
  · obtain ⟨_, _, _, _, _, _, _, rfl, _⟩ := h
    rfl
  · obtain ⟨w, dx, s, t, y, n, z, rfl, ew, h⟩ := h
    have hu := hr.units
    refine ⟨_, pss_one (ps_ret (pe_and (pe_callB call_isi (by rfl) B.isinstance PyProof.Rows.boot_isinstance (pa_cons (pv 1) (pa_cons (pe_glob (v := .ref C) rfl T.mgC rfl) pa_nil)))
      (pe_and (pe_cmpR (op_eqD hu) (pe_fld (pv 0) rfl) (pe_fld (pv 1) rfl) (nomark _)) (pe_and (pe_cmpR (op_eqD hu) (pe_fld (pv 0) rfl) (pe_fld (pv 1) rfl) (nomark _)) (pe_and (pe_cmpR (op_eqD hu) (pe_fld (pv 0) rfl) (pe_fld (pv 1) rfl) (nomark _)) (pe_one (pe_cmpR (op_eqD hu) (pe_fld (pv 0) rfl) (pe_fld (pv 1) rfl) (nomark _)))))))), ?_⟩
    rcases h with ⟨w2, dx2, s2, t2, y2, n2, d1, d2, d3, d4, e1, e2, e3, e4, rfl, ew2, a1, a2, a3, a4, b1, b2, b3, b4, k⟩ | ⟨tt, ys, rfl, et, k⟩
    · refine ⟨_, rfl, .ref w2, .ref C, .ref C, .ref C, true, rfl, .own C, .base (.ins ew2 T.cl E1.ha E1.hn E1.htk E1.hm), E1.me, _, rfl, iteT ?_⟩
      refine ⟨_, rfl, w, C, dx, _, _, rfl, ew, T.cl, T.nS, pf_starts _ _ _ _, _, rfl, w2, C, dx2, _, _, rfl, ew2, T.cl, T.nS, pf_starts _ _ _ _, d1, e1, a1.1, b1.1, a1.shaped (by decide), b1.shaped (by decide), _, rfl, ?_⟩
      cases c1 : PyData.eqv d1 e1 with
      | false => rw [c1] at k; exact iteF k
      | true =>
      refine iteT ⟨_, rfl, w, C, dx, _, _, rfl, ew, T.cl, T.nT, pf_to _ _ _ _, _, rfl, w2, C, dx2, _, _, rfl, ew2, T.cl, T.nT, pf_to _ _ _ _, d2, e2, a2.1, b2.1, a2.shaped (by decide), b2.shaped (by decide), _, rfl, ?_⟩
      cases c2 : PyData.eqv d2 e2 with
      | false => rw [c1, c2] at k; exact iteF k
      | true =>
      refine iteT ⟨_, rfl, w, C, dx, _, _, rfl, ew, T.cl, T.nY, pf_say _ _ _ _, _, rfl, w2, C, dx2, _, _, rfl, ew2, T.cl, T.nY, pf_say _ _ _ _, d3, e3, a3.1, b3.1, a3.shaped (by decide), b3.shaped (by decide), _, rfl, ?_⟩
      cases c3 : PyData.eqv d3 e3 with
      | false => rw [c1, c2, c3] at k; exact iteF k
      | true =>
      rw [c1, c2, c3] at k
      exact iteT ⟨_, rfl, w, C, dx, _, _, rfl, ew, T.cl, T.nN, pf_nexts _ _ _ _, _, rfl, w2, C, dx2, _, _, rfl, ew2, T.cl, T.nN, pf_nexts _ _ _ _, d4, e4, a4.1, b4.1, a4.shaped (by decide), b4.shaped (by decide), k⟩
    · exact ⟨_, rfl, .ref tt, .ref C, .type "tuple", .ref C, false, rfl, .own C, .base (.tup et), E1.tup, _, rfl, iteF k⟩
end
end Q

namespace Q
open PySem L2
abbrev sInt : Stmt := top 24
abbrev sWithin : Stmt := top 25
abbrev sSame : Stmt := top 26
abbrev sOdd : Stmt := top 27
abbrev sLSm : Stmt := top 28
abbrev sWords : Stmt := top 31
def spWithin (K : PySem.W.Frag) : Sp := fun vs H Q _ => ∃ (v : V) (lo hi : Int), vs = [v, .int lo, .int hi] ∧ ((∃ i : Int, v = .int i ∧ Q (.bl (decide (lo ≤ i) && decide (i ≤ hi))) H) ∨ (NoInt K H v ∧ Q (.bl false) H))
def spOdd : Sp := fun vs H Q _ => ∃ (p l : Addr), vs = [.ref p] ∧ HandAt H p l ∧ ∀ (v : V) (H' : Hp), Wh H' v → HandAt H' p l → Ext p H H' → Q v H'
def spWords : Sp := fun vs H Q _ => ∃ (z : Str) (W : List Str), vs = [.str z] ∧ ((z = "starts" ∧ W = wS) ∨ (z = "nexts" ∧ W = wN) ∨ ((z = "to" ∨ z = "say") ∧ W = wT)) ∧ ∀ l H', Same H H' → H l = none → H' l = some (.lst (W.map V.str)) → Q (.ref l) H'
section
variable {P : Program} {w : World} {K : PySem.W.Frag} {mg : Str → Option Value} {base : Heap}
theorem scInt : FnScope ["thing"] ["thing"] (defScope sInt) := ⟨rfl, rfl, rfl, by decide +kernel, rfl, by decide +kernel, by decide +kernel⟩
theorem ok_int {f : Addr} {fd : FuncData} (F : Fun K "_law_is_integer" "_law_is_integer" sInt f fd) (B : Bts mg) : FnOk P w K mg base CX0 1 f fd ["thing"] (spPlain K) := by
  refine F.ok scInt (fun vs H Q E h => ?_) (fun cdv A outer s H vs Q E hr h => ?_)
  · obtain ⟨v, t, b, c, rfl, _⟩ := h
    rfl
  · obtain ⟨v, t, b, c, rfl, ty, kb, kc, k⟩ := h
    refine ⟨_, pss_one (ps_ret (pe_and (pe_callB call_isi (by rfl) B.isinstance PyProof.Rows.boot_isinstance (pa_cons (pv 0) (pa_cons (pe_bltn (v := .ty "int") rfl B.int PyProof.Rows.boot_int rfl) pa_nil)))
      (pe_one (pe_not (pe_callB call_isi (by rfl) B.isinstance PyProof.Rows.boot_isinstance (pa_cons (pv 0) (pa_cons (pe_bltn (v := .ty "bool") rfl B.bool (by decide +kernel) rfl) pa_nil))))))), ?_⟩
    refine ⟨_, rfl, v, .ty "int", t, .type "int", b, rfl, .ty _, ty, kb, _, rfl, ?_⟩
    cases b with
    | false => exact iteF k
    | true => exact iteT ⟨_, rfl, v, .ty "bool", t, .type "bool", c, rfl, .ty _, ty, kc, _, rfl, k⟩
theorem scWithin : FnScope ["thing", "least", "most"] ["thing", "least", "most"] (defScope sWithin) := ⟨rfl, rfl, rfl, by decide +kernel, rfl, by decide +kernel, by decide +kernel⟩
theorem ok_within {f fI : Addr} {fd dI : FuncData} (F : Fun K "_law_is_within" "_law_is_within" sWithin f fd) (B : Bts mg) (DI : Df K mg "_law_is_integer" sInt ["thing"] fI dI) : FnOk P w K mg base CX0 2 f fd ["thing", "least", "most"] (spWithin K) := by
  have GI : FnOk P w K mg base CX0 1 fI dI ["thing"] (spPlain K) := ok_int DI.F B
  refine F.ok scWithin (fun vs H Q E h => ?_) (fun cdv A outer s H vs Q E hr h => ?_)
  · obtain ⟨v, lo, hi, rfl, _⟩ := h
    rfl
  · obtain ⟨v, lo, hi, rfl, h⟩ := h
    refine ⟨_, pss_one (ps_ret (pe_and (pe_call GI hr rfl DI.m DI.k DI.b .nil pass0 (pa_cons (pv 0) pa_nil)) (pe_and (pe_cmpR op_le (pv 1) (pv 0) (nomark _)) (pe_one (pe_cmpR op_le (pv 0) (pv 2) (nomark _)))))), ?_⟩
    rcases h with ⟨i, rfl, k⟩ | ⟨⟨t, b, c, ty, kb, kc, e⟩, k⟩
    · refine ⟨_, rfl, .int i, .type "int", true, false, rfl, .base (.int _), kInt_int, kBool_int, _, rfl, iteT ?_⟩
      refine ⟨_, rfl, _, rfl, _, _, rfl, rfl, _, rfl, ite2 (fun c => ?_) (fun c => ?_)⟩
      · rw [c] at k
        exact ⟨_, rfl, _, rfl, _, _, rfl, rfl, k⟩
      · rw [Bool.eq_false_iff.mpr c] at k
        exact k
    · refine ⟨_, rfl, v, t, b, c, rfl, ty, kb, kc, _, rfl, ?_⟩
      rw [e]
      exact iteF k
theorem scLSm : FnScope ["thing"] ["thing"] (defScope sLSm) := ⟨rfl, rfl, rfl, by decide +kernel, rfl, by decide +kernel, by decide +kernel⟩
theorem ok_lsm {f fW fI : Addr} {fd dW dI : FuncData} (F : Fun K "_law_is_small" "_law_is_small" sLSm f fd) (B : Bts mg) (DW : Df K mg "_law_is_within" sWithin ["thing", "least", "most"] fW dW) (DI : Df K mg "_law_is_integer" sInt ["thing"] fI dI) : FnOk P w K mg base CX0 3 f fd ["thing"] spSmall := by
  have GW : FnOk P w K mg base CX0 2 fW dW ["thing", "least", "most"] (spWithin K) := ok_within DW.F B DI
  refine F.ok scLSm (fun vs H Q E h => ?_) (fun cdv A outer s H vs Q E hr h => ?_)
  · obtain ⟨v, rfl, _⟩ := h
    rfl
  · obtain ⟨v, rfl, kd, k⟩ := h
    refine ⟨_, pss_one (ps_ret (pe_call GW hr rfl DW.m DW.k DW.b .nil pass0 (pa_cons (pv 0) (pa_cons (pe_un un_neg pe_int) (pa_cons pe_int pa_nil))))), ?_⟩
    refine ⟨_, rfl, _, rfl, v, _, _, rfl, ?_⟩
    rcases kd.cl (K := K) with ⟨i, rfl⟩ | n
    · refine .inl ⟨i, rfl, k _ ⟨fun z => ?_, fun ⟨j, e, a, b⟩ => ?_⟩⟩
      · rw [Bool.and_eq_true] at z
        exact ⟨i, rfl, of_decide_eq_true z.1, of_decide_eq_true z.2⟩
      · cases e
        rw [Bool.and_eq_true]
        exact ⟨decide_eq_true a, decide_eq_true b⟩
    · refine .inr ⟨n, k false ⟨fun z => (nomatch z), fun ⟨j, e, _⟩ => ?_⟩⟩
      subst e
      exact n.int.elim
theorem scWords : FnScope ["which", "first"] ["which"] (defScope sWords) := ⟨rfl, rfl, rfl, by decide +kernel, rfl, by decide +kernel, by decide +kernel⟩
theorem ok_words {f : Addr} {fd : FuncData} (F : Fun K "_law_words" "_law_words" sWords f fd) : FnOk P w K mg base CX0 1 f fd ["which"] spWords := by
  refine F.ok scWords (fun vs H Q E h => ?_) (fun cdv A outer s H vs Q E hr h => ?_)
  · obtain ⟨z, W, rfl, _⟩ := h
    rfl
  · obtain ⟨z, W, rfl, h, k⟩ := h
    have nd := scWords.nd
    refine ⟨_, pss_cons (ps_set (i := 1) nd rfl (.inl rfl) (pe_lst (pa_cons pe_str (pa_cons pe_str (pa_cons pe_str pa_nil)))))
      (pss_cons (ps_if (pt_cmpR op_eq (pv 0) pe_str (nomark _)) (pss_one (ps_ret (pv 1))) pss_nil)
      (pss_cons (ps_if (pt_cmpR op_eq (pv 0) pe_str (nomark _)) (pss_one (ps_ret (pe_op op_cat (pv 1) (pe_lst (pa_cons pe_str (pa_cons pe_str (pa_cons pe_str (pa_cons pe_str (pa_cons pe_str pa_nil))))))))) pss_nil)
      (pss_one (ps_ret (pe_op op_cat (pv 1) (pe_lst (pa_cons pe_str (pa_cons pe_str pa_nil)))))))), ?_⟩
    refine ⟨(by show 3 ≤ sizeLine; decide), fun l hl => ?_⟩
    have s1 := sN (o := .lst [.str "me", .str "many", .str "ties"]) hl
    have ns : ("nexts" : Str) ≠ "starts" := by decide +kernel
    have ts : ("to" : Str) ≠ "starts" := by decide +kernel
    have ys : ("say" : Str) ≠ "starts" := by decide +kernel
    have tn : ("to" : Str) ≠ "nexts" := by decide +kernel
    have yn : ("say" : Str) ≠ "nexts" := by decide +kernel
    refine ⟨_, rfl, rfl, _, rfl, ite2 (fun c => ?_) (fun c => ?_)⟩
    · have ez : z = "starts" := V.str.inj (of_decide_eq_true c)
      have eW : W = wS := by
        rcases h with ⟨_, e⟩ | ⟨e, _⟩ | ⟨e | e, _⟩
        · exact e
        · exact (ns (e.symm.trans ez)).elim
        · exact (ts (e.symm.trans ez)).elim
        · exact (ys (e.symm.trans ez)).elim
      exact ⟨_, rfl, k l _ s1 hl (by rw [eW]; exact upd_same)⟩
    · have nz : z ≠ "starts" := fun e => c (by rw [e]; exact decide_eq_true rfl)
      refine ⟨_, rfl, rfl, _, rfl, ite2 (fun c2 => ?_) (fun c2 => ?_)⟩
      · have ez : z = "nexts" := V.str.inj (of_decide_eq_true c2)
        have eW : W = wN := by
          rcases h with ⟨e, _⟩ | ⟨_, e⟩ | ⟨e | e, _⟩
          · exact (nz e).elim
          · exact e
          · exact (tn (e.symm.trans ez)).elim
          · exact (yn (e.symm.trans ez)).elim
        refine ⟨_, rfl, (by show 5 ≤ sizeLine; decide), fun l2 h2 => ?_⟩
        have s2 := sT s1 (sN (o := .lst [.str "round", .str "heard", .str "sum", .str "least", .str "most"]) h2)
        refine ⟨l, l2, _, _, rfl, rfl, sN h2 _ _ upd_same, upd_same, (by show 3 + 5 ≤ sizeLine; decide), fun l3 h3 => ?_⟩
        have h30 : H l3 = none := by
          cases e : H l3 with
          | none => rfl
          | some o => rw [s2 _ _ e] at h3; cases h3
        exact k l3 _ (sT s2 (sN h3)) h30 (by rw [eW]; exact upd_same)
      · have nz2 : z ≠ "nexts" := fun e => c2 (by rw [e]; exact decide_eq_true rfl)
        have eW : W = wT := by
          rcases h with ⟨e, _⟩ | ⟨e, _⟩ | ⟨_, e⟩
          · exact (nz e).elim
          · exact (nz2 e).elim
          · exact e
        refine ⟨_, rfl, (by show 2 ≤ sizeLine; decide), fun l2 h2 => ?_⟩
        have s2 := sT s1 (sN (o := .lst [.str "round", .str "other"]) h2)
        refine ⟨l, l2, _, _, rfl, rfl, sN h2 _ _ upd_same, upd_same, (by show 3 + 2 ≤ sizeLine; decide), fun l3 h3 => ?_⟩
        have h30 : H l3 = none := by
          cases e : H l3 with
          | none => rfl
          | some o => rw [s2 _ _ e] at h3; cases h3
        exact k l3 _ (sT s2 (sN h3)) h30 (by rw [eW]; exact upd_same)
theorem get_cast {ns : List V} {i : Int} {v : V} (h0 : 0 ≤ i) (h : ns[i.toNat]? = some v) : atI ns i = some v := by
  have z := atI_nat h
  rw [Int.toNat_of_nonneg h0] at z
  exact z
theorem pick_in {xs : List V} {i : Int} (h0 : 0 ≤ i) (h : i < xs.length) : ∃ v ∈ xs, atI xs i = some v := by
  have hl : i.toNat < xs.length := by omega
  exact ⟨xs[i.toNat], List.getElem_mem hl, get_cast h0 (List.getElem?_eq_getElem hl)⟩
theorem scOdd : FnScope ["hand", "turn"] ["hand"] (defScope sOdd) := ⟨rfl, rfl, rfl, by decide +kernel, rfl, by decide +kernel, by decide +kernel⟩
theorem ok_odd {f fT : Addr} {fd fdT : FuncData} (F : Fun K "_law_odd" "_law_odd" sOdd f fd) (B : Bts mg) (DT : Df K mg "_law_take" sTake ["hand", "many"] fT fdT) : FnOk P w K mg base CX0 2 f fd ["hand"] spOdd := by
  have GT : FnOk P w K mg base CX0 1 fT fdT ["hand", "many"] spTake := ok_take DT.F B
  refine F.ok scOdd (fun vs H Q E h => ?_) (fun cdv A outer s H vs Q E hr h => ?_)
  · obtain ⟨p, l, rfl, _⟩ := h
    rfl
  · obtain ⟨p, l, rfl, hh, k⟩ := h
    have nd := scOdd.nd
    refine ⟨_, pss_cons (ps_set (i := 1) nd rfl (.inl rfl) (pe_call GT hr rfl DT.m DT.k DT.b .nil pass0 (pa_cons (pv 0) (pa_cons pe_int pa_nil))))
      (pss_cons (ps_if (pt_cmpR op_lt (pv 1) pe_int (nomark _)) (pss_one (ps_ret (pe_ix ix_list (pe_lst (pa_cons pe_non (pa_cons pe_bl (pa_cons pe_bl (pa_cons pe_str (pa_cons pe_str (pa_cons pe_str pa_nil))))))) (pv 1) (fun _ _ => rfl)))) pss_nil)
      (pss_cons (ps_if (pt_cmpR op_lt (pv 1) pe_int (nomark _)) (pss_one (ps_ret (pe_ix ix_list (pe_lst (pa_cons (pe_tup pa_nil) (pa_cons (pe_lst pa_nil) (pa_cons pe_dnewK (pa_cons (pe_tup (pa_cons pe_int pa_nil)) (pa_cons (pe_lst (pa_cons pe_int (pa_cons pe_int pa_nil))) (pa_cons (pe_tup (pa_cons (pe_tup pa_nil) pa_nil)) pa_nil))))))) (pe_op op_sub (pv 1) pe_int) (fun _ _ => rfl)))) pss_nil)
      (pss_one (ps_ret (pe_ix ix_list (pe_lst (pa_cons (pe_un un_neg pe_int) (pa_cons pe_int (pa_cons (pe_op op_sub (pe_op op_pow pe_int pe_int) pe_int) (pa_cons (pe_tup (pa_cons pe_int (pa_cons pe_int pa_nil))) (pa_cons (pe_tup (pa_cons pe_str pa_nil)) (pa_cons (pe_tup (pa_cons pe_int (pa_cons pe_int pa_nil))) pa_nil))))))) (pe_op op_sub (pv 1) pe_int) (fun _ _ => rfl)))))), ?_⟩
    refine ⟨_, rfl, p, l, 18, rfl, hh, by decide, by decide, fun d H1 d0 d1 g1 b1 => ?_⟩
    have x1 : Ext p H H1 := Ext.rfl'.but b1
    refine ⟨_, rfl, _, _, rfl, rfl, _, rfl, ite2 (fun c => ?_) (fun c1 => ?_)⟩
    · have c6 : d < 6 := of_decide_eq_true c
      refine ⟨(by show 6 ≤ sizeLine; decide), fun t ht => ?_⟩
      obtain ⟨v, hv, e⟩ := pick_in (xs := [V.non, V.bl true, V.bl false, V.str "", V.str "me", V.str "0"]) d0 (by show d < 6; exact c6)
      refine ⟨_, rfl, t, _, d, v, rfl, rfl, SqL.of upd_same, e, k v _ ?_ (g1.new ht) (x1.upd ht)⟩
      simp only [List.mem_cons, List.not_mem_nil, or_false] at hv
      rcases hv with rfl | rfl | rfl | rfl | rfl | rfl
      · exact .non
      · exact .bl _
      · exact .bl _
      · exact .str (by decide +kernel)
      · exact .str (by decide +kernel)
      · exact .str (by decide +kernel)
    · have c6 : ¬ d < 6 := fun z => c1 (decide_eq_true z)
      refine ⟨_, rfl, _, _, rfl, rfl, _, rfl, ite2 (fun c => ?_) (fun c2 => ?_)⟩
      · have c12 : d < 12 := of_decide_eq_true c
        refine ⟨Nat.zero_le _, fun a1 n1 => ?_⟩
        refine ⟨Nat.zero_le _, fun a2 n2 => ?_⟩
        intro a3 n3
        refine ⟨(by show 1 ≤ sizeLine; decide), fun a4 n4 => ?_⟩
        refine ⟨(by show 2 ≤ sizeLine; decide), fun a5 n5 => ?_⟩
        refine ⟨Nat.zero_le _, fun a6 n6 => ?_⟩
        refine ⟨(by show 1 ≤ sizeLine; decide), fun a7 n7 => ?_⟩
        refine ⟨(by show 6 ≤ sizeLine; decide), fun t ht => ?_⟩
        obtain ⟨v, hv, e⟩ := pick_in (xs := [V.ref a1, V.ref a2, V.ref a3, V.ref a4, V.ref a5, V.ref a7]) (i := d - 6) (by omega) (by show d - 6 < 6; omega)
        refine ⟨_, rfl, _, _, rfl, rfl, t, _, d - 6, v, rfl, rfl, SqL.of upd_same, e, k v _ ?_ ((((((((g1.new n1).new n2).new n3).new n4).new n5).new n6).new n7).new ht) ((((((((x1.upd n1).upd n2).upd n3).upd n4).upd n5).upd n6).upd n7).upd ht)⟩
        simp only [List.mem_cons, List.not_mem_nil, or_false] at hv
        rcases hv with rfl | rfl | rfl | rfl | rfl | rfl
        · exact .tup (xs := []) (sN ht _ _ (sN n7 _ _ (sN n6 _ _ (sN n5 _ _ (sN n4 _ _ (sN n3 _ _ (sN n2 _ _ upd_same))))))) (by decide) wh_nil
        · exact .lst (sN ht _ _ (sN n7 _ _ (sN n6 _ _ (sN n5 _ _ (sN n4 _ _ (sN n3 _ _ upd_same))))))
        · exact .dk (sN ht _ _ (sN n7 _ _ (sN n6 _ _ (sN n5 _ _ (sN n4 _ _ upd_same)))))
        · exact .tup (xs := [.int 0]) (sN ht _ _ (sN n7 _ _ (sN n6 _ _ (sN n5 _ _ upd_same)))) (by decide) (wh_cons (.int 0) wh_nil)
        · exact .lst (sN ht _ _ (sN n7 _ _ (sN n6 _ _ upd_same)))
        · exact .tup (xs := [.ref a6]) (sN ht _ _ upd_same) (by show 1 ≤ 200; decide) (wh_cons (.tup (xs := []) (sN ht _ _ (sN n7 _ _ upd_same)) (by decide) wh_nil) wh_nil)
      · have c12 : ¬ d < 12 := fun z => c2 (decide_eq_true z)
        refine ⟨_, rfl, _, _, rfl, rfl, ⟨by decide, by decide, by decide⟩, _, _, rfl, rfl, ?_⟩
        refine ⟨(by show 2 ≤ sizeLine; decide), fun a4 n4 => ?_⟩
        refine ⟨(by show 1 ≤ sizeLine; decide), fun a5 n5 => ?_⟩
        refine ⟨(by show 2 ≤ sizeLine; decide), fun a6 n6 => ?_⟩
        refine ⟨(by show 6 ≤ sizeLine; decide), fun t ht => ?_⟩
        obtain ⟨v, hv, e⟩ := pick_in (xs := [V.int (-1), V.int 41, V.int (10 ^ (20 : Int).toNat - 1), V.ref a4, V.ref a5, V.ref a6]) (i := d - 12) (by omega) (by show d - 12 < 6; omega)
        refine ⟨_, rfl, _, _, rfl, rfl, t, _, d - 12, v, rfl, rfl, SqL.of upd_same, e, k v _ ?_ ((((g1.new n4).new n5).new n6).new ht) ((((x1.upd n4).upd n5).upd n6).upd ht)⟩
        simp only [List.mem_cons, List.not_mem_nil, or_false] at hv
        rcases hv with rfl | rfl | rfl | rfl | rfl | rfl
        · exact .int _
        · exact .int _
        · exact .int _
        · exact .tup (xs := [.int 0, .int 1]) (sN ht _ _ (sN n6 _ _ (sN n5 _ _ upd_same))) (by show 2 ≤ 200; decide) (wh_cons (.int 0) (wh_cons (.int 1) wh_nil))
        · exact .tup (xs := [.str "me"]) (sN ht _ _ (sN n6 _ _ upd_same)) (by decide) (wh_cons (.str (by decide +kernel)) wh_nil)
        · exact .tup (xs := [.int 1, .int 0]) (sN ht _ _ upd_same) (by show 2 ≤ 200; decide) (wh_cons (.int 1) (wh_cons (.int 0) wh_nil))
end
end Q

namespace Q
open PySem L2
abbrev sTree : Stmt := top 35
theorem paired_of {R : V → Nat → Prop} : ∀ {xs : List V}, (∀ x ∈ xs, ∃ k, R x k) → ∃ as, Paired R xs as
  | [], _ => ⟨[], .nil⟩
  | x :: r, h => by
    obtain ⟨k, hk⟩ := h x List.mem_cons_self
    obtain ⟨as, p⟩ := paired_of (xs := r) fun y hy => h y (List.mem_cons_of_mem _ hy)
    exact ⟨k :: as, .cons hk p⟩
theorem pw_nev {X : Cx} {e : Expr} : PW X e (fun _ _ _ => False) := ⟨fun _ _ _ _ _ _ _ h => h.elim⟩
def spTree (n : Nat) : Sp := fun vs H Q _ => ∃ (wl : Addr) (W : List Str) (c : Int) (v : V), vs = [.ref wl, .int c, .int ((13 : Int) - (n : Int)), v] ∧ H wl = some (.lst (W.map V.str)) ∧ Alone W ∧ Wh H v ∧ ∀ (b : Bool) H', Same H H' → (b = true ↔ ∃ k, TS H W c n v k) → Q (.bl b) H'
section
variable {P : Program} {w : World} {K : PySem.W.Frag} {mg : Str → Option Value} {base : Heap}
theorem scTree : FnScope ["words", "cells", "deep", "tree", "many", "part"] ["words", "cells", "deep", "tree"] (defScope sTree) := ⟨rfl, rfl, rfl, by decide +kernel, rfl, by decide +kernel, by decide +kernel⟩
theorem ok_tree {f fS fW fI : Addr} {fd dS dW dI : FuncData} (D : Df K mg "_law_tree_right" sTree ["words", "cells", "deep", "tree"] f fd) (B : Bts mg) (hs : mg "str" = none) (DS : Df K mg "_law_is_small" sLSm ["thing"] fS dS) (DW : Df K mg "_law_is_within" sWithin ["thing", "least", "most"] fW dW) (DI : Df K mg "_law_is_integer" sInt ["thing"] fI dI) :
    ∀ n, n ≤ 12 → FnOk P w K mg base CX0 (n + 4) f fd ["words", "cells", "deep", "tree"] (spTree n) := by
  have GS : FnOk P w K mg base CX0 3 fS dS ["thing"] spSmall := ok_lsm DS.F B DW DI
  have GW : FnOk P w K mg base CX0 2 fW dW ["thing", "least", "most"] (spWithin K) := ok_within DW.F B DI
  intro n
  induction n with
  | zero =>
    intro _
    refine D.F.ok scTree (fun vs H Q E h => ?_) (fun cdv A outer s0 H vs Q E hr h => ?_)
    · obtain ⟨wl, W, c, v, rfl, _⟩ := h
      rfl
    · obtain ⟨wl, W, c, v, rfl, ew, al, wh, k⟩ := h
      refine ⟨_, pss_cons (ps_if (PW.pt (pw_or (pt_cmpR op_gt (pv 2) pe_int (nomark _)) pw_nev)) (pss_one (ps_ret pe_bl)) pss_nil) pss_never, ?_⟩
      refine ⟨_, rfl, _, _, rfl, rfl, _, rfl, ?_⟩
      rw [decide_eq_true (show (12 : Int) < 13 - ((0 : Nat) : Int) by decide)]
      exact iteT (k false H (fun _ _ e => e) ⟨fun z => (nomatch z), fun ⟨k, h⟩ => h.elim⟩)
  | succ n ih =>
    intro hn
    have IH := ih (by omega)
    refine D.F.ok scTree (fun vs H Q E h => ?_) (fun cdv A outer s0 H vs Q E hr h => ?_)
    · obtain ⟨wl, W, c, v, rfl, _⟩ := h
      rfl
    · obtain ⟨wl, W, c, v, rfl, ew, al, wh, k⟩ := h
      have nd := scTree.nd
      have hr3 : Room 3 _ := hr.mono (by omega)
      have hr2 : Room 2 _ := hr.mono (by omega)
      have hrn : Room (n + 4) _ := hr.mono (by omega)
      refine ⟨_, pss_cons (ps_if (PW.pt (pw_or (pt_cmpR op_gt (pv 2) pe_int (nomark _)) (pw_or (pt_not (pt_val (pe_callB call_isi (by rfl) B.isinstance PyProof.Rows.boot_isinstance (pa_cons (pv 3) (pa_cons (pe_bltn (v := .ty "tuple") rfl B.tuple PyProof.Rows.boot_tuple rfl) pa_nil)))))
          (pw_or (pt_cmpR op_eq (pe_callB call_len_seq (by rfl) B.len PySem.boot_len (pa_cons (pv 3) pa_nil)) pe_int (nomark _)) (pw_or1 (pt_not (pt_val (pe_callB call_isi (by rfl) B.isinstance PyProof.Rows.boot_isinstance (pa_cons (pe_ix ix_tup (pv 3) pe_int (fun _ _ => rfl)) (pa_cons (pe_bltn (v := .ty "str") rfl hs PyProof.Rows.boot_str rfl) pa_nil))))))))))
          (pss_one (ps_ret pe_bl)) pss_nil)
        (pss_cons (ps_if (pt_cmpR op_eq (pe_ix ix_tup (pv 3) pe_int (fun _ _ => rfl)) pe_str (nomark _)) (pss_one (ps_ret (pe_and (pe_cmpR op_eq (pe_callB call_len_seq (by rfl) B.len PySem.boot_len (pa_cons (pv 3) pa_nil)) pe_int (nomark _)) (pe_one (pe_call GS hr3 rfl DS.m DS.k DS.b .nil pass0 (pa_cons (pe_ix ix_tup (pv 3) pe_int (fun _ _ => rfl)) pa_nil)))))) pss_nil)
        (pss_cons (ps_if (pt_cmpR op_eq (pe_ix ix_tup (pv 3) pe_int (fun _ _ => rfl)) pe_str (nomark _)) (pss_one (ps_ret (pe_and (pe_cmpR op_eq (pe_callB call_len_seq (by rfl) B.len PySem.boot_len (pa_cons (pv 3) pa_nil)) pe_int (nomark _)) (pe_one (pe_call GW hr2 rfl DW.m DW.k DW.b .nil pass0 (pa_cons (pe_ix ix_tup (pv 3) pe_int (fun _ _ => rfl)) (pa_cons pe_int (pa_cons (pe_op op_sub (pv 1) pe_int) pa_nil)))))))) pss_nil)
        (pss_cons (ps_if (pt_cmpR op_in_seq (pe_ix ix_tup (pv 3) pe_int (fun _ _ => rfl)) (pv 0) rfl) (pss_one (ps_ret (pe_cmpR op_eq (pe_callB call_len_seq (by rfl) B.len PySem.boot_len (pa_cons (pv 3) pa_nil)) pe_int (nomark _)))) pss_nil)
        (pss_cons (ps_set (i := 4) nd rfl (.inl rfl) pe_int)
        (C8.pss_cut (ps_if (pt_cmpR op_eq (pe_ix ix_tup (pv 3) pe_int (fun _ _ => rfl)) pe_str (nomark _)) (pss_one (ps_set (i := 4) nd rfl (.inl rfl) pe_int))
          (pss_one (ps_if (pt_cmpR op_notIn_seq (pe_ix ix_tup (pv 3) pe_int (fun _ _ => rfl)) (pe_lst (pa_cons pe_str (pa_cons pe_str (pa_cons pe_str (pa_cons pe_str (pa_cons pe_str (pa_cons pe_str (pa_cons pe_str (pa_cons pe_str (pa_cons pe_str (pa_cons pe_str pa_nil))))))))))) rfl) (pss_one (ps_ret pe_bl)) pss_nil)))
        (pss_cons (ps_if (pt_cmpR op_ne (pe_callB call_len_seq (by rfl) B.len PySem.boot_len (pa_cons (pv 3) pa_nil)) (pv 4) (nomark _)) (pss_one (ps_ret pe_bl)) pss_nil)
        (pss_one (ps_ret (pe_cmpR op_eq (pe_callB call_len_seq (by rfl) B.len PySem.boot_len (pa_cons (pe_lc (own := [("part", 5)]) (g := gName 5) rfl nd (pi_tup (pe_slice sl_C (pv 3) (po_some pe_int) po_none))
            (blkOk_by (N := ["words", "cells", "deep", "tree", "many", "part"]) (sc := defScope sTree) (by decide +kernel)) (fun _ _ _ _ _ => pg_name (i := 5) nd rfl (.inl rfl))
            (fun _ _ _ _ _ => pts_one (pt_not (pt_val (pe_call IH hrn rfl D.m D.k D.b .nil pass0 (pa_cons (pv 0) (pa_cons (pv 1) (pa_cons (pe_op op_add (pv 2) pe_int) (pa_cons (pv 5) pa_nil))))))))
            (fun _ _ _ _ _ => pv 5)) pa_nil)) pe_int (nomark _)))))))))), ?_⟩
      have rs : Same H H := fun _ _ e => e
      refine ⟨_, rfl, _, _, rfl, rfl, _, rfl, ?_⟩
      rw [decide_eq_false (show ¬ (12 : Int) < 13 - ((n + 1 : Nat) : Int) by omega)]
      have noN : (¬ ∃ ks, Node H W c v ks) → Q (.bl false) H := fun h => k false H rs ⟨fun z => (nomatch z), fun ⟨_, ks, g, _⟩ => (h ⟨ks, g⟩).elim⟩
      obtain ⟨t, bt, ty, kt0, h⟩ := wh.kd.tyT (K := K)
      refine iteF ⟨_, rfl, v, .ty "tuple", t, .type "tuple", bt, rfl, .ty _, ty, kt0, _, rfl, ?_⟩
      rcases h with ⟨rfl, a, xs, rfl, ht⟩ | ⟨rfl, no⟩
      rotate_left
      · exact iteT (noN fun ⟨ks, a, s, r, e1, e2, _⟩ => no a _ e1 e2)
      obtain ⟨hl, its⟩ := wh.items ht
      refine iteF ⟨_, rfl, a, xs, rfl, .inr (SqT.of ht), rfl, _, rfl, ?_⟩
      cases xs with
      | nil =>
        refine iteT (noN fun ⟨ks, a', s, r, e1, e2, _⟩ => ?_)
        cases e1
        rw [ht] at e2
        cases e2
      | cons x r =>
      rw [show decide (V.int (((x :: r).length : Nat) : Int) = V.int 0) = decide ((x :: r).length = 0) from len_dec _ 0, decide_eq_false (show ¬ (x :: r).length = 0 by simp)]
      refine iteF ⟨_, rfl, a, x :: r, 0, x, rfl, rfl, SqT.of ht, at0 _ _, ?_⟩
      obtain ⟨tx, bx, tyx, ktx, hx⟩ := (its x List.mem_cons_self).kd.tyS (K := K)
      refine ⟨x, .ty "str", tx, .type "str", bx, rfl, .ty _, tyx, ktx, _, rfl, ?_⟩
      rcases hx with ⟨rfl, s, rfl⟩ | ⟨rfl, no⟩
      rotate_left
      · refine iteT (noN fun ⟨ks, a', s, r', e1, e2, _⟩ => ?_)
        cases e1
        rw [ht] at e2
        simp only [Option.some.injEq, HO.tup.injEq, List.cons.injEq] at e2
        exact no s e2.1
      have leaf : ∀ {b : Bool}, (b = true ↔ ∃ ks, Node H W c (.ref a) ks) → (∀ ks, Node H W c (.ref a) ks → ks = []) → ∀ {H'}, Same H H' → Q (.bl b) H' := fun {b} hb he {H'} s' => k b H' s' ⟨fun z => by
          obtain ⟨ks, g⟩ := hb.mp z
          obtain rfl := he ks g
          exact ⟨1, [], g, [], .nil, rfl⟩, fun ⟨_, ks, g, _⟩ => hb.mpr ⟨ks, g⟩⟩
      refine iteF ⟨_, rfl, a, _, 0, .str s, rfl, rfl, SqT.of ht, at0 _ _, rfl, _, rfl, ite2 (fun c1 => ?_) (fun c1 => ?_)⟩
      · have es : s = "number" := V.str.inj (of_decide_eq_true c1)
        subst es
        have out : ∀ {ks : List V}, Node H W c (.ref a) ks → ks = [] ∧ ∃ i : Int, r = [.int i] ∧ -2147483648 ≤ i ∧ i ≤ 2147483647 := fun {ks} g => by
          rcases (node_iff ht ks).mp g with ⟨_, z⟩ | ⟨e, _⟩ | ⟨hw, _⟩ | ⟨e, _⟩ | ⟨ho, _⟩
          · exact z
          · exact (ne_nc e).elim
          · exact (al.number hw).elim
          · exact (ne_ni e).elim
          · exact (ops_number ho).elim
        refine ⟨_, rfl, a, _, rfl, .inr (SqT.of ht), rfl, _, rfl, ?_⟩
        rw [show decide (V.int (((V.str "number" :: r).length : Nat) : Int) = V.int 2) = decide ((V.str "number" :: r).length = 2) from len_dec _ 2]
        by_cases hl2 : r.length = 1
        · obtain ⟨y, rfl⟩ : ∃ y, r = [y] := by
            match r, hl2 with
            | [y], _ => exact ⟨y, rfl⟩
          refine iteT ⟨_, rfl, a, _, 1, y, rfl, rfl, SqT.of ht, at1 _ _ _, y, rfl, (its y (by simp)).kd, fun b hb => leaf (hb.trans ⟨fun ⟨i, e, h0, h1⟩ => ⟨[], (node_iff ht []).mpr (.inl ⟨rfl, rfl, i, by rw [e], h0, h1⟩)⟩, fun ⟨ks, g⟩ => ?_⟩) (fun ks g => (out g).1) rs⟩
          obtain ⟨_, i, e, h0, h1⟩ := out g
          cases e
          exact ⟨i, rfl, h0, h1⟩
        · refine ite2 (fun c3 => absurd (of_decide_eq_true c3) (by simp; omega)) (fun _ => noN fun ⟨ks, g⟩ => ?_)
          obtain ⟨_, i, e, _⟩ := out g
          rw [e] at hl2
          exact hl2 rfl
      · have n1 : s ≠ "number" := fun z => c1 (by rw [z]; exact decide_eq_true rfl)
        refine ⟨_, rfl, a, _, 0, .str s, rfl, rfl, SqT.of ht, at0 _ _, rfl, _, rfl, ite2 (fun c2 => ?_) (fun c2 => ?_)⟩
        · have es : s = "cell" := V.str.inj (of_decide_eq_true c2)
          subst es
          have out : ∀ {ks : List V}, Node H W c (.ref a) ks → ks = [] ∧ ∃ i : Int, r = [.int i] ∧ 0 ≤ i ∧ i < c := fun {ks} g => by
            rcases (node_iff ht ks).mp g with ⟨e, _⟩ | ⟨_, z⟩ | ⟨hw, _⟩ | ⟨e, _⟩ | ⟨ho, _⟩
            · exact (n1 e).elim
            · exact z
            · exact (al.cell hw).elim
            · exact (ne_ci e).elim
            · exact (ops_cell ho).elim
          refine ⟨_, rfl, a, _, rfl, .inr (SqT.of ht), rfl, _, rfl, ?_⟩
          rw [show decide (V.int (((V.str "cell" :: r).length : Nat) : Int) = V.int 2) = decide ((V.str "cell" :: r).length = 2) from len_dec _ 2]
          by_cases hl2 : r.length = 1
          · obtain ⟨y, rfl⟩ : ∃ y, r = [y] := by
              match r, hl2 with
              | [y], _ => exact ⟨y, rfl⟩
            refine iteT ⟨_, rfl, a, _, 1, y, rfl, rfl, SqT.of ht, at1 _ _ _, _, rfl, _, _, rfl, rfl, y, 0, c - 1, rfl, ?_⟩
            rcases (its y (by simp)).kd.cl (K := K) with ⟨i, rfl⟩ | ny
            · refine .inl ⟨i, rfl, leaf ⟨fun z => ?_, fun ⟨ks, g⟩ => ?_⟩ (fun ks g => (out g).1) rs⟩
              · rw [Bool.and_eq_true] at z
                have z2 := of_decide_eq_true z.2
                exact ⟨[], (node_iff ht []).mpr (.inr (.inl ⟨rfl, rfl, i, rfl, of_decide_eq_true z.1, by omega⟩))⟩
              · obtain ⟨_, j, e, h0, h1⟩ := out g
                cases e
                rw [Bool.and_eq_true]
                exact ⟨decide_eq_true h0, decide_eq_true (by omega)⟩
            · refine .inr ⟨ny, noN fun ⟨ks, g⟩ => ?_⟩
              obtain ⟨_, j, e, _⟩ := out g
              cases e
              exact ny.int
          · refine ite2 (fun c3 => absurd (of_decide_eq_true c3) (by simp; omega)) (fun _ => noN fun ⟨ks, g⟩ => ?_)
            obtain ⟨_, j, e, _⟩ := out g
            rw [e] at hl2
            exact hl2 rfl
        · have n2 : s ≠ "cell" := fun z => c2 (by rw [z]; exact decide_eq_true rfl)
          have out : ∀ {ks : List V}, Node H W c (.ref a) ks → (s ∈ W ∧ r = [] ∧ ks = []) ∨ (s = "if" ∧ r.length = 3 ∧ ks = r) ∨ (s ∈ opsL ∧ r.length = 2 ∧ ks = r) := fun {ks} g => by
            rcases (node_iff ht ks).mp g with ⟨e, _⟩ | ⟨e, _⟩ | z
            · exact (n1 e).elim
            · exact (n2 e).elim
            · exact z
          refine ⟨_, rfl, a, _, 0, .str s, rfl, rfl, SqT.of ht, at0 _ _, _, rfl, wl, _, rfl, .inl (SqL.of ew), rfl, flat_str W, _, rfl, ?_⟩
          have en : (if false = true then !inV (V.str s) (W.map V.str) else inV (V.str s) (W.map V.str)) = decide (s ∈ W) := inV_str s W
          rw [en]
          refine ite2 (fun c3 => ?_) (fun c3 => ?_)
          · have hw : s ∈ W := of_decide_eq_true c3
            have ke : ∀ ks, Node H W c (.ref a) ks → ks = [] := fun ks g => by
              rcases out g with ⟨_, _, e⟩ | ⟨e, _⟩ | ⟨ho, _⟩
              · exact e
              · subst e
                exact (al.iff hw).elim
              · exact (al.ops s ho hw).elim
            refine ⟨_, rfl, a, _, rfl, .inr (SqT.of ht), rfl, ?_⟩
            rw [show decide (V.int (((V.str s :: r).length : Nat) : Int) = V.int 1) = decide ((V.str s :: r).length = 1) from len_dec _ 1]
            refine leaf ⟨fun z => ?_, fun ⟨ks, g⟩ => ?_⟩ ke rs
            · have z1 : r.length = 0 := by
                have := of_decide_eq_true z
                rw [List.length_cons] at this
                omega
              exact ⟨[], (node_iff ht []).mpr (.inr (.inr (.inl ⟨hw, List.length_eq_zero_iff.mp z1, rfl⟩)))⟩
            · obtain rfl := ke ks g
              rcases out g with ⟨_, e, _⟩ | ⟨e, _⟩ | ⟨ho, _⟩
              · rw [e]; rfl
              · subst e
                exact (al.iff hw).elim
              · exact (al.ops s ho hw).elim
          · have nw : ¬ s ∈ W := fun z => c3 (decide_eq_true z)
            refine ⟨fun σ H' => Same H H' ∧ ∃ q : Nat, ((s = "if" ∧ q = 3) ∨ (s ∈ opsL ∧ q = 2)) ∧ σ = [some (.ref wl), some (.int c), some (.int ((13 : Int) - ((n + 1 : Nat) : Int))), some (.ref a), some (.int ((q + 1 : Nat) : Int)), none], ?_, ?_⟩
            · refine ⟨_, rfl, a, _, 0, .str s, rfl, rfl, SqT.of ht, at0 _ _, rfl, _, rfl, ite2 (fun c4 => ?_) (fun c4 => ?_)⟩
              · exact ⟨rs, 3, .inl ⟨V.str.inj (of_decide_eq_true c4), rfl⟩, rfl⟩
              · have n3 : s ≠ "if" := fun z => c4 (by rw [z]; exact decide_eq_true rfl)
                refine ⟨_, rfl, a, _, 0, .str s, rfl, rfl, SqT.of ht, at0 _ _, (by show 10 ≤ sizeLine; decide), fun ol hol => ?_⟩
                have s1 := sN (o := .lst (opsL.map V.str)) hol
                refine ⟨ol, opsL.map V.str, rfl, .inl (SqL.of upd_same), rfl, flat_str opsL, _, rfl, ?_⟩
                have en2 : (if true = true then !inV (V.str s) (opsL.map V.str) else inV (V.str s) (opsL.map V.str)) = !decide (s ∈ opsL) := congrArg not (inV_str s opsL)
                rw [en2]
                by_cases ho : s ∈ opsL
                · rw [decide_eq_true ho]
                  exact iteF ⟨s1, 2, .inr ⟨ho, rfl⟩, rfl⟩
                · rw [decide_eq_false ho]
                  refine iteT (k false _ s1 ⟨fun z => (nomatch z), fun ⟨_, ks, g, _⟩ => ?_⟩)
                  rcases out g with ⟨hw, _⟩ | ⟨e, _⟩ | ⟨z, _⟩
                  · exact (nw hw).elim
                  · exact (n3 e).elim
                  · exact (ho z).elim
            · rintro σ H1 ⟨s1, q, hq, rfl⟩
              have okr : ∀ {ks : List V}, Node H W c (.ref a) ks → r.length = q ∧ ks = r := fun {ks} g => by
                rcases out g with ⟨hw, _⟩ | ⟨e, l, z⟩ | ⟨ho, l, z⟩
                · exact (nw hw).elim
                · rcases hq with ⟨_, rfl⟩ | ⟨ho, _⟩
                  · exact ⟨l, z⟩
                  · rw [e] at ho
                    exact (ops_if ho).elim
                · rcases hq with ⟨e, _⟩ | ⟨_, rfl⟩
                  · rw [e] at ho
                    exact (ops_if ho).elim
                  · exact ⟨l, z⟩
              refine ⟨_, rfl, a, _, rfl, .inr (SqT.of (s1 _ _ ht)), _, rfl, rfl, _, rfl, ?_⟩
              rw [len_dec]
              by_cases hlr : r.length = q
              · rw [decide_eq_true (show (V.str s :: r).length = q + 1 by rw [List.length_cons, hlr])]
                have g : Node H W c (.ref a) r := (node_iff ht r).mpr (by
                  rcases hq with ⟨e, rfl⟩ | ⟨ho, rfl⟩
                  · exact .inr (.inr (.inr (.inl ⟨e, hlr, rfl⟩)))
                  · exact .inr (.inr (.inr (.inr ⟨ho, hlr, rfl⟩))))
                have q3 : q ≤ 3 := by
                  rcases hq with ⟨_, rfl⟩ | ⟨_, rfl⟩ <;> decide
                have itr : ∀ x ∈ r, Wh H x := fun x hx => its x (List.mem_cons_of_mem _ hx)
                refine iteF ⟨_, rfl, _, rfl, a, _, rfl, s1 _ _ ht, fun sl H2 s2 esl => ?_⟩
                rw [cut_tail] at esl
                have s12 := sT s1 s2
                refine ⟨sl, rfl, ⟨_, SqT.of esl⟩, fun D hD => lc_tup (K := K) (a := sl) (xs := r) (fun i H' => ∃ acc : List V, H' D = some (.lst acc) ∧ acc.length ≤ i ∧ (acc.length = 0 ↔ ∀ x ∈ r.take i, ∃ k, TS H W c n x k) ∧ Same H2 H') ?_ ?_ ?_ ?_⟩
                · exact ⟨[], upd_same, Nat.le_refl _, ⟨fun _ x hx => absurd hx (by simp), fun _ => rfl⟩, sN hD⟩
                · rintro i H3 hi ⟨acc, _, _, _, s3⟩
                  exact SqT.of (s3 _ _ esl)
                · rintro i x H3 hx ⟨acc, eD, hla, iff, s3⟩
                  have hir : i < r.length := (List.getElem?_eq_some_iff.mp hx).1
                  have s13 := sT s12 s3
                  refine ⟨rfl, ?_⟩
                  have ed : (13 : Int) - ((n + 1 : Nat) : Int) + 1 = 13 - (n : Int) := by omega
                  refine ⟨_, rfl, _, rfl, _, rfl, _, _, rfl, rfl, _, rfl, wl, W, c, x, ?_, s13 _ _ ew, al, (itr x (List.mem_of_getElem? hx)).same s13, fun b H4 s4 hb => ⟨_, rfl, ?_⟩⟩
                  · rw [← ed]
                    rfl
                  have hb2 : b = true ↔ ∃ k, TS H W c n x k := hb.trans ⟨fun ⟨k, h⟩ => ⟨k, h.back s13 (itr x (List.mem_of_getElem? hx))⟩, fun ⟨k, h⟩ => ⟨k, h.same s13⟩⟩
                  have split : (∀ y ∈ r.take (i + 1), ∃ k, TS H W c n y k) ↔ (∀ y ∈ r.take i, ∃ k, TS H W c n y k) ∧ ∃ k, TS H W c n x k := by
                    rw [List.take_add_one, hx]
                    constructor
                    · intro h
                      exact ⟨fun y hy => h y (List.mem_append_left _ hy), h x (List.mem_append_right _ (by simp))⟩
                    · rintro ⟨h1, h2⟩ y hy
                      rcases List.mem_append.mp hy with hy | hy
                      · exact h1 y hy
                      · have ey : y = x := by simpa using hy
                        rw [ey]
                        exact h2
                  cases b with
                  | true =>
                    refine iteF ⟨acc, s4 _ _ eD, by omega, ?_, sT s3 s4⟩
                    rw [split, iff]
                    exact ⟨fun h => ⟨h, hb2.mp rfl⟩, fun h => h.1⟩
                  | false =>
                    refine iteT ⟨_, rfl, acc, s4 _ _ eD, ?_, acc ++ [x], upd_same, ?_, ?_, ?_⟩
                    · exact Nat.lt_of_le_of_lt (Nat.le_trans hla (show i ≤ 64 by omega)) (by decide)
                    · rw [List.length_append, List.length_singleton]
                      omega
                    · rw [split, List.length_append, List.length_singleton]
                      exact ⟨fun h => by omega, fun h => absurd (hb2.mpr h.2) Bool.false_ne_true⟩
                    · exact sNew (sT s3 s4) hD
                · rintro H3 ⟨acc, eD, _, iff, s3⟩
                  rw [List.take_length] at iff
                  refine ⟨D, acc, rfl, .inl (SqL.of eD), rfl, ?_⟩
                  rw [show decide (V.int ((acc.length : Nat) : Int) = V.int 0) = decide (acc.length = 0) from len_dec _ 0]
                  refine k _ _ (sT s12 s3) ⟨fun z => ?_, fun ⟨_, ks, g', szs, p, _⟩ => ?_⟩
                  · obtain ⟨as, p⟩ := paired_of (iff.mp (of_decide_eq_true z))
                    exact ⟨_, r, g, as, p, rfl⟩
                  · obtain rfl := g.uniq g'
                    exact decide_eq_true (iff.mpr (paired_left p))
              · rw [decide_eq_false (show ¬ (V.str s :: r).length = q + 1 by rw [List.length_cons]; omega)]
                exact iteT (k false _ s1 ⟨fun z => (nomatch z), fun ⟨_, ks, g, _⟩ => (hlr (okr g).1).elim⟩)
end
end Q

namespace Q
open PySem L2
abbrev sSize : Stmt := top 34
abbrev sRight : Stmt := top 36
abbrev sFirstBad : Stmt := top 37
def spSize (n : Nat) : Sp := fun vs H Q _ => ∃ (W : List Str) (c : Int) (v : V) (k : Nat), vs = [v] ∧ Alone W ∧ Wh H v ∧ TS H W c n v k ∧ ∀ H', Same H H' → Q (.int (k : Int)) H'
def spRight : Sp := fun vs H Q _ => ∃ (wl : Addr) (W : List Str) (c : Int) (v : V), vs = [.ref wl, .int c, v] ∧ H wl = some (.lst (W.map V.str)) ∧ Alone W ∧ Wh H v ∧ ∀ (b : Bool) H', Same H H' → (b = true ↔ Right H W c v) → Q (.bl b) H'
def spFB : Sp := fun vs H Q _ => ∃ (pt : Addr) (s t y n : V), vs = [.ref pt] ∧ H pt = some (.tup [s, t, y, n]) ∧ PreP H s t y n ∧ ∀ r H', Same H H' → (BadP H s t y n r ∨ (r = .non ∧ FineP H s t y n)) → Q r H'
section
variable {P : Program} {w : World} {K : PySem.W.Frag} {mg : Str → Option Value} {base : Heap}
theorem scSize : FnScope ["tree", "found", "part"] ["tree"] (defScope sSize) := ⟨rfl, rfl, rfl, by decide +kernel, rfl, by decide +kernel, by decide +kernel⟩
theorem ok_size {f : Addr} {fd : FuncData} (D : Df K mg "_law_size" sSize ["tree"] f fd) (B : Bts mg) : ∀ n, FnOk P w K mg base CX0 (n + 1) f fd ["tree"] (spSize n)
  | 0 => by
    refine D.F.ok scSize (fun vs H Q E h => ?_) (fun cdv A outer s0 H vs Q E hr h => ?_)
    · obtain ⟨W, c, v, k, rfl, _⟩ := h
      rfl
    · obtain ⟨W, c, v, k, rfl, _, _, h, _⟩ := h
      exact h.elim
  | n + 1 => by
    have IH := ok_size D B n
    refine D.F.ok scSize (fun vs H Q E h => ?_) (fun cdv A outer s0 H vs Q E hr h => ?_)
    · obtain ⟨W, c, v, k, rfl, _⟩ := h
      rfl
    · obtain ⟨W, c, v, k0, rfl, al, wh, ⟨ks, g, szs, p, rfl⟩, k⟩ := h
      have nd := scSize.nd
      refine ⟨_, pss_cons (ps_set (i := 1) nd rfl (.inl rfl) pe_int)
        (pss_cons (ps_for PassesOwn.never rfl (pi_tup (pe_slice sl_C (pv 0) (po_some pe_int) po_none)) (pg_name (i := 2) nd rfl (.inl rfl))
          (pss_one (ps_if (pt_val (pe_callB call_isi (by rfl) B.isinstance PyProof.Rows.boot_isinstance (pa_cons (pv 2) (pa_cons (pe_bltn (v := .ty "tuple") rfl B.tuple PyProof.Rows.boot_tuple rfl) pa_nil))))
            (pss_one (ps_set (i := 1) nd rfl (.inl rfl) (pe_op op_add (pv 1) (pe_call IH hr rfl D.m D.k D.b .nil pass0 (pa_cons (pv 2) pa_nil))))) pss_nil)))
        (pss_one (ps_ret (pv 1)))), ?_⟩
      have g0 := g
      obtain ⟨a, s, r, rfl, e, h⟩ := g0
      have kids := g.kids wh
      refine ⟨_, rfl, _, rfl, a, _, rfl, e, fun sl H1 s1 esl => ?_⟩
      rw [cut_tail] at esl
      -- r is one int, or nothing, or the expressions
      have shape : (ks = [] ∧ (r = [] ∨ ∃ i : Int, r = [.int i])) ∨ r = ks := by
        rcases h with ⟨_, e1, i, e2, _⟩ | ⟨_, e1, i, e2, _⟩ | ⟨_, e1, e2⟩ | ⟨_, _, e2⟩ | ⟨_, _, e2⟩
        · exact .inl ⟨e1, .inr ⟨i, e2⟩⟩
        · exact .inl ⟨e1, .inr ⟨i, e2⟩⟩
        · exact .inl ⟨e2, .inl e1⟩
        · exact .inr e2.symm
        · exact .inr e2.symm
      rcases shape with ⟨rfl, hr0⟩ | rfl
      · cases p
        refine ⟨sl, rfl, ⟨_, SqT.of esl⟩, for_tup (K := K) (a := sl) (xs := r) (fun i σ H' => H' = H1 ∧ ∃ x2, σ = [some (.ref a), some (.int 1), x2]) ?_ ?_ ?_ ?_⟩
        · exact ⟨rfl, none, rfl⟩
        · rintro i σ H' hi ⟨rfl, x2, rfl⟩
          exact SqT.of esl
        · rintro i x σ H' hx ⟨rfl, x2, rfl⟩
          rcases hr0 with rfl | ⟨j, rfl⟩
          · simp at hx
          · obtain rfl : x = .int j := by
              have z := List.mem_of_getElem? hx
              exact List.mem_singleton.mp z
            exact ⟨_, rfl, .int j, .ty "tuple", .type "int", .type "tuple", false, rfl, .ty _, .base (.int _), kit_ty (by decide +kernel), _, rfl, iteF ⟨rfl, _, rfl⟩⟩
        · rintro σ H' ⟨rfl, x2, rfl⟩
          exact ⟨_, rfl, k _ s1⟩
      · refine ⟨sl, rfl, ⟨_, SqT.of esl⟩, for_tup (K := K) (a := sl) (xs := r) (fun i σ H' => Same H1 H' ∧ ∃ x2, σ = [some (.ref a), some (.int ((1 + (szs.take i).sum : Nat) : Int)), x2]) ?_ ?_ ?_ ?_⟩
        · exact ⟨fun _ _ e => e, none, by simp; rfl⟩
        · rintro i σ H' hi ⟨s2, x2, rfl⟩
          exact SqT.of (s2 _ _ esl)
        · rintro i x σ H' hx ⟨s2, x2, rfl⟩
          have s12 := sT s1 s2
          have at_ : ∀ {xs : List V} {as : List Nat} {i : Nat} {x : V}, Paired (TS H W c n) xs as → xs[i]? = some x → ∃ k, as[i]? = some k ∧ TS H W c n x k := by
            intro xs as i x p
            induction p generalizing i with
            | nil => intro h; simp at h
            | cons h _ ih =>
              cases i with
              | zero =>
                intro h'
                obtain rfl := Option.some.inj h'
                exact ⟨_, rfl, h⟩
              | succ i => exact fun h' => ih (by simpa using h')
          obtain ⟨ki, hk, hts⟩ := at_ p hx
          have wx := kids x (List.mem_of_getElem? hx)
          have kt : ∃ aa zs, x = .ref aa ∧ H aa = some (.tup zs) := by
            cases n with
            | zero => exact hts.elim
            | succ n =>
              obtain ⟨_, ⟨aa, ss, rr, e1, e2, _⟩, _⟩ := hts
              exact ⟨aa, _, e1, e2⟩
          obtain ⟨aa, zs, rfl, eaa⟩ := kt
          refine ⟨_, rfl, .ref aa, .ty "tuple", .type "tuple", .type "tuple", true, rfl, .ty _, .base (.tup (s12 _ _ eaa)), kit_ty (by decide +kernel), _, rfl, iteT ?_⟩
          refine ⟨_, rfl, _, rfl, W, c, .ref aa, ki, rfl, al, wx.same s12, hts.same s12, fun H2 s3 => ⟨_, _, rfl, rfl, sT s2 s3, some (.ref aa), ?_⟩⟩
          have es : ((1 + (szs.take (i + 1)).sum : Nat) : Int) = ((1 + (szs.take i).sum : Nat) : Int) + (ki : Int) := by
            rw [List.take_add_one, hk, List.sum_append]
            simp
            omega
          rw [es]
          rfl
        · rintro σ H' ⟨s2, x2, rfl⟩
          have hl : r.length = szs.length := Paired.length p
          rw [hl, List.take_length]
          exact ⟨_, rfl, k _ (sT s1 s2)⟩
theorem scRight : FnScope ["words", "cells", "tree"] ["words", "cells", "tree"] (defScope sRight) := ⟨rfl, rfl, rfl, by decide +kernel, rfl, by decide +kernel, by decide +kernel⟩
theorem ok_right {f fT fZ : Addr} {fd dT dZ : FuncData} (F : Fun K "_law_right" "_law_right" sRight f fd) (DT : Df K mg "_law_tree_right" sTree ["words", "cells", "deep", "tree"] fT dT) (DZ : Df K mg "_law_size" sSize ["tree"] fZ dZ)
    (GT : FnOk P w K mg base CX0 16 fT dT ["words", "cells", "deep", "tree"] (spTree 12)) (GZ : FnOk P w K mg base CX0 13 fZ dZ ["tree"] (spSize 12)) : FnOk P w K mg base CX0 17 f fd ["words", "cells", "tree"] spRight := by
  refine F.ok scRight (fun vs H Q E h => ?_) (fun cdv A outer s0 H vs Q E hr h => ?_)
  · obtain ⟨wl, W, c, v, rfl, _⟩ := h
    rfl
  · obtain ⟨wl, W, c, v, rfl, ew, al, wh, k⟩ := h
    have hr13 : Room 13 _ := hr.mono (by decide)
    refine ⟨_, pss_one (ps_ret (pe_and (pe_call GT hr rfl DT.m DT.k DT.b .nil pass0 (pa_cons (pv 0) (pa_cons (pv 1) (pa_cons pe_int (pa_cons (pv 2) pa_nil))))) (pe_one (pe_cmpR op_le (pe_call GZ hr13 rfl DZ.m DZ.k DZ.b .nil pass0 (pa_cons (pv 2) pa_nil)) pe_int (nomark _))))), ?_⟩
    refine ⟨_, rfl, _, rfl, _, rfl, wl, W, c, v, rfl, ew, al, wh, fun b H1 s1 hb => ⟨_, rfl, ?_⟩⟩
    cases b with
    | false => exact iteF (k false H1 s1 ⟨fun z => (nomatch z), fun ⟨q, h, _⟩ => hb.mpr ⟨q, h⟩⟩)
    | true =>
      obtain ⟨q, h⟩ := hb.mp rfl
      refine iteT ⟨_, rfl, W, c, v, q, rfl, al, wh.same s1, h.same s1, fun H2 s2 => ⟨_, _, rfl, rfl, k _ H2 (sT s1 s2) ⟨fun z => ?_, fun ⟨q', h', l⟩ => ?_⟩⟩⟩
      · have := of_decide_eq_true z
        exact ⟨q, h, by omega⟩
      · obtain rfl := h.uniq h'
        exact decide_eq_true (by omega)
end
end Q

namespace Q
open PySem L2
section
variable {P : Program} {w : World} {K : PySem.W.Frag} {mg : Str → Option Value} {base : Heap}
theorem scFB : FnScope ["parts", "starts", "to", "say", "nexts", "cells", "tree"] ["parts"] (defScope sFirstBad) := ⟨rfl, rfl, rfl, by decide +kernel, rfl, by decide +kernel, by decide +kernel⟩
theorem ok_fb {f fR fW : Addr} {fd dR dW : FuncData} (F : Fun K "_law_first_bad" "_law_first_bad" sFirstBad f fd) (B : Bts mg) (DR : Df K mg "_law_right" sRight ["words", "cells", "tree"] fR dR) (DW : Df K mg "_law_words" sWords ["which"] fW dW)
    (GR : FnOk P w K mg base CX0 17 fR dR ["words", "cells", "tree"] spRight) : FnOk P w K mg base CX0 18 f fd ["parts"] spFB := by
  have GW : FnOk P w K mg base CX0 1 fW dW ["which"] spWords := ok_words DW.F
  refine F.ok scFB (fun vs H Q E h => ?_) (fun cdv A outer s0 H vs Q E hr h => ?_)
  · obtain ⟨pt, s, t, y, n, rfl, _⟩ := h
    rfl
  · obtain ⟨pt, s, t, y, n, rfl, ept, pre, k⟩ := h
    have nd := scFB.nd
    have hr1 : Room 1 _ := hr.mono (by decide)
    refine ⟨_, pss_cons (ps_asg (pv 0) (pg_tup rfl (pgs_cons (pg_name (i := 1) nd rfl (.inl rfl)) (pgs_cons (pg_name (i := 2) nd rfl (.inl rfl)) (pgs_cons (pg_name (i := 3) nd rfl (.inl rfl)) (pgs_cons (pg_name (i := 4) nd rfl (.inl rfl)) pgs_nil))))))
      (pss_cons (ps_if (PW.pt (pw_or (pt_not (pt_val (pe_callB call_isi (by rfl) B.isinstance PyProof.Rows.boot_isinstance (pa_cons (pv 1) (pa_cons (pe_bltn (v := .ty "tuple") rfl B.tuple PyProof.Rows.boot_tuple rfl) pa_nil)))))
        (pw_or (pt_cmpR op_lt (pe_callB call_len_seq (by rfl) B.len PySem.boot_len (pa_cons (pv 1) pa_nil)) pe_int (nomark _)) (pw_or1 (pt_cmpR op_gt (pe_callB call_len_seq (by rfl) B.len PySem.boot_len (pa_cons (pv 1) pa_nil)) pe_int (nomark _)))))) (pss_one (ps_ret pe_str)) pss_nil)
      (pss_cons (ps_set (i := 5) nd rfl (.inl rfl) (pe_callB call_len_seq (by rfl) B.len PySem.boot_len (pa_cons (pv 1) pa_nil)))
      (pss_cons (ps_for PassesOwn.never rfl (pi_tup (pv 1)) (pg_name (i := 6) nd rfl (.inl rfl)) (pss_one (ps_if (pt_not (pt_val (pe_call GR hr rfl DR.m DR.k DR.b .nil pass0 (pa_cons (pe_call GW hr1 rfl DW.m DW.k DW.b .nil pass0 (pa_cons pe_str pa_nil)) (pa_cons pe_int (pa_cons (pv 6) pa_nil)))))) (pss_one (ps_ret pe_str)) pss_nil)))
      (pss_cons (ps_if (pt_not (pt_val (pe_call GR hr rfl DR.m DR.k DR.b .nil pass0 (pa_cons (pe_call GW hr1 rfl DW.m DW.k DW.b .nil pass0 (pa_cons pe_str pa_nil)) (pa_cons (pv 5) (pa_cons (pv 2) pa_nil)))))) (pss_one (ps_ret pe_str)) pss_nil)
      (pss_cons (ps_if (pt_not (pt_val (pe_call GR hr rfl DR.m DR.k DR.b .nil pass0 (pa_cons (pe_call GW hr1 rfl DW.m DW.k DW.b .nil pass0 (pa_cons pe_str pa_nil)) (pa_cons (pv 5) (pa_cons (pv 3) pa_nil)))))) (pss_one (ps_ret pe_str)) pss_nil)
      (pss_cons (ps_if (PW.pt (pw_or (pt_not (pt_val (pe_callB call_isi (by rfl) B.isinstance PyProof.Rows.boot_isinstance (pa_cons (pv 4) (pa_cons (pe_bltn (v := .ty "tuple") rfl B.tuple PyProof.Rows.boot_tuple rfl) pa_nil)))))
        (pw_or1 (pt_cmpR op_ne (pe_callB call_len_seq (by rfl) B.len PySem.boot_len (pa_cons (pv 4) pa_nil)) (pv 5) (nomark _))))) (pss_one (ps_ret pe_str)) pss_nil)
      (pss_cons (ps_for PassesOwn.never rfl (pi_tup (pv 4)) (pg_name (i := 6) nd rfl (.inl rfl)) (pss_one (ps_if (pt_not (pt_val (pe_call GR hr rfl DR.m DR.k DR.b .nil pass0 (pa_cons (pe_call GW hr1 rfl DW.m DW.k DW.b .nil pass0 (pa_cons pe_str pa_nil)) (pa_cons (pv 5) (pa_cons (pv 6) pa_nil)))))) (pss_one (ps_ret pe_str)) pss_nil)))
      (pss_one (ps_ret pe_non))))))))), ?_⟩
    have rs : Same H H := fun _ _ e => e
    refine ⟨_, rfl, pt, _, rfl, SqT.of ept, rfl, _, _, rfl, _, _, rfl, _, _, rfl, _, _, rfl, rfl, ?_⟩
    obtain ⟨ts, bs0, tys, kts, hs⟩ := pre.s.kd.tyT (K := K)
    refine ⟨_, rfl, s, .ty "tuple", ts, .type "tuple", bs0, rfl, .ty _, tys, kts, _, rfl, ?_⟩
    rcases hs with ⟨rfl, q, xs, rfl, hq⟩ | ⟨rfl, no⟩
    rotate_left
    · exact iteT (k _ H rs (.inl (.starts fun q xs st => no q xs st.es st.hq)))
    have its := pre.s.items hq
    have inv : ∀ {q' : Addr} {xs' : List V}, St H (.ref q) q' xs' → xs' = xs := fun st => by
      have e1 := st.es
      cases e1
      have z := st.hq
      rw [hq] at z
      cases z
      rfl
    refine iteF ⟨_, rfl, q, xs, rfl, .inr (SqT.of hq), _, _, rfl, rfl, _, rfl, ite2 (fun c => ?_) (fun c1 => ?_)⟩
    · refine k _ H rs (.inl (.starts fun q' xs' st => ?_))
      obtain rfl := inv st
      have := st.l1
      have := of_decide_eq_true c
      omega
    have l1 : 1 ≤ xs.length := by
      by_cases z : 1 ≤ xs.length
      · exact z
      · exact absurd (decide_eq_true (show ((xs.length : Nat) : Int) < 1 by omega)) c1
    refine ⟨_, rfl, q, xs, rfl, .inr (SqT.of hq), _, _, rfl, rfl, _, rfl, ite2 (fun c => ?_) (fun c2 => ?_)⟩
    · refine k _ H rs (.inl (.starts fun q' xs' st => ?_))
      obtain rfl := inv st
      have := st.l4
      have := of_decide_eq_true c
      omega
    have l4 : xs.length ≤ 4 := by
      by_cases z : xs.length ≤ 4
      · exact z
      · exact absurd (decide_eq_true (show (4 : Int) < ((xs.length : Nat) : Int) by omega)) c2
    refine ⟨_, rfl, q, xs, rfl, .inr (SqT.of hq), ?_⟩
    refine ⟨_, rfl, q, rfl, ⟨_, SqT.of hq⟩, for_tup (K := K) (a := q) (xs := xs) (fun i σ H' => ∃ x6, σ = [some (.ref pt), some (.ref q), some t, some y, some n, some (.int ((xs.length : Nat) : Int)), x6] ∧ Same H H' ∧ ∀ x ∈ xs.take i, Right H wS 0 x) ?_ ?_ ?_ ?_⟩
    · exact ⟨none, rfl, rs, fun x hx => absurd hx (by simp)⟩
    · rintro i σ H1 hi ⟨x6, rfl, s1, _⟩
      exact SqT.of (s1 _ _ hq)
    · rintro i x σ H1 hx ⟨x6, rfl, s1, all⟩
      have hm := List.mem_of_getElem? hx
      refine ⟨_, wS, rfl, .inl ⟨rfl, rfl⟩, fun l H2 s2 hl el => ?_⟩
      have s12 := sT s1 s2
      refine ⟨_, rfl, l, wS, 0, x, rfl, el, alS, (its.2 x hm).same s12, fun b H3 s3 hb => ⟨_, rfl, ?_⟩⟩
      rw [← right_iff (its.2 x hm) s12] at hb
      cases b with
      | false =>
        refine iteT (k _ H3 (sT s12 s3) (.inl (.starts fun q' xs' st => ?_)))
        obtain rfl := inv st
        exact Bool.false_ne_true (hb.mpr (st.rs x hm))
      | true =>
        refine iteF ⟨_, rfl, sT s12 s3, fun z hz => ?_⟩
        rw [List.take_add_one, hx] at hz
        rcases List.mem_append.mp hz with hz | hz
        · exact all z hz
        · have ez : z = x := by simpa using hz
          rw [ez]
          exact hb.mp rfl
    · rintro σ H1 ⟨x6, rfl, s1, all⟩
      rw [List.take_length] at all
      have st : St H (.ref q) q xs := ⟨rfl, hq, l1, l4, all⟩
      refine ⟨_, wT, rfl, .inr (.inr ⟨.inl rfl, rfl⟩), fun l H2 s2 hl el => ?_⟩
      have s12 := sT s1 s2
      refine ⟨_, rfl, _, rfl, l, wT, _, t, rfl, el, alT, pre.t.same s12, fun b H3 s3 hb => ⟨_, rfl, ?_⟩⟩
      rw [← right_iff pre.t s12] at hb
      have s13 := sT s12 s3
      cases b with
      | false => exact iteT (k _ H3 s13 (.inl (.to q xs st fun z => Bool.false_ne_true (hb.mpr z))))
      | true =>
      have rt := hb.mp rfl
      refine iteF ⟨_, wT, rfl, .inr (.inr ⟨.inr rfl, rfl⟩), fun l2 H4 s4 hl2 el2 => ?_⟩
      have s14 := sT s13 s4
      refine ⟨_, rfl, _, rfl, l2, wT, _, y, rfl, el2, alT, pre.y.same s14, fun b H5 s5 hb => ⟨_, rfl, ?_⟩⟩
      rw [← right_iff pre.y s14] at hb
      have s15 := sT s14 s5
      cases b with
      | false => exact iteT (k _ H5 s15 (.inl (.say q xs st rt fun z => Bool.false_ne_true (hb.mpr z))))
      | true =>
      have ry := hb.mp rfl
      obtain ⟨tn, bn0, tyn, ktn, hn⟩ := (pre.n.same s15).kd.tyT (K := K)
      refine iteF ⟨_, rfl, n, .ty "tuple", tn, .type "tuple", bn0, rfl, .ty _, tyn, ktn, _, rfl, ?_⟩
      rcases hn with ⟨rfl, q', ns, rfl, hq'⟩ | ⟨rfl, no⟩
      rotate_left
      · exact iteT (k _ H5 s15 (.inl (.nexts q xs st rt ry fun q' ns e hn _ _ => no q' ns e (s15 _ _ hn))))
      have hq0 := tup_back pre.n.kd s15 rfl hq'
      have itn := pre.n.items hq0
      refine iteF ⟨_, rfl, q', ns, rfl, .inr (SqT.of hq'), _, rfl, rfl, _, rfl, ite2 (fun c => ?_) (fun c => ?_)⟩
      · exact k _ H5 s15 (.inl (.nexts q xs st rt ry fun q2 ns2 e hn hl _ => by
          cases e
          rw [hq0] at hn
          cases hn
          rw [hl, decide_eq_true rfl] at c
          exact absurd c (by decide)))
      have ln : ns.length = xs.length := by
        by_cases z : ns.length = xs.length
        · exact z
        · rw [decide_eq_false (fun e => z (by
            have z2 := V.int.inj e
            omega))] at c
          exact absurd rfl c
      refine ⟨_, rfl, q', rfl, ⟨_, SqT.of hq'⟩, for_tup (K := K) (a := q') (xs := ns) (fun i σ H' => ∃ x6, σ = [some (.ref pt), some (.ref q), some t, some y, some (.ref q'), some (.int ((xs.length : Nat) : Int)), x6] ∧ Same H H' ∧ ∀ x ∈ ns.take i, Right H wN xs.length x) ?_ ?_ ?_ ?_⟩
      · exact ⟨x6, rfl, s15, fun x hx => absurd hx (by simp)⟩
      · rintro i σ H6 hi ⟨x6, rfl, s6, _⟩
        exact SqT.of (s6 _ _ hq0)
      · rintro i x σ H6 hx ⟨x6, rfl, s6, all⟩
        have hm := List.mem_of_getElem? hx
        refine ⟨_, wN, rfl, .inr (.inl ⟨rfl, rfl⟩), fun l H7 s7 hl el => ?_⟩
        have s17 := sT s6 s7
        refine ⟨_, rfl, _, rfl, l, wN, _, x, rfl, el, alN, (itn.2 x hm).same s17, fun b H8 s8 hb => ⟨_, rfl, ?_⟩⟩
        rw [← right_iff (itn.2 x hm) s17] at hb
        cases b with
        | false =>
          refine iteT (k _ H8 (sT s17 s8) (.inl (.nexts q xs st rt ry fun q2 ns2 e hn _ hr => ?_)))
          cases e
          rw [hq0] at hn
          cases hn
          exact Bool.false_ne_true (hb.mpr (hr x hm))
        | true =>
          refine iteF ⟨_, rfl, sT s17 s8, fun z hz => ?_⟩
          rw [List.take_add_one, hx] at hz
          rcases List.mem_append.mp hz with hz | hz
          · exact all z hz
          · have ez : z = x := by simpa using hz
            rw [ez]
            exact hb.mp rfl
      · rintro σ H6 ⟨x6, rfl, s6, all⟩
        rw [List.take_length] at all
        exact k _ H6 s6 (.inr ⟨rfl, ⟨q, xs, q', ns, st, rt, ry, rfl, hq0, ln, all⟩⟩)
end
end Q

namespace Q
open PySem L2
abbrev sLeaf : Stmt := top 29
abbrev sExpr : Stmt := top 30
/-- what stood stands; lists may have become others -/
def Grow (H H' : Hp) : Prop := ∀ a o, H a = some o → H' a = some o ∨ ∃ xs ys, o = .lst xs ∧ H' a = some (.lst ys)
theorem Grow.of_same {H H' : Hp} (s : Same H H') : Grow H H' := fun a o e => .inl (s a o e)
theorem Grow.of_ext {H H' : Hp} {p l : Addr} (g : HandAt H p l) (g' : HandAt H' p l) (s : Ext p H H') : Grow H H' := fun a o e => by
  by_cases c : a = p
  · obtain ⟨xs, e1⟩ := g.hp
    obtain ⟨ys, e2⟩ := g'.hp
    rw [c] at e ⊢
    rw [e1] at e
    exact .inr ⟨_, _, (Option.some.inj e).symm, e2⟩
  · exact .inl (s a o e c)
theorem Grow.trans {H H1 H2 : Hp} (a : Grow H H1) (b : Grow H1 H2) : Grow H H2 := fun c o e => by
  rcases a c o e with e1 | ⟨xs, ys, rfl, e1⟩
  · exact b c o e1
  · rcases b c _ e1 with e2 | ⟨xs', ys', e', e2⟩
    · exact .inr ⟨xs, ys, rfl, e2⟩
    · exact .inr ⟨xs, ys', rfl, e2⟩
theorem Grow.upd {H : Hp} {D : Addr} {xs ys : List V} (e : H D = some (.lst xs)) : Grow H (L2.upd H D (.lst ys)) := fun a o e' => by
  by_cases c : a = D
  · rw [c] at e' ⊢
    rw [e] at e'
    exact .inr ⟨xs, ys, (Option.some.inj e').symm, upd_same⟩
  · exact .inl (by rw [upd_ne c]; exact e')
theorem Grow.tup {H H' : Hp} (g : Grow H H') {a : Addr} {xs : List V} (e : H a = some (.tup xs)) : H' a = some (.tup xs) := by
  rcases g a _ e with e1 | ⟨_, _, z, _⟩
  · exact e1
  · cases z
theorem Kd.grow {H H' : Hp} {v : V} (h : Kd H v) (g : Grow H H') : Kd H' v := by
  cases h with
  | int i => exact .int i
  | non => exact .non
  | bl b => exact .bl b
  | str z => exact .str z
  | tup e => exact .tup (g.tup e)
  | lst e =>
    rcases g _ _ e with e1 | ⟨_, _, _, e1⟩
    · exact .lst e1
    · exact .lst e1
  | dk e =>
    rcases g _ _ e with e1 | ⟨_, _, z, _⟩
    · exact .dk e1
    · cases z
theorem Kt.grow {H H' : Hp} (g : Grow H H') : ∀ {n : Nat} {v : V}, Kt H n v → Kt H' n v
  | 0, _, _ => trivial
  | n + 1, v, h => ⟨⟨h.1.1.grow g, h.1.2⟩, fun a xs e1 e2 => by
    subst e1
    obtain ⟨o, eo⟩ := h.1.1.at_
    rcases g a o eo with e3 | ⟨_, _, _, e3⟩
    · rw [e2] at e3
      cases e3
      obtain ⟨h1, h2⟩ := h.2 a xs rfl eo
      exact ⟨h1, fun x hx => (h2 x hx).grow g⟩
    · rw [e2] at e3
      cases e3⟩
theorem Wh.grow {H H' : Hp} {v : V} (h : Wh H v) (g : Grow H H') : Wh H' v := fun n => (h n).grow g
theorem TS.grow {H H' : Hp} {W : List Str} {c : Int} (g : Grow H H') : ∀ {n : Nat} {v : V} {k : Nat}, TS H W c n v k → TS H' W c n v k
  | 0, _, _, h => h.elim
  | n + 1, v, k, ⟨ks, ⟨a, s, r, e1, e2, h⟩, szs, p, e⟩ => ⟨ks, ⟨a, s, r, e1, g.tup e2, h⟩, szs, paired_mono (fun x k _ h => h.grow g) p, e⟩
/-- words that are drawn from -/
structure WOk (W : List Str) : Prop where
  al : Alone W
  ne : 0 < W.length
  few : W.length < 100
  txt : ∀ s ∈ W, s ∈ txtL
def PreE (H : Hp) (p l wl : Addr) (W : List Str) (c : Int) : Prop := HandAt H p l ∧ H wl = some (.lst (W.map V.str)) ∧ wl ≠ p ∧ WOk W ∧ 0 ≤ c ∧ c ≤ 4
def spLeaf : Sp := fun vs H Q _ => ∃ (p l wl : Addr) (W : List Str) (c : Int), vs = [.ref p, .ref wl, .int c] ∧ PreE H p l wl W c ∧ ∀ v H', HandAt H' p l → Ext p H H' → Wh H' v → TS H' W c 1 v 1 → Q v H'
def bnd : Nat → Nat
  | 0 => 0
  | n + 1 => 1 + 3 * bnd n
def spExpr (d : Nat) : Sp := fun vs H Q _ => ∃ (p l wl : Addr) (W : List Str) (c : Int), vs = [.ref p, .ref wl, .int c, .int (d : Int)] ∧ PreE H p l wl W c ∧ ∀ v H' k, HandAt H' p l → Ext p H H' → Wh H' v → TS H' W c d v k → k ≤ bnd d → Q v H'
section
variable {P : Program} {w : World} {K : PySem.W.Frag} {mg : Str → Option Value} {base : Heap}
theorem scLeaf : FnScope ["hand", "words", "cells", "turn"] ["hand", "words", "cells"] (defScope sLeaf) := ⟨rfl, rfl, rfl, by decide +kernel, rfl, by decide +kernel, by decide +kernel⟩
theorem ok_leaf {f fT fP : Addr} {fd dT dP : FuncData} (F : Fun K "_law_leaf" "_law_leaf" sLeaf f fd) (B : Bts mg) (DT : Df K mg "_law_take" sTake ["hand", "many"] fT dT) (DP : Df K mg "_law_pick" sPick ["hand", "things"] fP dP) : FnOk P w K mg base CX0 3 f fd ["hand", "words", "cells"] spLeaf := by
  have GT : FnOk P w K mg base CX0 1 fT dT ["hand", "many"] spTake := ok_take DT.F B
  have GP : FnOk P w K mg base CX0 2 fP dP ["hand", "things"] (spPick K) := ok_pick DP.F B DT
  refine F.ok scLeaf (fun vs H Q E h => ?_) (fun cdv A outer s0 H vs Q E hr h => ?_)
  · obtain ⟨p, l, wl, W, c, rfl, _⟩ := h
    rfl
  · obtain ⟨p, l, wl, W, c, rfl, ⟨g0, ew, nwp, wo, c0, c4⟩, k⟩ := h
    have nd := scLeaf.nd
    have hr1 : Room 1 _ := hr.mono (by decide)
    refine ⟨_, pss_cons (ps_set (i := 3) nd rfl (.inl rfl) (pe_call GT hr1 rfl DT.m DT.k DT.b .nil pass0 (pa_cons (pv 0) (pa_cons pe_int pa_nil))))
      (pss_cons (ps_if (pt_cmpR op_eq (pv 3) pe_int (nomark _)) (pss_one (ps_ret (pe_tup (pa_cons pe_str (pa_cons (pe_call GP hr rfl DP.m DP.k DP.b .nil pass0 (pa_cons (pv 0) (pa_cons (pe_lst (pa_cons pe_int (pa_cons pe_int (pa_cons pe_int (pa_cons (pe_un un_neg pe_int) (pa_cons pe_int (pa_cons pe_int (pa_cons pe_int (pa_cons (pe_un un_neg pe_int)
          (pa_cons (pe_op op_sub (pe_call GT hr1 rfl DT.m DT.k DT.b .nil pass0 (pa_cons (pv 0) (pa_cons pe_int pa_nil))) pe_int) pa_nil)))))))))) pa_nil))) pa_nil))))) pss_nil)
      (pss_cons (ps_if (PW.pt (pw_and (pt_cmpR op_lt (pv 3) pe_int (nomark _)) (pw_and1 (pt_cmpR op_gt (pv 2) pe_int (nomark _))))) (pss_one (ps_ret (pe_tup (pa_cons pe_str (pa_cons (pe_call GT hr1 rfl DT.m DT.k DT.b .nil pass0 (pa_cons (pv 0) (pa_cons (pv 2) pa_nil))) pa_nil))))) pss_nil)
      (pss_one (ps_ret (pe_tup (pa_cons (pe_call GP hr rfl DP.m DP.k DP.b .nil pass0 (pa_cons (pv 0) (pa_cons (pv 1) pa_nil))) pa_nil)))))), ?_⟩
    refine ⟨_, rfl, p, l, 5, rfl, g0, by decide, by decide, fun turn H1 d0 d1 g1 b1 => ?_⟩
    have x1 : Ext p H H1 := Ext.rfl'.but b1
    have ew1 : H1 wl = some (.lst (W.map V.str)) := by rw [b1 wl nwp]; exact ew
    have nodeN : ∀ {H' : Hp} {t : Addr} {i : Int}, H' t = some (.tup [.str "number", .int i]) → -2147483648 ≤ i → i ≤ 2147483647 → TS H' W c 1 (.ref t) 1 := fun e h0 h1 => ⟨[], (node_iff e []).mpr (.inl ⟨rfl, rfl, _, rfl, h0, h1⟩), [], .nil, rfl⟩
    have word : ∀ (H2 : Hp) (g2 : HandAt H2 p l) (x2 : Ext p H H2) (e2 : H2 wl = some (.lst (W.map V.str))), spPick K [.ref p, .ref wl] H2 (fun v H3 => [v].length ≤ sizeLine ∧ ∀ t, H3 t = none → Q (.ref t) (upd H3 t (.tup [v]))) E := fun H2 g2 x2 e2 =>
      ⟨p, l, wl, _, rfl, g2, e2, nwp, by rw [List.length_map]; exact wo.ne, by rw [List.length_map]; exact Nat.lt_trans wo.few (by decide), fun v H3 hv g3 b3 => ⟨(by show 1 ≤ sizeLine; decide), fun t ht => by
        obtain ⟨s, hs, rfl⟩ := List.mem_map.mp hv
        refine k (.ref t) _ (g3.new ht) ((x2.but b3).upd ht) (.tup upd_same (by show 1 ≤ 200; decide) (wh_cons (.str (wo.txt s hs)) wh_nil)) ⟨[], (node_iff upd_same []).mpr (.inr (.inr (.inl ⟨hs, rfl, rfl⟩))), [], .nil, rfl⟩⟩⟩
    refine ⟨_, rfl, rfl, _, rfl, ite2 (fun _ => ?_) (fun _ => ?_)⟩
    · refine ⟨_, rfl, _, rfl, _, rfl, _, rfl, p, l, 100, rfl, g1, by decide, by decide, fun d H2 e0 e1 g2 b2 => ?_⟩
      refine ⟨_, _, rfl, rfl, (by show 9 ≤ sizeLine; decide), fun ml hml => ?_⟩
      have g3 := g2.new (o := .lst [.int 0, .int 1, .int 2, .int (-1), .int 3, .int 7, .int 2147483647, .int (-2147483648), .int (d - 50)]) hml
      refine ⟨p, l, ml, _, rfl, g3, upd_same, (g2.ne hml).1, (by show 0 < 9; decide), (by show 9 < 1000; decide), fun v H3 hv g4 b4 => ⟨(by show 2 ≤ sizeLine; decide), fun t ht => ?_⟩⟩
      have hi : ∃ i : Int, v = .int i ∧ -2147483648 ≤ i ∧ i ≤ 2147483647 := by
        simp only [List.mem_cons, List.not_mem_nil, or_false] at hv
        rcases hv with rfl | rfl | rfl | rfl | rfl | rfl | rfl | rfl | rfl
        · exact ⟨_, rfl, by decide, by decide⟩
        · exact ⟨_, rfl, by decide, by decide⟩
        · exact ⟨_, rfl, by decide, by decide⟩
        · exact ⟨_, rfl, by decide, by decide⟩
        · exact ⟨_, rfl, by decide, by decide⟩
        · exact ⟨_, rfl, by decide, by decide⟩
        · exact ⟨_, rfl, by decide, by decide⟩
        · exact ⟨_, rfl, by decide, by decide⟩
        · exact ⟨_, rfl, by omega, by omega⟩
      obtain ⟨i, rfl, h0, h1⟩ := hi
      exact k (.ref t) _ (g4.new ht) ((((x1.but b2).upd hml).but b4).upd ht) (.tup upd_same (by show 2 ≤ 200; decide) (wh_cons (.str (by decide +kernel)) (wh_cons (.int i) wh_nil))) (nodeN upd_same h0 h1)
    · refine ⟨_, rfl, _, _, rfl, rfl, _, rfl, ite2 (fun _ => ⟨_, rfl, _, _, rfl, rfl, _, rfl, ite2 (fun cc => ?a) (fun _ => ?b)⟩) (fun _ => ?d)⟩
      case a =>
        have cp : 0 < c := of_decide_eq_true cc
        refine ⟨_, rfl, _, rfl, p, l, c, rfl, g1, cp, by omega, fun d H2 e0 e1 g2 b2 => ⟨(by show 2 ≤ sizeLine; decide), fun t ht => ?_⟩⟩
        exact k (.ref t) _ (g2.new ht) ((x1.but b2).upd ht) (.tup upd_same (by show 2 ≤ 200; decide) (wh_cons (.str (by decide +kernel)) (wh_cons (.int d) wh_nil))) ⟨[], (node_iff upd_same []).mpr (.inr (.inl ⟨rfl, rfl, d, rfl, e0, e1⟩)), [], .nil, rfl⟩
      case b | d =>
        first
        | exact ⟨_, rfl, _, rfl, word H1 g1 x1 ew1⟩
        | exact iteF ⟨_, rfl, _, rfl, word H1 g1 x1 ew1⟩
end
end Q

namespace Q
open PySem L2
theorem bnd_pos (n : Nat) : 1 ≤ bnd (n + 1) := by
  show 1 ≤ 1 + 3 * bnd n
  omega
section
variable {P : Program} {w : World} {K : PySem.W.Frag} {mg : Str → Option Value} {base : Heap}
theorem scExpr : FnScope ["hand", "words", "cells", "deep", "turn", "parts", "word", "one", "k"] ["hand", "words", "cells", "deep"] (defScope sExpr) := ⟨rfl, rfl, rfl, by decide +kernel, rfl, by decide +kernel, by decide +kernel⟩
theorem ok_expr {f fT fP fL : Addr} {fd dT dP dL : FuncData} (D : Df K mg "_law_expression" sExpr ["hand", "words", "cells", "deep"] f fd) (B : Bts mg) (DT : Df K mg "_law_take" sTake ["hand", "many"] fT dT) (DP : Df K mg "_law_pick" sPick ["hand", "things"] fP dP)
    (DL : Df K mg "_law_leaf" sLeaf ["hand", "words", "cells"] fL dL) : ∀ d, FnOk P w K mg base CX0 (d + 4) f fd ["hand", "words", "cells", "deep"] (spExpr (d + 1)) := by
  have GT : FnOk P w K mg base CX0 1 fT dT ["hand", "many"] spTake := ok_take DT.F B
  have GP : FnOk P w K mg base CX0 2 fP dP ["hand", "things"] (spPick K) := ok_pick DP.F B DT
  have GL : FnOk P w K mg base CX0 3 fL dL ["hand", "words", "cells"] spLeaf := ok_leaf DL.F B DT DP
  intro d
  induction d with
  | zero =>
    refine D.F.ok scExpr (fun vs H Q E h => ?_) (fun cdv A outer s0 H vs Q E hr h => ?_)
    · obtain ⟨p, l, wl, W, c, rfl, _⟩ := h
      rfl
    · obtain ⟨p, l, wl, W, c, rfl, ⟨g0, ew, nwp, wo, c0, c4⟩, k⟩ := h
      have nd := scExpr.nd
      have hr1 : Room 1 _ := hr.mono (by decide)
      have hr3 : Room 3 _ := hr.mono (by decide)
      refine ⟨_, pss_cons (ps_set (i := 4) nd rfl (.inl rfl) (pe_call GT hr1 rfl DT.m DT.k DT.b .nil pass0 (pa_cons (pv 0) (pa_cons pe_int pa_nil))))
        (pss_cons (ps_if (PW.pt (pw_or (pt_cmpR op_lt (pv 3) pe_int (nomark _)) pw_nev)) (pss_one (ps_ret (pe_call GL hr3 rfl DL.m DL.k DL.b .nil pass0 (pa_cons (pv 0) (pa_cons (pv 1) (pa_cons (pv 2) pa_nil)))))) pss_nil) pss_never), ?_⟩
      refine ⟨_, rfl, p, l, 8, rfl, g0, by decide, by decide, fun turn H1 d0 d1 g1 b1 => ?_⟩
      have x1 : Ext p H H1 := Ext.rfl'.but b1
      have ew1 : H1 wl = some (.lst (W.map V.str)) := by rw [b1 wl nwp]; exact ew
      refine ⟨_, rfl, _, _, rfl, rfl, _, rfl, iteT ?_⟩
      exact ⟨_, rfl, _, rfl, _, rfl, p, l, wl, W, c, rfl, ⟨g1, ew1, nwp, wo, c0, c4⟩, fun v H2 g2 x2 wv tv => k v H2 1 g2 (x1.trans x2) wv tv (by decide)⟩
  | succ d IH =>
    refine D.F.ok scExpr (fun vs H Q E h => ?_) (fun cdv A outer s0 H vs Q E hr h => ?_)
    · obtain ⟨p, l, wl, W, c, rfl, _⟩ := h
      rfl
    · obtain ⟨p, l, wl, W, c, rfl, ⟨g0, ew, nwp, wo, c0, c4⟩, k⟩ := h
      have nd := scExpr.nd
      have hr1 : Room 1 _ := hr.mono (by omega)
      have hr2 : Room 2 _ := hr.mono (by omega)
      have hr3 : Room 3 _ := hr.mono (by omega)
      have hrd : Room (d + 4) _ := hr.mono (by omega)
      refine ⟨_, pss_cons (ps_set (i := 4) nd rfl (.inl rfl) (pe_call GT hr1 rfl DT.m DT.k DT.b .nil pass0 (pa_cons (pv 0) (pa_cons pe_int pa_nil))))
        (pss_cons (ps_if (PW.pt (pw_or (pt_cmpR op_lt (pv 3) pe_int (nomark _)) (pw_or1 (pt_cmpR op_lt (pv 4) pe_int (nomark _))))) (pss_one (ps_ret (pe_call GL hr3 rfl DL.m DL.k DL.b .nil pass0 (pa_cons (pv 0) (pa_cons (pv 1) (pa_cons (pv 2) pa_nil)))))) pss_nil)
        (pss_cons (ps_if (pt_cmpR op_eq (pv 4) pe_int (nomark _))
          (pss_cons (ps_setLc (i := 5) (own := [("k", 8)]) (g := gName 8) (tt := tYes) rfl nd rfl rfl (sw_true rfl rfl rfl (by decide +kernel)) (pi_range1 rfl B.range (pa_cons pe_int pa_nil))
            (blkOk_by (N := ["hand", "words", "cells", "deep", "turn", "parts", "word", "one", "k"]) (sc := defScope sExpr) (by decide +kernel)) (fun _ _ _ _ _ => pg_name (i := 8) nd rfl (.inl rfl)) (fun _ _ _ _ _ => pts_nil)
            (fun _ _ _ _ _ => pe_call IH hrd rfl D.m D.k D.b .nil pass0 (pa_cons (pv 0) (pa_cons (pv 1) (pa_cons (pv 2) (pa_cons (pe_op op_sub (pv 3) pe_int) pa_nil))))))
          (pss_one (ps_ret (pe_tup (pa_cons pe_str (pa_cons (pe_ix ix_list (pv 5) pe_int (fun _ _ => rfl)) (pa_cons (pe_ix ix_list (pv 5) pe_int (fun _ _ => rfl)) (pa_cons (pe_ix ix_list (pv 5) pe_int (fun _ _ => rfl)) pa_nil)))))))) pss_nil)
        (pss_cons (ps_set (i := 6) nd rfl (.inl rfl) (pe_call GP hr2 rfl DP.m DP.k DP.b .nil pass0 (pa_cons (pv 0) (pa_cons (pe_lst (pa_cons pe_str (pa_cons pe_str (pa_cons pe_str (pa_cons pe_str (pa_cons pe_str (pa_cons pe_str (pa_cons pe_str (pa_cons pe_str (pa_cons pe_str (pa_cons pe_str pa_nil))))))))))) pa_nil))))
        (pss_cons (ps_set (i := 7) nd rfl (.inl rfl) (pe_call IH hrd rfl D.m D.k D.b .nil pass0 (pa_cons (pv 0) (pa_cons (pv 1) (pa_cons (pv 2) (pa_cons (pe_op op_sub (pv 3) pe_int) pa_nil))))))
        (pss_one (ps_ret (pe_tup (pa_cons (pv 6) (pa_cons (pv 7) (pa_cons (pe_call IH hrd rfl D.m D.k D.b .nil pass0 (pa_cons (pv 0) (pa_cons (pv 1) (pa_cons (pv 2) (pa_cons (pe_op op_sub (pv 3) pe_int) pa_nil))))) pa_nil)))))))))), ?_⟩
      refine ⟨_, rfl, p, l, 8, rfl, g0, by decide, by decide, fun turn H1 d0 d1 g1 b1 => ?_⟩
      have x1 : Ext p H H1 := Ext.rfl'.but b1
      have ew1 : H1 wl = some (.lst (W.map V.str)) := by rw [b1 wl nwp]; exact ew
      have ed : V.int (((d + 1 + 1 : Nat) : Int) - 1) = V.int ((d + 1 : Nat) : Int) := by
        congr 1
        omega
      refine ⟨_, rfl, _, _, rfl, rfl, _, rfl, ?_⟩
      rw [decide_eq_false (show ¬ ((d + 1 + 1 : Nat) : Int) < 2 by omega)]
      refine iteF ⟨_, rfl, _, _, rfl, rfl, _, rfl, ite2 (fun _ => ?_) (fun _ => ?_)⟩
      · exact ⟨_, rfl, _, rfl, _, rfl, p, l, wl, W, c, rfl, ⟨g1, ew1, nwp, wo, c0, c4⟩, fun v H2 g2 x2 wv tv => k v H2 1 g2 (x1.trans x2) wv (tv.mono (by omega)) (bnd_pos _)⟩
      refine ⟨_, rfl, rfl, _, rfl, ite2 (fun _ => ?_) (fun _ => ?_)⟩
      · -- if
        refine ⟨3, rfl, by decide, by decide, fun D0 hD => lc_range (lo := 0) (n := 3) (fun i H' => ∃ vs : List V, H' D0 = some (.lst vs) ∧ vs.length = i ∧ (∀ x ∈ vs, Wh H' x ∧ ∃ z, TS H' W c (d + 1) x z ∧ z ≤ bnd (d + 1)) ∧ HandAt H' p l ∧ Ext p H1 H') ?_ ?_ ?_⟩
        · exact ⟨[], upd_same, rfl, fun x hx => absurd hx List.not_mem_nil, g1.new hD, Ext.rfl'.upd hD⟩
        · rintro i H2 hi ⟨vs, eD, hl, hv, g2, x2⟩
          refine ⟨rfl, ?_⟩
          have ew2 : H2 wl = some (.lst (W.map V.str)) := x2 _ _ ew1 nwp
          have nDp : D0 ≠ p := by
            obtain ⟨xs, e⟩ := g1.hp
            exact (ne_of_none e hD).symm
          refine ⟨_, rfl, _, rfl, _, rfl, _, rfl, _, _, rfl, rfl, p, l, wl, W, c, ?_, ⟨g2, ew2, nwp, wo, c0, c4⟩, fun v H3 z g3 x3 wv tv lz => ?_⟩
          · rw [← ed]
            rfl
          have eD3 : H3 D0 = some (.lst vs) := x3 _ _ eD nDp
          have gr := Grow.of_ext g2 g3 x3
          have gu : Grow H3 (L2.upd H3 D0 (.lst (vs ++ [v]))) := Grow.upd eD3
          refine ⟨vs, eD3, by rw [hl]; exact Nat.lt_of_lt_of_le (show i < 64 by omega) (by decide), vs ++ [v], upd_same, by rw [List.length_append, hl]; rfl, fun x hx => ?_, ?_, ?_⟩
          · rcases List.mem_append.mp hx with hx | hx
            · obtain ⟨a, z', b, e⟩ := hv x hx
              exact ⟨(a.grow gr).grow gu, z', (b.grow gr).grow gu, e⟩
            · have ex : x = v := by simpa using hx
              subst ex
              exact ⟨wv.grow gu, z, tv.grow gu, lz⟩
          · have nDl : D0 ≠ l := by
              obtain ⟨ns, e, _⟩ := g1.hl
              exact (ne_of_none e hD).symm
            exact g3.stay nDp nDl
          · intro b o e nb
            rw [upd_ne (ne_of_none e hD)]
            exact (x2.trans x3) b o e nb
        · rintro H2 ⟨vs, eD, hl, hv, g2, x2⟩
          obtain ⟨v1, v2, v3, rfl⟩ : ∃ v1 v2 v3, vs = [v1, v2, v3] := by
            match vs, hl with
            | [v1, v2, v3], _ => exact ⟨v1, v2, v3, rfl⟩
          refine ⟨_, rfl, D0, [v1, v2, v3], 0, v1, rfl, rfl, SqL.of eD, rfl, _, rfl, D0, [v1, v2, v3], 1, v2, rfl, rfl, SqL.of eD, rfl, _, rfl, D0, [v1, v2, v3], 2, v3, rfl, rfl, SqL.of eD, rfl, (by show 4 ≤ sizeLine; decide), fun t ht => ?_⟩
          have s3 := sN (o := .tup [.str "if", v1, v2, v3]) ht
          obtain ⟨w1, z1, t1, l1⟩ := hv v1 (by simp)
          obtain ⟨w2, z2, t2, l2⟩ := hv v2 (by simp)
          obtain ⟨w3, z3, t3, l3⟩ := hv v3 (by simp)
          refine k (.ref t) _ (1 + (z1 + (z2 + (z3 + 0)))) (g2.new ht) ((x1.trans x2).upd ht) (.tup upd_same (by show 4 ≤ 200; decide) (wh_cons (.str (by decide +kernel)) (wh_cons (w1.same s3) (wh_cons (w2.same s3) (wh_cons (w3.same s3) wh_nil))))) ?_ ?_
          · exact ⟨[v1, v2, v3], (node_iff upd_same _).mpr (.inr (.inr (.inr (.inl ⟨rfl, rfl, rfl⟩)))), [z1, z2, z3], .cons (t1.same s3) (.cons (t2.same s3) (.cons (t3.same s3) .nil)), by simp⟩
          · show 1 + (z1 + (z2 + (z3 + 0))) ≤ 1 + 3 * bnd (d + 1)
            omega
      · -- two parts
        refine ⟨_, rfl, (by show 10 ≤ sizeLine; decide), fun ml hml => ?_⟩
        have gm := g1.new (o := .lst (opsL.map V.str)) hml
        refine ⟨p, l, ml, opsL.map V.str, rfl, gm, upd_same, (g1.ne hml).1, (by show 0 < 10; decide), (by show 10 < 1000; decide), fun wv0 H2 hw g2 b2 => ?_⟩
        obtain ⟨s, hs, rfl⟩ := List.mem_map.mp hw
        have x2 : Ext p H1 H2 := (Ext.rfl'.upd hml).but b2
        have ew2 : H2 wl = some (.lst (W.map V.str)) := x2 _ _ ew1 nwp
        have stx : s ∈ txtL := by
          have key : ∀ s ∈ opsL, s ∈ txtL := by decide +kernel
          exact key s hs
        refine ⟨_, rfl, _, rfl, _, rfl, _, rfl, _, _, rfl, rfl, p, l, wl, W, c, ?_, ⟨g2, ew2, nwp, wo, c0, c4⟩, fun v1 H3 z1 g3 x3 w1 t1 l1 => ?_⟩
        · rw [← ed]
          rfl
        have ew3 : H3 wl = some (.lst (W.map V.str)) := x3 _ _ ew2 nwp
        refine ⟨_, rfl, _, rfl, _, rfl, _, rfl, _, rfl, _, rfl, _, _, rfl, rfl, p, l, wl, W, c, ?_, ⟨g3, ew3, nwp, wo, c0, c4⟩, fun v2 H4 z2 g4 x4 w2 t2 l2 => ?_⟩
        · rw [← ed]
          rfl
        refine ⟨(by show 3 ≤ sizeLine; decide), fun t ht => ?_⟩
        have s5 := sN (o := .tup [.str s, v1, v2]) ht
        have gr := Grow.of_ext g3 g4 x4
        refine k (.ref t) _ (1 + (z1 + (z2 + 0))) (g4.new ht) ((((x1.trans x2).trans x3).trans x4).upd ht) (.tup upd_same (by show 3 ≤ 200; decide) (wh_cons (.str stx) (wh_cons ((w1.grow gr).same s5) (wh_cons (w2.same s5) wh_nil)))) ?_ ?_
        · exact ⟨[v1, v2], (node_iff upd_same _).mpr (.inr (.inr (.inr (.inr ⟨hs, rfl, rfl⟩)))), [z1, z2], .cons ((t1.grow gr).same s5) (.cons (t2.same s5) .nil), by simp⟩
        · show 1 + (z1 + (z2 + 0)) ≤ 1 + 3 * bnd (d + 1)
          omega
end
end Q

namespace Q
open PySem L2
abbrev sChain : Stmt := top 38
abbrev sBroad : Stmt := top 39
def spChain : Sp := fun vs H Q _ => ∃ m : Int, vs = [.int m] ∧ 1 ≤ m ∧ m ≤ 20 ∧ ∀ v H', Same H H' → Wh H' v → Q v H'
def spBroad : Sp := fun vs H Q _ => ∃ m : Int, vs = [.int m] ∧ 1 ≤ m ∧ m ≤ 100 ∧ ∀ v H', Same H H' → Wh H' v → Q v H'
theorem cutV_mem {xs : List V} {lo hi : Option Int} : ∀ y ∈ cutV xs lo hi, y ∈ xs := fun y hy => by
  unfold cutV at hy
  exact List.mem_of_mem_drop (List.mem_of_mem_take hy)
section
variable {P : Program} {w : World} {K : PySem.W.Frag} {mg : Str → Option Value} {base : Heap}
theorem scChain : FnScope ["many", "tree", "k"] ["many"] (defScope sChain) := ⟨rfl, rfl, rfl, by decide +kernel, rfl, by decide +kernel, by decide +kernel⟩
theorem ok_chain {f : Addr} {fd : FuncData} (F : Fun K "_law_chain" "_law_chain" sChain f fd) (B : Bts mg) : FnOk P w K mg base CX0 1 f fd ["many"] spChain := by
  refine F.ok scChain (fun vs H Q E h => ?_) (fun cdv A outer s0 H vs Q E hr h => ?_)
  · obtain ⟨m, rfl, _⟩ := h
    rfl
  · obtain ⟨m, rfl, m1, m2, k⟩ := h
    have nd := scChain.nd
    refine ⟨_, pss_cons (ps_set (i := 1) nd rfl (.inl rfl) (pe_tup (pa_cons pe_str pa_nil)))
      (pss_cons (ps_for PassesOwn.never rfl (pi_range1 rfl B.range (pa_cons (pe_op op_sub (pv 0) pe_int) pa_nil)) (pg_name (i := 2) nd rfl (.inl rfl))
        (pss_one (ps_set (i := 1) nd rfl (.inl rfl) (pe_tup (pa_cons pe_str (pa_cons (pv 1) (pa_cons (pe_tup (pa_cons pe_str (pa_cons (pv 2) pa_nil))) pa_nil)))))))
      (pss_one (ps_ret (pv 1)))), ?_⟩
    refine ⟨(by show 1 ≤ sizeLine; decide), fun t0 n0 => ?_⟩
    have s0 := sN (o := .tup [.str "me"]) n0
    refine ⟨_, rfl, _, _, rfl, rfl, _, rfl, by omega, by omega, for_range (lo := 0) (n := (m - 1).toNat) (fun i σ H' => ∃ (v : V) (x2 : Option V), σ = [some (.int m), some v, x2] ∧ Same H H' ∧ Wh H' v) ?_ ?_ ?_⟩
    · exact ⟨_, none, rfl, s0, .tup upd_same (by show 1 ≤ 200; decide) (wh_cons (.str (by decide +kernel)) wh_nil)⟩
    · rintro i σ H1 hi ⟨v, x2, rfl, s1, wv⟩
      refine ⟨_, rfl, _, rfl, (by show 2 ≤ sizeLine; decide), fun t1 n1 => ?_⟩
      have s2 := sN (o := .tup [.str "number", .int (0 + (i : Int))]) n1
      refine ⟨(by show 3 ≤ sizeLine; decide), fun t2 n2 => ?_⟩
      have s3 := sN (o := .tup [.str "add", v, .ref t1]) n2
      have w1 : Wh (L2.upd H1 t1 (.tup [.str "number", .int (0 + (i : Int))])) (.ref t1) := .tup upd_same (by show 2 ≤ 200; decide) (wh_cons (.str (by decide +kernel)) (wh_cons (.int _) wh_nil))
      exact ⟨_, _, rfl, sT s1 (sT s2 s3), .tup upd_same (by show 3 ≤ 200; decide) (wh_cons (.str (by decide +kernel)) (wh_cons ((wv.same s2).same s3) (wh_cons (w1.same s3) wh_nil)))⟩
    · rintro σ H1 ⟨v, x2, rfl, s1, wv⟩
      exact ⟨_, rfl, k v H1 s1 wv⟩
theorem scBroad : FnScope ["many", "k", "trees"] ["many"] (defScope sBroad) := ⟨rfl, rfl, rfl, by decide +kernel, rfl, by decide +kernel, by decide +kernel⟩
theorem ok_broad {f : Addr} {fd : FuncData} (F : Fun K "_law_broad" "_law_broad" sBroad f fd) (B : Bts mg) : FnOk P w K mg base CX0 1 f fd ["many"] spBroad := by
  refine F.ok scBroad (fun vs H Q E h => ?_) (fun cdv A outer s0 H vs Q E hr h => ?_)
  · obtain ⟨m, rfl, _⟩ := h
    rfl
  · obtain ⟨m, rfl, m1, m2, k⟩ := h
    have nd := scBroad.nd
    refine ⟨_, pss_cons (ps_setLc (i := 2) (own := [("k", 1)]) (g := gName 1) (tt := tYes) rfl nd rfl rfl (sw_true rfl rfl rfl (by decide +kernel)) (pi_range1 rfl B.range (pa_cons (pe_op op_fdiv (pe_op op_add (pv 0) pe_int) pe_int) pa_nil))
        (blkOk_by (N := ["many", "k", "trees"]) (sc := defScope sBroad) (by decide +kernel)) (fun _ _ _ _ _ => pg_name (i := 1) nd rfl (.inl rfl)) (fun _ _ _ _ _ => pts_nil) (fun _ _ _ _ _ => pe_tup (pa_cons pe_str pa_nil)))
      (C8.pss_cut (ps_for PassesOwn.never rfl (pi_range1 rfl B.range (pa_cons pe_int pa_nil)) (pg_name (i := 1) nd rfl (.inl rfl))
        (pss_cons (ps_if (pt_cmpR op_lt (pe_callB call_len_seq (by rfl) B.len PySem.boot_len (pa_cons (pv 2) pa_nil)) pe_int (nomark _)) (pss_one ps_break) pss_nil)
        (pss_one (ps_set (i := 2) nd rfl (.inl rfl) (pe_op op_cat (pe_slice sl_list (pv 2) (po_some pe_int) po_none) (pe_lst (pa_cons (pe_tup (pa_cons pe_str (pa_cons (pe_ix ix_list (pv 2) pe_int (fun _ _ => rfl)) (pa_cons (pe_ix ix_list (pv 2) pe_int (fun _ _ => rfl)) pa_nil)))) pa_nil)))))))
      (pss_cons (ps_if (pt_cmpR op_eq (pe_op op_mod (pe_callTy call_int1 (by rfl) B.int PyProof.Rows.boot_int (pa_cons (pv 0) pa_nil)) pe_int) pe_int (nomark _))
        (pss_one (ps_ret (pe_tup (pa_cons pe_str (pa_cons (pe_tup (pa_cons pe_str pa_nil)) (pa_cons (pe_tup (pa_cons pe_str pa_nil)) (pa_cons (pe_ix ix_list (pv 2) pe_int (fun _ _ => rfl)) pa_nil))))))) pss_nil)
      (pss_one (ps_ret (pe_ix ix_list (pv 2) pe_int (fun _ _ => rfl)))))), ?_⟩
    have hd2 : 1 ≤ (m + 1) / 2 ∧ (m + 1) / 2 ≤ 50 := by omega
    refine ⟨_, rfl, _, _, rfl, rfl, _, _, rfl, rfl, ⟨by decide, by decide⟩, _, rfl, by omega, by omega, fun D0 hD => lc_range (lo := 0) (n := ((m + 1) / 2).toNat) (fun i H' => ∃ vs : List V, H' D0 = some (.lst vs) ∧ vs.length = i ∧ (∀ x ∈ vs, Wh H' x) ∧ Same H H') ?_ ?_ ?_⟩
    · exact ⟨[], upd_same, rfl, fun x hx => absurd hx List.not_mem_nil, sN hD⟩
    · rintro i H1 hi ⟨vs, eD, hl, hv, s1⟩
      refine ⟨rfl, (by show 1 ≤ sizeLine; decide), fun t ht => ?_⟩
      have s2 := sN (o := .tup [.str "me"]) ht
      have eD2 := s2 _ _ eD
      have gu : Grow (L2.upd H1 t (.tup [.str "me"])) (L2.upd (L2.upd H1 t (.tup [.str "me"])) D0 (.lst (vs ++ [.ref t]))) := Grow.upd eD2
      refine ⟨vs, eD2, by rw [hl]; exact Nat.lt_of_lt_of_le (show i < 64 by omega) (by decide), vs ++ [.ref t], upd_same, by rw [List.length_append, hl]; rfl, fun x hx => ?_, sNew (sT s1 s2) hD⟩
      rcases List.mem_append.mp hx with hx | hx
      · exact ((hv x hx).same s2).grow gu
      · have ex : x = .ref t := by simpa using hx
        subst ex
        exact (Wh.tup upd_same (by show 1 ≤ 200; decide) (wh_cons (.str (by decide +kernel)) wh_nil) : Wh (L2.upd H1 t (.tup [.str "me"])) (.ref t)).grow gu
    · rintro H1 ⟨vs, eD, hl, hv, s1⟩
      refine ⟨fun σ H' => ∃ (x1 : Option V) (T : Addr) (vs : List V), σ = [some (.int m), x1, some (.ref T)] ∧ H' T = some (.lst vs) ∧ 1 ≤ vs.length ∧ (∀ x ∈ vs, Wh H' x) ∧ Same H H', ?_, ?_⟩
      · refine ⟨60, rfl, by decide, by decide, for_range (lo := 0) (n := 60) (fun i σ H' => ∃ (x1 : Option V) (T : Addr) (vs : List V), σ = [some (.int m), x1, some (.ref T)] ∧ H' T = some (.lst vs) ∧ 1 ≤ vs.length ∧ vs.length ≤ 100 ∧ (∀ x ∈ vs, Wh H' x) ∧ Same H H') ?_ ?_ ?_⟩
        · exact ⟨none, D0, vs, rfl, eD, by omega, by omega, hv, s1⟩
        · rintro i σ H2 hi ⟨x1, T, vs, rfl, eT, l1, l2, hv, s2⟩
          refine ⟨_, rfl, T, vs, rfl, .inl (SqL.of eT), _, _, rfl, rfl, _, rfl, ite2 (fun _ => ?_) (fun c => ?_)⟩
          · exact ⟨_, T, vs, rfl, eT, l1, hv, s2⟩
          · have l3 : 2 ≤ vs.length := by
              by_cases z : 2 ≤ vs.length
              · exact z
              · exact absurd (decide_eq_true (show ((vs.length : Nat) : Int) < 2 by omega)) c
            obtain ⟨a, b, r, rfl⟩ : ∃ a b r, vs = a :: b :: r := by
              match vs, l3 with
              | a :: b :: r, _ => exact ⟨a, b, r, rfl⟩
            refine ⟨_, rfl, _, rfl, T, _, rfl, SqL.of eT, fun z nz => ?_⟩
            have s3 := sN (o := .lst (cutV (a :: b :: r) (some 2) none)) nz
            refine ⟨_, rfl, T, _, 0, a, rfl, rfl, SqL.of (s3 _ _ eT), at0 _ _, _, rfl, T, _, 1, b, rfl, rfl, SqL.of (s3 _ _ eT), at1 _ _ _, (by show 3 ≤ sizeLine; decide), fun t ht => ?_⟩
            have s4 := sN (o := .tup [.str "min", a, b]) ht
            refine ⟨(by show 1 ≤ sizeLine; decide), fun u hu => ?_⟩
            have s5 := sN (o := .lst [.ref t]) hu
            have lz := cutV_length (a :: b :: r) (some 2) none
            refine ⟨z, u, _, _, rfl, rfl, s5 _ _ (s4 _ _ upd_same), upd_same, Nat.le_trans (show (cutV (a :: b :: r) (some 2) none).length + 1 ≤ 200 by omega) (by decide), fun T2 h2 => ?_⟩
            have s6 := sN (o := .lst (cutV (a :: b :: r) (some 2) none ++ [.ref t])) h2
            have s36 := sT s3 (sT s4 (sT s5 s6))
            have ecut : (cutV (a :: b :: r) (some 2) none).length ≤ r.length := by
              unfold cutV
              rw [List.length_take, List.length_drop]
              have e1 : HT.sIx (a :: b :: r).length 0 (some ((2 : Nat) : Int)) = min 2 (a :: b :: r).length := HT.sIx_nat _ _ 2
              have e2 : HT.sIx (a :: b :: r).length 0 (some (2 : Int)) = min 2 (a :: b :: r).length := e1
              rw [e2, List.length_cons, List.length_cons]
              omega
            refine ⟨_, T2, _, rfl, upd_same, ?_, ?_, fun x hx => ?_, sT s2 s36⟩
            · rw [List.length_append, List.length_singleton]
              omega
            · rw [List.length_append, List.length_singleton]
              rw [List.length_cons, List.length_cons] at l2
              omega
            · rcases List.mem_append.mp hx with hx | hx
              · exact (hv x (cutV_mem x hx)).same s36
              · have ex : x = .ref t := by simpa using hx
                subst ex
                have wt : Wh (L2.upd (L2.upd H2 z (.lst (cutV (a :: b :: r) (some 2) none))) t (.tup [.str "min", a, b])) (.ref t) := .tup upd_same (by show 3 ≤ 200; decide) (wh_cons (.str (by decide +kernel)) (wh_cons (((hv a (by simp)).same s3).same s4) (wh_cons (((hv b (by simp)).same s3).same s4) wh_nil)))
                exact (wt.same s5).same s6
        · rintro σ H2 ⟨x1, T, vs, rfl, eT, l1, l2, hv, s2⟩
          exact ⟨x1, T, vs, rfl, eT, l1, hv, s2⟩
      · rintro σ H2 ⟨x1, T, vs, rfl, eT, l1, hv, s2⟩
        obtain ⟨a, r, rfl⟩ : ∃ a r, vs = a :: r := by
          match vs, l1 with
          | a :: r, _ => exact ⟨a, r, rfl⟩
        have wa := hv a List.mem_cons_self
        refine ⟨_, rfl, .inl ⟨_, rfl, ?_⟩⟩
        refine ⟨_, _, rfl, rfl, (by show (0 : Int) < 2; decide), rfl, _, rfl, ite2 (fun _ => ?_) (fun _ => ?_)⟩
        · refine ⟨(by show 1 ≤ sizeLine; decide), fun t1 n1 => ?_⟩
          have s3 := sN (o := .tup [.str "me"]) n1
          refine ⟨(by show 1 ≤ sizeLine; decide), fun t2 n2 => ?_⟩
          have s4 := sN (o := .tup [.str "ties"]) n2
          refine ⟨_, rfl, T, _, 0, a, rfl, rfl, SqL.of (s4 _ _ (s3 _ _ eT)), at0 _ _, (by show 4 ≤ sizeLine; decide), fun t3 n3 => ?_⟩
          have s5 := sN (o := .tup [.str "if", .ref t1, .ref t2, a]) n3
          have w1 : Wh (L2.upd H2 t1 (.tup [.str "me"])) (.ref t1) := .tup upd_same (by show 1 ≤ 200; decide) (wh_cons (.str (by decide +kernel)) wh_nil)
          have w2 : Wh (L2.upd (L2.upd H2 t1 (.tup [.str "me"])) t2 (.tup [.str "ties"])) (.ref t2) := .tup upd_same (by show 1 ≤ 200; decide) (wh_cons (.str (by decide +kernel)) wh_nil)
          exact k _ _ (sT s2 (sT s3 (sT s4 s5))) (.tup upd_same (by show 4 ≤ 200; decide) (wh_cons (.str (by decide +kernel)) (wh_cons ((w1.same s4).same s5) (wh_cons (w2.same s5) (wh_cons (((wa.same s3).same s4).same s5) wh_nil)))))
        · exact ⟨_, rfl, T, _, 0, a, rfl, rfl, SqL.of eT, at0 _ _, k a H2 s2 wa⟩
end
end Q

namespace Q
open PySem L2
abbrev sBent : Stmt := top 40
/-- t + u -/
def rCatS : R2 := fun x y H Q => ∃ a b xs ys, x = .ref a ∧ y = .ref b ∧ H a = some (.tup xs) ∧ H b = some (.tup ys) ∧ xs.length + ys.length ≤ sizeLine ∧ ∀ z H', Same H H' → H' z = some (.tup (xs ++ ys)) → Q (.ref z) H'
theorem op_catS {X : Cx} : OpR X (binaryOp .Add) rCatS := by
  intro pins s σ H x y v u Q I rx ry h
  obtain ⟨a, b, xs, ys, rfl, rfl, ha, hb, hz, k⟩ := h
  refine op_catA pins s σ H _ _ v u Q I rx ry ⟨a, b, xs, ys, rfl, rfl, SqT.of ha, SqT.of hb, hz, fun e => ?_, fun _ e => ?_, fun _ _ p hp => k p _ (sN hp) upd_same⟩
  · exact k b H (fun _ _ e => e) (by rw [hb, e]; rfl)
  · exact k a H (fun _ _ e => e) (by rw [ha, e, List.append_nil])
/-- t[lo:hi] -/
def rSlS : V → Option Int → Option Int → Hp → VK → Prop := fun x lo hi H Q => ∃ a xs, x = .ref a ∧ H a = some (.tup xs) ∧ ∀ z H' ys, Same H H' → H' z = some (.tup ys) → ys.length ≤ xs.length → (∀ y ∈ ys, y ∈ xs) → Q (.ref z) H'
theorem sl_S {X : Cx} : SlR X rSlS := by
  intro pins s σ H x v vl vu lo hi sl Q I rx hs pl pu h
  obtain ⟨a, xs, rfl, ha, k⟩ := h
  refine sl_tupA pins s σ H _ v vl vu lo hi sl Q I rx hs pl pu ⟨a, xs, rfl, SqT.of ha, fun _ => k a H xs (fun _ _ e => e) ha (Nat.le_refl _) (fun _ h => h), fun _ p hp => k p _ _ (sN hp) upd_same (cutV_length _ _ _) fun y hy => ?_⟩
  unfold cutV at hy
  exact List.mem_of_mem_drop (List.mem_of_mem_take hy)
theorem wh_new {H : Hp} {ys : List V} {t : Addr} {o : HO} (h : ∀ y ∈ ys, Wh H y) (n : H t = none) (i : Wh (L2.upd H t o) (.ref t)) : ∀ y ∈ ys ++ [.ref t], Wh (L2.upd H t o) y := wh_app (wh_same h (sN n)) (wh_cons i wh_nil)
theorem w1 {H : Hp} {t : Addr} {s : Str} (h : s ∈ txtL) : Wh (L2.upd H t (.tup [.str s])) (.ref t) := .tup upd_same (by show 1 ≤ 200; decide) (wh_cons (.str h) wh_nil)
theorem w2 {H : Hp} {t : Addr} {s : Str} {v : V} (n : H t = none) (h : s ∈ txtL) (k : Wh H v) : Wh (L2.upd H t (.tup [.str s, v])) (.ref t) := .tup upd_same (by show 2 ≤ 200; decide) (wh_cons (.str h) (wh_cons (k.same (sN n)) wh_nil))
theorem w3 {H : Hp} {t : Addr} {s : Str} {v u : V} (n : H t = none) (h : s ∈ txtL) (k : Wh H v) (k2 : Wh H u) : Wh (L2.upd H t (.tup [.str s, v, u])) (.ref t) := .tup upd_same (by show 3 ≤ 200; decide) (wh_cons (.str h) (wh_cons (k.same (sN n)) (wh_cons (k2.same (sN n)) wh_nil)))
def spBent (n : Nat) : Sp := fun vs H Q _ => ∃ (p l : Addr) (W : List Str) (c : Int) (v : V) (k : Nat), vs = [.ref p, v] ∧ HandAt H p l ∧ Wh H v ∧ TS H W c n v k ∧ ∀ u H', HandAt H' p l → Ext p H H' → Wh H' u → Q u H'
section
variable {P : Program} {w : World} {K : PySem.W.Frag} {mg : Str → Option Value} {base : Heap}
theorem scBent : FnScope ["hand", "tree", "turn", "at", "menu"] ["hand", "tree"] (defScope sBent) := ⟨rfl, rfl, rfl, by decide +kernel, rfl, by decide +kernel, by decide +kernel⟩
theorem ok_bent {f fT fP fO fC fB : Addr} {fd dT dP dO dC dB : FuncData} (D : Df K mg "_law_bent" sBent ["hand", "tree"] f fd) (B : Bts mg) (DT : Df K mg "_law_take" sTake ["hand", "many"] fT dT) (DP : Df K mg "_law_pick" sPick ["hand", "things"] fP dP)
    (DO : Df K mg "_law_odd" sOdd ["hand"] fO dO) (DC : Df K mg "_law_chain" sChain ["many"] fC dC) (DB : Df K mg "_law_broad" sBroad ["many"] fB dB) : ∀ n, FnOk P w K mg base CX0 (n + 3) f fd ["hand", "tree"] (spBent n)
  | 0 => by
    refine D.F.ok scBent (fun vs H Q E h => ?_) (fun cdv A outer s0 H vs Q E hr h => ?_)
    · obtain ⟨p, l, W, c, v, k, rfl, _⟩ := h
      rfl
    · obtain ⟨p, l, W, c, v, k, rfl, _, _, h, _⟩ := h
      exact h.elim
  | n + 1 => by
    have IH := ok_bent D B DT DP DO DC DB n
    have GT : FnOk P w K mg base CX0 1 fT dT ["hand", "many"] spTake := ok_take DT.F B
    have GP : FnOk P w K mg base CX0 2 fP dP ["hand", "things"] (spPick K) := ok_pick DP.F B DT
    have GO : FnOk P w K mg base CX0 2 fO dO ["hand"] spOdd := ok_odd DO.F B DT
    have GC : FnOk P w K mg base CX0 1 fC dC ["many"] spChain := ok_chain DC.F B
    have GB : FnOk P w K mg base CX0 1 fB dB ["many"] spBroad := ok_broad DB.F B
    refine D.F.ok scBent (fun vs H Q E h => ?_) (fun cdv A outer s0 H vs Q E hr h => ?_)
    · obtain ⟨p, l, W, c, v, k, rfl, _⟩ := h
      rfl
    · obtain ⟨p, l, W, c, v, k0, rfl, g0, wv, ts, k⟩ := h
      have nd := scBent.nd
      have hr1 : Room 1 _ := hr.mono (by omega)
      have hr2 : Room 2 _ := hr.mono (by omega)
      have hrn : Room (n + 3) _ := hr.mono (by omega)
      refine ⟨_, pss_cons (ps_set (i := 2) nd rfl (.inl rfl) (pe_call GT hr1 rfl DT.m DT.k DT.b .nil pass0 (pa_cons (pv 0) (pa_cons pe_int pa_nil))))
        (C8.pss_cut (ps_if (PW.pt (pw_and (pt_cmpR op_lt (pv 2) pe_int (nomark _)) (pw_and (pt_cmpR op_gt (pe_callB call_len_seq (by rfl) B.len PySem.boot_len (pa_cons (pv 1) pa_nil)) pe_int (nomark _))
            (pw_and1 (pt_val (pe_callB call_isi (by rfl) B.isinstance PyProof.Rows.boot_isinstance (pa_cons (pe_ix ix_tup (pv 1) pe_int (fun _ _ => rfl)) (pa_cons (pe_bltn (v := .ty "tuple") rfl B.tuple PyProof.Rows.boot_tuple rfl) pa_nil))))))))
          (pss_cons (ps_set (i := 3) nd rfl (.inl rfl) (pe_op op_add pe_int (pe_call GT hr1 rfl DT.m DT.k DT.b .nil pass0 (pa_cons (pv 0) (pa_cons (pe_op op_sub (pe_callB call_len_seq (by rfl) B.len PySem.boot_len (pa_cons (pv 1) pa_nil)) pe_int) pa_nil)))))
          (pss_one (ps_ret (pe_op op_catS (pe_op op_catS (pe_slice sl_S (pv 1) po_none (po_some (pv 3))) (pe_tup (pa_cons (pe_call IH hrn rfl D.m D.k D.b .nil pass0 (pa_cons (pv 0) (pa_cons (pe_ix ix_tup (pv 1) (pv 3) (fun _ _ => rfl)) pa_nil))) pa_nil))) (pe_slice sl_S (pv 1) (po_some (pe_op op_add (pv 3) pe_int)) po_none))))) pss_nil)
        (pss_cons (ps_if (pt_cmpR op_lt (pv 2) pe_int (nomark _)) (pss_one (ps_ret (pe_call GP hr2 rfl DP.m DP.k DP.b .nil pass0 (pa_cons (pv 0) (pa_cons (pe_lst (pa_cons (pe_tup (pa_cons pe_str pa_nil)) (pa_cons (pe_tup (pa_cons pe_str pa_nil)) (pa_cons (pe_tup (pa_cons pe_str pa_nil)) (pa_cons (pe_tup (pa_cons pe_str pa_nil))
            (pa_cons (pe_tup (pa_cons pe_str pa_nil)) (pa_cons (pe_tup (pa_cons pe_str pa_nil)) (pa_cons (pe_tup (pa_cons pe_str (pa_cons pe_int pa_nil))) (pa_cons (pe_tup (pa_cons pe_str (pa_cons pe_int pa_nil))) (pa_cons (pe_tup (pa_cons pe_str pa_nil)) pa_nil)))))))))) pa_nil))))) pss_nil)
        (pss_cons (ps_set (i := 4) nd rfl (.inl rfl) (pe_lst (pa_cons (pe_tup (pa_cons pe_str (pa_cons pe_int pa_nil))) (pa_cons (pe_tup (pa_cons pe_str (pa_cons (pe_un un_neg pe_int) pa_nil))) (pa_cons (pe_tup (pa_cons pe_str (pa_cons pe_bl pa_nil))) (pa_cons (pe_tup (pa_cons pe_str (pa_cons (pe_un un_neg pe_int) pa_nil)))
            (pa_cons (pe_tup (pa_cons pe_str (pa_cons pe_bl pa_nil))) (pa_cons (pe_tup (pa_cons pe_str (pa_cons pe_int pa_nil))) (pa_cons (pe_tup (pa_cons pe_str (pa_cons (pv 1) (pa_cons (pv 1) pa_nil)))) pa_nil)))))))))
        (pss_cons (ps_set (i := 4) nd rfl (.inl rfl) (pe_op op_cat (pv 4) (pe_lst (pa_cons (pe_tup (pa_cons pe_str (pa_cons (pv 1) pa_nil))) (pa_cons (pe_tup (pa_cons pe_str (pa_cons (pv 1) (pa_cons (pv 1) pa_nil)))) (pa_cons (pe_callTy call_list_of (by rfl) B.list PyProof.Rows.boot_list (pa_cons (pv 1) pa_nil)) (pa_cons (pe_tup pa_nil) (pa_cons pe_non
            (pa_cons (pe_tup (pa_cons pe_str (pa_cons (pv 1) (pa_cons (pe_lst (pa_cons pe_int pa_nil)) pa_nil)))) (pa_cons (pe_call GO hr2 rfl DO.m DO.k DO.b .nil pass0 (pa_cons (pv 0) pa_nil)) (pa_cons (pe_tup (pa_cons pe_str pa_nil)) (pa_cons (pe_tup (pa_cons (pv 1) pa_nil)) pa_nil))))))))))))
        (pss_cons (ps_if (pt_cmpR op_lt (pv 2) pe_int (nomark _)) (pss_one (ps_ret (pe_call GP hr2 rfl DP.m DP.k DP.b .nil pass0 (pa_cons (pv 0) (pa_cons (pv 4) pa_nil))))) pss_nil)
        (pss_cons (ps_if (pt_cmpR op_eq (pv 2) pe_int (nomark _)) (pss_one (ps_ret (pe_call GC hr1 rfl DC.m DC.k DC.b .nil pass0 (pa_cons (pe_op op_add pe_int (pe_call GT hr1 rfl DT.m DT.k DT.b .nil pass0 (pa_cons (pv 0) (pa_cons pe_int pa_nil)))) pa_nil)))) pss_nil)
        (pss_one (ps_ret (pe_call GB hr1 rfl DB.m DB.k DB.b .nil pass0 (pa_cons (pe_op op_add pe_int (pe_call GT hr1 rfl DT.m DT.k DT.b .nil pass0 (pa_cons (pv 0) (pa_cons pe_int pa_nil)))) pa_nil)))))))))), ?_⟩
      obtain ⟨ks, g, szs, pp, _⟩ := ts
      have kids := g.kids wv
      have g' := g
      obtain ⟨a, s, r, rfl, ea, hnode⟩ := g'
      have its := wv.items ea
      have hrl : r.length ≤ 3 := by
        rcases hnode with ⟨_, _, i, e, _⟩ | ⟨_, _, i, e, _⟩ | ⟨_, e, _⟩ | ⟨_, e, _⟩ | ⟨_, e, _⟩
        · rw [e]; show 1 ≤ 3; decide
        · rw [e]; show 1 ≤ 3; decide
        · rw [e]; decide
        · omega
        · omega
      refine ⟨_, rfl, p, l, 12, rfl, g0, by decide, by decide, fun turn H1 d0 d1 g1 b1 => ?_⟩
      have x1 : Ext p H H1 := Ext.rfl'.but b1
      have gr1 := Grow.of_ext g0 g1 x1
      have ea1 := gr1.tup ea
      have wv1 : Wh H1 (.ref a) := wv.grow gr1
      have its1 := wv1.items ea1
      -- what comes behind the first test
      have pickW : ∀ (H2 : Hp) (t : Addr) (ys : List V), HandAt H2 p l → Ext p H H2 → H2 t = some (.lst ys) → t ≠ p → 0 < ys.length → ys.length < 1000 → (∀ y ∈ ys, Wh H2 y) → spPick K [.ref p, .ref t] H2 (fun v H' => Q v H') E := fun H2 t ys g2 x2 et ntp h0 h1 hy =>
        ⟨p, l, t, ys, rfl, g2, et, ntp, h0, h1, fun v H3 hv g3 b3 => k v H3 g3 (x2.but b3) ((hy v hv).ext g2 g3 (Ext.rfl'.but b3))⟩
      refine ⟨fun σ H' => H' = H1 ∧ σ = [some (.ref p), some (.ref a), some (.int turn), none, none], ?_, ?_⟩
      · refine ⟨_, rfl, _, _, rfl, rfl, _, rfl, ite2 (fun _ => ⟨_, rfl, a, _, rfl, .inr (SqT.of ea1), _, _, rfl, rfl, _, rfl, ite2 (fun cl => ?inn) (fun _ => by first | exact ⟨rfl, rfl⟩ | exact iteF ⟨rfl, rfl⟩)⟩) (fun _ => by first | exact ⟨rfl, rfl⟩ | exact iteF ⟨rfl, rfl⟩)⟩
        case inn =>
          obtain ⟨x, r2, rfl⟩ : ∃ x r2, r = x :: r2 := by
            cases r with
            | nil => exact absurd (of_decide_eq_true cl) (by simp)
            | cons x r2 => exact ⟨x, r2, rfl⟩
          obtain ⟨tx, bx, tyx, ktx, hx⟩ := (its1.2 x (by simp)).kd.tyT (K := K)
          refine ⟨_, rfl, a, _, 1, x, rfl, rfl, SqT.of ea1, at1 _ _ _, x, .ty "tuple", tx, .type "tuple", bx, rfl, .ty _, tyx, ktx, _, rfl, ?_⟩
          rcases hx with ⟨rfl, xa, xz, rfl, exa⟩ | ⟨rfl, no⟩
          · refine iteT ?_
            have ek : ks = V.ref xa :: r2 := by
              rcases hnode with ⟨_, _, i, e, _⟩ | ⟨_, _, i, e, _⟩ | ⟨_, e, _⟩ | ⟨_, _, e⟩ | ⟨_, _, e⟩
              · cases e
              · cases e
              · cases e
              · exact e
              · exact e
            have few : (V.str s :: V.ref xa :: r2).length ≤ 4 := by
              rw [List.length_cons]
              omega
            refine ⟨_, rfl, _, rfl, a, _, rfl, .inr (SqT.of ea1), _, _, rfl, rfl, p, l, _, rfl, g1, ?_, ?_, fun d H2 e0 e1 g2 b2 => ?_⟩
            · have : (0 : Int) < (((V.str s :: V.ref xa :: r2).length : Nat) : Int) - 1 := by
                rw [List.length_cons, List.length_cons]
                omega
              exact this
            · have : (((V.str s :: V.ref xa :: r2).length : Nat) : Int) - 1 < 1073741824 := by omega
              exact this
            have e1' : d < (((V.str s :: V.ref xa :: r2).length : Nat) : Int) - 1 := e1
            obtain ⟨j, rfl⟩ : ∃ j : Nat, d = (j : Int) := ⟨d.toNat, by omega⟩
            have hj : j < (V.ref xa :: r2).length := by
              rw [List.length_cons] at e1'
              omega
            have x2 : Ext p H H2 := x1.but b2
            have gr2 := Grow.of_ext g0 g2 x2
            have ea2 := gr2.tup ea
            have wv2 : Wh H2 (.ref a) := wv.grow gr2
            have its2 := wv2.items ea2
            have gj : (V.str s :: V.ref xa :: r2)[j + 1]? = some ((V.ref xa :: r2)[j]) := by
              rw [List.getElem?_cons_succ]
              exact List.getElem?_eq_getElem hj
            have ej : (1 : Int) + (j : Int) = ((j + 1 : Nat) : Int) := by omega
            obtain ⟨kj, tj⟩ := paired_left pp _ (show (V.ref xa :: r2)[j] ∈ ks by rw [ek]; exact List.getElem_mem hj)
            have kw := kids _ (show (V.ref xa :: r2)[j] ∈ ks by rw [ek]; exact List.getElem_mem hj)
            refine ⟨_, _, rfl, rfl, ?_⟩
            refine ⟨_, rfl, _, rfl, _, rfl, a, _, rfl, ea2, fun z1 H3 y1 s3 e3 l3 m3 => ?_⟩
            have g3 := g2.same s3
            have x3 : Ext p H H3 := x2.same s3
            have gr3 := Grow.of_ext g0 g3 x3
            refine ⟨_, rfl, _, rfl, _, rfl, a, _, _, (V.ref xa :: r2)[j], rfl, rfl, SqT.of (s3 _ _ ea2), ?_, p, l, W, c, _, kj, rfl, g3, kw.grow gr3, tj.grow gr3, fun u H4 g4 x4 wu => ⟨(by show 1 ≤ sizeLine; decide), fun t4 n4 => ?_⟩⟩
            · show atI _ (1 + (j : Int)) = _
              rw [ej]
              exact atI_nat gj
            have s5 := sN (o := .tup [u]) n4
            have g5 := g4.same s5
            have x45 : Ext p H3 (L2.upd H4 t4 (.tup [u])) := x4.same s5
            have e35 : (L2.upd H4 t4 (.tup [u])) z1 = some (.tup y1) := x45 _ _ e3 (fun e => hand_no g3 _ (by rw [← e]; exact e3))
            refine ⟨z1, t4, y1, [u], rfl, rfl, e35, upd_same, Nat.le_trans (show y1.length + 1 ≤ 200 by omega) (by decide), fun z6 H6 s6 e6 => ?_⟩
            have x36 : Ext p H3 H6 := x45.same s6
            have ea6 : H6 a = some (.tup (V.str s :: V.ref xa :: r2)) := x36 _ _ (s3 _ _ ea2) (fun e => hand_no g3 _ (by rw [← e]; exact s3 _ _ ea2))
            refine ⟨_, rfl, _, rfl, _, _, rfl, rfl, _, rfl, a, _, rfl, ea6, fun z2 H7 y2 s7 e7 l7 m7 => ?_⟩
            refine ⟨z6, z2, _, y2, rfl, rfl, s7 _ _ e6, e7, Nat.le_trans (show (y1 ++ [u]).length + y2.length ≤ 200 by rw [List.length_append, List.length_singleton]; omega) (by decide), fun z8 H8 s8 e8 => ?_⟩
            have g8 := ((g5.same s6).same s7).same s8
            have x38 : Ext p H3 H8 := (x36.same s7).same s8
            have gr8 := Grow.of_ext g0 g8 (x3.trans x38)
            have it8 : ∀ y ∈ V.str s :: V.ref xa :: r2, Wh H8 y := fun y hy => (its.2 y hy).grow gr8
            refine k (.ref z8) H8 g8 (x3.trans x38) (.tup e8 (by rw [List.length_append, List.length_append, List.length_singleton]; omega) (wh_app (wh_app (wh_sub it8 m3) (wh_cons ?_ wh_nil)) (wh_sub it8 m7)))
            exact wu.same (sT s5 (sT s6 (sT s7 s8)))
          · exact iteF ⟨rfl, rfl⟩
      · rintro σ H' ⟨rfl, rfl⟩
        refine ⟨_, rfl, _, _, rfl, rfl, _, rfl, ite2 (fun _ => ?_) (fun _ => ?_)⟩
        · refine ⟨_, rfl, (by show 1 ≤ sizeLine; decide), fun t1 n1 => ?_⟩
          have i1 := wh_new (o := .tup [.str "heard"]) wh_nil n1 (w1 (by decide +kernel))
          refine ⟨(by show 1 ≤ sizeLine; decide), fun t2 n2 => ?_⟩
          have i2 := wh_new (o := .tup [.str "sum"]) i1 n2 (w1 (by decide +kernel))
          refine ⟨(by show 1 ≤ sizeLine; decide), fun t3 n3 => ?_⟩
          have i3 := wh_new (o := .tup [.str "least"]) i2 n3 (w1 (by decide +kernel))
          refine ⟨(by show 1 ≤ sizeLine; decide), fun t4 n4 => ?_⟩
          have i4 := wh_new (o := .tup [.str "most"]) i3 n4 (w1 (by decide +kernel))
          refine ⟨(by show 1 ≤ sizeLine; decide), fun t5 n5 => ?_⟩
          have i5 := wh_new (o := .tup [.str "other"]) i4 n5 (w1 (by decide +kernel))
          refine ⟨(by show 1 ≤ sizeLine; decide), fun t6 n6 => ?_⟩
          have i6 := wh_new (o := .tup [.str "round"]) i5 n6 (w1 (by decide +kernel))
          refine ⟨(by show 2 ≤ sizeLine; decide), fun t7 n7 => ?_⟩
          have i7 := wh_new (o := .tup [.str "cell", .int 0]) i6 n7 (w2 n7 (by decide +kernel) (.int 0))
          refine ⟨(by show 2 ≤ sizeLine; decide), fun t8 n8 => ?_⟩
          have i8 := wh_new (o := .tup [.str "cell", .int 4]) i7 n8 (w2 n8 (by decide +kernel) (.int 4))
          refine ⟨(by show 1 ≤ sizeLine; decide), fun t9 n9 => ?_⟩
          have i9 := wh_new (o := .tup [.str "me"]) i8 n9 (w1 (by decide +kernel))
          refine ⟨(by show 9 ≤ sizeLine; decide), fun ml hml => ?_⟩
          have gb := ((((((((g1.new n1).new n2).new n3).new n4).new n5).new n6).new n7).new n8).new (o := .tup [.str "me"]) n9
          have xb := ((((((((x1.upd n1).upd n2).upd n3).upd n4).upd n5).upd n6).upd n7).upd n8).same (sN (o := .tup [.str "me"]) n9)
          exact pickW _ ml _ (gb.new hml) (xb.upd hml) upd_same (gb.ne hml).1 (by show 0 < 9; decide) (by show 9 < 1000; decide) (wh_same i9 (sN hml))
        · refine ⟨(by show 2 ≤ sizeLine; decide), fun t1 n1 => ?_⟩
          have c1 := sN (o := .tup [.str "number", .int 2147483648]) n1
          have i1 := wh_new (o := .tup [.str "number", .int 2147483648]) wh_nil n1 (w2 n1 (by decide +kernel) (.int _))
          refine ⟨_, rfl, (by show 2 ≤ sizeLine; decide), fun t2 n2 => ?_⟩
          have c2 := sT c1 (sN (o := .tup [.str "number", .int (-2147483648)]) n2)
          have i2 := wh_new (o := .tup [.str "number", .int (-2147483648)]) i1 n2 (w2 n2 (by decide +kernel) (.int _))
          refine ⟨(by show 2 ≤ sizeLine; decide), fun t3 n3 => ?_⟩
          have c3 := sT c2 (sN (o := .tup [.str "number", .bl true]) n3)
          have i3 := wh_new (o := .tup [.str "number", .bl true]) i2 n3 (w2 n3 (by decide +kernel) (.bl _))
          refine ⟨_, rfl, (by show 2 ≤ sizeLine; decide), fun t4 n4 => ?_⟩
          have c4 := sT c3 (sN (o := .tup [.str "cell", .int (-1)]) n4)
          have i4 := wh_new (o := .tup [.str "cell", .int (-1)]) i3 n4 (w2 n4 (by decide +kernel) (.int _))
          refine ⟨(by show 2 ≤ sizeLine; decide), fun t5 n5 => ?_⟩
          have c5 := sT c4 (sN (o := .tup [.str "cell", .bl true]) n5)
          have i5 := wh_new (o := .tup [.str "cell", .bl true]) i4 n5 (w2 n5 (by decide +kernel) (.bl _))
          refine ⟨(by show 2 ≤ sizeLine; decide), fun t6 n6 => ?_⟩
          have c6 := sT c5 (sN (o := .tup [.str "me", .int 0]) n6)
          have i6 := wh_new (o := .tup [.str "me", .int 0]) i5 n6 (w2 n6 (by decide +kernel) (.int _))
          refine ⟨_, rfl, _, rfl, (by show 3 ≤ sizeLine; decide), fun t7 n7 => ?_⟩
          have c7 := sT c6 (sN (o := .tup [.str "Add", .ref a, .ref a]) n7)
          have i7 := wh_new (o := .tup [.str "Add", .ref a, .ref a]) i6 n7 (w3 n7 (by decide +kernel) (wv1.same c6) (wv1.same c6))
          refine ⟨(by show 7 ≤ sizeLine; decide), fun M1 nM1 => ?_⟩
          have c8 := sT c7 (sN (o := .lst [.ref t1, .ref t2, .ref t3, .ref t4, .ref t5, .ref t6, .ref t7]) nM1)
          have i8 := wh_same i7 (sN (o := .lst [.ref t1, .ref t2, .ref t3, .ref t4, .ref t5, .ref t6, .ref t7]) nM1)
          have g8 := g1.same c8
          have nM1p := ((g1.same c7).ne nM1).1
          refine ⟨_, rfl, _, rfl, (by show 2 ≤ sizeLine; decide), fun u1 m1 => ?_⟩
          have d1 := sT c8 (sN (o := .tup [.str "add", .ref a]) m1)
          have j1 := wh_new (o := .tup [.str "add", .ref a]) wh_nil m1 (w2 m1 (by decide +kernel) (wv1.same c8))
          refine ⟨_, rfl, _, rfl, (by show 3 ≤ sizeLine; decide), fun u2 m2 => ?_⟩
          have d2 := sT d1 (sN (o := .tup [.str "if", .ref a, .ref a]) m2)
          have j2 := wh_new (o := .tup [.str "if", .ref a, .ref a]) j1 m2 (w3 m2 (by decide +kernel) (wv1.same d1) (wv1.same d1))
          refine ⟨_, rfl, a, _, rfl, .inr (SqT.of (d2 _ _ ea1)), fun u3 m3 => ?_⟩
          have d3 := sT d2 (sN (o := .lst (.str s :: r)) m3)
          have j3 := wh_new (o := .lst (.str s :: r)) j2 m3 (.lst upd_same)
          refine ⟨Nat.zero_le _, fun u4 m4 => ?_⟩
          have d4 := sT d3 (sN (o := .tup []) m4)
          have j4 := wh_new (o := .tup []) j3 m4 (.tup upd_same (by decide) wh_nil)
          have j5 := wh_app j4 (wh_cons .non wh_nil)
          refine ⟨_, rfl, (by show 1 ≤ sizeLine; decide), fun u5 m5 => ?_⟩
          have d5 := sT d4 (sN (o := .lst [.int 1]) m5)
          refine ⟨(by show 3 ≤ sizeLine; decide), fun u6 m6 => ?_⟩
          have d6 := sT d5 (sN (o := .tup [.str "add", .ref a, .ref u5]) m6)
          have j6 := wh_new (o := .tup [.str "add", .ref a, .ref u5]) (wh_same j5 (sN m5)) m6 (w3 m6 (by decide +kernel) (wv1.same d5) (.lst upd_same))
          have g6 := g1.same d6
          refine ⟨_, rfl, p, l, rfl, g6, fun vo H2 wo g2 x2 => ?_⟩
          have j7 := wh_app (wh_ext j6 g6 g2 x2) (wh_cons wo wh_nil)
          have i9 := wh_ext (wh_same i8 (fun b o e => sN m6 _ _ (sN m5 _ _ (sN m4 _ _ (sN m3 _ _ (sN m2 _ _ (sN m1 _ _ e))))))) g6 g2 x2
          have wv2 := (wv1.same d6).ext g6 g2 x2
          have eM1 : H2 M1 = some (.lst [.ref t1, .ref t2, .ref t3, .ref t4, .ref t5, .ref t6, .ref t7]) := x2 _ _ (sN m6 _ _ (sN m5 _ _ (sN m4 _ _ (sN m3 _ _ (sN m2 _ _ (sN m1 _ _ upd_same)))))) nM1p
          have xH2 : Ext p H H2 := (x1.same d6).trans x2
          refine ⟨(by show 1 ≤ sizeLine; decide), fun u8 m8 => ?_⟩
          have f8 := sN (o := .tup [.str "number"]) m8
          have j8 := wh_new (o := .tup [.str "number"]) j7 m8 (w1 (by decide +kernel))
          refine ⟨_, rfl, (by show 1 ≤ sizeLine; decide), fun u9 m9 => ?_⟩
          have f9 := sT f8 (sN (o := .tup [.ref a]) m9)
          have j9 := wh_new (o := .tup [.ref a]) j8 m9 (.tup upd_same (by show 1 ≤ 200; decide) (wh_cons (wv2.same f9) wh_nil))
          refine ⟨(by show 9 ≤ sizeLine; decide), fun M2 nM2 => ?_⟩
          have fM := sN (o := .lst [.ref u1, .ref u2, .ref u3, .ref u4, .non, .ref u6, vo, .ref u8, .ref u9]) nM2
          have f10 := sT f9 fM
          refine ⟨M1, M2, _, _, rfl, rfl, f10 _ _ eM1, upd_same, (by show 7 + 9 ≤ sizeLine; decide), fun M3 nM3 => ?_⟩
          have f11 := sN (o := .lst ([.ref t1, .ref t2, .ref t3, .ref t4, .ref t5, .ref t6, .ref t7] ++ [.ref u1, .ref u2, .ref u3, .ref u4, .non, .ref u6, vo, .ref u8, .ref u9])) nM3
          have gM := g2.same f10
          have itM := wh_app (wh_same i9 (sT f10 f11)) (wh_same j9 (sT fM f11))
          have xM : Ext p H _ := xH2.same (sT f10 f11)
          refine ⟨_, rfl, _, _, rfl, rfl, _, rfl, ite2 (fun _ => ?_) (fun _ => ?_)⟩
          · exact ⟨_, rfl, _, rfl, pickW _ M3 _ (gM.new nM3) xM upd_same (gM.ne nM3).1 (by show 0 < 16; decide) (by show 16 < 1000; decide) itM⟩
          · refine ⟨_, rfl, rfl, _, rfl, ite2 (fun _ => ?_) (fun _ => ?_)⟩
            · refine ⟨_, rfl, p, l, 3, rfl, gM.new nM3, by decide, by decide, fun e H3 e0 e1 g3 b3 => ?_⟩
              refine ⟨_, _, rfl, rfl, 11 + e, rfl, by omega, by omega, fun v H4 s4 wv4 => k v H4 (g3.same s4) ((xM.but b3).same s4) wv4⟩
            · refine ⟨_, rfl, p, l, 5, rfl, gM.new nM3, by decide, by decide, fun e H3 e0 e1 g3 b3 => ?_⟩
              refine ⟨_, _, rfl, rfl, 58 + e, rfl, by omega, by omega, fun v H4 s4 wv4 => k v H4 (g3.same s4) ((xM.but b3).same s4) wv4⟩
end
end Q

namespace Q
open PySem L2
abbrev sSpo : Stmt := top 41
theorem splice4 (s t y n u : V) : ∀ j : Nat, j < 4 → ∃ s' t' y' n', cutV [s, t, y, n] none (some (j : Int)) ++ [u] ++ cutV [s, t, y, n] (some ((j : Int) + 1)) none = [s', t', y', n'] ∧ (s' = s ∨ s' = u) ∧ (t' = t ∨ t' = u) ∧ (y' = y ∨ y' = u) ∧ (n' = n ∨ n' = u)
  | 0, _ => ⟨u, t, y, n, rfl, .inr rfl, .inl rfl, .inl rfl, .inl rfl⟩
  | 1, _ => ⟨s, u, y, n, rfl, .inl rfl, .inr rfl, .inl rfl, .inl rfl⟩
  | 2, _ => ⟨s, t, u, n, rfl, .inl rfl, .inl rfl, .inr rfl, .inl rfl⟩
  | 3, _ => ⟨s, t, y, u, rfl, .inl rfl, .inl rfl, .inl rfl, .inr rfl⟩
  | j + 4, h => absurd h (by omega)
theorem PreP.grow {H H' : Hp} {s t y n : V} (h : PreP H s t y n) (g : Grow H H') : PreP H' s t y n := ⟨h.s.grow g, h.t.grow g, h.y.grow g, h.n.grow g⟩
def spSpo : Sp := fun vs H Q _ => ∃ (p l pt : Addr) (s t y n : V), vs = [.ref p, .ref pt] ∧ HandAt H p l ∧ H pt = some (.tup [s, t, y, n]) ∧ PreP H s t y n ∧ FineP H s t y n ∧
  ∀ z s' t' y' n' H', HandAt H' p l → Ext p H H' → H' z = some (.tup [s', t', y', n']) → PreP H' s' t' y' n' → Q (.ref z) H'
section
variable {P : Program} {w : World} {K : PySem.W.Frag} {mg : Str → Option Value} {base : Heap}
theorem scSpo : FnScope ["hand", "parts", "which", "part", "turn", "other", "at"] ["hand", "parts"] (defScope sSpo) := ⟨rfl, rfl, rfl, by decide +kernel, rfl, by decide +kernel, by decide +kernel⟩
theorem ok_spo {f fT fP fO fB : Addr} {fd dT dP dO dB : FuncData} (F : Fun K "_law_spoilt" "_law_spoilt" sSpo f fd) (B : Bts mg) (DT : Df K mg "_law_take" sTake ["hand", "many"] fT dT) (DP : Df K mg "_law_pick" sPick ["hand", "things"] fP dP)
    (DO : Df K mg "_law_odd" sOdd ["hand"] fO dO) (DB : Df K mg "_law_bent" sBent ["hand", "tree"] fB dB) (GB : FnOk P w K mg base CX0 15 fB dB ["hand", "tree"] (spBent 12)) : FnOk P w K mg base CX0 16 f fd ["hand", "parts"] spSpo := by
  have GT : FnOk P w K mg base CX0 1 fT dT ["hand", "many"] spTake := ok_take DT.F B
  have GP : FnOk P w K mg base CX0 2 fP dP ["hand", "things"] (spPick K) := ok_pick DP.F B DT
  have GO : FnOk P w K mg base CX0 2 fO dO ["hand"] spOdd := ok_odd DO.F B DT
  refine F.ok scSpo (fun vs H Q E h => ?_) (fun cdv A outer s0 H vs Q E hr h => ?_)
  · obtain ⟨p, l, pt, s, t, y, n, rfl, _⟩ := h
    rfl
  · obtain ⟨p, l, pt, s, t, y, n, rfl, g0, ept, pre, fine, k⟩ := h
    have nd := scSpo.nd
    have hr1 : Room 1 _ := hr.mono (by decide)
    have hr2 : Room 2 _ := hr.mono (by decide)
    refine ⟨_, pss_cons (ps_set (i := 2) nd rfl (.inl rfl) (pe_call GT hr1 rfl DT.m DT.k DT.b .nil pass0 (pa_cons (pv 0) (pa_cons pe_int pa_nil))))
      (pss_cons (ps_set (i := 3) nd rfl (.inl rfl) (pe_ix ix_tup (pv 1) (pv 2) (fun _ _ => rfl)))
      (pss_cons (ps_if (PW.pt (pw_or (pt_cmpR op_eq (pv 2) pe_int (nomark _)) (pw_or1 (pt_cmpR op_eq (pv 2) pe_int (nomark _)))))
        (pss_one (ps_ret (pe_op op_catS (pe_op op_catS (pe_slice sl_C (pv 1) po_none (po_some (pv 2))) (pe_tup (pa_cons (pe_call GB hr rfl DB.m DB.k DB.b .nil pass0 (pa_cons (pv 0) (pa_cons (pv 3) pa_nil))) pa_nil))) (pe_slice sl_C (pv 1) (po_some (pe_op op_add (pv 2) pe_int)) po_none)))) pss_nil)
      (pss_cons (ps_set (i := 4) nd rfl (.inl rfl) (pe_call GT hr1 rfl DT.m DT.k DT.b .nil pass0 (pa_cons (pv 0) (pa_cons pe_int pa_nil))))
      (pss_cons (ps_set (i := 5) nd rfl (.inl rfl) (pv 3))
      (C8.pss_cut (ps_if (pt_cmpR op_eq (pv 4) pe_int (nomark _))
        (pss_one (ps_set (i := 5) nd rfl (.inl rfl) (pe_call GP hr2 rfl DP.m DP.k DP.b .nil pass0 (pa_cons (pv 0) (pa_cons (pe_lst (pa_cons (pe_callTy call_list_of (by rfl) B.list PyProof.Rows.boot_list (pa_cons (pv 3) pa_nil)) (pa_cons (pe_call GO hr2 rfl DO.m DO.k DO.b .nil pass0 (pa_cons (pv 0) pa_nil)) (pa_cons (pe_tup pa_nil)
            (pa_cons (pe_slice sl_S (pv 3) po_none (po_some pe_int)) (pa_cons (pe_op op_catS (pv 3) (pv 3)) (pa_cons (pe_ix ix_tup (pv 3) pe_int (fun _ _ => rfl)) pa_nil))))))) pa_nil)))))
        (pss_one (ps_if (pt_cmpR op_eq (pv 4) pe_int (nomark _)) (pss_one (ps_set (i := 5) nd rfl (.inl rfl) (pe_op op_catS (pv 3) (pe_tup (pa_cons (pe_tup (pa_cons pe_str pa_nil)) pa_nil)))))
          (pss_cons (ps_set (i := 6) nd rfl (.inl rfl) (pe_call GT hr1 rfl DT.m DT.k DT.b .nil pass0 (pa_cons (pv 0) (pa_cons (pe_callB call_len_seq (by rfl) B.len PySem.boot_len (pa_cons (pv 3) pa_nil)) pa_nil))))
          (pss_one (ps_set (i := 5) nd rfl (.inl rfl) (pe_op op_catS (pe_op op_catS (pe_slice sl_S (pv 3) po_none (po_some (pv 6))) (pe_tup (pa_cons (pe_call GB hr rfl DB.m DB.k DB.b .nil pass0 (pa_cons (pv 0) (pa_cons (pe_ix ix_tup (pv 3) (pv 6) (fun _ _ => rfl)) pa_nil))) pa_nil))) (pe_slice sl_S (pv 3) (po_some (pe_op op_add (pv 6) pe_int)) po_none))))))))
      (pss_one (ps_ret (pe_op op_catS (pe_op op_catS (pe_slice sl_C (pv 1) po_none (po_some (pv 2))) (pe_tup (pa_cons (pv 5) pa_nil))) (pe_slice sl_C (pv 1) (po_some (pe_op op_add (pv 2) pe_int)) po_none))))))))), ?_⟩
    have hn := hand_no g0
    have keep : ∀ {H' : Hp} {b : Addr} {xs : List V}, Ext p H H' → H b = some (.tup xs) → H' b = some (.tup xs) := fun x e => x _ _ e (fun z => hn _ (by rw [← z]; exact e))
    refine ⟨_, rfl, p, l, 4, rfl, g0, by decide, by decide, fun wh0 H1 d0 d1 g1 b1 => ?_⟩
    have x1 : Ext p H H1 := Ext.rfl'.but b1
    obtain ⟨j, rfl⟩ : ∃ j : Nat, wh0 = (j : Int) := ⟨wh0.toNat, by omega⟩
    have hj : j < 4 := by omega
    -- the end: one part for another
    have done : ∀ (H4 : Hp) (u : V) (z1 z3 : Addr), HandAt H4 p l → Ext p H H4 → Wh H4 u → H4 z1 = some (.tup (cutV [s, t, y, n] none (some (j : Int)) ++ [u])) → H4 z3 = some (.tup (cutV [s, t, y, n] (some ((j : Int) + 1)) none)) → rCatS (.ref z1) (.ref z3) H4 (fun v H' => Q v H') := fun H4 u z1 z3 g4 x4 wu e1 e3 => by
      obtain ⟨s', t', y', n', e, hs, ht, hy, hn'⟩ := splice4 s t y n u j hj
      have l1 := cutV_length [s, t, y, n] none (some (j : Int))
      have l2 := cutV_length [s, t, y, n] (some ((j : Int) + 1)) none
      refine ⟨z1, z3, _, _, rfl, rfl, e1, e3, Nat.le_trans (show (cutV [s, t, y, n] none (some (j : Int)) ++ [u]).length + (cutV [s, t, y, n] (some ((j : Int) + 1)) none).length ≤ 200 by
        rw [List.length_append, List.length_singleton]
        have : ([s, t, y, n] : List V).length = 4 := rfl
        omega) (by decide), fun z H' sz ez => ?_⟩
      rw [e] at ez
      have g' := g4.same sz
      have x' : Ext p H H' := x4.same sz
      have pr := pre.grow (Grow.of_ext g0 g' x')
      have wu' := wu.same sz
      refine k z s' t' y' n' H' g' x' ez ⟨?_, ?_, ?_, ?_⟩
      · rcases hs with rfl | rfl
        · exact pr.s
        · exact wu'
      · rcases ht with rfl | rfl
        · exact pr.t
        · exact wu'
      · rcases hy with rfl | rfl
        · exact pr.y
        · exact wu'
      · rcases hn' with rfl | rfl
        · exact pr.n
        · exact wu'
    obtain ⟨q, xs, q', ns, st, rt, ry, en, ens, ln, rn⟩ := fine.ex
    obtain ⟨v, hv⟩ : ∃ v, ([s, t, y, n] : List V)[j]? = some v := ⟨_, List.getElem?_eq_getElem (show j < ([s, t, y, n] : List V).length from hj)⟩
    refine ⟨_, rfl, _, rfl, pt, _, (j : Int), v, rfl, rfl, SqT.of (keep x1 ept), atI_nat hv, ?_⟩
    have ret : ∀ (c : j = 1 ∨ j = 2), (v = t ∨ v = y) := fun c => by
      rcases c with rfl | rfl
      · exact .inl (Option.some.inj hv).symm
      · exact .inr (Option.some.inj hv).symm
    have sz3 : (cutV [s, t, y, n] none (some (j : Int))).length + 1 ≤ sizeLine := Nat.le_trans (show _ ≤ 200 by
      have := cutV_length [s, t, y, n] none (some (j : Int))
      have e4 : ([s, t, y, n] : List V).length = 4 := rfl
      omega) (by decide)
    refine ⟨_, rfl, rfl, _, rfl, ite2 (fun c => ?a1) (fun c1 => ⟨_, rfl, rfl, _, rfl, ite2 (fun c => ?a2) (fun c2 => ?rest)⟩)⟩
    case a1 | a2 =>
      have hvt : v = t ∨ v = y := by
        have z := V.int.inj (of_decide_eq_true c)
        exact ret (by omega)
      obtain ⟨kk, tsv, _⟩ : Right H wT xs.length v := by
        rcases hvt with rfl | rfl
        · exact rt
        · exact ry
      have wvv : Wh H v := by
        rcases hvt with rfl | rfl
        · exact pre.t
        · exact pre.y
      first
      | refine iteT ⟨_, rfl, _, rfl, _, rfl, pt, _, rfl, keep x1 ept, fun za Ha sa ea => ?_⟩
      | refine ⟨_, rfl, _, rfl, _, rfl, pt, _, rfl, keep x1 ept, fun za Ha sa ea => ?_⟩
      have ga := g1.same sa
      have xa := x1.same sa
      have gra := Grow.of_ext g0 ga xa
      refine ⟨_, rfl, _, rfl, p, l, wT, _, v, kk, rfl, ga, wvv.grow gra, tsv.grow gra, fun u Hb gb xb wu => ⟨(by show 1 ≤ sizeLine; decide), fun tb nb => ?_⟩⟩
      have sb := sN (o := .tup [u]) nb
      have xab : Ext p Ha (L2.upd Hb tb (.tup [u])) := xb.same sb
      refine ⟨za, tb, _, [u], rfl, rfl, xab _ _ ea (fun z => hand_no ga _ (by rw [← z]; exact ea)), upd_same, sz3, fun zc Hc sc ec => ?_⟩
      have xc : Ext p H Hc := (xa.trans xab).same sc
      refine ⟨_, rfl, _, rfl, _, _, rfl, rfl, _, rfl, pt, _, rfl, keep xc ept, fun zd Hd sd ed => ?_⟩
      exact done Hd u zc zd (((gb.same sb).same sc).same sd) (xc.same sd) (wu.same (sT sb (sT sc sd))) (sd _ _ ec) ed
    case rest =>
      obtain ⟨b, ys, rfl, eb, lb1, lb4, hy⟩ : ∃ b ys, v = .ref b ∧ H b = some (.tup ys) ∧ 1 ≤ ys.length ∧ ys.length ≤ 4 ∧ ∀ x ∈ ys, Wh H x ∧ ∃ W c k, TS H W c 12 x k := by
        have hj0 : j = 0 ∨ j = 3 := by
          have n1 : j ≠ 1 := fun z => c1 (by rw [z]; exact decide_eq_true rfl)
          have n2 : j ≠ 2 := fun z => c2 (by rw [z]; exact decide_eq_true rfl)
          omega
        rcases hj0 with rfl | rfl
        · have e : v = s := (Option.some.inj hv).symm
          have es := st.es
          subst es
          exact ⟨q, xs, e, st.hq, st.l1, st.l4, fun x hx => ⟨(pre.s.items st.hq).2 x hx, by
            obtain ⟨k, h, _⟩ := st.rs x hx
            exact ⟨_, _, k, h⟩⟩⟩
        · have e : v = n := (Option.some.inj hv).symm
          subst en
          exact ⟨q', ns, e, ens, by have := st.l1; omega, by have := st.l4; omega, fun x hx => ⟨(pre.n.items ens).2 x hx, by
            obtain ⟨k, h, _⟩ := rn x hx
            exact ⟨_, _, k, h⟩⟩⟩
      refine ⟨_, rfl, p, l, 8, rfl, g1, by decide, by decide, fun turn H2 e0 e1 g2 b2 => ?_⟩
      have x2 : Ext p H H2 := x1.but b2
      refine ⟨_, rfl, fun σ H' => HandAt H' p l ∧ Ext p H H' ∧ ∃ (o : V) (x6 : Option V), σ = [some (.ref p), some (.ref pt), some (.int (j : Int)), some (.ref b), some (.int turn), some o, x6] ∧ Wh H' o, ?_, ?_⟩
      · have gr2 := Grow.of_ext g0 g2 x2
        have eb2 := keep x2 eb
        have wys2 : ∀ x ∈ ys, Wh H2 x := fun x hx => (hy x hx).1.grow gr2
        refine ⟨_, rfl, rfl, _, rfl, ite2 (fun _ => ?_) (fun _ => ?_)⟩
        · refine ⟨_, rfl, _, rfl, b, ys, rfl, .inr (SqT.of eb2), fun u1 m1 => ?_⟩
          have j1 := wh_new (o := .lst ys) wh_nil m1 (.lst upd_same)
          have q1 := sN (o := .lst ys) m1
          have g3 := g2.same q1
          refine ⟨_, rfl, p, l, rfl, g3, fun vo H3 wo g4 x4 => ?_⟩
          have j2 := wh_app (wh_ext j1 g3 g4 x4) (wh_cons wo wh_nil)
          have x24 : Ext p H2 H3 := (Ext.rfl'.same q1).trans x4
          refine ⟨Nat.zero_le _, fun u2 m2 => ?_⟩
          have q2 := sN (o := .tup []) m2
          have j3 := wh_new (o := .tup []) j2 m2 (.tup upd_same (by decide) wh_nil)
          have x25 : Ext p H (L2.upd H3 u2 (.tup [])) := (x2.trans x24).same q2
          have g5 := g4.same q2
          have eb5 := keep x25 eb
          have w5 : ∀ x ∈ ys, Wh (L2.upd H3 u2 (.tup [])) x := fun x hx => (hy x hx).1.grow (Grow.of_ext g0 g5 x25)
          refine ⟨_, rfl, _, rfl, b, ys, rfl, eb5, fun u3 H6 yy q3 e3 l3 m3 => ?_⟩
          have j4 := wh_app (wh_same j3 q3) (wh_cons (Wh.tup e3 (by omega) (wh_sub (wh_same w5 q3) m3)) wh_nil)
          refine ⟨_, rfl, _, rfl, b, b, ys, ys, rfl, rfl, q3 _ _ eb5, q3 _ _ eb5, Nat.le_trans (show ys.length + ys.length ≤ 200 by omega) (by decide), fun u4 H7 q4 e4 => ?_⟩
          have q34 := sT q3 q4
          have w7 := wh_same w5 q34
          have j5 := wh_app (wh_same j4 q4) (wh_cons (Wh.tup e4 (by rw [List.length_append]; omega) (wh_app w7 w7)) wh_nil)
          obtain ⟨y0, yr, rfl⟩ : ∃ y0 yr, ys = y0 :: yr := by
            match ys, lb1 with
            | y0 :: yr, _ => exact ⟨y0, yr, rfl⟩
          have j6 := wh_app j5 (wh_cons (w7 y0 (by simp)) wh_nil)
          refine ⟨_, rfl, b, _, 0, y0, rfl, rfl, SqT.of (q34 _ _ eb5), at0 _ _, (by show 6 ≤ sizeLine; decide), fun ml hml => ?_⟩
          have g7 := g5.same q34
          have g8 := g7.new (o := .lst [.ref u1, vo, .ref u2, .ref u3, .ref u4, y0]) hml
          have j7 := wh_same j6 (sN (o := .lst [.ref u1, vo, .ref u2, .ref u3, .ref u4, y0]) hml)
          refine ⟨p, l, ml, _, rfl, g8, upd_same, (g7.ne hml).1, (by show 0 < 6; decide), (by show 6 < 1000; decide), fun o H9 ho g9 b9 => ?_⟩
          exact ⟨g9, ((x25.same q34).same (sN hml)).but b9, o, _, rfl, (j7 o ho).ext g8 g9 (Ext.rfl'.but b9)⟩
        · refine ⟨_, rfl, rfl, _, rfl, ite2 (fun _ => ?_) (fun _ => ?_)⟩
          · refine ⟨_, rfl, (by show 1 ≤ sizeLine; decide), fun t1 n1 => ?_⟩
            have q1 := sN (o := .tup [.str "me"]) n1
            refine ⟨(by show 1 ≤ sizeLine; decide), fun t2 n2 => ?_⟩
            have q2 := sN (o := .tup [.ref t1]) n2
            have wm : Wh (L2.upd H2 t1 (.tup [.str "me"])) (.ref t1) := w1 (by decide +kernel)
            refine ⟨b, t2, ys, [.ref t1], rfl, rfl, q2 _ _ (q1 _ _ eb2), upd_same, Nat.le_trans (show ys.length + 1 ≤ 200 by omega) (by decide), fun z H3 q3 e3 => ?_⟩
            have qq := sT q1 (sT q2 q3)
            exact ⟨g2.same qq, x2.same qq, .ref z, _, rfl, .tup e3 (by rw [List.length_append, List.length_singleton]; omega) (wh_app (wh_same wys2 qq) (wh_cons (wm.same (sT q2 q3)) wh_nil))⟩
          · refine ⟨_, rfl, _, rfl, b, ys, rfl, .inr (SqT.of eb2), p, l, _, rfl, g2, by omega, by omega, fun d H3 f0 f1 g3 b3 => ?_⟩
            obtain ⟨i, rfl⟩ : ∃ i : Nat, d = (i : Int) := ⟨d.toNat, by omega⟩
            have hi : i < ys.length := by omega
            have gi : ys[i]? = some ys[i] := List.getElem?_eq_getElem hi
            have x3 : Ext p H H3 := x2.but b3
            have eb3 := keep x3 eb
            refine ⟨_, rfl, _, rfl, _, rfl, b, ys, rfl, eb3, fun z1 H4 y1 q4 e4 l4 m4 => ?_⟩
            have g4 := g3.same q4
            have x4 := x3.same q4
            have gr4 := Grow.of_ext g0 g4 x4
            obtain ⟨wi, W, c, kk, tsi⟩ := hy ys[i] (List.getElem_mem hi)
            refine ⟨_, rfl, _, rfl, _, rfl, b, ys, (i : Int), _, rfl, rfl, SqT.of (q4 _ _ eb3), atI_nat gi, p, l, W, c, ys[i], kk, rfl, g4, wi.grow gr4, tsi.grow gr4, fun u H5 g5 x5 wu => ⟨(by show 1 ≤ sizeLine; decide), fun t6 n6 => ?_⟩⟩
            have q6 := sN (o := .tup [u]) n6
            have x46 : Ext p H4 (L2.upd H5 t6 (.tup [u])) := x5.same q6
            refine ⟨z1, t6, y1, [u], rfl, rfl, x46 _ _ e4 (fun z => hand_no g4 _ (by rw [← z]; exact e4)), upd_same, Nat.le_trans (show y1.length + 1 ≤ 200 by omega) (by decide), fun z7 H7 q7 e7 => ?_⟩
            have x7 : Ext p H H7 := (x4.trans x46).same q7
            refine ⟨_, rfl, _, rfl, _, _, rfl, rfl, _, rfl, b, ys, rfl, keep x7 eb, fun z8 H8 y8 q8 e8 l8 m8 => ?_⟩
            refine ⟨z7, z8, _, y8, rfl, rfl, q8 _ _ e7, e8, Nat.le_trans (show (y1 ++ [u]).length + y8.length ≤ 200 by rw [List.length_append, List.length_singleton]; omega) (by decide), fun z9 H9 q9 e9 => ?_⟩
            have g9 := (((g5.same q6).same q7).same q8).same q9
            have x9 : Ext p H H9 := (x7.same q8).same q9
            have w9 : ∀ x ∈ ys, Wh H9 x := fun x hx => (hy x hx).1.grow (Grow.of_ext g0 g9 x9)
            exact ⟨g9, x9, .ref z9, _, rfl, .tup e9 (by rw [List.length_append, List.length_append, List.length_singleton]; omega) (wh_app (wh_app (wh_sub w9 m4) (wh_cons (wu.same (sT q6 (sT q7 (sT q8 q9)))) wh_nil)) (wh_sub w9 m8))⟩
      · rintro σ H3 ⟨g3, x3, o, x6, rfl, wo⟩
        refine ⟨_, rfl, _, rfl, _, rfl, pt, _, rfl, keep x3 ept, fun za Ha sa ea => ?_⟩
        refine ⟨_, rfl, (by show 1 ≤ sizeLine; decide), fun tb nb => ?_⟩
        have sb := sN (o := .tup [o]) nb
        refine ⟨za, tb, _, [o], rfl, rfl, sb _ _ ea, upd_same, sz3, fun zc Hc sc ec => ?_⟩
        have xc : Ext p H Hc := ((x3.same sa).same sb).same sc
        refine ⟨_, rfl, _, rfl, _, _, rfl, rfl, _, rfl, pt, _, rfl, keep xc ept, fun zd Hd sd ed => ?_⟩
        exact done Hd o zc zd ((((g3.same sa).same sb).same sc).same sd) (xc.same sd) (wo.same (sT sa (sT sb (sT sc sd)))) (sd _ _ ec) ed
end
end Q

namespace Q
open PySem L2
abbrev sPP : Stmt := top 32
abbrev sPO : Stmt := top 33
abbrev sMade : Stmt := top 42
theorem Right.grow {H H' : Hp} {W : List Str} {c : Int} {v : V} (h : Right H W c v) (g : Grow H H') : Right H' W c v := by
  obtain ⟨k, t, l⟩ := h
  exact ⟨k, t.grow g, l⟩
theorem woS : WOk wS := ⟨alS, by decide, by decide, by decide +kernel⟩
theorem woT : WOk wT := ⟨alT, by decide, by decide, by decide +kernel⟩
theorem woN : WOk wN := ⟨alN, by decide, by decide, by decide +kernel⟩
def spPP : Sp := fun vs H Q _ => ∃ (p l : Addr), vs = [.ref p] ∧ HandAt H p l ∧ ∀ z s t y n H', HandAt H' p l → Ext p H H' → H' z = some (.tup [s, t, y, n]) → PreP H' s t y n → FineP H' s t y n → Q (.ref z) H'
def spPO (C CB : Addr) : Sp := fun vs H Q E => ∃ (pt : Addr) (s t y n : V), vs = [.ref pt] ∧ H pt = some (.tup [s, t, y, n]) ∧ PreP H s t y n ∧
  (∀ r d H', BadP H s t y n r → H' d = some (xdP r) → Same H H' → E (.ref CB) (some d) H') ∧ (FineP H s t y n → ∀ x dx H', H' x = some (.ins C dx (pf s t y n)) → Same H H' → Q (.ref x) H')
def spMade : Sp := fun vs H Q _ => ∃ (pt : Addr) (s t y n : V), vs = [.ref pt] ∧ H pt = some (.tup [s, t, y, n]) ∧ PreP H s t y n ∧
  ∀ tm H', Same H H' → ((∃ r, BadP H s t y n r ∧ H' tm = some (.tup [.str "BadProgram", r])) ∨ (FineP H s t y n ∧ H' tm = some (.tup [.str "told", s, t, y, n]))) → Q (.ref tm) H'
section
variable {P : Program} {w : World} {K : PySem.W.Frag} {mg : Str → Option Value} {base : Heap}
theorem scPO : FnScope ["parts"] ["parts"] (defScope sPO) := ⟨rfl, rfl, rfl, by decide +kernel, rfl, by decide +kernel, by decide +kernel⟩
theorem ok_po {f C CB fM fI : Addr} {fd fdM fdI : FuncData} (F : Fun K "_law_program_of" "_law_program_of" sPO f fd) (B : Bts mg) (O : Oth K w mg) (T : PTxt K mg C) (D : PDefs K mg) (BT : BTxt K mg CB fI fdI) (M : Mk K C fM) (FM : Fun K "__init__" "Program.__init__" sProg fM fdM) (bM : Binds K fdM ["self", "starts", "to", "say", "nexts"] []) :
    FnOk P w K mg base (L2.CX P w) 8 f fd ["parts"] (spPO C CB) := by
  have GM : FnOk P w K mg base (L2.CX P w) 6 fM fdM ["self", "starts", "to", "say", "nexts"] (spProgX C CB) := ok_progX FM B O T D BT
  refine F.okX scPO (fun vs H Q E h => ?_) (fun cdv A outer s0 H vs Q E hr h => ?_)
  · obtain ⟨pt, s, t, y, n, rfl, _⟩ := h
    rfl
  · obtain ⟨pt, s, t, y, n, rfl, ept, pre, kE, k⟩ := h
    refine ⟨_, pss_one (ps_ret (pe_makeS M GM hr rfl T.mgC bM (fun σ => passAt (takes_of rfl rfl rfl rfl) σ) (pa_cons (pe_ix ix_tup (pv 0) pe_int (fun _ _ => rfl)) (pa_cons (pe_ix ix_tup (pv 0) pe_int (fun _ _ => rfl)) (pa_cons (pe_ix ix_tup (pv 0) pe_int (fun _ _ => rfl)) (pa_cons (pe_ix ix_tup (pv 0) pe_int (fun _ _ => rfl)) pa_nil)))))), ?_⟩
    refine ⟨_, rfl, pt, _, 0, s, rfl, rfl, SqT.of ept, rfl, _, rfl, pt, _, 1, t, rfl, rfl, SqT.of ept, rfl, _, rfl, pt, _, 2, y, rfl, rfl, SqT.of ept, rfl, _, rfl, pt, _, 3, n, rfl, rfl, SqT.of ept, rfl, fun x dx nx ndx nex => ?_⟩
    have sx : Same H (L2.upd (L2.upd H dx (.own x)) x (.ins C dx [])) := sNew (sNew (fun _ _ e => e) ndx) nx
    refine ⟨x, dx, s, t, y, n, rfl, upd_same, pre.same sx, fun r d H1 bp ed s1 => kE r d H1 (bp.back pre sx) ed (sT sx s1), fun fp H1 ex x1 => ⟨rfl, ?_⟩⟩
    exact k (fp.back pre sx) x dx H1 ex fun b o e => x1 b o (sx b o e) (ne_of_none e nx)
theorem scMade : FnScope ["parts", "program", "error"] ["parts"] (defScope sMade) := ⟨rfl, rfl, rfl, by decide +kernel, rfl, by decide +kernel, by decide +kernel⟩
theorem ok_made {f C CB fO fI : Addr} {fd dO fdI : FuncData} (F : Fun K "_law_made" "_law_made" sMade f fd) (T : PTxt K mg C) (BT : BTxt K mg CB fI fdI) (DO : Df K mg "_law_program_of" sPO ["parts"] fO dO) (GO : FnOk P w K mg base (L2.CX P w) 8 fO dO ["parts"] (spPO C CB)) :
    FnOk P w K mg base CX0 9 f fd ["parts"] spMade := by
  refine F.ok scMade (fun vs H Q E h => ?_) (fun cdv A outer s0 H vs Q E hr h => ?_)
  · obtain ⟨pt, s, t, y, n, rfl, _⟩ := h
    rfl
  · obtain ⟨pt, s, t, y, n, rfl, ept, pre, k⟩ := h
    have nd := scMade.nd
    refine ⟨_, pss_one (ps_try_as (i := 2) (tb := fun W => tSeq (tAsg (tCallS (spPO C CB) (WE W) (tCons (tVar 0) tNil)) (gName 1)) (tRet (tTup (tCons (tC (.str "told")) (tCons (tFld K (tVar 1) "starts") (tCons (tFld K (tVar 1) "to") (tCons (tFld K (tVar 1) "say") (tCons (tFld K (tVar 1) "nexts") tNil))))))))
      (ts := fun a cls d => tRet (tTup (tCons (tC (.str "BadProgram")) (tCons (tXf a cls d CB "part" (tVar 2)) tNil)))) (Wout := fun _ _ _ _ => False) rfl rfl nd rfl rfl ⟨rfl, by decide, .inl BT.g⟩ takes0
      (fun W pn xe tk _ => pss_cons (ps_set (i := 1) nd rfl (.inl rfl) (by exact (pe_callS GO hr rfl DO.m DO.k DO.b (fun σ => passAt tk σ) (by exact (pa_cons (pv 0) pa_nil)))))
        (pss_one (ps_ret (pe_tup (pa_cons pe_str (pa_cons (pe_fldO rfl (pv 1) rfl) (pa_cons (pe_fldO rfl (pv 1) rfl) (pa_cons (pe_fldO rfl (pv 1) rfl) (pa_cons (pe_fldO rfl (pv 1) rfl) pa_nil)))))))))
      (fun a oe cls d pn hz hf => pss_one (ps_ret (pe_tup (pa_cons pe_str (pa_cons (pe_xf BT.xf BT.no hz hf (pv 2)) pa_nil)))))), ?_⟩
    refine ⟨_, rfl, pt, s, t, y, n, rfl, ept, pre, fun r d H1 bp ed s1 => ?_, fun fp x dx H1 ex s1 => ?_⟩
    · refine ⟨true, BT.ex, fun _ a ha => ?_, fun q => nomatch q⟩
      refine ⟨_, rfl, rfl, rfl, d, _, _, rfl, ed, part_look r, (by show 2 ≤ sizeLine; decide), fun tm hm => ?_⟩
      exact k tm _ (sT s1 (sN hm)) (.inl ⟨r, bp, upd_same⟩)
    · refine ⟨_, rfl, x, C, dx, _, _, rfl, ex, T.cl, T.nS, pf_starts _ _ _ _, _, rfl, x, C, dx, _, _, rfl, ex, T.cl, T.nT, pf_to _ _ _ _, _, rfl, x, C, dx, _, _, rfl, ex, T.cl, T.nY, pf_say _ _ _ _, _, rfl, x, C, dx, _, _, rfl, ex, T.cl, T.nN, pf_nexts _ _ _ _, (by show 5 ≤ sizeLine; decide), fun tm hm => ?_⟩
      exact k tm _ (sT s1 (sN hm)) (.inr ⟨fp, upd_same⟩)
theorem scPP : FnScope ["hand", "cells", "starts", "to", "say", "nexts", "k"] ["hand"] (defScope sPP) := ⟨rfl, rfl, rfl, by decide +kernel, rfl, by decide +kernel, by decide +kernel⟩
theorem ok_pp {f fT fP fE fW : Addr} {fd dT dP dE dW : FuncData} (F : Fun K "_law_program_parts" "_law_program_parts" sPP f fd) (B : Bts mg) (DT : Df K mg "_law_take" sTake ["hand", "many"] fT dT) (DP : Df K mg "_law_pick" sPick ["hand", "things"] fP dP) (DE : Df K mg "_law_expression" sExpr ["hand", "words", "cells", "deep"] fE dE) (DW : Df K mg "_law_words" sWords ["which"] fW dW)
    (G3 : FnOk P w K mg base CX0 6 fE dE ["hand", "words", "cells", "deep"] (spExpr 3)) (G4 : FnOk P w K mg base CX0 7 fE dE ["hand", "words", "cells", "deep"] (spExpr 4)) : FnOk P w K mg base CX0 8 f fd ["hand"] spPP := by
  have GT : FnOk P w K mg base CX0 1 fT dT ["hand", "many"] spTake := ok_take DT.F B
  have GP : FnOk P w K mg base CX0 2 fP dP ["hand", "things"] (spPick K) := ok_pick DP.F B DT
  have GW : FnOk P w K mg base CX0 1 fW dW ["which"] spWords := ok_words DW.F
  refine F.ok scPP (fun vs H Q E h => ?_) (fun cdv A outer s0 H vs Q E hr h => ?_)
  · obtain ⟨p, l, rfl, _⟩ := h
    rfl
  · obtain ⟨p, l, rfl, g0, k⟩ := h
    have nd := scPP.nd
    have hr1 : Room 1 _ := hr.mono (by decide)
    have hr2 : Room 2 _ := hr.mono (by decide)
    have hr6 : Room 6 _ := hr.mono (by decide)
    refine ⟨_, pss_cons (ps_set (i := 1) nd rfl (.inr rfl) (pe_call GP hr2 rfl DP.m DP.k DP.b .nil pass0 (pa_cons (pv 0) (pa_cons (pe_lst (pa_cons pe_int (pa_cons pe_int (pa_cons pe_int (pa_cons pe_int (pa_cons pe_int (pa_cons pe_int pa_nil))))))) pa_nil))))
      (pss_cons (ps_set (i := 2) nd rfl (.inl rfl) (pe_callTy call_tuple_of (by rfl) B.tuple PyProof.Rows.boot_tuple (pa_cons (pe_lc (own := [("k", 6)]) (g := gName 6) (tt := tYes) rfl nd (pi_range1 rfl B.range (pa_cons (pv 1) pa_nil))
        (blkOk_by (N := ["hand", "cells", "starts", "to", "say", "nexts", "k"]) (sc := defScope sPP) (by decide +kernel)) (fun _ _ _ _ _ => pg_name (i := 6) nd rfl (.inl rfl)) (fun _ _ _ _ _ => pts_nil)
        (fun _ _ _ _ _ => pe_call G3 hr6 rfl DE.m DE.k DE.b .nil pass0 (pa_cons (pv 0) (pa_cons (pe_call GW hr1 rfl DW.m DW.k DW.b .nil pass0 (pa_cons pe_str pa_nil)) (pa_cons pe_int (pa_cons pe_int pa_nil)))))) pa_nil)))
      (pss_cons (ps_set (i := 3) nd rfl (.inl rfl) (pe_call G3 hr6 rfl DE.m DE.k DE.b .nil pass0 (pa_cons (pv 0) (pa_cons (pe_call GW hr1 rfl DW.m DW.k DW.b .nil pass0 (pa_cons pe_str pa_nil)) (pa_cons (pv 1) (pa_cons pe_int pa_nil))))))
      (pss_cons (ps_set (i := 4) nd rfl (.inl rfl) (pe_call G4 hr rfl DE.m DE.k DE.b .nil pass0 (pa_cons (pv 0) (pa_cons (pe_call GW hr1 rfl DW.m DW.k DW.b .nil pass0 (pa_cons pe_str pa_nil)) (pa_cons (pv 1) (pa_cons pe_int pa_nil))))))
      (pss_cons (ps_set (i := 5) nd rfl (.inl rfl) (pe_callTy call_tuple_of (by rfl) B.tuple PyProof.Rows.boot_tuple (pa_cons (pe_lc (own := [("k", 6)]) (g := gName 6) (tt := tYes) rfl nd (pi_range1 rfl B.range (pa_cons (pv 1) pa_nil))
        (blkOk_by (N := ["hand", "cells", "starts", "to", "say", "nexts", "k"]) (sc := defScope sPP) (by decide +kernel)) (fun _ _ _ _ _ => pg_name (i := 6) nd rfl (.inl rfl)) (fun _ _ _ _ _ => pts_nil)
        (fun _ _ _ _ _ => pe_call G4 hr rfl DE.m DE.k DE.b .nil pass0 (pa_cons (pv 0) (pa_cons (pe_call GW hr1 rfl DW.m DW.k DW.b .nil pass0 (pa_cons pe_str pa_nil)) (pa_cons (pv 1) (pa_cons pe_int pa_nil)))))) pa_nil)))
      (C8.pss_cut (ps_if (pt_cmpR op_eq (pe_call GT hr1 rfl DT.m DT.k DT.b .nil pass0 (pa_cons (pv 0) (pa_cons pe_int pa_nil))) pe_int (nomark _)) (pss_one (ps_set (i := 3) nd rfl (.inl rfl) (pe_tup (pa_cons pe_str (pa_cons pe_int pa_nil))))) pss_nil)
      (pss_one (ps_ret (pe_tup (pa_cons (pv 2) (pa_cons (pv 3) (pa_cons (pv 4) (pa_cons (pv 5) pa_nil)))))))))))), ?_⟩
    refine ⟨_, rfl, (by show 6 ≤ sizeLine; decide), fun ml hml => ?_⟩
    refine ⟨p, l, ml, _, rfl, g0.new hml, upd_same, (g0.ne hml).1, (by show 0 < 6; decide), (by show 6 < 1000; decide), fun v H1 hv g1 b1 => ?_⟩
    have x1 : Ext p H H1 := (Ext.rfl'.upd hml).but b1
    obtain ⟨c, rfl, c1, c4⟩ : ∃ c : Int, v = .int c ∧ 1 ≤ c ∧ c ≤ 4 := by
      simp only [List.mem_cons, List.not_mem_nil, or_false] at hv
      rcases hv with rfl | rfl | rfl | rfl | rfl | rfl <;> exact ⟨_, rfl, by decide, by decide⟩
    have ec : ((c.toNat : Nat) : Int) = c := Int.toNat_of_nonneg (by omega)
    refine ⟨_, rfl, c, rfl, by omega, by omega, fun D1 hD1 => lc_range (lo := 0) (n := c.toNat) (fun i H' => ∃ vs : List V, H' D1 = some (.lst vs) ∧ vs.length = i ∧ (∀ x ∈ vs, Wh H' x ∧ Right H' wS 0 x) ∧ HandAt H' p l ∧ Ext p H1 H') ?_ ?_ ?_⟩
    · exact ⟨[], upd_same, rfl, fun x hx => absurd hx List.not_mem_nil, g1.new hD1, Ext.rfl'.upd hD1⟩
    · rintro i H2 hi ⟨vs, eD, hl, hv, g2, x2⟩
      refine ⟨rfl, ?_⟩
      obtain ⟨xs0, ehp⟩ := g1.hp
      obtain ⟨ns0, ehl, _⟩ := g1.hl
      have nDp : D1 ≠ p := (ne_of_none ehp hD1).symm
      have nDl : D1 ≠ l := (ne_of_none ehl hD1).symm
      refine ⟨_, rfl, _, wS, rfl, .inl ⟨rfl, rfl⟩, fun wl H3 s3 hwl ew => ?_⟩
      have g3 := g2.same s3
      obtain ⟨xs2, e2p⟩ := g2.hp
      have nwp : wl ≠ p := (ne_of_none e2p hwl).symm
      refine ⟨p, l, wl, wS, 0, rfl, ⟨g3, ew, nwp, woS, by decide, by decide⟩, fun v H4 k4 g4 x4 wv tv lk => ?_⟩
      have eD4 : H4 D1 = some (.lst vs) := x4 _ _ (s3 _ _ eD) nDp
      have gr := (Grow.of_same s3).trans (Grow.of_ext g3 g4 x4)
      have gu : Grow H4 (L2.upd H4 D1 (.lst (vs ++ [v]))) := Grow.upd eD4
      refine ⟨vs, eD4, by rw [hl]; exact Nat.lt_of_lt_of_le (show i < 64 by omega) (by decide), vs ++ [v], upd_same, by rw [List.length_append, hl]; rfl, fun x hx => ?_, g4.stay nDp nDl, fun b o e nb => ?_⟩
      · rcases List.mem_append.mp hx with hx | hx
        · obtain ⟨a, b⟩ := hv x hx
          exact ⟨(a.grow gr).grow gu, (b.grow gr).grow gu⟩
        · have ex : x = v := by simpa using hx
          subst ex
          exact ⟨wv.grow gu, Right.grow ⟨k4, tv.mono (by omega), Nat.le_trans lk (by decide)⟩ gu⟩
      · rw [upd_ne (ne_of_none e hD1)]
        exact x4 _ _ (s3 _ _ (x2 b o e nb)) nb
    rintro H2 ⟨vs, eD, hl, hv, g2, x2⟩
    refine ⟨D1, _, rfl, .inl ⟨SqL.of eD, fun t1 ht1 => ?_⟩⟩
    have s3 := sN (o := .tup vs) ht1
    have g3 := g2.same s3
    have x3 : Ext p H (L2.upd H2 t1 (.tup vs)) := (x1.trans x2).same s3
    -- to
    refine ⟨_, rfl, _, wT, rfl, .inr (.inr ⟨.inl rfl, rfl⟩), fun wl H4 s4 hwl ew => ?_⟩
    obtain ⟨xs3, e3p⟩ := g3.hp
    have nwp : wl ≠ p := (ne_of_none e3p hwl).symm
    have g4 := g3.same s4
    refine ⟨_, rfl, p, l, wl, wT, c, rfl, ⟨g4, ew, nwp, woT, by omega, by omega⟩, fun vt H5 k5 g5 x5 wt tt5 lk5 => ?_⟩
    -- say
    refine ⟨_, rfl, _, wT, rfl, .inr (.inr ⟨.inr rfl, rfl⟩), fun wl2 H6 s6 hwl2 ew2 => ?_⟩
    obtain ⟨xs5, e5p⟩ := g5.hp
    have nwp2 : wl2 ≠ p := (ne_of_none e5p hwl2).symm
    have g6 := g5.same s6
    refine ⟨_, rfl, p, l, wl2, wT, c, rfl, ⟨g6, ew2, nwp2, woT, by omega, by omega⟩, fun vy H7 k7 g7 x7 wy ty7 lk7 => ?_⟩
    refine ⟨_, rfl, c, rfl, by omega, by omega, fun D2 hD2 => lc_range (lo := 0) (n := c.toNat) (fun i H' => ∃ vs : List V, H' D2 = some (.lst vs) ∧ vs.length = i ∧ (∀ x ∈ vs, Wh H' x ∧ Right H' wN (c.toNat : Int) x) ∧ HandAt H' p l ∧ Ext p H7 H') ?_ ?_ ?_⟩
    · exact ⟨[], upd_same, rfl, fun x hx => absurd hx List.not_mem_nil, g7.new hD2, Ext.rfl'.upd hD2⟩
    · rintro i H2 hi ⟨vs, eD, hl, hv, g2, x2⟩
      refine ⟨rfl, ?_⟩
      obtain ⟨xs0, ehp⟩ := g7.hp
      obtain ⟨ns0, ehl, _⟩ := g7.hl
      have nDp : D2 ≠ p := (ne_of_none ehp hD2).symm
      have nDl : D2 ≠ l := (ne_of_none ehl hD2).symm
      refine ⟨_, rfl, _, wN, rfl, .inr (.inl ⟨rfl, rfl⟩), fun wl H3 s3 hwl ew => ?_⟩
      have g3 := g2.same s3
      obtain ⟨xs2, e2p⟩ := g2.hp
      have nwp : wl ≠ p := (ne_of_none e2p hwl).symm
      refine ⟨_, rfl, p, l, wl, wN, c, rfl, ⟨g3, ew, nwp, woN, by omega, by omega⟩, fun v H4 k4 g4 x4 wv tv lk => ?_⟩
      have eD4 : H4 D2 = some (.lst vs) := x4 _ _ (s3 _ _ eD) nDp
      have gr := (Grow.of_same s3).trans (Grow.of_ext g3 g4 x4)
      have gu : Grow H4 (L2.upd H4 D2 (.lst (vs ++ [v]))) := Grow.upd eD4
      refine ⟨vs, eD4, by rw [hl]; exact Nat.lt_of_lt_of_le (show i < 64 by omega) (by decide), vs ++ [v], upd_same, by rw [List.length_append, hl]; rfl, fun x hx => ?_, g4.stay nDp nDl, fun b o e nb => ?_⟩
      · rcases List.mem_append.mp hx with hx | hx
        · obtain ⟨a, b⟩ := hv x hx
          exact ⟨(a.grow gr).grow gu, (b.grow gr).grow gu⟩
        · have ex : x = v := by simpa using hx
          subst ex
          exact ⟨wv.grow gu, Right.grow ⟨k4, by rw [ec]; exact tv.mono (by omega), Nat.le_trans lk (by decide)⟩ gu⟩
      · rw [upd_ne (ne_of_none e hD2)]
        exact x4 _ _ (s3 _ _ (x2 b o e nb)) nb
    rintro H8 ⟨us, eD8, hl8, hv8, g8, x8⟩
    refine ⟨D2, _, rfl, .inl ⟨SqL.of eD8, fun t2 ht2 => ?_⟩⟩
    have s9 := sN (o := .tup us) ht2
    have g9 := g8.same s9
    have hlv : vs.length = c.toNat := hl
    -- all at the last heap
    have x57 : Ext p (L2.upd H2 t1 (.tup vs)) H7 := (((Ext.rfl'.same s4).trans x5).same s6).trans x7
    have x39 : Ext p (L2.upd H2 t1 (.tup vs)) (L2.upd H8 t2 (.tup us)) := (x57.trans x8).same s9
    have gr39 := Grow.of_ext g3 g9 x39
    have gr29 : Grow H2 (L2.upd H8 t2 (.tup us)) := (Grow.of_same s3).trans gr39
    have gr59 : Grow H5 (L2.upd H8 t2 (.tup us)) := Grow.of_ext g5 g9 ((((Ext.rfl'.same s6).trans x7).trans x8).same s9)
    have gr79 : Grow H7 (L2.upd H8 t2 (.tup us)) := Grow.of_ext g7 g9 (x8.same s9)
    have x9 : Ext p H (L2.upd H8 t2 (.tup us)) := x3.trans x39
    have e1 : (L2.upd H8 t2 (.tup us)) t1 = some (.tup vs) := gr39.tup upd_same
    have rt : Right (L2.upd H8 t2 (.tup us)) wT vs.length vt := Right.grow ⟨k5, by rw [hlv, ec]; exact tt5.mono (by omega), Nat.le_trans lk5 (by decide)⟩ gr59
    have ry : Right (L2.upd H8 t2 (.tup us)) wT vs.length vy := Right.grow ⟨k7, by rw [hlv, ec]; exact ty7.mono (by omega), Nat.le_trans lk7 (by decide)⟩ gr79
    have ws : Wh (L2.upd H8 t2 (.tup us)) (.ref t1) := .tup e1 (by omega) fun x hx => (hv x hx).1.grow gr29
    have wn : Wh (L2.upd H8 t2 (.tup us)) (.ref t2) := .tup upd_same (by omega) fun x hx => (hv8 x hx).1.same s9
    have st : St (L2.upd H8 t2 (.tup us)) (.ref t1) t1 vs := ⟨rfl, e1, by omega, by omega, fun x hx => (hv x hx).2.grow gr29⟩
    have rn : ∀ x ∈ us, Right (L2.upd H8 t2 (.tup us)) wN vs.length x := fun x hx => by
      rw [hlv]
      exact (hv8 x hx).2.grow (Grow.of_same s9)
    refine ⟨fun σ H' => HandAt H' p l ∧ Ext p (L2.upd H8 t2 (.tup us)) H' ∧ ∃ vt', Wh H' vt' ∧ Right H' wT vs.length vt' ∧ σ = [some (.ref p), some (.int c), some (.ref t1), some vt', some vy, some (.ref t2), none], ?_, ?_⟩
    · refine ⟨_, rfl, p, l, 2, rfl, g9, by decide, by decide, fun d H10 d0 d1 g10 b10 => ?_⟩
      have x10 : Ext p (L2.upd H8 t2 (.tup us)) H10 := Ext.rfl'.but b10
      have gr10 := Grow.of_ext g9 g10 x10
      refine ⟨rfl, _, rfl, ite2 (fun _ => ?_) (fun _ => ?_)⟩
      · refine ⟨(by show 2 ≤ sizeLine; decide), fun t3 ht3 => ?_⟩
        have s11 := sN (o := .tup [.str "number", .int 1]) ht3
        refine ⟨g10.same s11, x10.same s11, .ref t3, w2 ht3 (by decide +kernel) (.int 1), ⟨1, ⟨[], (node_iff upd_same []).mpr (.inl ⟨rfl, rfl, 1, rfl, by decide, by decide⟩), [], .nil, rfl⟩, by decide⟩, rfl⟩
      · exact ⟨g10, x10, vt, (wt.grow gr59).grow gr10, rt.grow gr10, rfl⟩
    · rintro σ H10 ⟨g10, x10, vt', wt', rt', rfl⟩
      have gr10 := Grow.of_ext g9 g10 x10
      refine ⟨_, rfl, _, rfl, _, rfl, _, rfl, (by show 4 ≤ sizeLine; decide), fun z hz => ?_⟩
      have sz := sN (o := .tup [.ref t1, vt', vy, .ref t2]) hz
      have grz := gr10.trans (Grow.of_same sz)
      refine k z _ _ _ _ _ (g10.same sz) ((x9.trans x10).same sz) upd_same ⟨ws.grow grz, wt'.same sz, (wy.grow gr79).grow grz, wn.grow grz⟩ ⟨t1, vs, t2, us, ⟨rfl, grz.tup e1, st.l1, st.l4, fun x hx => (st.rs x hx).grow grz⟩, rt'.grow (Grow.of_same sz), ry.grow grz, rfl, grz.tup upd_same, by omega, fun x hx => (rn x hx).grow grz⟩
end
end Q

namespace Q
open PySem L2
theorem op_is_xb {X : Cx} : OpR X (compareOp .Is) (fun x y H Q => ((∃ i : Int, x = .int i) ∨ (∃ z : Str, x = .str z) ∨ ∃ a : Addr, x = .ref a) ∧ ∃ b : Bool, y = .bl b ∧ Q (.bl false) H) := by
  intro pins s σ H x y v u Q I rx ry h
  obtain ⟨hx, b, rfl, q⟩ := h
  cases (show u = Value.bool b from ry)
  rcases hx with ⟨i, rfl⟩ | ⟨z, rfl⟩ | ⟨a, rfl⟩
  · obtain ⟨t, rfl⟩ := rx
    exact wpAny_is_other rfl (fun z => nomatch z) ⟨.bl false, H, I, rfl, q⟩
  · obtain ⟨t, rfl⟩ := rx
    exact wpAny_is_other rfl (fun z => nomatch z) ⟨.bl false, H, I, rfl, q⟩
  · cases rx
    exact wpAny_is_other rfl (fun z => nomatch z) ⟨.bl false, H, I, rfl, q⟩
/-- alike, of nesting below n -/
def SmV (H : Hp) : Nat → V → V → Prop
  | 0 => fun _ _ => False
  | n + 1 => fun u v => (∃ i : Int, u = .int i ∧ v = .int i) ∨ (∃ z : Str, u = .str z ∧ v = .str z) ∨
      ∃ (a b : Addr) (xs ys : List V), u = .ref a ∧ v = .ref b ∧ H a = some (.tup xs) ∧ H b = some (.tup ys) ∧ xs.length = ys.length ∧ ∀ (i : Nat) (x y : V), xs[i]? = some x → ys[i]? = some y → SmV H n x y
theorem SmV.same {H H' : Hp} (s : Same H H') : ∀ {n : Nat} {u v : V}, SmV H n u v → SmV H' n u v
  | 0, _, _, h => h.elim
  | n + 1, u, v, h => by
    rcases h with h | h | ⟨a, b, xs, ys, e1, e2, h1, h2, hl, k⟩
    · exact .inl h
    · exact .inr (.inl h)
    · exact .inr (.inr ⟨a, b, xs, ys, e1, e2, s _ _ h1, s _ _ h2, hl, fun i x y hx hy => (k i x y hx hy).same s⟩)
def spSame (n : Nat) : Sp := fun vs H Q _ => ∃ u v : V, vs = [u, v] ∧ SmV H n u v ∧ ∀ H', Same H H' → Q (.bl true) H'
section
variable {P : Program} {w : World} {K : PySem.W.Frag} {mg : Str → Option Value} {base : Heap}
theorem scSame : FnScope ["actual", "due", "one", "other"] ["actual", "due"] (defScope sSame) := ⟨rfl, rfl, rfl, by decide +kernel, rfl, by decide +kernel, by decide +kernel⟩
theorem ok_same {f fI : Addr} {fd fdI : FuncData} (D : Df K mg "_law_same" sSame ["actual", "due"] f fd) (B : Bts mg) (hz : mg "zip" = none) (hs : mg "str" = none) (DI : Df K mg "_law_is_integer" sInt ["thing"] fI fdI) : ∀ n, FnOk P w K mg base CX0 (n + 1) f fd ["actual", "due"] (spSame n)
  | 0 => by
    refine D.F.ok scSame (fun vs H Q E h => ?_) (fun cdv A outer s H vs Q E hr h => ?_)
    · obtain ⟨u, v, rfl, _⟩ := h
      rfl
    · obtain ⟨u, v, rfl, h, _⟩ := h
      exact h.elim
  | n + 1 => by
    have IH := ok_same D B hz hs DI n
    have GI : FnOk P w K mg base CX0 1 fI fdI ["thing"] (spPlain K) := ok_int DI.F B
    refine D.F.ok scSame (fun vs H Q E h => ?_) (fun cdv A outer s H vs Q E hr h => ?_)
    · obtain ⟨u, v, rfl, _⟩ := h
      rfl
    · obtain ⟨u, v, rfl, h, k⟩ := h
      have nd := scSame.nd
      have hr1 : Room 1 _ := hr.mono (by omega)
      have hrn : Room (n + 1) _ := hr.mono (by omega)
      refine ⟨_, pss_cons (ps_if (pt_cmp (pc_isN (pv 1))) pss_never pss_nil)
        (pss_cons (ps_if (pt_cmpR op_is_xb (pv 1) pe_bl (nomark _)) pss_never pss_nil)
        (pss_cons (ps_if (pt_cmpR op_is_xb (pv 1) pe_bl (nomark _)) pss_never pss_nil)
        (pss_cons (ps_if (pt_val (pe_callB call_isi (by rfl) B.isinstance PyProof.Rows.boot_isinstance (pa_cons (pv 1) (pa_cons (pe_bltn (v := .ty "int") rfl B.int PyProof.Rows.boot_int rfl) pa_nil))))
          (pss_one (ps_ret (pe_and (pe_call GI hr1 rfl DI.m DI.k DI.b .nil pass0 (pa_cons (pv 0) pa_nil)) (pe_one (pe_cmpR op_eq (pv 0) (pv 1) (nomark _)))))) pss_nil)
        (pss_cons (ps_if (pt_val (pe_callB call_isi (by rfl) B.isinstance PyProof.Rows.boot_isinstance (pa_cons (pv 1) (pa_cons (pe_bltn (v := .ty "str") rfl hs PyProof.Rows.boot_str rfl) pa_nil))))
          (pss_one (ps_ret (pe_and (pe_callB call_isi (by rfl) B.isinstance PyProof.Rows.boot_isinstance (pa_cons (pv 0) (pa_cons (pe_bltn (v := .ty "str") rfl hs PyProof.Rows.boot_str rfl) pa_nil))) (pe_one (pe_cmpR op_eq (pv 0) (pv 1) (nomark _)))))) pss_nil)
        (pss_cons (ps_if (PW.pt (pw_or (pt_cmpR op_ne (pe_callB call_isi (by rfl) B.isinstance PyProof.Rows.boot_isinstance (pa_cons (pv 1) (pa_cons (pe_bltn (v := .ty "tuple") rfl B.tuple PyProof.Rows.boot_tuple rfl) pa_nil))) (pe_callB call_isi (by rfl) B.isinstance PyProof.Rows.boot_isinstance (pa_cons (pv 0) (pa_cons (pe_bltn (v := .ty "tuple") rfl B.tuple PyProof.Rows.boot_tuple rfl) pa_nil))) (nomark _))
          (pw_or1 (pt_cmpR op_ne (pe_callB call_isi (by rfl) B.isinstance PyProof.Rows.boot_isinstance (pa_cons (pv 1) (pa_cons (pe_bltn (v := .ty "list") rfl B.list PyProof.Rows.boot_list rfl) pa_nil))) (pe_callB call_isi (by rfl) B.isinstance PyProof.Rows.boot_isinstance (pa_cons (pv 0) (pa_cons (pe_bltn (v := .ty "list") rfl B.list PyProof.Rows.boot_list rfl) pa_nil))) (nomark _))))) pss_never pss_nil)
        (pss_cons (ps_if (pt_cmpR op_ne (pe_callB call_len_seq (by rfl) B.len PySem.boot_len (pa_cons (pv 0) pa_nil)) (pe_callB call_len_seq (by rfl) B.len PySem.boot_len (pa_cons (pv 1) pa_nil)) (nomark _)) pss_never pss_nil)
        (pss_cons (ps_for PassesOwn.never rfl (RZ.pi_zipA rfl hz (pa_cons (pv 0) (pa_cons (pv 1) pa_nil))) (pg_tup rfl (pgs_cons (pg_name (i := 2) nd rfl (.inl rfl)) (pgs_cons (pg_name (i := 3) nd rfl (.inl rfl)) pgs_nil)))
          (pss_one (ps_if (pt_not (pt_val (pe_call IH hrn rfl D.m D.k D.b .nil pass0 (pa_cons (pv 2) (pa_cons (pv 3) pa_nil))))) pss_never pss_nil)))
        (pss_one (ps_ret pe_bl))))))))), ?_⟩
      have rs : Same H H := fun _ _ e => e
      rcases h with ⟨i, rfl, rfl⟩ | ⟨z, rfl, rfl⟩ | ⟨a, b, xs, ys, rfl, rfl, ha, hb, hl, hk⟩
      · refine ⟨_, rfl, _, rfl, ite2 (fun c => absurd c (by simp)) (fun _ => ?_)⟩
        refine ⟨_, rfl, .inl ⟨i, rfl⟩, true, rfl, _, rfl, iteF ?_⟩
        refine ⟨_, rfl, .inl ⟨i, rfl⟩, false, rfl, _, rfl, iteF ?_⟩
        refine ⟨_, rfl, .int i, .ty "int", .type "int", .type "int", true, rfl, .ty _, .base (.int _), kInt_int, _, rfl, iteT ?_⟩
        refine ⟨_, rfl, .int i, .type "int", true, false, rfl, .base (.int _), kInt_int, kBool_int, _, rfl, iteT ?_⟩
        refine ⟨_, rfl, _, rfl, rfl, ?_⟩
        rw [decide_eq_true rfl]
        exact k _ rs
      · refine ⟨_, rfl, _, rfl, ite2 (fun c => absurd c (by simp)) (fun _ => ?_)⟩
        refine ⟨_, rfl, .inr (.inl ⟨z, rfl⟩), true, rfl, _, rfl, iteF ?_⟩
        refine ⟨_, rfl, .inr (.inl ⟨z, rfl⟩), false, rfl, _, rfl, iteF ?_⟩
        refine ⟨_, rfl, .str z, .ty "int", .type "str", .type "int", false, rfl, .ty _, .base (.str _), kit_ty (by decide +kernel), _, rfl, iteF ?_⟩
        refine ⟨_, rfl, .str z, .ty "str", .type "str", .type "str", true, rfl, .ty _, .base (.str _), kit_ty (by decide +kernel), _, rfl, iteT ?_⟩
        refine ⟨_, rfl, .str z, .ty "str", .type "str", .type "str", true, rfl, .ty _, .base (.str _), kit_ty (by decide +kernel), _, rfl, iteT ?_⟩
        refine ⟨_, rfl, _, rfl, rfl, ?_⟩
        rw [decide_eq_true rfl]
        exact k _ rs
      · refine ⟨_, rfl, _, rfl, ite2 (fun c => absurd c (by simp)) (fun _ => ?_)⟩
        refine ⟨_, rfl, .inr (.inr ⟨b, rfl⟩), true, rfl, _, rfl, iteF ?_⟩
        refine ⟨_, rfl, .inr (.inr ⟨b, rfl⟩), false, rfl, _, rfl, iteF ?_⟩
        refine ⟨_, rfl, .ref b, .ty "int", .type "tuple", .type "int", false, rfl, .ty _, .base (.tup hb), kit_ty (by decide +kernel), _, rfl, iteF ?_⟩
        refine ⟨_, rfl, .ref b, .ty "str", .type "tuple", .type "str", false, rfl, .ty _, .base (.tup hb), kit_ty (by decide +kernel), _, rfl, iteF ?_⟩
        refine ⟨_, rfl, .ref b, .ty "tuple", .type "tuple", .type "tuple", true, rfl, .ty _, .base (.tup hb), kit_ty (by decide +kernel), _, rfl, .ref a, .ty "tuple", .type "tuple", .type "tuple", true, rfl, .ty _, .base (.tup ha), kit_ty (by decide +kernel), rfl, _, rfl, iteF ?_⟩
        refine ⟨_, rfl, .ref b, .ty "list", .type "tuple", .type "list", false, rfl, .ty _, .base (.tup hb), kit_ty (by decide +kernel), _, rfl, .ref a, .ty "list", .type "tuple", .type "list", false, rfl, .ty _, .base (.tup ha), kit_ty (by decide +kernel), rfl, _, rfl, iteF ?_⟩
        refine ⟨_, rfl, a, xs, rfl, .inr (SqT.of ha), _, rfl, b, ys, rfl, .inr (SqT.of hb), rfl, _, rfl, ?_⟩
        rw [hl, decide_eq_true rfl]
        refine iteF ⟨_, rfl, _, rfl, a, b, xs, ys, rfl, .inr ⟨SqT.of ha, SqT.of hb, RZ.for_zipT hl (fun i σ H' => ∃ x2 x3, σ = [some (.ref a), some (.ref b), x2, x3] ∧ Same H H') ⟨none, none, rfl, rs⟩ ?_ ?_ ?_⟩⟩
        · rintro i σ H' ⟨x2, x3, rfl, s1⟩
          exact ⟨SqT.of (s1 _ _ ha), SqT.of (s1 _ _ hb)⟩
        · rintro i x y T σ H' hx hy ⟨x2, x3, rfl, s1⟩ hT
          have s2 : Same H (upd H' T (.tup [x, y])) := fun b o e => sN hT _ _ (s1 _ _ e)
          refine ⟨T, _, rfl, SqT.of upd_same, rfl, _, _, rfl, _, _, rfl, rfl, ?_⟩
          refine ⟨_, rfl, _, rfl, x, y, rfl, (hk i x y hx hy).same s2, fun H2 s3 => ⟨_, rfl, iteF ?_⟩⟩
          exact ⟨_, _, rfl, fun b o e => s3 _ _ (s2 _ _ e)⟩
        · rintro σ H' ⟨x2, x3, rfl, s1⟩
          exact k _ s1
end
theorem SmV.up {H : Hp} : ∀ {n : Nat} {u v : V}, SmV H n u v → SmV H (n + 1) u v
  | 0, _, _, h => h.elim
  | n + 1, u, v, h => by
    rcases h with h | h | ⟨a, b, xs, ys, e1, e2, h1, h2, hl, k⟩
    · exact .inl h
    · exact .inr (.inl h)
    · exact .inr (.inr ⟨a, b, xs, ys, e1, e2, h1, h2, hl, fun i x y hx hy => (k i x y hx hy).up⟩)
theorem SmV.mono {H : Hp} {n m : Nat} {u v : V} (h : SmV H n u v) (l : n ≤ m) : SmV H m u v := by
  induction l with
  | refl => exact h
  | step _ ih => exact ih.up
theorem sm_list {H : Hp} {n : Nat} {a b : Addr} {xs : List V} (ha : H a = some (.tup xs)) (hb : H b = some (.tup xs)) (k : ∀ x ∈ xs, SmV H n x x) : SmV H (n + 1) (.ref a) (.ref b) := .inr (.inr ⟨a, b, xs, xs, rfl, rfl, ha, hb, rfl, fun i x y hx hy => by
  rw [hx] at hy
  cases hy
  exact k x (List.mem_of_getElem? hx)⟩)
theorem sm_int {H : Hp} {n : Nat} (i : Int) : SmV H (n + 1) (.int i) (.int i) := .inl ⟨i, rfl, rfl⟩
theorem sm_str {H : Hp} {n : Nat} (z : Str) : SmV H (n + 1) (.str z) (.str z) := .inr (.inl ⟨z, rfl, rfl⟩)
theorem sm_ts {H : Hp} {W : List Str} {c : Int} : ∀ {n : Nat} {v : V} {k : Nat}, TS H W c n v k → SmV H (n + 1) v v
  | 0, _, _, h => h.elim
  | n + 1, v, k, h => by
    obtain ⟨ks, ⟨a, s, r, rfl, e, h⟩, szs, p, _⟩ := h
    have kids : ∀ x ∈ ks, SmV H (n + 1) x x := fun x hx => by
      obtain ⟨k', hk⟩ := paired_left p x hx
      exact sm_ts hk
    refine sm_list e e fun x hx => ?_
    rcases List.mem_cons.mp hx with ex | hx
    · rw [ex]
      exact sm_str s
    · rcases h with ⟨_, _, i, rfl, _⟩ | ⟨_, _, i, rfl, _⟩ | ⟨_, rfl, _⟩ | ⟨_, _, rfl⟩ | ⟨_, _, rfl⟩
      · rw [List.mem_singleton.mp hx]
        exact sm_int i
      · rw [List.mem_singleton.mp hx]
        exact sm_int i
      · exact absurd hx List.not_mem_nil
      · exact kids x hx
      · exact kids x hx
theorem sm_right {H : Hp} {W : List Str} {c : Int} {v : V} (h : Right H W c v) : SmV H 13 v v := by
  obtain ⟨k, h, _⟩ := h
  exact sm_ts h
theorem sm_fine {H : Hp} {s t y n : V} (h : FineP H s t y n) : ∀ x ∈ [V.str "told", s, t, y, n], SmV H 14 x x := by
  obtain ⟨q, xs, q', ns, st, rt, ry, rfl, hn, ln, rn⟩ := h.ex
  have es := st.es
  subst es
  intro x hx
  simp only [List.mem_cons, List.not_mem_nil, or_false] at hx
  rcases hx with rfl | rfl | rfl | rfl | rfl
  · exact sm_str _
  · exact sm_list st.hq st.hq fun x hx => sm_right (st.rs x hx)
  · exact (sm_right rt).up
  · exact (sm_right ry).up
  · exact sm_list hn hn fun x hx => sm_right (rn x hx)
theorem BadP.str {H : Hp} {s t y n r : V} (h : BadP H s t y n r) : ∃ z, r = .str z := by
  cases h <;> exact ⟨_, rfl⟩
theorem eqv4 (d1 d2 d3 d4 e1 e2 e3 e4 : PyData) : PyData.eqv (.tuple [d1, d2, d3, d4]) (.tuple [e1, e2, e3, e4]) = (PyData.eqv d1 e1 && (PyData.eqv d2 e2 && (PyData.eqv d3 e3 && PyData.eqv d4 e4))) := by
  simp only [PyData.eqv, PyData.eqvAll, Bool.and_true]
end Q

namespace Q
open PySem L2
abbrev sLaw : Stmt := top 43
def spLaw (K : PySem.W.Frag) : Sp := fun vs H Q _ => ∃ (a : Addr) (ns : List Int), vs = [.ref a] ∧ SqL K H a (ns.map V.int) ∧ ns.length ≤ 63 ∧ ∀ H', Q (.bl true) H'
theorem exm_me {K : PySem.W.Frag} {S : Addr} (h1 : PySem.W.subIn K (.ref S) (.type "BaseException") = some true) (h2 : PySem.W.isClsIn K S = true) (h3 : PySem.W.typeIn K (.ref S) = some (.type "type")) (h4 : PySem.W.subIn K (.ref S) (.ref S) = some true) : PySem.W.exmOne K (.ref S) (.ref S) = some true := by
  have u1 : (PySem.W.subIn K (.ref S) (.type "BaseException") == some true) = true := by rw [h1] <;> rfl
  have u2 : ((PySem.W.clsIn K S).isSome && PySem.W.typeIn K (.ref S) == some (.type "type")) = true := by
    have z : (PySem.W.clsIn K S).isSome = true := h2
    rw [z, h3] <;> rfl
  show (if (PySem.W.subIn K (.ref S) (.type "BaseException") == some true) = true then (if ((PySem.W.clsIn K S).isSome && PySem.W.typeIn K (.ref S) == some (.type "type")) = true then PySem.W.subIn K (.ref S) (.ref S) else none) else none) = some true
  rw [if_pos u1, if_pos u2, h4]
/-- the defs that the law itself calls -/
structure LDefs (K : PySem.W.Frag) (mg : Str → Option Value) where
  fH : Addr
  dH : FuncData
  DH : Df K mg "_law_hand" sHand ["script"] fH dH
  fT : Addr
  dT : FuncData
  DT : Df K mg "_law_take" sTake ["hand", "many"] fT dT
  fP : Addr
  dP : FuncData
  DP : Df K mg "_law_pick" sPick ["hand", "things"] fP dP
  fI : Addr
  dI : FuncData
  DI : Df K mg "_law_is_integer" sInt ["thing"] fI dI
  fW : Addr
  dW : FuncData
  DW : Df K mg "_law_is_within" sWithin ["thing", "least", "most"] fW dW
  fE : Addr
  dE : FuncData
  DE : Df K mg "_law_same" sSame ["actual", "due"] fE dE
  fO : Addr
  dO : FuncData
  DO : Df K mg "_law_odd" sOdd ["hand"] fO dO
  fS : Addr
  dS : FuncData
  DS : Df K mg "_law_is_small" sLSm ["thing"] fS dS
  fL : Addr
  dL : FuncData
  DL : Df K mg "_law_leaf" sLeaf ["hand", "words", "cells"] fL dL
  fX : Addr
  dX : FuncData
  DX : Df K mg "_law_expression" sExpr ["hand", "words", "cells", "deep"] fX dX
  fV : Addr
  dV : FuncData
  DV : Df K mg "_law_words" sWords ["which"] fV dV
  fPP : Addr
  dPP : FuncData
  DPP : Df K mg "_law_program_parts" sPP ["hand"] fPP dPP
  fPO : Addr
  dPO : FuncData
  DPO : Df K mg "_law_program_of" sPO ["parts"] fPO dPO
  fZ : Addr
  dZ : FuncData
  DZ : Df K mg "_law_size" sSize ["tree"] fZ dZ
  fTR : Addr
  dTR : FuncData
  DTR : Df K mg "_law_tree_right" sTree ["words", "cells", "deep", "tree"] fTR dTR
  fR : Addr
  dR : FuncData
  DR : Df K mg "_law_right" sRight ["words", "cells", "tree"] fR dR
  fFB : Addr
  dFB : FuncData
  DFB : Df K mg "_law_first_bad" sFirstBad ["parts"] fFB dFB
  fC : Addr
  dC : FuncData
  DC : Df K mg "_law_chain" sChain ["many"] fC dC
  fB : Addr
  dB : FuncData
  DB : Df K mg "_law_broad" sBroad ["many"] fB dB
  fBe : Addr
  dBe : FuncData
  DBe : Df K mg "_law_bent" sBent ["hand", "tree"] fBe dBe
  fSp : Addr
  dSp : FuncData
  DSp : Df K mg "_law_spoilt" sSpo ["hand", "parts"] fSp dSp
  fM : Addr
  dM : FuncData
  DM : Df K mg "_law_made" sMade ["parts"] fM dM
section
variable {P : Program} {w : World} {K : PySem.W.Frag} {mg : Str → Option Value} {base : Heap}
theorem scLaw : FnScope ["script", "hand", "parts", "right", "k", "thing", "bad", "due"] ["script"] (defScope sLaw) := ⟨rfl, rfl, rfl, by decide +kernel, rfl, by decide +kernel, by decide +kernel⟩
theorem ok_law {f C CB fM0 fEq fBI : Addr} {fd fdM fdE fdB : FuncData} (F : Fun K "law" "law" sLaw f fd) (B : Bts mg) (O : Oth K w mg) (T : PTxt K mg C) (BT : BTxt K mg CB fBI fdB) (Q1 : EqT K C fEq fdE) (M : Mk K C fM0) (FM : Fun K "__init__" "Program.__init__" sProg fM0 fdM) (bM : Binds K fdM ["self", "starts", "to", "say", "nexts"] []) (D : PDefs K mg) (E1 : LDefs K mg) :
    FnOk P w K mg base CX0 19 f fd ["script"] (spLaw K) := by
  have GH : FnOk P w K mg base CX0 1 E1.fH E1.dH ["script"] (spHand K) := ok_hand E1.DH.F B
  have GT : FnOk P w K mg base CX0 1 E1.fT E1.dT ["hand", "many"] spTake := ok_take E1.DT.F B
  have G3 : FnOk P w K mg base CX0 6 E1.fX E1.dX ["hand", "words", "cells", "deep"] (spExpr 3) := ok_expr E1.DX B E1.DT E1.DP E1.DL 2
  have G4 : FnOk P w K mg base CX0 7 E1.fX E1.dX ["hand", "words", "cells", "deep"] (spExpr 4) := ok_expr E1.DX B E1.DT E1.DP E1.DL 3
  have GPP : FnOk P w K mg base CX0 8 E1.fPP E1.dPP ["hand"] spPP := ok_pp E1.DPP.F B E1.DT E1.DP E1.DX E1.DV G3 G4
  have GPO : FnOk P w K mg base (L2.CX P w) 8 E1.fPO E1.dPO ["parts"] (spPO C CB) := ok_po E1.DPO.F B O T D BT M FM bM
  have GM : FnOk P w K mg base CX0 9 E1.fM E1.dM ["parts"] spMade := ok_made E1.DM.F T BT E1.DPO GPO
  have GTR : FnOk P w K mg base CX0 16 E1.fTR E1.dTR ["words", "cells", "deep", "tree"] (spTree 12) := ok_tree E1.DTR B O.str E1.DS E1.DW E1.DI 12 (Nat.le_refl _)
  have GZ : FnOk P w K mg base CX0 13 E1.fZ E1.dZ ["tree"] (spSize 12) := ok_size E1.DZ B 12
  have GR : FnOk P w K mg base CX0 17 E1.fR E1.dR ["words", "cells", "tree"] spRight := ok_right E1.DR.F E1.DTR E1.DZ GTR GZ
  have GFB : FnOk P w K mg base CX0 18 E1.fFB E1.dFB ["parts"] spFB := ok_fb E1.DFB.F B E1.DR E1.DV GR
  have GBe : FnOk P w K mg base CX0 15 E1.fBe E1.dBe ["hand", "tree"] (spBent 12) := ok_bent E1.DBe B E1.DT E1.DP E1.DO E1.DC E1.DB 12
  have GSp : FnOk P w K mg base CX0 16 E1.fSp E1.dSp ["hand", "parts"] spSpo := ok_spo E1.DSp.F B E1.DT E1.DP E1.DO E1.DBe GBe
  have GE : FnOk P w K mg base CX0 16 E1.fE E1.dE ["actual", "due"] (spSame 15) := ok_same E1.DE B O.zip O.str E1.DI 15
  have GQ : FnOk P w K mg base CX0 1 fEq fdE ["self", "other"] (spEqP K C) := ok_eqp B T Q1
  refine F.ok scLaw (fun vs H Q E h => ?_) (fun cdv A outer s0 H vs Q E hr h => ?_)
  · obtain ⟨a, ns, rfl, _⟩ := h
    rfl
  · obtain ⟨a, ns, rfl, hS, hlen, k⟩ := h
    have nd := scLaw.nd
    have hu := hr.units
    have hr1 : Room 1 _ := hr.mono (by decide)
    have hr8 : Room 8 _ := hr.mono (by decide)
    have hr9 : Room 9 _ := hr.mono (by decide)
    have hr16 : Room 16 _ := hr.mono (by decide)
    refine ⟨_, pss_cons (ps_set (i := 1) nd rfl (.inl rfl) (pe_call GH hr1 rfl E1.DH.m E1.DH.k E1.DH.b .nil pass0 (pa_cons (pv 0) pa_nil)))
      (pss_cons (ps_set (i := 2) nd rfl (.inl rfl) (pe_call GPP hr8 rfl E1.DPP.m E1.DPP.k E1.DPP.b .nil pass0 (pa_cons (pv 1) pa_nil)))
      (pss_cons (ps_set (i := 3) nd rfl (.inl rfl) (pe_call GPO hr8 rfl E1.DPO.m E1.DPO.k E1.DPO.b .nil passF (pa_cons (pv 2) pa_nil)))
      (pss_cons (ps_if (PW.pt (pw_or (pt_not (pt_val (pe_call GE hr16 rfl E1.DE.m E1.DE.k E1.DE.b .nil pass0 (pa_cons (pe_call GM hr9 rfl E1.DM.m E1.DM.k E1.DM.b .nil pass0 (pa_cons (pv 2) pa_nil)) (pa_cons (pe_op op_catS (pe_tup (pa_cons pe_str pa_nil)) (pv 2)) pa_nil)))))
        (pw_or1 (pt_not (pt_cmpR (op_eqI GQ Q1.find Q1.fn Q1.nf Q1.b pass0 hr1) (pv 3) (pe_call GPO hr8 rfl E1.DPO.m E1.DPO.k E1.DPO.b .nil passF (pa_cons (pv 2) pa_nil)) (nomark _)))))) pss_never pss_nil)
      (pss_cons (ps_for PassesOwn.never rfl (pi_range1 rfl B.range (pa_cons pe_int pa_nil)) (pg_name (i := 4) nd rfl (.inl rfl))
        (pss_cons (ps_set (i := 5) nd rfl (.inl rfl) (pe_call GSp hr16 rfl E1.DSp.m E1.DSp.k E1.DSp.b .nil pass0 (pa_cons (pv 1) (pa_cons (pv 2) pa_nil))))
        (C8.pss_cut (ps_if (pt_cmpR op_eq (pe_call GT hr1 rfl E1.DT.m E1.DT.k E1.DT.b .nil pass0 (pa_cons (pv 1) (pa_cons pe_int pa_nil))) pe_int (nomark _))
          (pss_one (ps_set (i := 5) nd rfl (.inl rfl) (pe_op op_catS (pe_slice sl_C (pe_call GSp hr16 rfl E1.DSp.m E1.DSp.k E1.DSp.b .nil pass0 (pa_cons (pv 1) (pa_cons (pv 2) pa_nil))) po_none (po_some pe_int)) (pe_slice sl_C (pv 5) (po_some pe_int) po_none)))) pss_nil)
        (pss_cons (ps_set (i := 6) nd rfl (.inl rfl) (pe_call GFB hr rfl E1.DFB.m E1.DFB.k E1.DFB.b .nil pass0 (pa_cons (pv 5) pa_nil)))
        (pss_cons (ps_set (i := 7) nd rfl (.inl rfl) (pe_tup (pa_cons pe_str (pa_cons (pv 6) pa_nil))))
        (pss_cons (ps_if (pt_cmp (pc_isN (pv 6))) (pss_one (ps_set (i := 7) nd rfl (.inl rfl) (pe_op op_catS (pe_tup (pa_cons pe_str pa_nil)) (pv 5)))) pss_nil)
        (pss_cons (ps_if (pt_not (pt_val (pe_call GE hr16 rfl E1.DE.m E1.DE.k E1.DE.b .nil pass0 (pa_cons (pe_call GM hr9 rfl E1.DM.m E1.DM.k E1.DM.b .nil pass0 (pa_cons (pv 5) pa_nil)) (pa_cons (pv 7) pa_nil))))) pss_never pss_nil)
        (pss_one (ps_if (PW.pt (pw_and (pt_cmp (pc_isN (pv 6))) (pw_and1 (pt_cmpR op_ne (pe_cmpR (op_eqI GQ Q1.find Q1.fn Q1.nf Q1.b pass0 hr1) (pe_call GPO hr8 rfl E1.DPO.m E1.DPO.k E1.DPO.b .nil passF (pa_cons (pv 5) pa_nil)) (pv 3) (nomark _))
          (pe_cmpR (op_eqD hu) (pv 5) (pv 2) (nomark _)) (nomark _))))) pss_never pss_nil)))))))))
      (pss_one (ps_ret (pe_and (pe_not (pe_cmpR (op_eqI GQ Q1.find Q1.fn Q1.nf Q1.b pass0 hr1) (pv 3) (pv 2) (nomark _))) (pe_one (pe_not (pe_cmpR (op_eqI GQ Q1.find Q1.fn Q1.nf Q1.b pass0 hr1) (pv 3) (pe_ix ix_tup (pv 2) pe_int (fun _ _ => rfl)) (nomark _))))))))))), ?_⟩
    refine ⟨_, rfl, a, ns, rfl, hS, hlen, fun p l H1 g1 hp0 hl0 s1 => ?_⟩
    refine ⟨_, rfl, p, l, rfl, g1, fun pt s t y n H2 g2 x2 ept pre fine => ?_⟩
    refine ⟨_, rfl, pt, s, t, y, n, rfl, ept, pre, fun r d H' bp => (fine.not_bad bp).elim, fun _ x dx H3 ex s3 => ?_⟩
    have g3 := g2.same s3
    have ept3 := s3 _ _ ept
    have pre3 := pre.same s3
    have fine3 := fine.same pre s3
    have ne4 : ∀ {zs : List V} {h : Hp} {b : Addr}, True := trivial
    refine ⟨_, rfl, pt, s, t, y, n, rfl, ept3, pre3, fun tm H4 s4 hm => ?_⟩
    rcases hm with ⟨r, bp, _⟩ | ⟨_, etm⟩
    · exact (fine3.not_bad bp).elim
    refine ⟨(by show 1 ≤ sizeLine; decide), fun t1 n1 => ?_⟩
    have s5 := sN (o := .tup [.str "told"]) n1
    refine ⟨_, rfl, t1, pt, _, _, rfl, rfl, upd_same, s5 _ _ (s4 _ _ ept3), (by show 1 + 4 ≤ sizeLine; decide), fun td H6 s6 etd => ?_⟩
    have s36 := sT s4 (sT s5 s6)
    have fine6 := fine3.same pre3 s36
    refine ⟨_, _, rfl, (sm_list (s6 _ _ (s5 _ _ etm)) etd (sm_fine fine6)), fun H7 s7 => ⟨_, rfl, iteF ?_⟩⟩
    have s37 := sT s36 s7
    have pre7 := pre3.same s37
    have fine7 := fine3.same pre3 s37
    have ex7 := s37 _ _ ex
    refine ⟨_, rfl, _, rfl, pt, s, t, y, n, rfl, s37 _ _ ept3, pre7, fun r d H' bp => (fine7.not_bad bp).elim, fun _ x2' dx2 H8 ex2 s8 => ?_⟩
    have s38 := sT s37 s8
    have fine8 := fine3.same pre3 s38
    obtain ⟨d1, d2, d3, d4, h1, h2, h3, h4⟩ := fine_dat (K := K) fine8
    refine ⟨x, dx, _, rfl, s8 _ _ ex7, .inl ⟨x2', dx2, _, rfl, ex2⟩, x, dx, s, t, y, n, _, rfl, s8 _ _ ex7, .inl ⟨x2', dx2, s, t, y, n, d1, d2, d3, d4, d1, d2, d3, d4, rfl, ex2, h1, h2, h3, h4, h1, h2, h3, h4, ⟨_, rfl⟩, _, rfl, ?_⟩⟩
    rw [h1.2.2.2, h2.2.2.2, h3.2.2.2, h4.2.2.2]
    refine iteF ?_
    have g8 := g3.same s38
    refine ⟨5, rfl, by decide, by decide, for_range (lo := 0) (n := 5) (fun i σ H' => ∃ (z4 z5 z6 z7 : Option V), σ = [some (.ref a), some (.ref p), some (.ref pt), some (.ref x), z4, z5, z6, z7] ∧ HandAt H' p l ∧ H' pt = some (.tup [s, t, y, n]) ∧ PreP H' s t y n ∧ FineP H' s t y n ∧ H' x = some (.ins C dx (pf s t y n))) ?_ ?_ ?_⟩
    · exact ⟨none, none, none, none, rfl, g8, s38 _ _ ept3, pre3.same s38, fine8, s8 _ _ ex7⟩
    · rintro i σ H9 hi ⟨z4, z5, z6, z7, rfl, g9, ept9, pre9, fine9, ex9⟩
      have hfin : ∀ {H' : Hp}, HandAt H' p l → Ext p H9 H' → H' pt = some (.tup [s, t, y, n]) ∧ PreP H' s t y n ∧ FineP H' s t y n ∧ H' x = some (.ins C dx (pf s t y n)) := fun {H'} g' x' => by
        have gr := Grow.of_ext g9 g' x'
        obtain ⟨zs, ez⟩ := g9.hp
        refine ⟨gr.tup ept9, pre9.grow gr, ?_, x' _ _ ex9 (ne_of ex9 ez (fun z => by cases z))⟩
        obtain ⟨q, xs, q', us, st, rt, ry, en, hn, ln, rn⟩ := fine9.ex
        exact ⟨q, xs, q', us, ⟨st.es, gr.tup st.hq, st.l1, st.l4, fun x hx => (st.rs x hx).grow gr⟩, rt.grow gr, ry.grow gr, en, gr.tup hn, ln, fun x hx => (rn x hx).grow gr⟩
      refine ⟨_, rfl, _, rfl, p, l, pt, s, t, y, n, rfl, g9, ept9, pre9, fine9, fun z s' t' y' n' H10 g10 x10 ez10 pz10 => ?_⟩
      refine ⟨fun σ H' => HandAt H' p l ∧ Ext p H9 H' ∧ ∃ (z : Addr) (s' t' y' n' : V), σ = [some (.ref a), some (.ref p), some (.ref pt), some (.ref x), some (.int (0 + (i : Int))), some (.ref z), z6, z7] ∧ H' z = some (.tup [s', t', y', n']) ∧ PreP H' s' t' y' n', ?_, ?_⟩
      · refine ⟨_, rfl, p, l, 4, rfl, g10, by decide, by decide, fun d H11 e0 e1 g11 b11 => ?_⟩
        have x11 : Ext p H9 H11 := x10.but b11
        have gr11 := Grow.of_ext g10 g11 (Ext.rfl'.but b11)
        have ez11 := gr11.tup ez10
        have pz11 := pz10.grow gr11
        refine ⟨rfl, _, rfl, ite2 (fun _ => ?_) (fun _ => ?_)⟩
        · obtain ⟨a1, a2, a3, _⟩ := hfin g11 x11
          refine ⟨_, rfl, _, rfl, p, l, pt, s, t, y, n, rfl, g11, a1, a2, a3, fun zb sb tb yb nb H12 g12 x12 ez12 pz12 => ?_⟩
          refine ⟨_, rfl, zb, _, rfl, ez12, fun zc H13 s13 ec => ?_⟩
          have gr12 := Grow.of_ext g11 g12 x12
          refine ⟨_, rfl, _, rfl, z, _, rfl, s13 _ _ (gr12.tup ez11), fun zd H14 s14 ed => ?_⟩
          have ec2 : H14 zc = some (.tup [sb, tb]) := s14 _ _ ec
          have ed2 : H14 zd = some (.tup [y', n']) := ed
          refine ⟨zc, zd, [sb, tb], [y', n'], rfl, rfl, ec2, ed2, (by show 2 + 2 ≤ sizeLine; decide), fun ze H15 s15 ee => ?_⟩
          have ss := sT s13 (sT s14 s15)
          have pb := pz12.same ss
          have pa := (pz11.grow gr12).same ss
          exact ⟨g12.same ss, ((x11.trans x12).same ss), ze, sb, tb, y', n', rfl, ee, ⟨pb.s, pb.t, pa.y, pa.n⟩⟩
        · exact ⟨g11, x11, z, s', t', y', n', rfl, ez11, pz11⟩
      · clear ez10 pz10 g10 x10
        rintro σ H11 ⟨g11, x11, z, s', t', y', n', rfl, ez, pz⟩
        refine ⟨_, rfl, z, s', t', y', n', rfl, ez, pz, fun rb H12 s12 hb => ?_⟩
        refine ⟨_, rfl, (by show 2 ≤ sizeLine; decide), fun t2 n2 => ?_⟩
        have s13 : Same H11 (L2.upd H12 t2 (.tup [.str "BadProgram", rb])) := sT s12 (sN n2)
        rcases hb with bp | ⟨rfl, fz⟩
        · obtain ⟨zz, rfl⟩ := bp.str
          refine ⟨_, rfl, _, rfl, ite2 (fun c => absurd (of_decide_eq_true c) (fun e => nomatch e)) (fun _ => ?_)⟩
          refine ⟨_, rfl, z, s', t', y', n', rfl, s13 _ _ ez, pz.same s13, fun tm2 H14 s14 hm => ?_⟩
          rcases hm with ⟨r', bp', etm2⟩ | ⟨fz, _⟩
          · obtain rfl := (bp'.back pz s13).uniq bp
            have e2 : H14 t2 = some (.tup [.str "BadProgram", .str zz]) := s14 _ _ upd_same
            refine ⟨_, rfl, _, _, rfl, sm_list etm2 e2 (fun x hx => ?_), fun H15 s15 => ⟨_, rfl, iteF ?_⟩⟩
            · simp only [List.mem_cons, List.not_mem_nil, or_false] at hx
              rcases hx with rfl | rfl
              · exact sm_str _
              · exact sm_str _
            have ss := sT s13 (sT s14 s15)
            refine ⟨_, rfl, _, rfl, ite2 (fun c => absurd (of_decide_eq_true c) (fun e => nomatch e)) (fun _ => ?_)⟩
            exact ⟨_, _, _, _, rfl, g11.same ss, hfin (g11.same ss) (x11.same ss)⟩
          · exact ((fz.back pz s13).not_bad bp).elim
        · refine ⟨_, rfl, _, rfl, ite2 (fun _ => ?_) (fun c => absurd (decide_eq_true rfl) c)⟩
          refine ⟨(by show 1 ≤ sizeLine; decide), fun t3 n3 => ?_⟩
          have s14 : Same H11 (L2.upd (L2.upd H12 t2 (.tup [.str "BadProgram", .non])) t3 (.tup [.str "told"])) := sT s13 (sN n3)
          refine ⟨_, rfl, t3, z, _, _, rfl, rfl, upd_same, s14 _ _ ez, (by show 1 + 4 ≤ sizeLine; decide), fun t4 H15 s15 et4 => ?_⟩
          have s115 := sT s14 s15
          refine ⟨_, rfl, z, s', t', y', n', rfl, s115 _ _ ez, pz.same s115, fun tm2 H16 s16 hm => ?_⟩
          rcases hm with ⟨r', bp', _⟩ | ⟨_, etm2⟩
          · exact (fz.not_bad (bp'.back pz s115)).elim
          have s116 := sT s115 s16
          have fz16 := fz.same pz s116
          refine ⟨_, rfl, _, _, rfl, sm_list etm2 (s16 _ _ et4) (sm_fine fz16), fun H17 s17 => ⟨_, rfl, iteF ?_⟩⟩
          have s117 := sT s116 s17
          have fz17 := fz.same pz s117
          refine ⟨_, rfl, _, rfl, ite2 (fun _ => ?_) (fun c => absurd (decide_eq_true rfl) c)⟩
          refine ⟨_, rfl, z, s', t', y', n', rfl, s117 _ _ ez, pz.same s117, fun r d H' bp => (fz17.not_bad bp).elim, fun _ x3 dx3 H18 ex3 s18 => ?_⟩
          have s118 := sT s117 s18
          have fz18 := fz.same pz s118
          have g18 := g11.same s118
          obtain ⟨b1, b2, b3, b4⟩ := hfin g18 (x11.same s118)
          obtain ⟨d1, d2, d3, d4, h1, h2, h3, h4⟩ := fine_dat (K := K) fz18
          obtain ⟨e1, e2, e3, e4, k1, k2, k3, k4⟩ := fine_dat (K := K) b3
          refine ⟨_, rfl, x3, dx3, _, rfl, ex3, .inl ⟨x, dx, _, rfl, b4⟩, x3, dx3, s', t', y', n', _, rfl, ex3, .inl ⟨x, dx, s, t, y, n, d1, d2, d3, d4, e1, e2, e3, e4, rfl, b4, h1, h2, h3, h4, k1, k2, k3, k4, ⟨_, rfl⟩, ?_⟩⟩
          have dz : Dat K H18 15 (.ref z) (.tuple [d1, d2, d3, d4]) := .tup (s118 _ _ ez) (.cons h1 (.cons h2 (.cons h3 (.cons h4 .nil))))
          have dp : Dat K H18 15 (.ref pt) (.tuple [e1, e2, e3, e4]) := .tup b1 (.cons k1 (.cons k2 (.cons k3 (.cons k4 .nil))))
          refine ⟨_, rfl, _, rfl, _, _, dz.1, dp.1, dz.shaped (by decide), dp.shaped (by decide), rfl, _, rfl, ?_⟩
          rw [eqv4, decide_eq_true rfl]
          exact iteF ⟨_, _, _, _, rfl, g18, b1, b2, b3, b4⟩
    · rintro σ H9 ⟨z4, z5, z6, z7, rfl, g9, ept9, pre9, fine9, ex9⟩
      obtain ⟨q, xs, q', us, st, rt, ry, en, hn, ln, rn⟩ := fine9.ex
      obtain ⟨kt, tst, _⟩ := rt
      have ett : ∃ ta tz, t = .ref ta ∧ H9 ta = some (.tup tz) := by
        obtain ⟨_, ⟨aa, ss, rr, e1, e2, _⟩, _⟩ := tst
        exact ⟨aa, _, e1, e2⟩
      obtain ⟨ta, tz, rfl, eta⟩ := ett
      refine ⟨_, rfl, _, rfl, x, dx, _, rfl, ex9, .inr ⟨pt, _, rfl, ept9⟩, x, dx, s, .ref ta, y, n, _, rfl, ex9, .inr ⟨pt, _, rfl, ept9, ⟨_, rfl⟩, _, rfl, _, rfl, iteT ?_⟩⟩
      refine ⟨_, rfl, _, rfl, pt, _, 1, .ref ta, rfl, rfl, SqT.of ept9, rfl, x, dx, _, rfl, ex9, .inr ⟨ta, _, rfl, eta⟩, x, dx, s, .ref ta, y, n, _, rfl, ex9, .inr ⟨ta, _, rfl, eta, ⟨_, rfl⟩, _, rfl, ?_⟩⟩
      exact k _
end
end Q

namespace Q
open PySem L2
theorem all_mk {l : PySem.W.OpenLaw} {w : World} {K : PySem.W.Frag} {h : Heap} {mg : Str → Option Value} {fa C fM : Addr} (X : K.In h) (G : h.Ns mainGlobals mg) (hfa : mg "law" = some (.ref fa)) {tm : Tok}
    {tm1 tm2 : Tok} {aS aT aN dP : Addr} {ddS ddT ddN : Option Addr} {itS itT itN : Array Value} {nuS nuT nuN nuP : Nat} {slS slT slN : Array (Option Value)} {esP : Array DictEntry} {tx : Tok} {tz0 : Tok} {tz1 : Tok} {tz2 : Tok} {tz3 : Tok} {tz4 : Tok} {tz5 : Tok} {tz6 : Tok} {tz7 : Tok} {tz8 : Tok} {ty0 : Tok} {ty1 : Tok} {ty2 : Tok} {ty3 : Tok} {ty4 : Tok} {ty5 : Tok} {ty6 : Tok} {ty7 : Tok} {ty8 : Tok} {ty9 : Tok} {CB fB fQ : Addr} {nmB qB : Str} {NB : Addr} {bsB bmB : List Value} {snB : List Str} {subB : List Value} {abB : Bool} {colB : Option Bool} {ddB : Option Addr} {k0B k1B k2B k3B k5B : Option Value} {ocB ocQ : Value} {odB odQ anB anQ : Option Addr} {slB slQ : Array (Option Value)} {kVB dcB pmB cdB ctB kVQ dcQ pmQ cdQ ctQ : Value} {odM anM : Option Addr} {slM : Array (Option Value)} {ocM kVM dcM pmM cdM ctM : Value}
    {f0 : Addr} {od0 an0 : Option Addr} {sl0 : Array (Option Value)} {oc0 kV0 dc0 pm0 cd0 ct0 : Value}
    {f1 : Addr} {od1 an1 : Option Addr} {sl1 : Array (Option Value)} {oc1 kV1 dc1 pm1 cd1 ct1 : Value}
    {f2 : Addr} {od2 an2 : Option Addr} {sl2 : Array (Option Value)} {oc2 kV2 dc2 pm2 cd2 ct2 : Value}
    {f3 : Addr} {od3 an3 : Option Addr} {sl3 : Array (Option Value)} {oc3 kV3 dc3 pm3 cd3 ct3 : Value}
    {f4 : Addr} {od4 an4 : Option Addr} {sl4 : Array (Option Value)} {oc4 kV4 dc4 pm4 cd4 ct4 : Value}
    {f5 : Addr} {od5 an5 : Option Addr} {sl5 : Array (Option Value)} {oc5 kV5 dc5 pm5 cd5 ct5 : Value}
    {f6 : Addr} {od6 an6 : Option Addr} {sl6 : Array (Option Value)} {oc6 kV6 dc6 pm6 cd6 ct6 : Value}
    {f7 : Addr} {od7 an7 : Option Addr} {sl7 : Array (Option Value)} {oc7 kV7 dc7 pm7 cd7 ct7 : Value}
    {f8 : Addr} {od8 an8 : Option Addr} {sl8 : Array (Option Value)} {oc8 kV8 dc8 pm8 cd8 ct8 : Value}
    {f9 : Addr} {od9 an9 : Option Addr} {sl9 : Array (Option Value)} {oc9 kV9 dc9 pm9 cd9 ct9 : Value}
    {f10 : Addr} {od10 an10 : Option Addr} {sl10 : Array (Option Value)} {oc10 kV10 dc10 pm10 cd10 ct10 : Value}
    {f11 : Addr} {od11 an11 : Option Addr} {sl11 : Array (Option Value)} {oc11 kV11 dc11 pm11 cd11 ct11 : Value}
    {f12 : Addr} {od12 an12 : Option Addr} {sl12 : Array (Option Value)} {oc12 kV12 dc12 pm12 cd12 ct12 : Value}
    {f13 : Addr} {od13 an13 : Option Addr} {sl13 : Array (Option Value)} {oc13 kV13 dc13 pm13 cd13 ct13 : Value}
    {f14 : Addr} {od14 an14 : Option Addr} {sl14 : Array (Option Value)} {oc14 kV14 dc14 pm14 cd14 ct14 : Value}
    {f15 : Addr} {od15 an15 : Option Addr} {sl15 : Array (Option Value)} {oc15 kV15 dc15 pm15 cd15 ct15 : Value}
    {f16 : Addr} {od16 an16 : Option Addr} {sl16 : Array (Option Value)} {oc16 kV16 dc16 pm16 cd16 ct16 : Value}
    {f17 : Addr} {od17 an17 : Option Addr} {sl17 : Array (Option Value)} {oc17 kV17 dc17 pm17 cd17 ct17 : Value}
    {f18 : Addr} {od18 an18 : Option Addr} {sl18 : Array (Option Value)} {oc18 kV18 dc18 pm18 cd18 ct18 : Value}
    {f19 : Addr} {od19 an19 : Option Addr} {sl19 : Array (Option Value)} {oc19 kV19 dc19 pm19 cd19 ct19 : Value}
    {f20 : Addr} {od20 an20 : Option Addr} {sl20 : Array (Option Value)} {oc20 kV20 dc20 pm20 cd20 ct20 : Value}
    {f21 : Addr} {od21 an21 : Option Addr} {sl21 : Array (Option Value)} {oc21 kV21 dc21 pm21 cd21 ct21 : Value}
    {f22 : Addr} {od22 an22 : Option Addr} {sl22 : Array (Option Value)} {oc22 kV22 dc22 pm22 cd22 ct22 : Value}
    {f23 : Addr} {od23 an23 : Option Addr} {sl23 : Array (Option Value)} {oc23 kV23 dc23 pm23 cd23 ct23 : Value}
    {f24 : Addr} {od24 an24 : Option Addr} {sl24 : Array (Option Value)} {oc24 kV24 dc24 pm24 cd24 ct24 : Value}
    {f25 : Addr} {od25 an25 : Option Addr} {sl25 : Array (Option Value)} {oc25 kV25 dc25 pm25 cd25 ct25 : Value}
    {f26 : Addr} {od26 an26 : Option Addr} {sl26 : Array (Option Value)} {oc26 kV26 dc26 pm26 cd26 ct26 : Value}
    {f27 : Addr} {od27 an27 : Option Addr} {sl27 : Array (Option Value)} {oc27 kV27 dc27 pm27 cd27 ct27 : Value}
    {f28 : Addr} {od28 an28 : Option Addr} {sl28 : Array (Option Value)} {oc28 kV28 dc28 pm28 cd28 ct28 : Value}
    {f29 : Addr} {od29 an29 : Option Addr} {sl29 : Array (Option Value)} {oc29 kV29 dc29 pm29 cd29 ct29 : Value}
    (aC : PySem.W.nsIn K mainGlobals "Program" = some (some (.ref C)))
    (aO : PySem.W.nsIn K mainGlobals "MOST_STARTS" = some (some (.int 4 tm)))
    (aO1 : PySem.W.nsIn K mainGlobals "MOST_IN_ONE" = some (some (.int 60 tm1)))
    (aO2 : PySem.W.nsIn K mainGlobals "MOST_DEEP" = some (some (.int 12 tm2)))
    (aM : PySem.W.findIn K (.ref C) "__init__" = some (some (.ref fM)))
    (iM : PySem.W.isFn K (.ref fM) = true)
    (lM : K.lookup fM = some ⟨ocM, odM, .func (PySem.W.fnOf "__init__" "Program.__init__" (defArgs sProg) (defBody sProg) (defScope sProg) .none kVM dcM pmM anM cdM ctM), slM⟩)
    (cM : PySem.W.codeIn K cdM "Program.__init__" = true)
    (kM : PySem.W.keepIn K (.ref fM) = true)
    (a0 : PySem.W.nsIn K mainGlobals "is_plain_int" = some (some (.ref f0)))
    (l0 : K.lookup f0 = some ⟨oc0, od0, .func (PySem.W.fnOf "is_plain_int" "is_plain_int" (defArgs sPlain) (defBody sPlain) (defScope sPlain) .none kV0 dc0 pm0 an0 cd0 ct0), sl0⟩)
    (c0 : PySem.W.codeIn K cd0 "is_plain_int" = true)
    (k0 : PySem.W.keepIn K (.ref f0) = true)
    (a1 : PySem.W.nsIn K mainGlobals "is_number_below" = some (some (.ref f1)))
    (l1 : K.lookup f1 = some ⟨oc1, od1, .func (PySem.W.fnOf "is_number_below" "is_number_below" (defArgs sNum) (defBody sNum) (defScope sNum) .none kV1 dc1 pm1 an1 cd1 ct1), sl1⟩)
    (c1 : PySem.W.codeIn K cd1 "is_number_below" = true)
    (k1 : PySem.W.keepIn K (.ref f1) = true)
    (a2 : PySem.W.nsIn K mainGlobals "is_small" = some (some (.ref f2)))
    (l2 : K.lookup f2 = some ⟨oc2, od2, .func (PySem.W.fnOf "is_small" "is_small" (defArgs sSmall) (defBody sSmall) (defScope sSmall) .none kV2 dc2 pm2 an2 cd2 ct2), sl2⟩)
    (c2 : PySem.W.codeIn K cd2 "is_small" = true)
    (k2 : PySem.W.keepIn K (.ref f2) = true)
    (a3 : PySem.W.nsIn K mainGlobals "begins_well" = some (some (.ref f3)))
    (l3 : K.lookup f3 = some ⟨oc3, od3, .func (PySem.W.fnOf "begins_well" "begins_well" (defArgs sBegins) (defBody sBegins) (defScope sBegins) .none kV3 dc3 pm3 an3 cd3 ct3), sl3⟩)
    (c3 : PySem.W.codeIn K cd3 "begins_well" = true)
    (k3 : PySem.W.keepIn K (.ref f3) = true)
    (a4 : PySem.W.nsIn K mainGlobals "inner_parts" = some (some (.ref f4)))
    (l4 : K.lookup f4 = some ⟨oc4, od4, .func (PySem.W.fnOf "inner_parts" "inner_parts" (defArgs sInner) (defBody sInner) (defScope sInner) .none kV4 dc4 pm4 an4 cd4 ct4), sl4⟩)
    (c4 : PySem.W.codeIn K cd4 "inner_parts" = true)
    (k4 : PySem.W.keepIn K (.ref f4) = true)
    (a5 : PySem.W.nsIn K mainGlobals "is_expression" = some (some (.ref f5)))
    (l5 : K.lookup f5 = some ⟨oc5, od5, .func (PySem.W.fnOf "is_expression" "is_expression" (defArgs sIsEx) (defBody sIsEx) (defScope sIsEx) .none kV5 dc5 pm5 an5 cd5 ct5), sl5⟩)
    (c5 : PySem.W.codeIn K cd5 "is_expression" = true)
    (k5 : PySem.W.keepIn K (.ref f5) = true)
    (a6 : PySem.W.nsIn K mainGlobals "are_expressions" = some (some (.ref f6)))
    (l6 : K.lookup f6 = some ⟨oc6, od6, .func (PySem.W.fnOf "are_expressions" "are_expressions" (defArgs sAre) (defBody sAre) (defScope sAre) .none kV6 dc6 pm6 an6 cd6 ct6), sl6⟩)
    (c6 : PySem.W.codeIn K cd6 "are_expressions" = true)
    (k6 : PySem.W.keepIn K (.ref f6) = true)
    (a7 : PySem.W.nsIn K mainGlobals "_law_hand" = some (some (.ref f7)))
    (l7 : K.lookup f7 = some ⟨oc7, od7, .func (PySem.W.fnOf "_law_hand" "_law_hand" (defArgs sHand) (defBody sHand) (defScope sHand) .none kV7 dc7 pm7 an7 cd7 ct7), sl7⟩)
    (c7 : PySem.W.codeIn K cd7 "_law_hand" = true)
    (k7 : PySem.W.keepIn K (.ref f7) = true)
    (a8 : PySem.W.nsIn K mainGlobals "_law_take" = some (some (.ref f8)))
    (l8 : K.lookup f8 = some ⟨oc8, od8, .func (PySem.W.fnOf "_law_take" "_law_take" (defArgs sTake) (defBody sTake) (defScope sTake) .none kV8 dc8 pm8 an8 cd8 ct8), sl8⟩)
    (c8 : PySem.W.codeIn K cd8 "_law_take" = true)
    (k8 : PySem.W.keepIn K (.ref f8) = true)
    (a9 : PySem.W.nsIn K mainGlobals "_law_pick" = some (some (.ref f9)))
    (l9 : K.lookup f9 = some ⟨oc9, od9, .func (PySem.W.fnOf "_law_pick" "_law_pick" (defArgs sPick) (defBody sPick) (defScope sPick) .none kV9 dc9 pm9 an9 cd9 ct9), sl9⟩)
    (c9 : PySem.W.codeIn K cd9 "_law_pick" = true)
    (k9 : PySem.W.keepIn K (.ref f9) = true)
    (a10 : PySem.W.nsIn K mainGlobals "_law_is_integer" = some (some (.ref f10)))
    (l10 : K.lookup f10 = some ⟨oc10, od10, .func (PySem.W.fnOf "_law_is_integer" "_law_is_integer" (defArgs sInt) (defBody sInt) (defScope sInt) .none kV10 dc10 pm10 an10 cd10 ct10), sl10⟩)
    (c10 : PySem.W.codeIn K cd10 "_law_is_integer" = true)
    (k10 : PySem.W.keepIn K (.ref f10) = true)
    (a11 : PySem.W.nsIn K mainGlobals "_law_is_within" = some (some (.ref f11)))
    (l11 : K.lookup f11 = some ⟨oc11, od11, .func (PySem.W.fnOf "_law_is_within" "_law_is_within" (defArgs sWithin) (defBody sWithin) (defScope sWithin) .none kV11 dc11 pm11 an11 cd11 ct11), sl11⟩)
    (c11 : PySem.W.codeIn K cd11 "_law_is_within" = true)
    (k11 : PySem.W.keepIn K (.ref f11) = true)
    (a12 : PySem.W.nsIn K mainGlobals "_law_same" = some (some (.ref f12)))
    (l12 : K.lookup f12 = some ⟨oc12, od12, .func (PySem.W.fnOf "_law_same" "_law_same" (defArgs sSame) (defBody sSame) (defScope sSame) .none kV12 dc12 pm12 an12 cd12 ct12), sl12⟩)
    (c12 : PySem.W.codeIn K cd12 "_law_same" = true)
    (k12 : PySem.W.keepIn K (.ref f12) = true)
    (a13 : PySem.W.nsIn K mainGlobals "_law_odd" = some (some (.ref f13)))
    (l13 : K.lookup f13 = some ⟨oc13, od13, .func (PySem.W.fnOf "_law_odd" "_law_odd" (defArgs sOdd) (defBody sOdd) (defScope sOdd) .none kV13 dc13 pm13 an13 cd13 ct13), sl13⟩)
    (c13 : PySem.W.codeIn K cd13 "_law_odd" = true)
    (k13 : PySem.W.keepIn K (.ref f13) = true)
    (a14 : PySem.W.nsIn K mainGlobals "_law_is_small" = some (some (.ref f14)))
    (l14 : K.lookup f14 = some ⟨oc14, od14, .func (PySem.W.fnOf "_law_is_small" "_law_is_small" (defArgs sLSm) (defBody sLSm) (defScope sLSm) .none kV14 dc14 pm14 an14 cd14 ct14), sl14⟩)
    (c14 : PySem.W.codeIn K cd14 "_law_is_small" = true)
    (k14 : PySem.W.keepIn K (.ref f14) = true)
    (a15 : PySem.W.nsIn K mainGlobals "_law_leaf" = some (some (.ref f15)))
    (l15 : K.lookup f15 = some ⟨oc15, od15, .func (PySem.W.fnOf "_law_leaf" "_law_leaf" (defArgs sLeaf) (defBody sLeaf) (defScope sLeaf) .none kV15 dc15 pm15 an15 cd15 ct15), sl15⟩)
    (c15 : PySem.W.codeIn K cd15 "_law_leaf" = true)
    (k15 : PySem.W.keepIn K (.ref f15) = true)
    (a16 : PySem.W.nsIn K mainGlobals "_law_expression" = some (some (.ref f16)))
    (l16 : K.lookup f16 = some ⟨oc16, od16, .func (PySem.W.fnOf "_law_expression" "_law_expression" (defArgs sExpr) (defBody sExpr) (defScope sExpr) .none kV16 dc16 pm16 an16 cd16 ct16), sl16⟩)
    (c16 : PySem.W.codeIn K cd16 "_law_expression" = true)
    (k16 : PySem.W.keepIn K (.ref f16) = true)
    (a17 : PySem.W.nsIn K mainGlobals "_law_words" = some (some (.ref f17)))
    (l17 : K.lookup f17 = some ⟨oc17, od17, .func (PySem.W.fnOf "_law_words" "_law_words" (defArgs sWords) (defBody sWords) (defScope sWords) .none kV17 dc17 pm17 an17 cd17 ct17), sl17⟩)
    (c17 : PySem.W.codeIn K cd17 "_law_words" = true)
    (k17 : PySem.W.keepIn K (.ref f17) = true)
    (a18 : PySem.W.nsIn K mainGlobals "_law_program_parts" = some (some (.ref f18)))
    (l18 : K.lookup f18 = some ⟨oc18, od18, .func (PySem.W.fnOf "_law_program_parts" "_law_program_parts" (defArgs sPP) (defBody sPP) (defScope sPP) .none kV18 dc18 pm18 an18 cd18 ct18), sl18⟩)
    (c18 : PySem.W.codeIn K cd18 "_law_program_parts" = true)
    (k18 : PySem.W.keepIn K (.ref f18) = true)
    (a19 : PySem.W.nsIn K mainGlobals "_law_program_of" = some (some (.ref f19)))
    (l19 : K.lookup f19 = some ⟨oc19, od19, .func (PySem.W.fnOf "_law_program_of" "_law_program_of" (defArgs sPO) (defBody sPO) (defScope sPO) .none kV19 dc19 pm19 an19 cd19 ct19), sl19⟩)
    (c19 : PySem.W.codeIn K cd19 "_law_program_of" = true)
    (k19 : PySem.W.keepIn K (.ref f19) = true)
    (a20 : PySem.W.nsIn K mainGlobals "_law_size" = some (some (.ref f20)))
    (l20 : K.lookup f20 = some ⟨oc20, od20, .func (PySem.W.fnOf "_law_size" "_law_size" (defArgs sSize) (defBody sSize) (defScope sSize) .none kV20 dc20 pm20 an20 cd20 ct20), sl20⟩)
    (c20 : PySem.W.codeIn K cd20 "_law_size" = true)
    (k20 : PySem.W.keepIn K (.ref f20) = true)
    (a21 : PySem.W.nsIn K mainGlobals "_law_tree_right" = some (some (.ref f21)))
    (l21 : K.lookup f21 = some ⟨oc21, od21, .func (PySem.W.fnOf "_law_tree_right" "_law_tree_right" (defArgs sTree) (defBody sTree) (defScope sTree) .none kV21 dc21 pm21 an21 cd21 ct21), sl21⟩)
    (c21 : PySem.W.codeIn K cd21 "_law_tree_right" = true)
    (k21 : PySem.W.keepIn K (.ref f21) = true)
    (a22 : PySem.W.nsIn K mainGlobals "_law_right" = some (some (.ref f22)))
    (l22 : K.lookup f22 = some ⟨oc22, od22, .func (PySem.W.fnOf "_law_right" "_law_right" (defArgs sRight) (defBody sRight) (defScope sRight) .none kV22 dc22 pm22 an22 cd22 ct22), sl22⟩)
    (c22 : PySem.W.codeIn K cd22 "_law_right" = true)
    (k22 : PySem.W.keepIn K (.ref f22) = true)
    (a23 : PySem.W.nsIn K mainGlobals "_law_first_bad" = some (some (.ref f23)))
    (l23 : K.lookup f23 = some ⟨oc23, od23, .func (PySem.W.fnOf "_law_first_bad" "_law_first_bad" (defArgs sFirstBad) (defBody sFirstBad) (defScope sFirstBad) .none kV23 dc23 pm23 an23 cd23 ct23), sl23⟩)
    (c23 : PySem.W.codeIn K cd23 "_law_first_bad" = true)
    (k23 : PySem.W.keepIn K (.ref f23) = true)
    (a24 : PySem.W.nsIn K mainGlobals "_law_chain" = some (some (.ref f24)))
    (l24 : K.lookup f24 = some ⟨oc24, od24, .func (PySem.W.fnOf "_law_chain" "_law_chain" (defArgs sChain) (defBody sChain) (defScope sChain) .none kV24 dc24 pm24 an24 cd24 ct24), sl24⟩)
    (c24 : PySem.W.codeIn K cd24 "_law_chain" = true)
    (k24 : PySem.W.keepIn K (.ref f24) = true)
    (a25 : PySem.W.nsIn K mainGlobals "_law_broad" = some (some (.ref f25)))
    (l25 : K.lookup f25 = some ⟨oc25, od25, .func (PySem.W.fnOf "_law_broad" "_law_broad" (defArgs sBroad) (defBody sBroad) (defScope sBroad) .none kV25 dc25 pm25 an25 cd25 ct25), sl25⟩)
    (c25 : PySem.W.codeIn K cd25 "_law_broad" = true)
    (k25 : PySem.W.keepIn K (.ref f25) = true)
    (a26 : PySem.W.nsIn K mainGlobals "_law_bent" = some (some (.ref f26)))
    (l26 : K.lookup f26 = some ⟨oc26, od26, .func (PySem.W.fnOf "_law_bent" "_law_bent" (defArgs sBent) (defBody sBent) (defScope sBent) .none kV26 dc26 pm26 an26 cd26 ct26), sl26⟩)
    (c26 : PySem.W.codeIn K cd26 "_law_bent" = true)
    (k26 : PySem.W.keepIn K (.ref f26) = true)
    (a27 : PySem.W.nsIn K mainGlobals "_law_spoilt" = some (some (.ref f27)))
    (l27 : K.lookup f27 = some ⟨oc27, od27, .func (PySem.W.fnOf "_law_spoilt" "_law_spoilt" (defArgs sSpo) (defBody sSpo) (defScope sSpo) .none kV27 dc27 pm27 an27 cd27 ct27), sl27⟩)
    (c27 : PySem.W.codeIn K cd27 "_law_spoilt" = true)
    (k27 : PySem.W.keepIn K (.ref f27) = true)
    (a28 : PySem.W.nsIn K mainGlobals "_law_made" = some (some (.ref f28)))
    (l28 : K.lookup f28 = some ⟨oc28, od28, .func (PySem.W.fnOf "_law_made" "_law_made" (defArgs sMade) (defBody sMade) (defScope sMade) .none kV28 dc28 pm28 an28 cd28 ct28), sl28⟩)
    (c28 : PySem.W.codeIn K cd28 "_law_made" = true)
    (k28 : PySem.W.keepIn K (.ref f28) = true)
    (a29 : PySem.W.nsIn K mainGlobals "law" = some (some (.ref f29)))
    (l29 : K.lookup f29 = some ⟨oc29, od29, .func (PySem.W.fnOf "law" "law" (defArgs sLaw) (defBody sLaw) (defScope sLaw) .none kV29 dc29 pm29 an29 cd29 ct29), sl29⟩)
    (c29 : PySem.W.codeIn K cd29 "law" = true)
    (k29 : PySem.W.keepIn K (.ref f29) = true)
    (pg : PySem.W.plainGet K C Str.empty = true)
    (hd : PySem.W.hasDictIn K C = true)
    (po : PySem.W.plainOver K C = true)
    (sa : PySem.W.findIn K (.ref C) "__setattr__" = some (some (.builtin "object.__setattr__")))
    (mk : PySem.W.makesIn K C = true)
    (kc : PySem.W.keepIn K (.ref C) = true)
    (wN : PySem.W.nsIn K mainGlobals "BadProgram" = some (some (.ref CB)))
    (wl : K.lookup CB = some (PySem.excClassObj nmB qB CB NB bsB bmB true snB subB abB colB ddB k0B k1B k2B k3B k5B "ValueError.__new__"))
    (wbm : PySem.HandSPX.refsVE bmB = true)
    (wi : PySem.W.findIn K (.ref CB) "__init__" = some (some (.ref fB)))
    (wt : PySem.W.typeIn K (.ref fB) = some (.type "function"))
    (wk : PySem.W.keepIn K (.ref CB) = true)
    (wb : PySem.W.subIn K (.ref CB) (.type "BaseException") = some true)
    (wy : PySem.W.typeIn K (.ref CB) = some (.type "type"))
    (ws : PySem.W.subIn K (.ref CB) (.ref CB) = some true)
    (wz : PySem.W.isClsIn K CB = true)
    (wsa : PySem.W.findIn K (.ref CB) "__setattr__" = some (some (.builtin "object.__setattr__")))
    (wp : PySem.W.findIn K (.ref CB) "part" = some none)
    (wga : PySem.W.findIn K (.ref CB) "__getattribute__" = some (some (.builtin "BaseException.__getattribute__")))
    (wgg : PySem.W.findIn K (.ref CB) "__getattr__" = some none)
    (whd : PySem.W.hasDictIn K CB = true)
    (wf : K.lookup fB = some ⟨ocB, odB, .func (PySem.W.fnOf "__init__" "BadProgram.__init__" (defArgs sPart) (defBody sPart) (defScope sPart) .none kVB dcB pmB anB cdB ctB), slB⟩)
    (wc : PySem.W.codeIn K cdB "BadProgram.__init__" = true)
    (wfk : PySem.W.keepIn K (.ref fB) = true)
    (ef : PySem.W.findIn K (.ref C) "__eq__" = some (some (.ref fQ)))
    (ei : PySem.W.isFn K (.ref fQ) = true)
    (el : K.lookup fQ = some ⟨ocQ, odQ, .func (PySem.W.fnOf "__eq__" "Program.__eq__" (defArgs sEq) (defBody sEq) (defScope sEq) .none kVQ dcQ pmQ anQ cdQ ctQ), slQ⟩)
    (ec : PySem.W.codeIn K cdQ "Program.__eq__" = true)
    (ek : PySem.W.keepIn K (.ref fQ) = true)
    (eha : PySem.W.findIn K (.ref C) "__class__" = some (some (.builtin "object.__class__")))
    (ehn : PySem.W.specialIn K (.builtin "object.__class__") "__get__" = some (some (.builtin "getset_descriptor.__get__")))
    (eht : PySem.W.takesIn K (.builtin "object.__class__") = some true)
    (ehm : PySem.W.mroIn K C (.type "object") = some true)
    (eis : PySem.W.isClsIn K C = true)
    (ety : PySem.W.typeIn K (.ref C) = some (.type "type"))
    (ent : PySem.W.subIn K (.type "tuple") (.ref C) = some false)
    (enf : PySem.W.notFirst K C (.type "tuple") = true)
    (zz : PySem.W.nsIn K mainGlobals "zip" = some none)
    (zs : PySem.W.nsIn K mainGlobals "str" = some none)
    (n1 : PySem.W.findIn K (.ref C) "starts" = some none)
    (n2 : PySem.W.findIn K (.ref C) "to" = some none)
    (n3 : PySem.W.findIn K (.ref C) "say" = some none)
    (n4 : PySem.W.findIn K (.ref C) "nexts" = some none)
    (za : PySem.W.nsIn K mainGlobals "all" = some none)
    (gS : PySem.W.nsIn K mainGlobals "NOT_IN_STARTS" = some (some (.ref aS)))
    (oS : K.lookup aS = some ⟨.type "tuple", ddS, .seq itS nuS, slS⟩)
    (sS : itS.size ≤ 64)
    (vS : Vals (bS.map V.str) itS.toList)
    (gT : PySem.W.nsIn K mainGlobals "NOT_IN_SAYINGS" = some (some (.ref aT)))
    (oT : K.lookup aT = some ⟨.type "tuple", ddT, .seq itT nuT, slT⟩)
    (sT : itT.size ≤ 64)
    (vT : Vals (bT.map V.str) itT.toList)
    (gN : PySem.W.nsIn K mainGlobals "NOT_IN_NEXTS" = some (some (.ref aN)))
    (oN : K.lookup aN = some ⟨.type "tuple", ddN, .seq itN nuN, slN⟩)
    (sN : itN.size ≤ 64)
    (vN : Vals (bN.map V.str) itN.toList)
    (gP : PySem.W.nsIn K mainGlobals "PARTS" = some (some (.ref dP)))
    (oP : K.lookup dP = some ⟨.type "dict", none, .dict esP nuP, #[]⟩)
    (kP : PySem.W.KeysLit w.params esP.toList)
    (lP : (dP == sysModules) = false)
    (p0_0 : PySem.W.nsIn K dP "me" = some (some (.int 0 tz0)))
    (p0_1 : PySem.W.nsIn K dP "many" = some (some (.int 0 tz1)))
    (p0_2 : PySem.W.nsIn K dP "ties" = some (some (.int 0 tz2)))
    (p0_3 : PySem.W.nsIn K dP "round" = some (some (.int 0 tz3)))
    (p0_4 : PySem.W.nsIn K dP "other" = some (some (.int 0 tz4)))
    (p0_5 : PySem.W.nsIn K dP "heard" = some (some (.int 0 tz5)))
    (p0_6 : PySem.W.nsIn K dP "sum" = some (some (.int 0 tz6)))
    (p0_7 : PySem.W.nsIn K dP "least" = some (some (.int 0 tz7)))
    (p0_8 : PySem.W.nsIn K dP "most" = some (some (.int 0 tz8)))
    (p2_0 : PySem.W.nsIn K dP "add" = some (some (.int 2 ty0)))
    (p2_1 : PySem.W.nsIn K dP "sub" = some (some (.int 2 ty1)))
    (p2_2 : PySem.W.nsIn K dP "mul" = some (some (.int 2 ty2)))
    (p2_3 : PySem.W.nsIn K dP "min" = some (some (.int 2 ty3)))
    (p2_4 : PySem.W.nsIn K dP "max" = some (some (.int 2 ty4)))
    (p2_5 : PySem.W.nsIn K dP "less" = some (some (.int 2 ty5)))
    (p2_6 : PySem.W.nsIn K dP "same" = some (some (.int 2 ty6)))
    (p2_7 : PySem.W.nsIn K dP "and" = some (some (.int 2 ty7)))
    (p2_8 : PySem.W.nsIn K dP "or" = some (some (.int 2 ty8)))
    (p2_9 : PySem.W.nsIn K dP "rest" = some (some (.int 2 ty9)))
    (p3 : PySem.W.nsIn K dP "if" = some (some (.int 3 tx)))
    (pn_0 : PySem.W.nsIn K dP "Add" = some none)
    (pn_1 : PySem.W.nsIn K dP "0" = some none)
    (pn_2 : PySem.W.nsIn K dP "" = some none)
    (z_len : PySem.W.nsIn K mainGlobals "len" = some none)
    (z_int : PySem.W.nsIn K mainGlobals "int" = some none)
    (z_list : PySem.W.nsIn K mainGlobals "list" = some none)
    (z_range : PySem.W.nsIn K mainGlobals "range" = some none)
    (z_min : PySem.W.nsIn K mainGlobals "min" = some none)
    (z_max : PySem.W.nsIn K mainGlobals "max" = some none)
    (z_tuple : PySem.W.nsIn K mainGlobals "tuple" = some none)
    (z_sorted : PySem.W.nsIn K mainGlobals "sorted" = some none)
    (z_set : PySem.W.nsIn K mainGlobals "set" = some none)
    (z_isinstance : PySem.W.nsIn K mainGlobals "isinstance" = some none)
    (z_enumerate : PySem.W.nsIn K mainGlobals "enumerate" = some none)
    (z_bool : PySem.W.nsIn K mainGlobals "bool" = some none)
    : ∃ fd : FuncData, (∀ (s : Shared) (v : Value), BindsTo s fd ⟨[v], []⟩ [("script", v)]) ∧ ∀ base : Heap, K.In base → base.Ns mainGlobals mg → FnOk l.prog w K mg base CX0 19 fa fd ["script"] (spLaw K) := by
  have e := hfa.symm.trans (PySem.W.mg_of X G a29)
  cases e
  have T : PTxt K mg C := ⟨⟨pg, hd, po, sa⟩, n1, n2, n3, n4, PySem.W.mg_of X G aC, ⟨aS, PySem.W.mg_of X G gS, ⟨_, _, _, oS, rfl, rfl, Nat.le_trans sS (by decide), vS⟩⟩, ⟨aT, PySem.W.mg_of X G gT, ⟨_, _, _, oT, rfl, rfl, Nat.le_trans sT (by decide), vT⟩⟩, ⟨aN, PySem.W.mg_of X G gN, ⟨_, _, _, oN, rfl, rfl, Nat.le_trans sN (by decide), vN⟩⟩⟩
  have PZ : ∀ s ∈ zeroL, ∃ t, PySem.W.nsIn K dP s = some (some (.int 0 t)) := by
    intro s hs
    simp only [zeroL, List.mem_cons, List.not_mem_nil, or_false] at hs
    rcases hs with rfl | rfl | rfl | rfl | rfl | rfl | rfl | rfl | rfl
    · exact ⟨_, p0_0⟩
    · exact ⟨_, p0_1⟩
    · exact ⟨_, p0_2⟩
    · exact ⟨_, p0_3⟩
    · exact ⟨_, p0_4⟩
    · exact ⟨_, p0_5⟩
    · exact ⟨_, p0_6⟩
    · exact ⟨_, p0_7⟩
    · exact ⟨_, p0_8⟩
  have PO2 : ∀ s ∈ opsL, ∃ t, PySem.W.nsIn K dP s = some (some (.int 2 t)) := by
    intro s hs
    simp only [opsL, List.mem_cons, List.not_mem_nil, or_false] at hs
    rcases hs with rfl | rfl | rfl | rfl | rfl | rfl | rfl | rfl | rfl | rfl
    · exact ⟨_, p2_0⟩
    · exact ⟨_, p2_1⟩
    · exact ⟨_, p2_2⟩
    · exact ⟨_, p2_3⟩
    · exact ⟨_, p2_4⟩
    · exact ⟨_, p2_5⟩
    · exact ⟨_, p2_6⟩
    · exact ⟨_, p2_7⟩
    · exact ⟨_, p2_8⟩
    · exact ⟨_, p2_9⟩
  have PN : ∀ s ∈ noneL, PySem.W.nsIn K dP s = some none := by
    intro s hs
    simp only [noneL, List.mem_cons, List.not_mem_nil, or_false] at hs
    rcases hs with rfl | rfl | rfl
    · exact pn_0
    · exact pn_1
    · exact pn_2
  have OO : Oth K w mg := ⟨PySem.W.mg_none_of X G zs, PySem.W.mg_none_of X G za, PySem.W.mg_none_of X G zz, ⟨dP, esP, nuP, ⟨oP, kP, lP⟩, PySem.W.mg_of X G gP, PZ, PO2, ⟨_, p3⟩, PN⟩, ⟨⟨_, PySem.W.mg_of X G aO1⟩, ⟨_, PySem.W.mg_of X G aO2⟩, ⟨_, PySem.W.mg_of X G aO⟩⟩⟩
  have B : Bts mg := ⟨PySem.W.mg_none_of X G z_len, PySem.W.mg_none_of X G z_int, PySem.W.mg_none_of X G z_list, PySem.W.mg_none_of X G z_range, PySem.W.mg_none_of X G z_min, PySem.W.mg_none_of X G z_max, PySem.W.mg_none_of X G z_tuple, PySem.W.mg_none_of X G z_sorted, PySem.W.mg_none_of X G z_set, PySem.W.mg_none_of X G z_isinstance, PySem.W.mg_none_of X G z_enumerate, PySem.W.mg_none_of X G z_bool⟩
  have FB0 := fun_mk (st := sPart) wf wc wfk
  have BT : BTxt K mg CB fB _ := ⟨⟨⟨nmB, qB, NB, bsB, bmB, snB, subB, abB, colB, ddB, k0B, k1B, k2B, k3B, k5B, wl, wbm⟩, wsa, wb, wy, wk⟩, wi, wt, FB0, FB0.binds (ps := ["self", "part"]) (fun _ _ _ _ _ _ us hl => match us, hl with | [_, _], _ => rfl), wp, PySem.W.mg_of X G wN, exm_me wb wz wy ws, ⟨wga, wgg, wb, whd⟩⟩
  have FQ0 := fun_mk (st := sEq) el ec ek
  have QT : EqT K C fQ _ := ⟨ef, ei, FQ0, FQ0.binds (ps := ["self", "other"]) (fun _ _ _ _ _ _ us hl => match us, hl with | [_, _], _ => rfl), eha, ehn, eht, ehm, eis, ety, ent, enf⟩
  have FM := fun_mk (st := sProg) lM cM kM
  have bM := FM.binds (ps := ["self", "starts", "to", "say", "nexts"]) fun _ _ _ _ _ _ us hl => match us, hl with | [_, _, _, _, _], _ => rfl
  have F0 := fun_mk (st := sPlain) l0 c0 k0
  have D0 : Df K mg "is_plain_int" sPlain ["thing"] f0 _ := ⟨F0, PySem.W.mg_of X G a0, F0.binds (ps := ["thing"]) fun _ _ _ _ _ _ us hl => match us, hl with | [_], _ => rfl⟩
  have F1 := fun_mk (st := sNum) l1 c1 k1
  have D1 : Df K mg "is_number_below" sNum ["limit", "thing"] f1 _ := ⟨F1, PySem.W.mg_of X G a1, F1.binds (ps := ["limit", "thing"]) fun _ _ _ _ _ _ us hl => match us, hl with | [_, _], _ => rfl⟩
  have F2 := fun_mk (st := sSmall) l2 c2 k2
  have D2 : Df K mg "is_small" sSmall ["thing"] f2 _ := ⟨F2, PySem.W.mg_of X G a2, F2.binds (ps := ["thing"]) fun _ _ _ _ _ _ us hl => match us, hl with | [_], _ => rfl⟩
  have F3 := fun_mk (st := sBegins) l3 c3 k3
  have D3 : Df K mg "begins_well" sBegins ["barred", "cells", "thing"] f3 _ := ⟨F3, PySem.W.mg_of X G a3, F3.binds (ps := ["barred", "cells", "thing"]) fun _ _ _ _ _ _ us hl => match us, hl with | [_, _, _], _ => rfl⟩
  have F4 := fun_mk (st := sInner) l4 c4 k4
  have D4 : Df K mg "inner_parts" sInner ["expression"] f4 _ := ⟨F4, PySem.W.mg_of X G a4, F4.binds (ps := ["expression"]) fun _ _ _ _ _ _ us hl => match us, hl with | [_], _ => rfl⟩
  have F5 := fun_mk (st := sIsEx) l5 c5 k5
  have D5 : Df K mg "is_expression" sIsEx ["barred", "cells", "thing"] f5 _ := ⟨F5, PySem.W.mg_of X G a5, F5.binds (ps := ["barred", "cells", "thing"]) fun _ _ _ _ _ _ us hl => match us, hl with | [_, _, _], _ => rfl⟩
  have F6 := fun_mk (st := sAre) l6 c6 k6
  have D6 : Df K mg "are_expressions" sAre ["barred", "cells", "things"] f6 _ := ⟨F6, PySem.W.mg_of X G a6, F6.binds (ps := ["barred", "cells", "things"]) fun _ _ _ _ _ _ us hl => match us, hl with | [_, _, _], _ => rfl⟩
  have F7 := fun_mk (st := sHand) l7 c7 k7
  have D7 : Df K mg "_law_hand" sHand ["script"] f7 _ := ⟨F7, PySem.W.mg_of X G a7, F7.binds (ps := ["script"]) fun _ _ _ _ _ _ us hl => match us, hl with | [_], _ => rfl⟩
  have F8 := fun_mk (st := sTake) l8 c8 k8
  have D8 : Df K mg "_law_take" sTake ["hand", "many"] f8 _ := ⟨F8, PySem.W.mg_of X G a8, F8.binds (ps := ["hand", "many"]) fun _ _ _ _ _ _ us hl => match us, hl with | [_, _], _ => rfl⟩
  have F9 := fun_mk (st := sPick) l9 c9 k9
  have D9 : Df K mg "_law_pick" sPick ["hand", "things"] f9 _ := ⟨F9, PySem.W.mg_of X G a9, F9.binds (ps := ["hand", "things"]) fun _ _ _ _ _ _ us hl => match us, hl with | [_, _], _ => rfl⟩
  have F10 := fun_mk (st := sInt) l10 c10 k10
  have D10 : Df K mg "_law_is_integer" sInt ["thing"] f10 _ := ⟨F10, PySem.W.mg_of X G a10, F10.binds (ps := ["thing"]) fun _ _ _ _ _ _ us hl => match us, hl with | [_], _ => rfl⟩
  have F11 := fun_mk (st := sWithin) l11 c11 k11
  have D11 : Df K mg "_law_is_within" sWithin ["thing", "least", "most"] f11 _ := ⟨F11, PySem.W.mg_of X G a11, F11.binds (ps := ["thing", "least", "most"]) fun _ _ _ _ _ _ us hl => match us, hl with | [_, _, _], _ => rfl⟩
  have F12 := fun_mk (st := sSame) l12 c12 k12
  have D12 : Df K mg "_law_same" sSame ["actual", "due"] f12 _ := ⟨F12, PySem.W.mg_of X G a12, F12.binds (ps := ["actual", "due"]) fun _ _ _ _ _ _ us hl => match us, hl with | [_, _], _ => rfl⟩
  have F13 := fun_mk (st := sOdd) l13 c13 k13
  have D13 : Df K mg "_law_odd" sOdd ["hand"] f13 _ := ⟨F13, PySem.W.mg_of X G a13, F13.binds (ps := ["hand"]) fun _ _ _ _ _ _ us hl => match us, hl with | [_], _ => rfl⟩
  have F14 := fun_mk (st := sLSm) l14 c14 k14
  have D14 : Df K mg "_law_is_small" sLSm ["thing"] f14 _ := ⟨F14, PySem.W.mg_of X G a14, F14.binds (ps := ["thing"]) fun _ _ _ _ _ _ us hl => match us, hl with | [_], _ => rfl⟩
  have F15 := fun_mk (st := sLeaf) l15 c15 k15
  have D15 : Df K mg "_law_leaf" sLeaf ["hand", "words", "cells"] f15 _ := ⟨F15, PySem.W.mg_of X G a15, F15.binds (ps := ["hand", "words", "cells"]) fun _ _ _ _ _ _ us hl => match us, hl with | [_, _, _], _ => rfl⟩
  have F16 := fun_mk (st := sExpr) l16 c16 k16
  have D16 : Df K mg "_law_expression" sExpr ["hand", "words", "cells", "deep"] f16 _ := ⟨F16, PySem.W.mg_of X G a16, F16.binds (ps := ["hand", "words", "cells", "deep"]) fun _ _ _ _ _ _ us hl => match us, hl with | [_, _, _, _], _ => rfl⟩
  have F17 := fun_mk (st := sWords) l17 c17 k17
  have D17 : Df K mg "_law_words" sWords ["which"] f17 _ := ⟨F17, PySem.W.mg_of X G a17, F17.binds (ps := ["which"]) fun _ _ _ _ _ _ us hl => match us, hl with | [_], _ => rfl⟩
  have F18 := fun_mk (st := sPP) l18 c18 k18
  have D18 : Df K mg "_law_program_parts" sPP ["hand"] f18 _ := ⟨F18, PySem.W.mg_of X G a18, F18.binds (ps := ["hand"]) fun _ _ _ _ _ _ us hl => match us, hl with | [_], _ => rfl⟩
  have F19 := fun_mk (st := sPO) l19 c19 k19
  have D19 : Df K mg "_law_program_of" sPO ["parts"] f19 _ := ⟨F19, PySem.W.mg_of X G a19, F19.binds (ps := ["parts"]) fun _ _ _ _ _ _ us hl => match us, hl with | [_], _ => rfl⟩
  have F20 := fun_mk (st := sSize) l20 c20 k20
  have D20 : Df K mg "_law_size" sSize ["tree"] f20 _ := ⟨F20, PySem.W.mg_of X G a20, F20.binds (ps := ["tree"]) fun _ _ _ _ _ _ us hl => match us, hl with | [_], _ => rfl⟩
  have F21 := fun_mk (st := sTree) l21 c21 k21
  have D21 : Df K mg "_law_tree_right" sTree ["words", "cells", "deep", "tree"] f21 _ := ⟨F21, PySem.W.mg_of X G a21, F21.binds (ps := ["words", "cells", "deep", "tree"]) fun _ _ _ _ _ _ us hl => match us, hl with | [_, _, _, _], _ => rfl⟩
  have F22 := fun_mk (st := sRight) l22 c22 k22
  have D22 : Df K mg "_law_right" sRight ["words", "cells", "tree"] f22 _ := ⟨F22, PySem.W.mg_of X G a22, F22.binds (ps := ["words", "cells", "tree"]) fun _ _ _ _ _ _ us hl => match us, hl with | [_, _, _], _ => rfl⟩
  have F23 := fun_mk (st := sFirstBad) l23 c23 k23
  have D23 : Df K mg "_law_first_bad" sFirstBad ["parts"] f23 _ := ⟨F23, PySem.W.mg_of X G a23, F23.binds (ps := ["parts"]) fun _ _ _ _ _ _ us hl => match us, hl with | [_], _ => rfl⟩
  have F24 := fun_mk (st := sChain) l24 c24 k24
  have D24 : Df K mg "_law_chain" sChain ["many"] f24 _ := ⟨F24, PySem.W.mg_of X G a24, F24.binds (ps := ["many"]) fun _ _ _ _ _ _ us hl => match us, hl with | [_], _ => rfl⟩
  have F25 := fun_mk (st := sBroad) l25 c25 k25
  have D25 : Df K mg "_law_broad" sBroad ["many"] f25 _ := ⟨F25, PySem.W.mg_of X G a25, F25.binds (ps := ["many"]) fun _ _ _ _ _ _ us hl => match us, hl with | [_], _ => rfl⟩
  have F26 := fun_mk (st := sBent) l26 c26 k26
  have D26 : Df K mg "_law_bent" sBent ["hand", "tree"] f26 _ := ⟨F26, PySem.W.mg_of X G a26, F26.binds (ps := ["hand", "tree"]) fun _ _ _ _ _ _ us hl => match us, hl with | [_, _], _ => rfl⟩
  have F27 := fun_mk (st := sSpo) l27 c27 k27
  have D27 : Df K mg "_law_spoilt" sSpo ["hand", "parts"] f27 _ := ⟨F27, PySem.W.mg_of X G a27, F27.binds (ps := ["hand", "parts"]) fun _ _ _ _ _ _ us hl => match us, hl with | [_, _], _ => rfl⟩
  have F28 := fun_mk (st := sMade) l28 c28 k28
  have D28 : Df K mg "_law_made" sMade ["parts"] f28 _ := ⟨F28, PySem.W.mg_of X G a28, F28.binds (ps := ["parts"]) fun _ _ _ _ _ _ us hl => match us, hl with | [_], _ => rfl⟩
  have DD : PDefs K mg := ⟨_, _, D0, _, _, D1, _, _, D2, _, _, D3, _, _, D4, _, _, D5, _, _, D6⟩
  have EE : LDefs K mg := ⟨_, _, D7, _, _, D8, _, _, D9, _, _, D10, _, _, D11, _, _, D12, _, _, D13, _, _, D14, _, _, D15, _, _, D16, _, _, D17, _, _, D18, _, _, D19, _, _, D20, _, _, D21, _, _, D22, _, _, D23, _, _, D24, _, _, D25, _, _, D26, _, _, D27, _, _, D28⟩
  exact ⟨PySem.W.fnOf "law" "law" (defArgs sLaw) (defBody sLaw) (defScope sLaw) .none kV29 dc29 pm29 an29 cd29 ct29, fun s v => .of_eq rfl, fun base _ _ =>
    ok_law (fun_mk (st := sLaw) l29 c29 k29) B OO T BT QT ⟨mk, aM, iM, kc⟩ FM bM DD EE⟩
theorem walk {l : PySem.W.OpenLaw} {q : Program} {loose : List Str} {XP : (Str → Option Value) → Heap → Prop} {YP : World → Heap → Prop} {d : DefRec} {K : Params → PySem.W.Frag} (hn : l.most = some 63) (hdf : d.params.defaults = [])
    (hY : ∀ (w : World) (h : Heap), YP w h → (K w.params).In h)
    (F : ∀ (w : World) (mg : Str → Option Value) (fa : Addr) (h : Heap), (K w.params).In h → h.Ns mainGlobals mg → mg d.name = some (.ref fa) →
      ∃ fd : FuncData, (∀ (s : Shared) (u : Value), BindsTo s fd ⟨[u], []⟩ [("script", u)]) ∧ ∀ base : Heap, (K w.params).In base → base.Ns mainGlobals mg → FnOk l.prog w (K w.params) mg base CX0 19 fa fd ["script"] (spLaw (K w.params))) :
    PySem.W.WalkO q loose XP YP l.row.toRowW d [] (fun f vs => PySem.call f vs) :=
  L2.walk_of (n := 63) (k := 19) (x := "script") (CX := fun _ => CX0) (sp := fun w => spLaw (K w.params)) hn (by decide) hdf ⟨rfl, by decide, by decide⟩ hY F (fun _ _ a ns hl _ hS => ⟨a, ns, rfl, hS, hl, fun _ => rfl⟩) fun _ _ _ _ _ z => z
end Q
open PySem PySem.W PyProof.Rows in
set_option maxRecDepth 100000 in
set_option maxHeartbeats 0 in
theorem PySem.Challenge.cw_sameround_k05_whole_programs_judged_holds : PySem.Challenge.rw_sameround_k05_whole_programs_judged.Holds := by
  w_on; o_law; k_head; (case hw => w_witness2)
  k_fill
  refine Q.walk (l := PySem.Challenge.rw_sameround_k05_whole_programs_judged) rfl rfl (fun w h Y => PySem.W.kIn_of Y) ?F
  case F =>
    intro w mg fa h KX G hmg
    refine' Q.all_mk KX G hmg ?aC ?aO ?aO1 ?aO2 ?aM ?iM ?lM ?cM ?kM ?a0 ?l0 ?c0 ?k0 ?a1 ?l1 ?c1 ?k1 ?a2 ?l2 ?c2 ?k2 ?a3 ?l3 ?c3 ?k3 ?a4 ?l4 ?c4 ?k4 ?a5 ?l5 ?c5 ?k5 ?a6 ?l6 ?c6 ?k6 ?a7 ?l7 ?c7 ?k7 ?a8 ?l8 ?c8 ?k8 ?a9 ?l9 ?c9 ?k9 ?a10 ?l10 ?c10 ?k10 ?a11 ?l11 ?c11 ?k11 ?a12 ?l12 ?c12 ?k12 ?a13 ?l13 ?c13 ?k13 ?a14 ?l14 ?c14 ?k14 ?a15 ?l15 ?c15 ?k15 ?a16 ?l16 ?c16 ?k16 ?a17 ?l17 ?c17 ?k17 ?a18 ?l18 ?c18 ?k18 ?a19 ?l19 ?c19 ?k19 ?a20 ?l20 ?c20 ?k20 ?a21 ?l21 ?c21 ?k21 ?a22 ?l22 ?c22 ?k22 ?a23 ?l23 ?c23 ?k23 ?a24 ?l24 ?c24 ?k24 ?a25 ?l25 ?c25 ?k25 ?a26 ?l26 ?c26 ?k26 ?a27 ?l27 ?c27 ?k27 ?a28 ?l28 ?c28 ?k28 ?a29 ?l29 ?c29 ?k29 ?pg ?hd ?po ?sa ?mk ?kc ?wN ?wl ?wbm ?wi ?wt ?wk ?wb ?wy ?ws ?wz ?wsa ?wp ?wga ?wgg ?whd ?wf ?wc ?wfk ?ef ?ei ?el ?ec ?ek ?eha ?ehn ?eht ?ehm ?eis ?ety ?ent ?enf ?zz ?zs ?n1 ?n2 ?n3 ?n4 ?za ?gS ?oS ?sS ?vS ?gT ?oT ?sT ?vT ?gN ?oN ?sN ?vN ?gP ?oP ?kP ?lP ?p0_0 ?p0_1 ?p0_2 ?p0_3 ?p0_4 ?p0_5 ?p0_6 ?p0_7 ?p0_8 ?p2_0 ?p2_1 ?p2_2 ?p2_3 ?p2_4 ?p2_5 ?p2_6 ?p2_7 ?p2_8 ?p2_9 ?p3 ?pn_0 ?pn_1 ?pn_2 ?z_len ?z_int ?z_list ?z_range ?z_min ?z_max ?z_tuple ?z_sorted ?z_set ?z_isinstance ?z_enumerate ?z_bool
    (case aC => k_is)
    (case aO => k_is)
    (case aO1 => k_is)
    (case aO2 => k_is)
    (case aM => k_is)
    (case iM => k_is)
    (case lM => k_is)
    (case cM => k_is)
    (case kM => k_is)
    (case a0 => k_is)
    (case l0 => k_is)
    (case c0 => k_is)
    (case k0 => k_is)
    (case a1 => k_is)
    (case l1 => k_is)
    (case c1 => k_is)
    (case k1 => k_is)
    (case a2 => k_is)
    (case l2 => k_is)
    (case c2 => k_is)
    (case k2 => k_is)
    (case a3 => k_is)
    (case l3 => k_is)
    (case c3 => k_is)
    (case k3 => k_is)
    (case a4 => k_is)
    (case l4 => k_is)
    (case c4 => k_is)
    (case k4 => k_is)
    (case a5 => k_is)
    (case l5 => k_is)
    (case c5 => k_is)
    (case k5 => k_is)
    (case a6 => k_is)
    (case l6 => k_is)
    (case c6 => k_is)
    (case k6 => k_is)
    (case a7 => k_is)
    (case l7 => k_is)
    (case c7 => k_is)
    (case k7 => k_is)
    (case a8 => k_is)
    (case l8 => k_is)
    (case c8 => k_is)
    (case k8 => k_is)
    (case a9 => k_is)
    (case l9 => k_is)
    (case c9 => k_is)
    (case k9 => k_is)
    (case a10 => k_is)
    (case l10 => k_is)
    (case c10 => k_is)
    (case k10 => k_is)
    (case a11 => k_is)
    (case l11 => k_is)
    (case c11 => k_is)
    (case k11 => k_is)
    (case a12 => k_is)
    (case l12 => k_is)
    (case c12 => k_is)
    (case k12 => k_is)
    (case a13 => k_is)
    (case l13 => k_is)
    (case c13 => k_is)
    (case k13 => k_is)
    (case a14 => k_is)
    (case l14 => k_is)
    (case c14 => k_is)
    (case k14 => k_is)
    (case a15 => k_is)
    (case l15 => k_is)
    (case c15 => k_is)
    (case k15 => k_is)
    (case a16 => k_is)
    (case l16 => k_is)
    (case c16 => k_is)
    (case k16 => k_is)
    (case a17 => k_is)
    (case l17 => k_is)
    (case c17 => k_is)
    (case k17 => k_is)
    (case a18 => k_is)
    (case l18 => k_is)
    (case c18 => k_is)
    (case k18 => k_is)
    (case a19 => k_is)
    (case l19 => k_is)
    (case c19 => k_is)
    (case k19 => k_is)
    (case a20 => k_is)
    (case l20 => k_is)
    (case c20 => k_is)
    (case k20 => k_is)
    (case a21 => k_is)
    (case l21 => k_is)
    (case c21 => k_is)
    (case k21 => k_is)
    (case a22 => k_is)
    (case l22 => k_is)
    (case c22 => k_is)
    (case k22 => k_is)
    (case a23 => k_is)
    (case l23 => k_is)
    (case c23 => k_is)
    (case k23 => k_is)
    (case a24 => k_is)
    (case l24 => k_is)
    (case c24 => k_is)
    (case k24 => k_is)
    (case a25 => k_is)
    (case l25 => k_is)
    (case c25 => k_is)
    (case k25 => k_is)
    (case a26 => k_is)
    (case l26 => k_is)
    (case c26 => k_is)
    (case k26 => k_is)
    (case a27 => k_is)
    (case l27 => k_is)
    (case c27 => k_is)
    (case k27 => k_is)
    (case a28 => k_is)
    (case l28 => k_is)
    (case c28 => k_is)
    (case k28 => k_is)
    (case a29 => k_is)
    (case l29 => k_is)
    (case c29 => k_is)
    (case k29 => k_is)
    (case pg => k_is)
    (case hd => k_is)
    (case po => k_is)
    (case sa => k_is)
    (case mk => k_is)
    (case kc => k_is)
    (case wN => k_is)
    (case wl => k_is)
    (case wbm => decide +kernel)
    (case wi => k_is)
    (case wt => k_is)
    (case wk => k_is)
    (case wb => k_is)
    (case wy => k_is)
    (case ws => k_is)
    (case wz => k_is)
    (case wsa => k_is)
    (case wp => k_is)
    (case wga => k_is)
    (case wgg => k_is)
    (case whd => k_is)
    (case wf => k_is)
    (case wc => k_is)
    (case wfk => k_is)
    (case ef => k_is)
    (case ei => k_is)
    (case el => k_is)
    (case ec => k_is)
    (case ek => k_is)
    (case eha => k_is)
    (case ehn => k_is)
    (case eht => k_is)
    (case ehm => k_is)
    (case eis => k_is)
    (case ety => k_is)
    (case ent => k_is)
    (case enf => k_is)
    (case zz => k_is)
    (case zs => k_is)
    (case n1 => k_is)
    (case n2 => k_is)
    (case n3 => k_is)
    (case n4 => k_is)
    (case za => k_is)
    (case gS => k_is)
    (case oS => k_is)
    (case sS => decide)
    (case vS => (repeat (first | exact .nil | refine .cons ⟨_, rfl⟩ ?_)))
    (case gT => k_is)
    (case oT => k_is)
    (case sT => decide)
    (case vT => (repeat (first | exact .nil | refine .cons ⟨_, rfl⟩ ?_)))
    (case gN => k_is)
    (case oN => k_is)
    (case sN => decide)
    (case vN => (repeat (first | exact .nil | refine .cons ⟨_, rfl⟩ ?_)))
    (case gP => k_is)
    (case oP => k_is)
    (case kP => (repeat (first | exact trivial | refine ⟨⟨_, _, rfl, rfl⟩, ?_⟩)))
    (case lP => decide +kernel)
    (case p0_0 => k_is)
    (case p0_1 => k_is)
    (case p0_2 => k_is)
    (case p0_3 => k_is)
    (case p0_4 => k_is)
    (case p0_5 => k_is)
    (case p0_6 => k_is)
    (case p0_7 => k_is)
    (case p0_8 => k_is)
    (case p2_0 => k_is)
    (case p2_1 => k_is)
    (case p2_2 => k_is)
    (case p2_3 => k_is)
    (case p2_4 => k_is)
    (case p2_5 => k_is)
    (case p2_6 => k_is)
    (case p2_7 => k_is)
    (case p2_8 => k_is)
    (case p2_9 => k_is)
    (case p3 => k_is)
    (case pn_0 => k_is)
    (case pn_1 => k_is)
    (case pn_2 => k_is)
    (case z_len => k_is)
    (case z_int => k_is)
    (case z_list => k_is)
    (case z_range => k_is)
    (case z_min => k_is)
    (case z_max => k_is)
    (case z_tuple => k_is)
    (case z_sorted => k_is)
    (case z_set => k_is)
    (case z_isinstance => k_is)
    (case z_enumerate => k_is)
    (case z_bool => k_is)

