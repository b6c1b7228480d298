import PyProof.Rows.All
import Wide.All
import OpenK.AllK
import Wide.FinOn
import HandS.ForMost
import HandS.Codes
import HandS.TupSets
import HandS.TupLe
import HandS.IsInst
import HandS.SortInts
import HandS.ForExc
import HandS.ExcInit
import HandS.ExcField
import HandS.TryMany
import HandS.Zip
import HandS.TupAny
import HandS.OwnEq
import KE.GoesMore
import KE.KExcSuper
import KE.RegKSuper
import PyProof.Draws
import PyProof.EnumMake
import PyProof.P3In
import PySem.Challenge.RW_sameround_k01_webs_judged
set_option Elab.async false
set_option linter.all false
set_option maxRecDepth 100000
set_option maxHeartbeats 4000000
namespace Q
open PySem L2
def top (i : Nat) : Stmt := PySem.Challenge.pw_sameround_k01_webs_judged.main.body.getD i (.Pass ⟨0, 0, 0, 0⟩)
abbrev sHand : Stmt := top 16
abbrev sTake : Stmt := top 17
abbrev sPick : Stmt := top 18
/-- what the built-in names still are -/
structure Bts (mg : Str → Option Value) : Prop where
  len : mg "len" = none
  int : mg "int" = none
  list : mg "list" = none
  range : mg "range" = none
  min : mg "min" = none
  max : mg "max" = none
  tuple : mg "tuple" = none
  sorted : mg "sorted" = none
  set : mg "set" = none
  isinstance : mg "isinstance" = none
  enumerate : mg "enumerate" = none
  bool : mg "bool" = none

def HL (l : Addr) (i : Nat) (r s c : Int) : List V := [.ref l, .int (i : Int), .int r, .int s, .int c]
/-- the drawing hand at p -/
structure HandX (H : Hp) (p l : Addr) (ns : List Int) (i : Nat) (r s c : Int) : Prop where
  at_ : H p = some (.lst (HL l i r s c))
  lst : H l = some (.lst (ns.map V.int))
  len : ns.length ≤ 63
  r0 : 0 ≤ r
  s0 : 0 ≤ s
  s1 : s < 2147483647
def HandAt (H : Hp) (p l : Addr) : Prop := ∃ ns i r s c, HandX H p l ns i r s c
/-- nothing is otherwise but at p -/
def But (p : Addr) (H H' : Hp) : Prop := ∀ b, b ≠ p → H' b = H b
theorem But.rfl' {p : Addr} {H : Hp} : But p H H := fun _ _ => rfl
theorem But.upd {p : Addr} {H H' : Hp} {o : HO} (h : But p H H') : But p H (upd H' p o) := fun b hb => by rw [upd_ne hb]; exact h b hb
theorem But.trans {p : Addr} {H H1 H2 : Hp} (h : But p H H1) (g : But p H1 H2) : But p H H2 := fun b hb => (g b hb).trans (h b hb)
theorem HandX.np {H : Hp} {p l : Addr} {ns : List Int} {i : Nat} {r s c : Int} (h : HandX H p l ns i r s c) : l ≠ p := fun e => by
  have h1 := h.at_
  rw [← e, h.lst] at h1
  have h2 := HO.lst.inj (Option.some.inj h1)
  cases ns with
  | nil => exact absurd h2 (by simp [HL])
  | cons a t =>
    rw [List.map_cons] at h2
    exact V.noConfusion (List.cons.inj h2).1
theorem HandX.put {H H' : Hp} {p l : Addr} {ns : List Int} {i i' : Nat} {r s c r' s' c' : Int} (h : HandX H p l ns i r s c) (e : H' p = some (.lst (HL l i' r' s' c'))) (b : But p H H') (h0 : 0 ≤ r') (h1 : 0 ≤ s') (h2 : s' < 2147483647) : HandX H' p l ns i' r' s' c' :=
  ⟨e, by rw [b l h.np]; exact h.lst, h.len, h0, h1, h2⟩
def spHand (K : PySem.W.Frag) : Sp := fun vs H Q _ => ∃ (a : Addr) (ns : List Int), vs = [.ref a] ∧ SqL K H a (ns.map V.int) ∧ ns.length ≤ 63 ∧
  ∀ (p l : Addr) (H' : Hp), HandAt H' p l → H p = none → H l = none → Same H H' → Q (.ref p) H'
def spTake : Sp := fun vs H Q _ => ∃ (p l : Addr) (m : Int), vs = [.ref p, .int m] ∧ HandAt H p l ∧ 0 < m ∧ m < 1073741824 ∧ ∀ (d : Int) (H' : Hp), 0 ≤ d → d < m → HandAt H' p l → But p H H' → Q (.int d) H'
section
variable {P : Program} {w : World} {K : PySem.W.Frag} {mg : Str → Option Value} {base : Heap}
theorem scHand : FnScope ["script"] ["script"] (defScope sHand) := ⟨rfl, rfl, rfl, by decide +kernel, rfl, by decide +kernel, by decide +kernel⟩
theorem ok_hand {f : Addr} {fd : FuncData} (F : Fun K "_law_hand" "_law_hand" sHand f fd) (B : Bts mg) : FnOk P w K mg base CX0 1 f fd ["script"] (spHand K) := by
  refine F.ok scHand (fun vs H Q E h => ?_) (fun cdv A outer s H vs Q E hr h => ?_)
  · obtain ⟨a, ns, rfl, _⟩ := h
    rfl
  · obtain ⟨a, ns, rfl, hS, hlen, k⟩ := h
    refine ⟨_, pss_one (ps_ret (pe_lst (pa_cons (pe_callTy call_list_of (by rfl) B.list PyProof.Rows.boot_list (pa_cons (pv 0) pa_nil)) (pa_cons pe_int (pa_cons pe_int (pa_cons pe_int (pa_cons pe_int pa_nil))))))), ?_⟩
    refine ⟨_, rfl, a, _, rfl, .inl hS, fun l hl => ?_⟩
    refine ⟨(by show 5 ≤ sizeLine; decide), fun p hp => ?_⟩
    have npl : p ≠ l := fun e => by rw [e, upd_same] at hp; cases hp
    rw [upd_ne npl] at hp
    refine k p l _ ⟨ns, 0, 0, 1, 0, upd_same, ?_, hlen, by decide, by decide, by decide⟩ hp hl fun b o e => ?_
    · rw [upd_ne npl.symm, upd_same]
    · rw [upd_ne (ne_of_none e hp), upd_ne (ne_of_none e hl)]
      exact e
theorem scTake : FnScope ["hand", "many", "cell", "found", "number"] ["hand", "many"] (defScope sTake) := ⟨rfl, rfl, rfl, by decide +kernel, rfl, by decide +kernel, by decide +kernel⟩
theorem ok_take {f : Addr} {fd : FuncData} (F : Fun K "_law_take" "_law_take" sTake f fd) (B : Bts mg) : FnOk P w K mg base CX0 1 f fd ["hand", "many"] spTake := by
  refine F.ok scTake (fun vs H Q E h => ?_) (fun cdv A outer s H vs Q E hr h => ?_)
  · obtain ⟨p, l, m, rfl, _⟩ := h
    rfl
  · obtain ⟨p, l, m, rfl, ⟨ns, i, r, s, c, hx⟩, hm0, hm1, k⟩ := h
    have nd := scTake.nd
    refine ⟨_, pss_cons (ps_asg (pe_op op_add (pe_ix ix_list (pv 0) pe_int (fun _ _ => rfl)) pe_int) (pg_sub (pv 0) pe_int set_list))
      (C8.pss_cut (ps_if (PW.pt (pw_and (pt_cmpR op_eq (pe_ix ix_list (pv 0) pe_int (fun _ _ => rfl)) pe_int (nomark _))
            (pw_and1 (pt_cmpR op_lt (pe_ix ix_list (pv 0) pe_int (fun _ _ => rfl)) (pe_callB call_len_seq (by rfl) B.len PySem.boot_len (pa_cons (pe_ix ix_list (pv 0) pe_int (fun _ _ => rfl)) pa_nil)) (nomark _)))))
          (pss_cons (ps_set (i := 2) nd rfl (.inl rfl) (pe_callTy call_int1 (by rfl) B.int PyProof.Rows.boot_int (pa_cons (pe_ix ix_list (pe_ix ix_list (pv 0) pe_int (fun _ _ => rfl)) (pe_ix ix_list (pv 0) pe_int (fun _ _ => rfl)) (fun _ _ => rfl)) pa_nil)))
          (pss_cons (ps_asg (pe_op op_add (pe_ix ix_list (pv 0) pe_int (fun _ _ => rfl)) pe_int) (pg_sub (pv 0) pe_int set_list))
          (pss_one (ps_if (pt_cmpR op_ge (pv 2) (pe_op op_pow pe_int pe_int) (nomark _))
            (pss_one (ps_asg (pv 2) (pg_sub (pv 0) pe_int set_list)))
            (pss_one (ps_asg (pe_op op_mod (pe_callTy call_int1 (by rfl) B.int PyProof.Rows.boot_int (pa_cons (pe_op op_add (pe_op op_add (pe_op op_mul (pe_ix ix_list (pv 0) pe_int (fun _ _ => rfl)) pe_int) (pe_op op_mod (pe_callTy call_int1 (by rfl) B.int PyProof.Rows.boot_int (pa_cons (pv 2) pa_nil)) pe_int)) pe_int) pa_nil)) pe_int) (pg_sub (pv 0) pe_int set_list)))))))
          pss_nil)
      (pss_cons (ps_if (pt_cmpR op_gt (pe_ix ix_list (pv 0) pe_int (fun _ _ => rfl)) pe_int (nomark _))
          (pss_cons (ps_set (i := 3) nd rfl (.inl rfl) (pe_op op_mod (pe_callTy call_int1 (by rfl) B.int PyProof.Rows.boot_int (pa_cons (pe_ix ix_list (pv 0) pe_int (fun _ _ => rfl)) pa_nil)) (pv 1)))
          (pss_cons (ps_asg (pe_op op_fdiv (pe_callTy call_int1 (by rfl) B.int PyProof.Rows.boot_int (pa_cons (pe_ix ix_list (pv 0) pe_int (fun _ _ => rfl)) pa_nil)) (pv 1)) (pg_sub (pv 0) pe_int set_list))
          (pss_one (ps_ret (pv 3)))))
          pss_nil)
      (pss_cons (ps_asg (pe_op op_mod (pe_callTy call_int1 (by rfl) B.int PyProof.Rows.boot_int (pa_cons (pe_op op_add (pe_op op_mul (pe_ix ix_list (pv 0) pe_int (fun _ _ => rfl)) pe_int) (pe_op op_mul pe_int (pe_ix ix_list (pv 0) pe_int (fun _ _ => rfl)))) pa_nil)) pe_int) (pg_sub (pv 0) pe_int set_list))
      (pss_cons (ps_set (i := 4) nd rfl (.inl rfl) (pe_op op_mod (pe_callTy call_int1 (by rfl) B.int PyProof.Rows.boot_int (pa_cons (pe_op op_mul (pe_ix ix_list (pv 0) pe_int (fun _ _ => rfl)) (pe_op op_add (pe_op op_fdiv (pe_ix ix_list (pv 0) pe_int (fun _ _ => rfl)) pe_int) pe_int)) pa_nil)) pe_int))
      (pss_cons (ps_set (i := 4) nd rfl (.inl rfl) (pe_op op_mod (pe_callTy call_int1 (by rfl) B.int PyProof.Rows.boot_int (pa_cons (pe_op op_mul (pv 4) (pe_op op_add (pe_op op_fdiv (pv 4) pe_int) pe_int)) pa_nil)) pe_int))
      (pss_one (ps_ret (pe_op op_mod (pe_callTy call_int1 (by rfl) B.int PyProof.Rows.boot_int (pa_cons (pe_op op_fdiv (pv 4) pe_int) pa_nil)) (pv 1))))))))), ?_⟩
    -- hand[4] = hand[4] + 1
    refine ⟨_, rfl, p, _, 4, _, rfl, rfl, SqL.of hx.at_, rfl, _, _, rfl, rfl, _, rfl, p, _, 4, 4, rfl, rfl, hx.at_, rfl, ?_⟩
    have b1 : But p H (upd H p (.lst (HL l i r s (c + 1)))) := But.rfl'.upd
    have x1 : HandX (upd H p (.lst (HL l i r s (c + 1)))) p l ns i r s (c + 1) := hx.put upd_same b1 hx.r0 hx.s0 hx.s1
    show C8.tCut _ _ _ _ (upd H p (.lst (HL l i r s (c + 1))))
    revert b1 x1
    generalize upd H p (.lst (HL l i r s (c + 1))) = H1
    intro b1 x1
    refine ⟨fun σ H2 => ∃ x2 i r s c, σ = [some (.ref p), some (.int m), x2, none, none] ∧ HandX H2 p l ns i r s c ∧ But p H H2, ?_, ?_⟩
    · refine ⟨_, rfl, p, _, 2, _, rfl, rfl, SqL.of x1.at_, rfl, rfl, _, rfl, ?_⟩
      refine ite2 (fun _ => ?_) (fun _ => ?_)
      · refine ⟨_, rfl, p, _, 1, _, rfl, rfl, SqL.of x1.at_, rfl, _, rfl, p, _, 0, _, rfl, rfl, SqL.of x1.at_, rfl, l, _, rfl, .inl (SqL.of x1.lst), _, _, rfl, rfl, _, rfl, ?_⟩
        refine ite2 (fun c2 => ?_) (fun _ => ?_)
        · -- cell = int(hand[0][hand[1]])
          have hi : i < ns.length := by
            have z := of_decide_eq_true c2
            rw [List.length_map] at z
            omega
          have hg : atI (ns.map V.int) (i : Int) = some (V.int ns[i]) := atI_nat (by rw [List.getElem?_map, List.getElem?_eq_getElem hi]; rfl)
          refine ⟨_, rfl, p, _, 0, _, rfl, rfl, SqL.of x1.at_, rfl, _, rfl, p, _, 1, _, rfl, rfl, SqL.of x1.at_, rfl, l, _, _, _, rfl, rfl, SqL.of x1.lst, hg, .inl ⟨_, rfl, ?_⟩⟩
          -- hand[1] = hand[1] + 1
          refine ⟨_, rfl, p, _, 1, _, rfl, rfl, SqL.of x1.at_, rfl, _, _, rfl, rfl, _, rfl, p, _, 1, 1, rfl, rfl, x1.at_, rfl, ?_⟩
          have e1 : ((i : Int) + 1) = ((i + 1 : Nat) : Int) := by omega
          have b2 : But p H (upd H1 p (.lst (HL l (i + 1) r s (c + 1)))) := b1.upd
          have x2 : HandX (upd H1 p (.lst (HL l (i + 1) r s (c + 1)))) p l ns (i + 1) r s (c + 1) := x1.put upd_same But.rfl'.upd x1.r0 x1.s0 x1.s1
          have eH : upd H1 p (.lst ((HL l i r s (c + 1)).set 1 (V.int ((i : Int) + 1)))) = upd H1 p (.lst (HL l (i + 1) r s (c + 1))) := by
            rw [e1]
            rfl
          rw [eH]
          revert b2 x2
          generalize upd H1 p (.lst (HL l (i + 1) r s (c + 1))) = H2
          intro b2 x2
          refine ⟨_, rfl, _, _, rfl, rfl, ⟨by decide, by decide, by decide⟩, _, _, rfl, rfl, _, rfl, ?_⟩
          refine ite2 (fun c3 => ?_) (fun _ => ?_)
          · refine ⟨_, rfl, _, rfl, p, _, 2, 2, rfl, rfl, x2.at_, rfl, ?_⟩
            refine ⟨_, i + 1, ns[i], s, c + 1, rfl, x2.put upd_same But.rfl'.upd ?_ x2.s0 x2.s1, b2.upd⟩
            have z := of_decide_eq_true c3
            refine Int.le_trans ?_ z
            decide
          · refine ⟨_, rfl, p, _, 3, _, rfl, rfl, SqL.of x2.at_, rfl, _, _, rfl, rfl, .inr ⟨by decide, by decide⟩, _, rfl, .inl ⟨_, rfl, ?_⟩⟩
            refine ⟨_, _, rfl, rfl, (by decide : (0 : Int) < 2147483647), _, _, rfl, rfl, _, _, rfl, rfl, .inl ⟨_, rfl, ?_⟩⟩
            refine ⟨_, _, rfl, rfl, (by decide : (0 : Int) < 2147483647), _, rfl, p, _, 3, 3, rfl, rfl, x2.at_, rfl, ?_⟩
            exact ⟨_, i + 1, r, _, c + 1, rfl, x2.put upd_same But.rfl'.upd x2.r0 (Int.emod_nonneg _ (by decide)) (Int.emod_lt_of_pos _ (by decide)), b2.upd⟩
        · exact ⟨_, i, r, s, c + 1, rfl, x1, b1⟩
      · exact ⟨_, i, r, s, c + 1, rfl, x1, b1⟩
    · rintro σ H2 ⟨x2, i, r, s, c, rfl, y1, c1⟩
      refine ⟨_, rfl, p, _, 2, _, rfl, rfl, SqL.of y1.at_, rfl, _, _, rfl, rfl, _, rfl, ?_⟩
      refine ite2 (fun _ => ?_) (fun _ => ?_)
      · -- found = int(hand[2]) % many; hand[2] = int(hand[2]) // many; return found
        refine ⟨_, rfl, p, _, 2, _, rfl, rfl, SqL.of y1.at_, rfl, .inl ⟨_, rfl, ?_⟩⟩
        refine ⟨_, rfl, _, _, rfl, rfl, hm0, ?_⟩
        refine ⟨_, rfl, p, _, 2, _, rfl, rfl, SqL.of y1.at_, rfl, .inl ⟨_, rfl, ?_⟩⟩
        refine ⟨_, rfl, _, _, rfl, rfl, ⟨hm0, hm1⟩, _, rfl, p, _, 2, 2, rfl, rfl, y1.at_, rfl, ?_⟩
        refine ⟨_, rfl, k _ _ (Int.emod_nonneg _ (by omega)) (Int.emod_lt_of_pos _ hm0) ⟨ns, i, _, s, c, y1.put upd_same But.rfl'.upd (Int.ediv_nonneg y1.r0 (by omega)) y1.s0 y1.s1⟩ c1.upd⟩
      · -- hand[3] = int(hand[3] * 69621 + 7919 * hand[4]) % 2147483647
        refine ⟨_, rfl, p, _, 3, _, rfl, rfl, SqL.of y1.at_, rfl, _, _, rfl, rfl, .inr ⟨by decide, by decide⟩, _, rfl, p, _, 4, _, rfl, rfl, SqL.of y1.at_, rfl, _, _, rfl, rfl, .inl ⟨by decide, by decide⟩, _, _, rfl, rfl, .inl ⟨_, rfl, ?_⟩⟩
        refine ⟨_, _, rfl, rfl, (by decide : (0 : Int) < 2147483647), _, rfl, p, _, 3, 3, rfl, rfl, y1.at_, rfl, ?_⟩
        have z0 : 0 ≤ (s * 69621 + 7919 * c) % 2147483647 := Int.emod_nonneg _ (by decide)
        have z1 : (s * 69621 + 7919 * c) % 2147483647 < 2147483647 := Int.emod_lt_of_pos _ (by decide)
        have b2 : But p H (upd H2 p (.lst (HL l i r ((s * 69621 + 7919 * c) % 2147483647) c))) := c1.upd
        have y2 : HandX (upd H2 p (.lst (HL l i r ((s * 69621 + 7919 * c) % 2147483647) c))) p l ns i r ((s * 69621 + 7919 * c) % 2147483647) c := y1.put upd_same But.rfl'.upd y1.r0 z0 z1
        show tSeq _ _ _ _ (upd H2 p (.lst (HL l i r ((s * 69621 + 7919 * c) % 2147483647) c)))
        revert b2 y2
        generalize upd H2 p (.lst (HL l i r ((s * 69621 + 7919 * c) % 2147483647) c)) = H3
        revert z0 z1
        generalize (s * 69621 + 7919 * c) % 2147483647 = s2
        intro z0 z1 b2 y2
        refine ⟨_, rfl, p, _, 3, _, rfl, rfl, SqL.of y2.at_, rfl, _, rfl, p, _, 3, _, rfl, rfl, SqL.of y2.at_, rfl, _, _, rfl, rfl, ⟨by decide, by decide⟩, _, _, rfl, rfl, _, _, rfl, rfl, .inl ⟨by omega, by omega⟩, .inl ⟨_, rfl, ?_⟩⟩
        refine ⟨_, _, rfl, rfl, (by decide : (0 : Int) < 2147483647), ?_⟩
        have q0 : 0 ≤ (s2 * (s2 / 1009 + 69621)) % 2147483647 := Int.emod_nonneg _ (by decide)
        have q1 : (s2 * (s2 / 1009 + 69621)) % 2147483647 < 2147483647 := Int.emod_lt_of_pos _ (by decide)
        revert q0 q1
        generalize (s2 * (s2 / 1009 + 69621)) % 2147483647 = n1
        intro q0 q1
        refine ⟨_, rfl, _, rfl, _, _, rfl, rfl, ⟨by decide, by decide⟩, _, _, rfl, rfl, _, _, rfl, rfl, .inl ⟨by omega, by omega⟩, .inl ⟨_, rfl, ?_⟩⟩
        refine ⟨_, _, rfl, rfl, (by decide : (0 : Int) < 2147483399), ?_⟩
        refine ⟨_, rfl, _, _, rfl, rfl, ⟨by decide, by decide⟩, .inl ⟨_, rfl, ?_⟩⟩
        refine ⟨_, rfl, _, _, rfl, rfl, hm0, ?_⟩
        exact k _ _ (Int.emod_nonneg _ (by omega)) (Int.emod_lt_of_pos _ hm0) ⟨ns, i, r, s2, c, y2⟩ b2
end
end Q

namespace Q
open PySem L2
abbrev sTies : Stmt := top 23
/-- a def of the text: where it stands, how it is called -/
structure Df (K : PySem.W.Frag) (mg : Str → Option Value) (x : Str) (st : Stmt) (ps : List Str) (f : Addr) (fd : FuncData) : Prop where
  F : Fun K x x st f fd
  m : mg x = some (.ref f)
  b : Binds K fd ps []
theorem Df.k {K : PySem.W.Frag} {mg : Str → Option Value} {x : Str} {st : Stmt} {ps : List Str} {f : Addr} {fd : FuncData} (D : Df K mg x st ps f fd) : PySem.W.keepIn K (.ref f) = true := D.F.kp
theorem HandAt.stay {H : Hp} {p l q : Addr} {o : HO} (h : HandAt H p l) (n1 : q ≠ p) (n2 : q ≠ l) : HandAt (L2.upd H q o) p l := by
  obtain ⟨ns, i, r, s, c, x⟩ := h
  exact ⟨ns, i, r, s, c, (upd_ne n1.symm).trans x.at_, (upd_ne n2.symm).trans x.lst, x.len, x.r0, x.s0, x.s1⟩
theorem HandAt.new {H : Hp} {p l q : Addr} {o : HO} (h : HandAt H p l) (n : H q = none) : HandAt (L2.upd H q o) p l := by
  obtain ⟨ns, i, r, s, c, x⟩ := id h
  exact h.stay (fun e => by rw [e, x.at_] at n; cases n) (fun e => by rw [e, x.lst] at n; cases n)
/-- all that stood stands, but for p -/
def Ext (p : Addr) (H H' : Hp) : Prop := ∀ b o, H b = some o → b ≠ p → H' b = some o
theorem Ext.rfl' {p : Addr} {H : Hp} : Ext p H H := fun _ _ e _ => e
theorem Ext.trans {p : Addr} {H H1 H2 : Hp} (h : Ext p H H1) (g : Ext p H1 H2) : Ext p H H2 := fun b o e n => g b o (h b o e n) n
theorem Ext.but {p : Addr} {H H1 H2 : Hp} (h : Ext p H H1) (g : But p H1 H2) : Ext p H H2 := fun b o e n => by rw [g b n]; exact h b o e n
theorem Ext.upd {p q : Addr} {o : HO} {H H1 : Hp} (h : Ext p H H1) (n : H1 q = none) : Ext p H (L2.upd H1 q o) := fun b u e nb => by
  rw [upd_ne (ne_of_none (h b u e nb) n)]; exact h b u e nb
theorem min_ok {X : Int} (h : 0 ≤ X ∧ X ≤ 20) : 0 ≤ (if 1 < X then 1 else X) ∧ (if 1 < X then 1 else X) ≤ 20 := by
  split <;> omega
theorem HandAt.hp {H : Hp} {p l : Addr} (h : HandAt H p l) : ∃ xs, H p = Option.some (HO.lst (V.ref l :: xs)) := by
  obtain ⟨ns, i, r, s, c, x⟩ := h
  exact ⟨_, x.at_⟩
theorem HandAt.hl {H : Hp} {p l : Addr} (h : HandAt H p l) : ∃ ns : List Int, H l = some (.lst (ns.map V.int)) ∧ l ≠ p := by
  obtain ⟨ns, i, r, s, c, x⟩ := h
  exact ⟨_, x.lst, x.np⟩
theorem HandAt.ne {H : Hp} {p l q : Addr} (h : HandAt H p l) (n : H q = none) : q ≠ p ∧ q ≠ l := by
  obtain ⟨ns, i, r, s, c, x⟩ := h
  exact ⟨fun e => (by rw [e, x.at_] at n; cases n), fun e => (by rw [e, x.lst] at n; cases n)⟩
/-- a list at f of tuples of two ints -/
structure Pairs (m : Int) (H : Hp) (f : Addr) (ks : List (Addr × List Int)) : Prop where
  at_ : H f = some (.lst (ks.map fun p => V.ref p.1))
  tup : ∀ p ∈ ks, H p.1 = some (.tup (p.2.map V.int))
  ok : ∀ p ∈ ks, ∃ a b : Int, p.2 = [a, b] ∧ 0 ≤ a ∧ a < b ∧ b < m
theorem Pairs.but {m : Int} {H H' : Hp} {f p : Addr} {ks : List (Addr × List Int)} {l : Addr} (h : Pairs m H f ks) (g : HandAt H p l) (b : But p H H') (n : f ≠ p) : Pairs m H' f ks := by
  refine ⟨by rw [b f n]; exact h.at_, fun q hq => ?_, h.ok⟩
  obtain ⟨xs, e⟩ := g.hp
  rw [b q.1 (ne_of (h.tup q hq) e (fun z => by cases z))]
  exact h.tup q hq
theorem Pairs.add {m : Int} {H : Hp} {f t : Addr} {ks : List (Addr × List Int)} {a b : Int} (h : Pairs m H f ks) (ht : H t = none) (h0 : 0 ≤ a) (h1 : a < b) (h2 : b < m) :
    Pairs m (upd (upd H t (.tup [.int a, .int b])) f (.lst ((ks.map fun p => V.ref p.1) ++ [.ref t]))) f (ks ++ [(t, [a, b])]) := by
  have ntf : t ≠ f := fun e => by rw [e, h.at_] at ht; cases ht
  refine ⟨by rw [upd_same, List.map_append]; rfl, fun q hq => ?_, fun q hq => ?_⟩
  · rcases List.mem_append.mp hq with hq | hq
    · rw [upd_ne (ne_of (h.tup q hq) h.at_ (fun z => by cases z)), upd_ne (ne_of_none (h.tup q hq) ht)]
      exact h.tup q hq
    · obtain rfl := List.mem_singleton.mp hq
      rw [upd_ne ntf, upd_same]
      rfl
  · rcases List.mem_append.mp hq with hq | hq
    · exact h.ok q hq
    · obtain rfl := List.mem_singleton.mp hq
      exact ⟨a, b, rfl, h0, h1, h2⟩
/-- the order of pairs -/
def ltP (x y : List Int) : Prop := ∃ a b c d : Int, x = [a, b] ∧ y = [c, d] ∧ (a < c ∨ (a = c ∧ b < d))
/-- ties: ascending pairs of houses -/
structure TiesAt (m : Int) (H : Hp) (q : Addr) (L : List (Addr × List Int)) : Prop where
  at_ : H q = some (.tup (L.map fun p => V.ref p.1))
  tup : ∀ p ∈ L, H p.1 = some (.tup (p.2.map V.int))
  ok : ∀ p ∈ L, ∃ a b : Int, p.2 = [a, b] ∧ 0 ≤ a ∧ a < b ∧ b < m
  asc : L.Pairwise (fun x y => ltP x.2 y.2)
  few : L.length < 200
/-- each house is tied to an earlier one -/
def Conn (m : Int) (L : List (Addr × List Int)) : Prop := ∀ h : Int, 1 ≤ h → h < m → ∃ p ∈ L, ∃ o : Int, p.2 = [o, h]
theorem asc_of {m : Int} (hm : m ≤ 40) : ∀ (L : List (Addr × List Int)), (∀ p ∈ L, ∃ a b : Int, p.2 = [a, b] ∧ 0 ≤ a ∧ a < b ∧ b < m) → (L.map (·.2)).Nodup → L.Pairwise (fun q r => TS.code 64 q.2 ≤ TS.code 64 r.2) → L.Pairwise (fun x y => ltP x.2 y.2)
  | [], _, _, _ => .nil
  | x :: r, hok, hnd, hpw => by
    rw [List.map_cons, List.nodup_cons] at hnd
    rw [List.pairwise_cons] at hpw
    refine List.pairwise_cons.mpr ⟨fun y hy => ?_, asc_of hm r (fun p hp => hok p (List.mem_cons_of_mem _ hp)) hnd.2 hpw.2⟩
    obtain ⟨a, b, e1, a0, ab, bm⟩ := hok x List.mem_cons_self
    obtain ⟨c, d, e2, c0, cd, dm⟩ := hok y (List.mem_cons_of_mem _ hy)
    have ne : ([a, b] : List Int) ≠ [c, d] := fun e => hnd.1 (by
      show x.2 ∈ r.map (·.2)
      rw [e1, e, ← e2]
      exact List.mem_map_of_mem hy)
    have le := hpw.1 y hy
    rw [e1, e2] at le
    exact ⟨a, b, c, d, e1, e2, pair_lt le ne ⟨by omega, by omega⟩ ⟨by omega, by omega⟩ ⟨by omega, by omega⟩ ⟨by omega, by omega⟩⟩
def spPick (K : PySem.W.Frag) : Sp := fun vs H Q _ => ∃ (p l t : Addr) (xs : List V), vs = [.ref p, .ref t] ∧ HandAt H p l ∧ H t = some (.lst xs) ∧ t ≠ p ∧ 0 < xs.length ∧ xs.length < 1000 ∧
  ∀ (v : V) (H' : Hp), v ∈ xs → HandAt H' p l → But p H H' → Q v H'
def spTies (K : PySem.W.Frag) : Sp := fun vs H Q _ => ∃ (p l : Addr) (m : Int), vs = [.ref p, .int m] ∧ HandAt H p l ∧ 1 ≤ m ∧ m ≤ 40 ∧
  ∀ (q : Addr) (L : List (Addr × List Int)) (H' : Hp), TiesAt m H' q L → Conn m L → L.length < 64 → HandAt H' p l → Ext p H H' → Q (.ref q) H'
section
variable {P : Program} {w : World} {K : PySem.W.Frag} {mg : Str → Option Value} {base : Heap}
theorem scPick : FnScope ["hand", "things"] ["hand", "things"] (defScope sPick) := ⟨rfl, rfl, rfl, by decide +kernel, rfl, by decide +kernel, by decide +kernel⟩
theorem ok_pick {f fT : Addr} {fd fdT : FuncData} (F : Fun K "_law_pick" "_law_pick" sPick f fd) (B : Bts mg) (DT : Df K mg "_law_take" sTake ["hand", "many"] fT fdT) : FnOk P w K mg base CX0 2 f fd ["hand", "things"] (spPick K) := by
  have GT : FnOk P w K mg base CX0 1 fT fdT ["hand", "many"] spTake := ok_take DT.F B
  refine F.ok scPick (fun vs H Q E h => ?_) (fun cdv A outer s H vs Q E hr h => ?_)
  · obtain ⟨p, l, t, xs, rfl, _⟩ := h
    rfl
  · obtain ⟨p, l, t, xs, rfl, hh, ht, ntp, h0, h1, k⟩ := h
    refine ⟨_, pss_one (ps_ret (pe_ix ix_list (pv 1) (pe_call GT hr rfl DT.m DT.k DT.b .nil pass0 (pa_cons (pv 0) (pa_cons (pe_callB call_len_seq (by rfl) B.len PySem.boot_len (pa_cons (pv 1) pa_nil)) pa_nil))) (fun _ _ => rfl))), ?_⟩
    refine ⟨_, rfl, _, rfl, _, rfl, t, _, rfl, .inl (SqL.of ht), p, l, _, rfl, hh, by omega, by omega, fun d H' d0 d1 hh' hb => ?_⟩
    have hd : d.toNat < xs.length := by omega
    have e1 : ((d.toNat : Nat) : Int) = d := Int.toNat_of_nonneg d0
    refine ⟨t, xs, d, xs[d.toNat], rfl, rfl, SqL.of (by rw [hb t ntp]; exact ht), ?_, k _ _ (List.getElem_mem hd) hh' hb⟩
    have z := atI_nat (xs := xs) (j := d.toNat) (List.getElem?_eq_getElem hd)
    rw [e1] at z
    exact z
theorem scTies : FnScope ["hand", "many", "found", "shape", "house", "other", "more", "k", "a", "b"] ["hand", "many"] (defScope sTies) := ⟨rfl, rfl, rfl, by decide +kernel, rfl, by decide +kernel, by decide +kernel⟩
theorem ok_ties {f fT : Addr} {fd fdT : FuncData} (F : Fun K "_law_ties" "_law_ties" sTies f fd) (B : Bts mg) (DT : Df K mg "_law_take" sTake ["hand", "many"] fT fdT) : FnOk P w K mg base CX0 2 f fd ["hand", "many"] (spTies K) := by
  have GT : FnOk P w K mg base CX0 1 fT fdT ["hand", "many"] spTake := ok_take DT.F B
  refine F.ok scTies (fun vs H Q E h => ?_) (fun cdv A outer s H vs Q E hr h => ?_)
  · obtain ⟨p, l, m, rfl, _⟩ := h
    rfl
  · obtain ⟨p, l, m, rfl, hh, hm1, hm40, k⟩ := h
    have nd := scTies.nd
    have hu := hr.units
    refine ⟨_, pss_cons (ps_set (i := 2) nd rfl (.inl rfl) (pe_lst pa_nil))
      (pss_cons (ps_set (i := 3) nd rfl (.inl rfl) (pe_call GT hr rfl DT.m DT.k DT.b .nil pass0 (pa_cons (pv 0) (pa_cons pe_int pa_nil))))
      (C8.pss_cut (ps_for PassesOwn.never rfl (pi_range2 rfl B.range (pa_cons pe_int (pa_cons (pv 1) pa_nil))) (pg_name (i := 4) nd rfl (.inl rfl))
        (pss_cons (ps_set (i := 5) nd rfl (.inl rfl) (pe_call GT hr rfl DT.m DT.k DT.b .nil pass0 (pa_cons (pv 0) (pa_cons (pv 4) pa_nil))))
        (C8.pss_cut (ps_if (pt_cmpR op_eq (pv 3) pe_int (nomark _)) (pss_one (ps_set (i := 5) nd rfl (.inl rfl) (pe_op op_sub (pv 4) pe_int))) pss_nil)
        (C8.pss_cut (ps_if (pt_cmpR op_eq (pv 3) pe_int (nomark _)) (pss_one (ps_set (i := 5) nd rfl (.inl rfl) pe_int)) pss_nil)
        (pss_one (ps_expr (pe_bm PySem.F.plainAttrs_list PySem.F.slot_list_append PySem.F.type_list_append mt_append (pv 2) (pa_cons (pe_tup (pa_cons (pv 5) (pa_cons (pv 4) pa_nil))) pa_nil))))))))
      (pss_cons (ps_set (i := 6) nd rfl (.inl rfl) (pe_op op_fdiv (pe_op op_mul (pe_call GT hr rfl DT.m DT.k DT.b .nil pass0 (pa_cons (pv 0) (pa_cons (pe_op op_add (pv 1) pe_int) pa_nil))) (pe_callTy call_int1 (by rfl) B.int PyProof.Rows.boot_int (pa_cons (pe_cmpR op_gt (pv 1) pe_int (nomark _)) pa_nil))) pe_int))
      (C8.pss_cut (ps_if (pt_cmpR op_eq (pe_call GT hr rfl DT.m DT.k DT.b .nil pass0 (pa_cons (pv 0) (pa_cons pe_int pa_nil))) pe_int (nomark _)) (pss_one (ps_set (i := 6) nd rfl (.inl rfl) (pe_callB (call_min2 rfl) (by rfl) B.min PyProof.Rows.boot_min (pa_cons (pv 6) (pa_cons pe_int pa_nil))))) pss_nil)
      (C8.pss_cut (ps_for PassesOwn.never rfl (pi_range1 rfl B.range (pa_cons (pv 6) pa_nil)) (pg_name (i := 7) nd rfl (.inl rfl))
        (pss_cons (ps_set (i := 8) nd rfl (.inl rfl) (pe_call GT hr rfl DT.m DT.k DT.b .nil pass0 (pa_cons (pv 0) (pa_cons (pv 1) pa_nil))))
        (pss_cons (ps_set (i := 9) nd rfl (.inl rfl) (pe_call GT hr rfl DT.m DT.k DT.b .nil pass0 (pa_cons (pv 0) (pa_cons (pv 1) pa_nil))))
        (pss_one (ps_if (pt_cmpR op_ne (pv 8) (pv 9) (nomark _))
          (pss_one (ps_expr (pe_bm PySem.F.plainAttrs_list PySem.F.slot_list_append PySem.F.type_list_append mt_append (pv 2) (pa_cons (pe_tup (pa_cons (pe_callB (call_min2 rfl) (by rfl) B.min PyProof.Rows.boot_min (pa_cons (pv 8) (pa_cons (pv 9) pa_nil))) (pa_cons (pe_callB (call_max2 rfl) (by rfl) B.max PyProof.Rows.boot_max (pa_cons (pv 8) (pa_cons (pv 9) pa_nil))) pa_nil))) pa_nil)))) pss_nil)))))
      (pss_one (ps_ret (pe_callTy call_tuple_of (by rfl) B.tuple PyProof.Rows.boot_tuple (pa_cons (pe_callB (cr_sortedT rfl) (by rfl) B.sorted PyProof.Rows.boot_sorted (pa_cons (pe_callTy (cr_setOfT rfl hu) (by rfl) B.set PyProof.Rows.boot_set (pa_cons (pv 2) pa_nil)) pa_nil)) pa_nil))))))))), ?_⟩
    refine ⟨Nat.zero_le _, fun fo hf0 => ?_⟩
    obtain ⟨npf, nlf⟩ := hh.ne hf0
    have x0 : Ext p H (upd H fo (.lst [])) := Ext.rfl'.upd hf0
    have hh0 : HandAt (upd H fo (.lst [])) p l := hh.new hf0
    have pr0 : Pairs m (upd H fo (.lst [])) fo [] := ⟨upd_same, fun q hq => absurd hq List.not_mem_nil, fun q hq => absurd hq List.not_mem_nil⟩
    refine ⟨_, rfl, p, l, 4, rfl, hh0, by decide, by decide, fun sh H1 s0 s1 g1 b1 => ?_⟩
    have pr1 := pr0.but hh0 b1 npf
    have x1 := x0.but b1
    refine ⟨fun σ H' => ∃ x4 x5 ks, σ = [some (.ref p), some (.int m), some (.ref fo), some (.int sh), x4, x5, none, none, none, none] ∧ Pairs m H' fo ks ∧ ks.length ≤ 39 ∧ (∀ h : Int, 1 ≤ h → h < m → ∃ q ∈ ks, ∃ o : Int, q.2 = [o, h]) ∧ HandAt H' p l ∧ Ext p H H', ?_, ?_⟩
    · refine ⟨_, rfl, 1, m, rfl, ⟨by decide, by decide, by omega, by omega⟩, for_range (lo := 1) (n := (m - 1).toNat) (fun i σ H' => ∃ x4 x5 ks, σ = [some (.ref p), some (.int m), some (.ref fo), some (.int sh), x4, x5, none, none, none, none] ∧ Pairs m H' fo ks ∧ ks.length = i ∧ (∀ h : Int, 1 ≤ h → h ≤ i → ∃ q ∈ ks, ∃ o : Int, q.2 = [o, h]) ∧ HandAt H' p l ∧ Ext p H H') ?_ ?_ ?_⟩
      · exact ⟨none, none, [], rfl, pr1, rfl, fun h a b => by omega, g1, x1⟩
      · rintro i σ H2 hi ⟨x4, x5, ks, rfl, pr2, hl, hc, g2, x2⟩
        refine ⟨_, rfl, _, rfl, p, l, 1 + (i : Int), rfl, g2, by omega, by omega, fun o H3 o0 o1 g3 b3 => ?_⟩
        have pr3 := pr2.but g2 b3 npf
        have x3 := x2.but b3
        refine ⟨fun σ H' => H' = H3 ∧ ∃ o : Int, 0 ≤ o ∧ o < 1 + (i : Int) ∧ σ = [some (.ref p), some (.int m), some (.ref fo), some (.int sh), some (.int (1 + (i : Int))), some (.int o), none, none, none, none], ?_, ?_⟩
        · refine ⟨_, rfl, rfl, _, rfl, ite2 (fun _ => ?_) (fun _ => ?_)⟩
          · exact ⟨_, rfl, _, _, rfl, rfl, rfl, 1 + (i : Int) - 1, by omega, by omega, rfl⟩
          · exact ⟨rfl, o, o0, o1, rfl⟩
        · rintro σ H3 ⟨rfl, o, o0, o1, rfl⟩
          refine ⟨fun σ H' => H' = H3 ∧ ∃ o : Int, 0 ≤ o ∧ o < 1 + (i : Int) ∧ σ = [some (.ref p), some (.int m), some (.ref fo), some (.int sh), some (.int (1 + (i : Int))), some (.int o), none, none, none, none], ?_, ?_⟩
          · refine ⟨_, rfl, rfl, _, rfl, ite2 (fun _ => ?_) (fun _ => ?_)⟩
            · exact ⟨rfl, 0, by omega, by omega, rfl⟩
            · exact ⟨rfl, o, o0, o1, rfl⟩
          · rintro σ H3 ⟨rfl, o, o0, o1, rfl⟩
            refine ⟨_, rfl, .inl ⟨rfl, _, SqL.of pr3.at_⟩, _, rfl, _, rfl, (by show 2 ≤ sizeLine; decide), fun t ht => ?_⟩
            have ntf : fo ≠ t := ne_of_none pr3.at_ ht
            refine ⟨fo, _, _, rfl, rfl, (by rw [upd_ne ntf]; exact pr3.at_), ?_, ?_⟩
            · rw [List.length_map, hl]
              refine Nat.lt_of_lt_of_le (m := 64) (by omega) (by decide)
            · refine ⟨_, _, _, rfl, pr3.add ht o0 o1 (by omega), by rw [List.length_append, hl]; rfl, fun h a b => ?_, ?_, ?_⟩
              · by_cases e : h ≤ (i : Int)
                · obtain ⟨q, hq, z⟩ := hc h a e
                  exact ⟨q, List.mem_append_left _ hq, z⟩
                · have e2 : h = 1 + (i : Int) := by omega
                  exact ⟨_, List.mem_append_right _ (List.mem_singleton.mpr rfl), o, by rw [e2]⟩
              · exact (g3.new ht).stay npf nlf
              · exact fun b o e nb => by rw [upd_ne (ne_of_none e hf0)]; exact (x3.upd ht) b o e nb
      · rintro σ H2 ⟨x4, x5, ks, rfl, pr2, hl, hc, g2, x2⟩
        exact ⟨x4, x5, ks, rfl, pr2, by omega, fun h a b => hc h a (by omega), g2, x2⟩
    · rintro σ H2 ⟨x4, x5, ks, rfl, pr2, hl, hc, g2, x2⟩
      refine ⟨_, rfl, _, rfl, _, _, rfl, rfl, p, l, m + 1, rfl, g2, by omega, by omega, fun d H3 d0 d1 g3 b3 => ?_⟩
      have pr3 := pr2.but g2 b3 npf
      have x3 := x2.but b3
      refine ⟨_, rfl, _, _, rfl, rfl, .inr ⟨_, rfl, ?_⟩⟩
      refine ⟨_, _, rfl, rfl, .inr (by split <;> constructor <;> decide), _, _, rfl, rfl, ⟨by decide, by decide⟩, ?_⟩
      have hmo : 0 ≤ d * (if decide (2 < m) = true then 1 else 0) / 2 ∧ d * (if decide (2 < m) = true then 1 else 0) / 2 ≤ 20 := by
        split
        · rw [Int.mul_one]; omega
        · rw [Int.mul_zero]; decide
      refine ⟨fun σ H' => ∃ x4 x5 mo ks, σ = [some (.ref p), some (.int m), some (.ref fo), some (.int sh), x4, x5, some (.int mo), none, none, none] ∧ 0 ≤ mo ∧ mo ≤ 20 ∧ Pairs m H' fo ks ∧ ks.length ≤ 39 ∧ (∀ h : Int, 1 ≤ h → h < m → ∃ q ∈ ks, ∃ o : Int, q.2 = [o, h]) ∧ HandAt H' p l ∧ Ext p H H', ?_, ?_⟩
      · refine ⟨_, rfl, p, l, 2, rfl, g3, by decide, by decide, fun d2 H4 e0 e1 g4 b4 => ?_⟩
        have pr4 := pr3.but g3 b4 npf
        have x4' := x3.but b4
        refine ⟨rfl, _, rfl, ite2 (fun _ => ?_) (fun _ => ?_)⟩
        · exact ⟨_, rfl, _, _, rfl, _, _, _, ks, rfl, (min_ok hmo).1, (min_ok hmo).2, pr4, hl, hc, g4, x4'⟩
        · exact ⟨_, _, _, ks, rfl, hmo.1, hmo.2, pr4, hl, hc, g4, x4'⟩
      · clear hmo
        clear hl hc pr2 pr3 x2 x3 g2 g3 b3
        rintro σ H4 ⟨x4, x5, mo, ks, rfl, m0, m20, pr4, hl, hc, g4, x4'⟩
        refine ⟨fun σ H' => ∃ x4 x5 x7 x8 x9 ks, σ = [some (.ref p), some (.int m), some (.ref fo), some (.int sh), x4, x5, some (.int mo), x7, x8, x9] ∧ Pairs m H' fo ks ∧ ks.length < 64 ∧ (∀ h : Int, 1 ≤ h → h < m → ∃ q ∈ ks, ∃ o : Int, q.2 = [o, h]) ∧ HandAt H' p l ∧ Ext p H H', ?_, ?_⟩
        · refine ⟨_, rfl, mo, rfl, by omega, by omega, for_range (lo := 0) (n := mo.toNat) (fun i σ H' => ∃ x4 x5 x7 x8 x9 ks, σ = [some (.ref p), some (.int m), some (.ref fo), some (.int sh), x4, x5, some (.int mo), x7, x8, x9] ∧ Pairs m H' fo ks ∧ ks.length ≤ 39 + i ∧ (∀ h : Int, 1 ≤ h → h < m → ∃ q ∈ ks, ∃ o : Int, q.2 = [o, h]) ∧ HandAt H' p l ∧ Ext p H H') ?_ ?_ ?_⟩
          · exact ⟨x4, x5, _, _, _, ks, rfl, pr4, hl, hc, g4, x4'⟩
          · rintro i σ H5 hi ⟨y4, y5, y7, y8, y9, ks, rfl, pr5, hl, hc, g5, x5'⟩
            refine ⟨_, rfl, _, rfl, p, l, m, rfl, g5, by omega, by omega, fun a H6 a0 a1 g6 b6 => ?_⟩
            refine ⟨_, rfl, _, rfl, p, l, m, rfl, g6, by omega, by omega, fun b H7 b0 b1 g7 b7 => ?_⟩
            have pr7 := (pr5.but g5 b6 npf).but g6 b7 npf
            have x7' := (x5'.but b6).but b7
            refine ⟨_, rfl, _, rfl, rfl, _, rfl, ite2 (fun c => ?_) (fun _ => ?_)⟩
            · have hab : a ≠ b := fun e => by rw [e] at c; simp at c
              refine ⟨_, rfl, .inl ⟨rfl, _, SqL.of pr7.at_⟩, _, rfl, _, rfl, _, _, rfl, _, rfl, _, rfl, _, _, rfl, (by show 2 ≤ sizeLine; decide), fun t ht => ?_⟩
              have ntf : fo ≠ t := ne_of_none pr7.at_ ht
              refine ⟨fo, _, _, rfl, rfl, (by rw [upd_ne ntf]; exact pr7.at_), ?_, ?_⟩
              · rw [List.length_map]
                refine Nat.lt_of_lt_of_le (m := 64) (by omega) (by decide)
              · have e1 : (if b < a then b else a) < (if b > a then b else a) := by split <;> split <;> omega
                have e0 : 0 ≤ (if b < a then b else a) := by split <;> omega
                have e2 : (if b > a then b else a) < m := by split <;> omega
                refine ⟨_, _, _, _, _, _, rfl, pr7.add ht e0 e1 e2, by rw [List.length_append, List.length_singleton]; omega, fun h u v => ?_, (g7.new ht).stay npf nlf, fun b o e nb => by rw [upd_ne (ne_of_none e hf0)]; exact (x7'.upd ht) b o e nb⟩
                obtain ⟨q, hq, z⟩ := hc h u v
                exact ⟨q, List.mem_append_left _ hq, z⟩
            · exact ⟨_, _, _, _, _, ks, rfl, pr7, by omega, hc, g7, x7'⟩
          · rintro σ H5 ⟨y4, y5, y7, y8, y9, ks, rfl, pr5, hl, hc, g5, x5'⟩
            exact ⟨_, _, _, _, _, ks, rfl, pr5, by omega, hc, g5, x5'⟩
        · clear hl hc pr4 g4 x4'
          rintro σ H5 ⟨y4, y5, y7, y8, y9, ks, rfl, pr5, hl, hc, g5, x5'⟩
          refine ⟨_, rfl, fo, ks, rfl, SqL.of pr5.at_, fun q hq => SqT.of (pr5.tup q hq), hl, fun a L ha hLk hkL => ?_⟩
          have t6 : ∀ q ∈ ks, upd H5 a (SetTO P w a L) q.1 = some (.tup (q.2.map V.int)) := fun q hq => by
            rw [upd_ne (ne_of_none (pr5.tup q hq) ha)]
            exact pr5.tup q hq
          refine ⟨a, L, 2, 64, rfl, upd_same, fun q hq => SqT.of (t6 q (hLk q hq)), by decide, fun q hq => ?_, fun L' q pm hnd few pw hq => ?_⟩
          · obtain ⟨u, v, e, h0, h1, h2⟩ := pr5.ok q (hLk q hq)
            rw [e]
            refine ⟨rfl, fun z hz => ?_⟩
            simp at hz
            omega
          · refine ⟨q, _, rfl, .inl ⟨SqL.of upd_same, fun t ht => ?_⟩⟩
            have mem : ∀ x ∈ L', x ∈ ks := fun x hx => hLk x (pm.mem_iff.mp hx)
            have ntq : t ≠ q := fun e => by rw [e, upd_same] at ht; cases ht
            have ht2 : upd H5 a (SetTO P w a L) t = none := by
              have z := ht
              rw [upd_ne ntq] at z
              exact z
            refine k t L' _ ⟨upd_same, fun x hx => ?_, fun x hx => pr5.ok x (mem x hx), ?_, by omega⟩ (fun h u v => ?_) few ?_ ?_
            · rw [upd_ne (ne_of_none (t6 x (mem x hx)) ht2), upd_ne (ne_of_none (t6 x (mem x hx)) hq)]
              exact t6 x (mem x hx)
            · exact asc_of hm40 L' (fun x hx => pr5.ok x (mem x hx)) hnd pw
            · obtain ⟨x, hx, o, e⟩ := hc h u v
              obtain ⟨y, hy, e2⟩ := List.mem_map.mp (hkL x hx)
              exact ⟨y, pm.mem_iff.mpr hy, o, e2.trans e⟩
            · exact (((g5.new ha).new hq).new (by rw [upd_ne ntq]; exact ht2))
            · exact ((x5'.upd ha).upd hq).upd (by rw [upd_ne ntq]; exact ht2)
end
end Q

/-! enumerate over a tuple -/
namespace Q
open PySem L2 PySem.Spec PyProof.Rows
open AutoSeq1 (wpAny_loadPart')
theorem en_new (tp : Addr) (xs : Array Value) (n : Nat) (dc : Option Addr) (sl : Array (Option Value)) :
    Meets (Builtin.«enumerate.__new__» ⟨[.type "enumerate", .ref tp], []⟩) (fun _ R s => s.heap.get? tp = some { cls := .type "tuple", dict := dc, data := .seq xs n, slots := sl } ∧ R (.ok (.ret (.ref (s.heap.push { cls := .type "tuple_iterator", data := .fields #[.ref tp, .int 0 0] }).objs.size)))
      { s with heap := (s.heap.push { cls := .type "tuple_iterator", data := .fields #[.ref tp, .int 0 0] }).push { cls := .type "enumerate", data := .fields #[.none, .bool false, .ref s.heap.objs.size, rawInt 0, .none, .none] } }) :=
  .of_wp fun P' w' A' R' s' h' => by
    obtain ⟨h0, g0, d0, t0, o0⟩ := s'
    obtain ⟨a1, a2⟩ := h'
    have zs := sub_enumerate
    have zt : Heap.IsTuple (Shared.heap ⟨h0, g0, d0, t0, o0⟩) tp xs := ⟨_, a1, rfl, n, rfl⟩
    wp_walk using wpAny_loadPart' a1
    refine wpAny_stack_any fun _ => wpAny_pure ?_
    split
    · rename_i c _ _ _ _ _
      cases (c == Value.type "enumerate")
      · wp_walk using wpAny_loadPart' a1, wpAny_pyIter_tuple zt
        exact ⟨_, rfl, a2⟩
      · wp_walk using wpAny_loadPart' a1, wpAny_pyIter_tuple zt
        exact ⟨_, rfl, a2⟩
    · wp_walk using wpAny_loadPart' a1, wpAny_pyIter_tuple zt
      exact ⟨_, rfl, a2⟩
theorem en_call {prog : Program} {w : World} {A : Around} {E : Value → Shared → Prop} {s : Shared} {tp : Addr} {xs : Array Value} {Q : Value → Shared → Prop} (ht : s.heap.IsTuple tp xs)
    (k : ∀ h', IsEnum h' (s.heap.objs.size + 1) s.heap.objs.size 0 .none → h'.IsTupleIter s.heap.objs.size tp 0 → (∀ b o, s.heap.get? b = some o → h'.get? b = some o) → Q (.ref (s.heap.objs.size + 1)) { s with heap := h' }) :
    wpAny (model prog w) A (call (.type "enumerate") [.ref tp]) Q E s := by
  obtain ⟨⟨c, dc, dt, sl⟩, a1, ac, n, ad⟩ := ht
  have ac' : c = .type "tuple" := ac
  have ad' : dt = .seq xs n := ad
  subst ac' ad'
  refine callType_new F.called_enumerate (by decide) (F.typeCall_enumerate_1 _) (F.newCall_enumerate_1 _) (fun ob => F.args_object_init_2 ob _) F.entry_enumerate_new (en_new tp xs n dc sl) ⟨a1, ?_⟩
  have sz : (s.heap.push { cls := .type "tuple_iterator", data := .fields #[.ref tp, .int 0 0] }).objs.size = s.heap.objs.size + 1 := Heap.size_push ..
  show _ ∧ _
  rw [sz]
  have en : IsEnum ((s.heap.push { cls := .type "tuple_iterator", data := .fields #[.ref tp, .int 0 0] }).push { cls := .type "enumerate", data := .fields #[.none, .bool false, .ref s.heap.objs.size, rawInt 0, .none, .none] }) (s.heap.objs.size + 1) s.heap.objs.size 0 .none := by
    have q := Heap.get?_push_size (s.heap.push { cls := .type "tuple_iterator", data := .fields #[.ref tp, .int 0 0] }) (o := { cls := .type "enumerate", data := .fields #[.none, .bool false, .ref s.heap.objs.size, rawInt 0, .none, .none] }) rfl
    rw [sz] at q
    exact q
  exact ⟨⟨_, en, rfl⟩, k _ en ⟨_, Heap.get?_push_of_some _ (Heap.get?_push_size _ rfl), rfl, rfl⟩ fun b o x => Heap.get?_push_of_some _ (Heap.get?_push_of_some _ x)⟩
/-- the tuple at a, each item in a new pair behind its number -/
def ItEt (K : PySem.W.Frag) (a : Addr) : It :=
  ⟨fun i H => ∃ (xs : List V) (x : V), SqT K H a xs ∧ xs[i]? = some x, fun i H v H' => ∃ T x, v = .ref T ∧ H T = none ∧ H' = upd H T (.tup [.int (i : Nat), x]) ∧ ∀ ys, SqT K H a ys → ys[i]? = some x, fun i H => ∃ xs : List V, SqT K H a xs ∧ xs.length = i⟩
theorem D_of {prog : Program} {w : World} {A : Around} (hh : A.handled = none) {it a : Addr} (n : a ≠ it) (items : Array Value) : Draws prog w A.in1 it [it, a] items.size (fun i v => items[i]? = some v) (fun i h => h.IsTupleIter it a i ∧ h.IsTuple a items) :=
  Draws.tuple (A := A.in1) hh it a n items
theorem en_turn {P : Program} {w : World} {K : PySem.W.Frag} {elts : List Expr} {kk : Nat} {tpos : Pos} (a e it : Addr) :
    Turn P w K (.Tuple elts kk tpos) (ItEt K a) [e, it] e (fun i h => (∃ u, IsEnum h e it ((i : Nat) : Int) u) ∧ h.IsTupleIter it a i ∧ e ≠ it ∧ a ≠ it ∧ a ≠ e) where
  mem := List.mem_cons_self
  obj := fun i h st b hb => by
    obtain ⟨⟨u, he⟩, ⟨o, ho, hc, hd⟩, _⟩ := st
    rcases List.mem_cons.mp hb with z | z
    · rw [z]; exact ⟨_, he, fun v q => nomatch q⟩
    · rw [List.mem_singleton.mp z]; exact ⟨o, ho, fun v q => by rw [hd] at q; cases q⟩
  keep := fun i h h' st k => let ⟨⟨u, he⟩, hi, n1, n2⟩ := st; ⟨⟨u, k e List.mem_cons_self _ he⟩, hi.at fun o q => k it (List.mem_cons_of_mem _ (List.mem_singleton.mpr rfl)) o q, n1, n2⟩
  item := by
    intro X eP ew eK hc i pins s σ H E I hf st hg
    subst eP ew eK
    obtain ⟨⟨u0, he⟩, hit, n1, n2, n3⟩ := st
    obtain ⟨xs, x, hq, hx⟩ := hg
    obtain ⟨its, rv, tp, hz⟩ := I.tuple hq
    obtain ⟨u, hu, ru⟩ := rv.get hx
    have lt : i < its.toArray.size := by
      have z := (List.getElem?_eq_some_iff.mp hu).1
      simpa using z
    have le : e < s.heap.objs.size := Heap.lt_size he
    have li : it < s.heap.objs.size := by obtain ⟨_, q, _⟩ := hit; exact Heap.lt_size q
    refine wpAny_pyNext_enum_itemD (D_of (I.ok.hd hc) n2 its.toArray) he ⟨hit, tp⟩ lt n1 (fun z => ?_) fun y h' tk hy ho hs' hT hsz hk => ?_
    · rcases List.mem_cons.mp z with z | z
      · exact n1 z
      · exact n3 (List.mem_singleton.mp z).symm
    have ey : y = u := by
      have z : its.toArray[i]? = some y := hy
      rw [List.getElem?_toArray, hu] at z
      exact (Option.some.inj z).symm
    subst ey
    refine ⟨_, rfl, wpAny_letOwnedTupleGo_enum (s := { s with heap := h', toks := tk + 1 }) ho fun h2 he2 sb => ?_⟩
    have hT2 : h2.get? s.heap.objs.size = some { cls := .type "tuple", data := .seq #[.int i tk, y] } := (sb.2 _ (Nat.ne_of_gt le)).trans hT
    have new : ObjOk X.prog X.w (upd H s.heap.objs.size (.tup [.int (i : Nat), x])) h2 s.heap.objs.size (.tup [.int (i : Nat), x]) :=
      ⟨by show 2 ≤ sizeLine; decide, [.int i tk, y], .cons ⟨_, rfl⟩ (.cons ru .nil), ⟨_, hT2, rfl, _, rfl⟩⟩
    have I1 : Inv X pins σ (upd H s.heap.objs.size (.tup [.int (i : Nat), x])) { s with heap := h2, toks := tk + 1 } :=
      I.turnedNew (ch := [e, it]) (fun b ob hb q => (sb.2 b (fun z => hb (by rw [z]; exact List.mem_cons_self))).trans (hk b ob (fun z => hb (by rw [z]; exact List.mem_cons_self)) (fun z => hb (by rw [z]; exact List.mem_cons_of_mem _ (List.mem_singleton.mpr rfl))) q)) hf (Nat.le_refl _) new
    refine ⟨.ref s.heap.objs.size, _, I1, rfl, ⟨_, x, rfl, I.hok.fresh (Nat.le_refl _), rfl, fun ys hy => by rw [I.tuple_inj hy hq]; exact hx⟩, ⟨⟨y, ?_⟩, hs'.1.at fun o q => (sb.2 it (Ne.symm n1)).trans q, n1, n2, n3⟩, fun b hb => ?_⟩
    · have e1 : ((i + 1 : Nat) : Int) = (i : Int) + 1 := by omega
      rw [e1]
      exact he2
    · have hb2 : b < s.heap.objs.size := by
        rcases List.mem_cons.mp hb with z | z
        · rw [z]; exact le
        · rw [List.mem_singleton.mp z]; exact li
      rw [upd_ne (Nat.ne_of_lt hb2)]
      exact (hf b hb).1
  done := by
    intro X eP ew eK hc i pins s σ H E I hf st hg
    subst eP ew eK
    obtain ⟨⟨u0, he⟩, hit, n1, n2, n3⟩ := st
    obtain ⟨xs, hq, hx⟩ := hg
    obtain ⟨its, rv, tp, hz⟩ := I.tuple hq
    obtain ⟨f0, f1, f2, f3, f4, f5⟩ := hf it (List.mem_cons_of_mem _ (List.mem_singleton.mpr rfl))
    have ls : xs.length = its.length := rv.length
    have ei : i = its.toArray.size := by
      rw [List.size_toArray]
      omega
    exact wpAny_pyNext_enum_endD (D_of (I.ok.hd hc) n2 its.toArray) he ⟨by rw [← ei]; exact hit, tp⟩ fun h' eb => ⟨rfl, I.turned (t' := s.toks) (fun b o hb q => eb b o hb q) f0 f1 f3 f4 f5⟩
  self := fun A i s Q E st h => let ⟨⟨_, he⟩, _⟩ := st; wpAny_pyIter_enum he h
def iEnT (K : PySem.W.Frag) (ta : TA) : TI := fun σ H R => ta σ H fun vs H1 => ∃ a xs, vs = [.ref a] ∧ SqT K H1 a xs ∧ R (ItEt K a) H1
theorem pi_enumT {X : Cx} {e : Expr} {ta : TA} {p pos tpos : Pos} {elts : List Expr} {kk : Nat} (hg : Gl X "enumerate") (hm : X.mg "enumerate" = none) (ha : PA X [e] ta) (hs : starEach [e] X.env = [(false, eval e X.env)] := by rfl) :
    PI X (.Tuple elts kk tpos) (.Call (.Name "enumerate" p) [e] [] pos) (iEnT X.K ta) := by
  refine ⟨fun pins s σ H R I h => ?_⟩
  refine Call_ (ld_blt I hg hm boot_enumerate (PyProof.Rows.callWith_type1 (thn (ha.run pos pins s σ H _ I h) fun us s1 ⟨vs, H1, I1, r1, q1⟩ => ?_) hs rfl))
  obtain ⟨a, xs, rfl, hq, q⟩ := q1
  cases r1 with
  | cons r rr =>
    cases rr
    cases r
    obtain ⟨its, rv, tp, hz⟩ := I1.tuple hq
    have la : a < s1.heap.objs.size := by obtain ⟨o, z, _⟩ := tp; exact Heap.lt_size z
    refine en_call tp fun h' he hit hk => wpAny_pyIter_enum he ?_
    have I2 : Inv X pins σ H1 { s1 with heap := h' } := I1.kept (t' := s1.toks) hk
    refine ⟨s1.heap.objs.size + 1, [s1.heap.objs.size + 1, s1.heap.objs.size], _, _, H1, rfl, I2, en_turn a (s1.heap.objs.size + 1) s1.heap.objs.size, ⟨⟨.none, he⟩, hit, Nat.succ_ne_self _, Nat.ne_of_lt la, Nat.ne_of_lt (Nat.lt_succ_of_lt la)⟩, fun b hb => ?_, q⟩
    have hle : s1.heap.objs.size ≤ b := by
      rcases List.mem_cons.mp hb with z | z
      · rw [z]; exact Nat.le_add_right _ _
      · rw [List.mem_singleton.mp z]; exact Nat.le_refl _
    exact I1.fpOk hle (I1.hok.fresh hle)
theorem for_enT {K : PySem.W.Frag} {a : Addr} {xs : List V} {g : TG} {tb : TS} {D : Ends} {σ : L2.St} {H : Hp} (Pv : Nat → L2.St → Hp → Prop) (h0 : Pv 0 σ H) (hl : ∀ i σ H, i ≤ xs.length → Pv i σ H → SqT K H a xs)
    (hs : ∀ (i : Nat) (x : V) (T : Addr) (σ : L2.St) (H : Hp), xs[i]? = some x → Pv i σ H → H T = none → g (.ref T) σ (upd H T (.tup [.int (i : Nat), x])) fun σ2 H2 => tb { D with nx := Pv (i + 1), ct := Pv (i + 1), bk := D.nx } σ2 H2) (hd : ∀ σ H, Pv xs.length σ H → D.nx σ H) :
    ∃ W : Nat → Nat → L2.St → Hp → Prop, (∃ m, W 0 m σ H) ∧ ∀ i m σ H, W i m σ H →
      ((ItEt K a).stop i H ∧ D.nx σ H) ∨ ((ItEt K a).go i H ∧ ∃ N : L2.St → Hp → Prop, (∀ σ' H', N σ' H' → ∃ m', m' < m ∧ W (i + 1) m' σ' H') ∧ ∀ v H', (ItEt K a).yld i H v H' → g v σ H' fun σ2 H2 => tb { D with nx := N, ct := N, bk := D.nx } σ2 H2) := by
  refine ⟨fun i m σ H => m = xs.length - i ∧ i ≤ xs.length ∧ Pv i σ H, ⟨xs.length, by omega, Nat.zero_le _, h0⟩, ?_⟩
  rintro i m σ H ⟨em, hi, p⟩
  have q := hl i σ H hi p
  by_cases lt : i < xs.length
  · refine .inr ⟨⟨xs, xs[i], q, List.getElem?_eq_getElem lt⟩, Pv (i + 1), fun σ' H' p' => ⟨xs.length - (i + 1), by omega, rfl, lt, p'⟩, ?_⟩
    rintro v H' ⟨T, x, rfl, hT, rfl, hx⟩
    exact hs i x T σ H (hx xs q) p hT
  · have e : i = xs.length := by omega
    subst e
    exact .inl ⟨⟨xs, q, rfl⟩, hd σ H p⟩
end Q

namespace Q
open PySem L2
abbrev sPlain : Stmt := top 5
abbrev sNum : Stmt := top 6
abbrev sTie : Stmt := top 10
abbrev sFirst : Stmt := top 11
abbrev kInt (K : PySem.W.Frag) (t : Value) (b : Bool) : Prop := PySem.W.kitOne K t (.type "int") = some b
abbrev kBool (K : PySem.W.Frag) (t : Value) (b : Bool) : Prop := PySem.W.kitOne K t (.type "bool") = some b
def spPlain (K : PySem.W.Frag) : Sp := fun vs H Q _ => ∃ (v : V) (t : Value) (b c : Bool), vs = [v] ∧ TyX K H v t ∧ kInt K t b ∧ kBool K t c ∧ Q (.bl (b && !c)) H
def NoInt (K : PySem.W.Frag) (H : Hp) (v : V) : Prop := ∃ (t : Value) (b c : Bool), TyX K H v t ∧ kInt K t b ∧ kBool K t c ∧ (b && !c) = false
def spNum (K : PySem.W.Frag) : Sp := fun vs H Q _ => ∃ (n : Int) (v : V), vs = [.int n, v] ∧ ((∃ i : Int, v = .int i ∧ Q (.bl (decide (0 ≤ i) && decide (i < n))) H) ∨ (NoInt K H v ∧ Q (.bl false) H))
theorem kInt_int {K : PySem.W.Frag} : kInt K (.type "int") true := kit_ty (by decide +kernel)
theorem kBool_int {K : PySem.W.Frag} : kBool K (.type "int") false := kit_ty (by decide +kernel)
theorem NoInt.int {K : PySem.W.Frag} {H : Hp} {i : Int} (n : NoInt K H (.int i)) : False := by
  obtain ⟨t, b, c, ty, k1, k2, e⟩ := n
  cases ty with
  | base ty =>
    cases ty
    have z1 : some b = some true := k1.symm.trans kInt_int
    have z2 : some c = some false := k2.symm.trans kBool_int
    cases z1
    cases z2
    cases e
/-- a thing whose kind is known -/
inductive Kd (H : Hp) : V → Prop
  | int (i : Int) : Kd H (.int i)
  | non : Kd H .non
  | bl (b : Bool) : Kd H (.bl b)
  | str (z : Str) : Kd H (.str z)
  | tup {a : Addr} {xs : List V} (e : H a = some (.tup xs)) : Kd H (.ref a)
  | lst {a : Addr} {xs : List V} (e : H a = some (.lst xs)) : Kd H (.ref a)
  | dk {a : Addr} {kvs : List (Key × V)} (e : H a = some (.dK kvs)) : Kd H (.ref a)
theorem Kd.same {H H' : Hp} {v : V} (h : Kd H v) (s : Same H H') : Kd H' v := by
  cases h with
  | int i => exact .int i
  | non => exact .non
  | bl b => exact .bl b
  | str z => exact .str z
  | tup e => exact .tup (s _ _ e)
  | lst e => exact .lst (s _ _ e)
  | dk e => exact .dk (s _ _ e)
theorem Kd.ext {H H' : Hp} {v : V} {p l : Addr} (h : Kd H v) (g : HandAt H p l) (g' : HandAt H' p l) (x : Ext p H H') : Kd H' v := by
  obtain ⟨xs0, e0⟩ := g.hp
  obtain ⟨xs1, e1⟩ := g'.hp
  cases h with
  | int i => exact .int i
  | non => exact .non
  | bl b => exact .bl b
  | str z => exact .str z
  | tup e => exact .tup (x _ _ e (ne_of e e0 (fun z => by cases z)))
  | @lst a xs e =>
    by_cases c : a = p
    · rw [c]
      exact .lst e1
    · exact .lst (x _ _ e c)
  | dk e => exact .dk (x _ _ e (ne_of e e0 (fun z => by cases z)))
theorem Kd.cl {K : PySem.W.Frag} {H : Hp} {v : V} (h : Kd H v) : (∃ i : Int, v = .int i) ∨ NoInt K H v := by
  cases h with
  | int i => exact .inl ⟨i, rfl⟩
  | non => exact .inr ⟨_, false, false, .base .non, kit_ty (by decide +kernel), kit_ty (by decide +kernel), rfl⟩
  | bl b => exact .inr ⟨_, true, true, .base (.bl b), kit_ty (by decide +kernel), kit_ty (by decide +kernel), rfl⟩
  | str z => exact .inr ⟨_, false, false, .base (.str z), kit_ty (by decide +kernel), kit_ty (by decide +kernel), rfl⟩
  | tup e => exact .inr ⟨_, false, false, .base (.tup e), kit_ty (by decide +kernel), kit_ty (by decide +kernel), rfl⟩
  | lst e => exact .inr ⟨_, false, false, .base (.lst e), kit_ty (by decide +kernel), kit_ty (by decide +kernel), rfl⟩
  | dk e => exact .inr ⟨_, false, false, .base (.dK e), kit_ty (by decide +kernel), kit_ty (by decide +kernel), rfl⟩
theorem Kd.tyT {K : PySem.W.Frag} {H : Hp} {v : V} (h : Kd H v) : ∃ (t : Value) (b : Bool), TyX K H v t ∧ PySem.W.kitOne K t (.type "tuple") = some b ∧ ((b = true ∧ ∃ a xs, v = .ref a ∧ H a = some (.tup xs)) ∨ (b = false ∧ ∀ a xs, v = .ref a → H a = some (.tup xs) → False)) := by
  cases h with
  | int i => exact ⟨_, false, .base (.int _), kit_ty (by decide +kernel), .inr ⟨rfl, fun a xs e => nomatch e⟩⟩
  | non => exact ⟨_, false, .base .non, kit_ty (by decide +kernel), .inr ⟨rfl, fun a xs e => nomatch e⟩⟩
  | bl b => exact ⟨_, false, .base (.bl b), kit_ty (by decide +kernel), .inr ⟨rfl, fun a xs e => nomatch e⟩⟩
  | str z => exact ⟨_, false, .base (.str z), kit_ty (by decide +kernel), .inr ⟨rfl, fun a xs e => nomatch e⟩⟩
  | tup e => exact ⟨_, true, .base (.tup e), kit_ty (by decide +kernel), .inl ⟨rfl, _, _, rfl, e⟩⟩
  | lst e => exact ⟨_, false, .base (.lst e), kit_ty (by decide +kernel), .inr ⟨rfl, fun a xs e1 e2 => by
      cases e1
      rw [e] at e2
      cases e2⟩⟩
  | dk e => exact ⟨_, false, .base (.dK e), kit_ty (by decide +kernel), .inr ⟨rfl, fun a xs e1 e2 => by
      cases e1
      rw [e] at e2
      cases e2⟩⟩
/-- what may stand among ties -/
structure Itm (H : Hp) (v : V) : Prop where
  kd : Kd H v
  two : ∀ a x y, v = .ref a → H a = some (.tup [x, y]) → Kd H x ∧ Kd H y
theorem Kd.at_ {H : Hp} {a : Addr} (h : Kd H (.ref a)) : ∃ o, H a = some o := by
  cases h with
  | tup e => exact ⟨_, e⟩
  | lst e => exact ⟨_, e⟩
  | dk e => exact ⟨_, e⟩
theorem Itm.same {H H' : Hp} {v : V} (h : Itm H v) (s : Same H H') : Itm H' v := ⟨h.kd.same s, fun a x y e e2 => by
  have k := h.kd
  rw [e] at k
  obtain ⟨o, eo⟩ := k.at_
  rw [s _ _ eo] at e2
  cases e2
  obtain ⟨k1, k2⟩ := h.two a x y e eo
  exact ⟨k1.same s, k2.same s⟩⟩
theorem Itm.ext {H H' : Hp} {v : V} {p l : Addr} (h : Itm H v) (g : HandAt H p l) (g' : HandAt H' p l) (s : Ext p H H') : Itm H' v := ⟨h.kd.ext g g' s, fun a x y e e2 => by
  have k := h.kd
  rw [e] at k
  obtain ⟨o, eo⟩ := k.at_
  obtain ⟨zs, ez⟩ := g'.hp
  have ne : a ≠ p := ne_of e2 ez (fun z => by cases z)
  rw [s _ _ eo ne] at e2
  cases e2
  obtain ⟨k1, k2⟩ := h.two a x y e eo
  exact ⟨k1.ext g g' s, k2.ext g g' s⟩⟩
/-- a tie of a web of m houses -/
def Good (H : Hp) (m : Int) (v : V) (x y : Int) : Prop := ∃ t, v = .ref t ∧ H t = some (.tup [.int x, .int y]) ∧ 0 ≤ x ∧ x < y ∧ y < m
theorem Good.uniq {H : Hp} {m : Int} {v : V} {x y x' y' : Int} (h : Good H m v x y) (g : Good H m v x' y') : x = x' ∧ y = y' := by
  obtain ⟨t, rfl, e, _⟩ := h
  obtain ⟨t', e1, e', _⟩ := g
  cases e1
  rw [e] at e'
  simpa using e'
theorem Good.same {H H' : Hp} {m : Int} {v : V} {x y : Int} (h : Good H m v x y) (s : Same H H') : Good H' m v x y := by
  obtain ⟨t, e1, e2, r⟩ := h
  exact ⟨t, e1, s _ _ e2, r⟩
theorem Good.back {H H' : Hp} {m : Int} {v : V} {x y : Int} (i : Itm H v) (h : Good H' m v x y) (s : Same H H') : Good H m v x y := by
  obtain ⟨t, rfl, e2, r⟩ := h
  obtain ⟨o, eo⟩ := i.kd.at_
  have z := s _ _ eo
  rw [e2] at z
  cases z
  exact ⟨t, rfl, eo, r⟩
def spTie : Sp := fun vs H Q _ => ∃ (m : Int) (v : V), vs = [.int m, v] ∧ Itm H v ∧ ∀ b : Bool, (b = true ↔ ∃ x y, Good H m v x y) → Q (.bl b) H
section
variable {P : Program} {w : World} {K : PySem.W.Frag} {mg : Str → Option Value} {base : Heap}
theorem scPlain : FnScope ["thing"] ["thing"] (defScope sPlain) := ⟨rfl, rfl, rfl, by decide +kernel, rfl, by decide +kernel, by decide +kernel⟩
theorem ok_plain {f : Addr} {fd : FuncData} {x : Str} {st : Stmt} (F : Fun K "is_plain_int" "is_plain_int" sPlain f fd) (B : Bts mg) : FnOk P w K mg base CX0 1 f fd ["thing"] (spPlain K) := by
  refine F.ok scPlain (fun vs H Q E h => ?_) (fun cdv A outer s H vs Q E hr h => ?_)
  · obtain ⟨v, t, b, c, rfl, _⟩ := h
    rfl
  · obtain ⟨v, t, b, c, rfl, ty, kb, kc, k⟩ := h
    refine ⟨_, pss_one (ps_ret (pe_and (pe_callB call_isi (by rfl) B.isinstance PyProof.Rows.boot_isinstance (pa_cons (pv 0) (pa_cons (pe_bltn (v := .ty "int") rfl B.int PyProof.Rows.boot_int rfl) pa_nil)))
      (pe_one (pe_not (pe_callB call_isi (by rfl) B.isinstance PyProof.Rows.boot_isinstance (pa_cons (pv 0) (pa_cons (pe_bltn (v := .ty "bool") rfl B.bool (by decide +kernel) rfl) pa_nil))))))), ?_⟩
    refine ⟨_, rfl, v, .ty "int", t, .type "int", b, rfl, .ty _, ty, kb, _, rfl, ?_⟩
    cases b with
    | false => exact iteF k
    | true => exact iteT ⟨_, rfl, v, .ty "bool", t, .type "bool", c, rfl, .ty _, ty, kc, _, rfl, k⟩
theorem scNum : FnScope ["limit", "thing"] ["limit", "thing"] (defScope sNum) := ⟨rfl, rfl, rfl, by decide +kernel, rfl, by decide +kernel, by decide +kernel⟩
theorem ok_num {f fP : Addr} {fd fdP : FuncData} (F : Fun K "is_number_below" "is_number_below" sNum f fd) (B : Bts mg) (DP : Df K mg "is_plain_int" sPlain ["thing"] fP fdP) : FnOk P w K mg base CX0 2 f fd ["limit", "thing"] (spNum K) := by
  have GP : FnOk P w K mg base CX0 1 fP fdP ["thing"] (spPlain K) := ok_plain (x := "") (st := sPlain) DP.F B
  refine F.ok scNum (fun vs H Q E h => ?_) (fun cdv A outer s H vs Q E hr h => ?_)
  · obtain ⟨n, v, rfl, _⟩ := h
    rfl
  · obtain ⟨n, v, rfl, h⟩ := h
    refine ⟨_, pss_one (ps_ret (pe_and (pe_call GP hr rfl DP.m DP.k DP.b .nil pass0 (pa_cons (pv 1) pa_nil)) (pe_one (pe_chain op_le op_lt pe_int (pv 1) (pv 0))))), ?_⟩
    rcases h with ⟨i, rfl, k⟩ | ⟨⟨t, b, c, ty, kb, kc, e⟩, k⟩
    · refine ⟨_, rfl, .int i, .type "int", true, false, rfl, .base (.int _), kInt_int, kBool_int, _, rfl, iteT ?_⟩
      refine ⟨_, rfl, _, _, rfl, rfl, _, rfl, ?_⟩
      by_cases c : (0 : Int) ≤ i
      · rw [decide_eq_true c] at k ⊢
        exact iteT ⟨_, rfl, _, _, rfl, rfl, k⟩
      · rw [decide_eq_false c] at k ⊢
        exact iteF k
    · refine ⟨_, rfl, v, t, b, c, rfl, ty, kb, kc, _, rfl, ?_⟩
      rw [e]
      exact iteF k
theorem scTie : FnScope ["many", "thing", "low", "high"] ["many", "thing"] (defScope sTie) := ⟨rfl, rfl, rfl, by decide +kernel, rfl, by decide +kernel, by decide +kernel⟩
theorem ok_tie {f fP fN : Addr} {fd fdP fdN : FuncData} (F : Fun K "is_tie" "is_tie" sTie f fd) (B : Bts mg) (DP : Df K mg "is_plain_int" sPlain ["thing"] fP fdP) (DN : Df K mg "is_number_below" sNum ["limit", "thing"] fN fdN) : FnOk P w K mg base CX0 3 f fd ["many", "thing"] spTie := by
  have GN : FnOk P w K mg base CX0 2 fN fdN ["limit", "thing"] (spNum K) := ok_num DN.F B DP
  refine F.ok scTie (fun vs H Q E h => ?_) (fun cdv A outer s H vs Q E hr h => ?_)
  · obtain ⟨m, v, rfl, _⟩ := h
    rfl
  · obtain ⟨m, v, rfl, it, k⟩ := h
    have nd := scTie.nd
    refine ⟨_, pss_cons (ps_if (PW.pt (pw_or (pt_not (pt_val (pe_callB call_isi (by rfl) B.isinstance PyProof.Rows.boot_isinstance (pa_cons (pv 1) (pa_cons (pe_bltn (v := .ty "tuple") rfl B.tuple PyProof.Rows.boot_tuple rfl) pa_nil)))))
        (pw_or1 (pt_cmpR op_ne (pe_callB call_len_seq (by rfl) B.len PySem.boot_len (pa_cons (pv 1) pa_nil)) pe_int (nomark _))))) (pss_one (ps_ret pe_bl)) pss_nil)
      (pss_cons (ps_asg (pv 1) (pg_tup rfl (pgs_cons (pg_name (i := 2) nd rfl (.inl rfl)) (pgs_cons (pg_name (i := 3) nd rfl (.inl rfl)) pgs_nil))))
      (pss_one (ps_ret (pe_and (pe_call GN hr rfl DN.m DN.k DN.b .nil pass0 (pa_cons (pv 0) (pa_cons (pv 2) pa_nil)))
        (pe_and (pe_call GN hr rfl DN.m DN.k DN.b .nil pass0 (pa_cons (pv 0) (pa_cons (pv 3) pa_nil))) (pe_one (pe_cmpR op_lt (pv 2) (pv 3) (nomark _)))))))), ?_⟩
    obtain ⟨t, bt, ty, kt, h⟩ := it.kd.tyT (K := K)
    refine ⟨_, rfl, v, .ty "tuple", t, .type "tuple", bt, rfl, .ty _, ty, kt, _, rfl, ?_⟩
    rcases h with ⟨rfl, a, xs, rfl, ht⟩ | ⟨rfl, no⟩
    · have fin : (∀ x y, Good H m (.ref a) x y → False) → Q (.bl false) H := fun no => k false ⟨fun z => (nomatch z), fun ⟨x, y, g⟩ => (no x y g).elim⟩
      refine iteF ⟨_, rfl, a, xs, rfl, .inr (SqT.of ht), rfl, _, rfl, ?_⟩
      by_cases c2 : xs.length = 2
      · rw [c2, decide_eq_true (show V.int ((2 : Nat) : Int) = V.int 2 from rfl)]
        refine iteF ?_
        obtain ⟨x, y, rfl⟩ : ∃ x y, xs = [x, y] := by
          match xs, c2 with
          | [x, y], _ => exact ⟨x, y, rfl⟩
        obtain ⟨kx, ky⟩ := it.two a x y rfl ht
        refine ⟨_, rfl, a, _, rfl, SqT.of ht, rfl, _, _, rfl, _, _, rfl, rfl, ?_⟩
        refine ⟨_, rfl, _, rfl, m, x, rfl, ?_⟩
        rcases kx.cl (K := K) with ⟨i, rfl⟩ | nx
        · refine .inl ⟨i, rfl, _, rfl, ite2 (fun c => ?_) (fun c => ?_)⟩
          · refine ⟨_, rfl, _, rfl, m, y, rfl, ?_⟩
            rcases ky.cl (K := K) with ⟨j, rfl⟩ | ny
            · refine .inl ⟨j, rfl, _, rfl, ite2 (fun c' => ?_) (fun c' => ?_)⟩
              · refine ⟨_, rfl, _, rfl, _, _, rfl, rfl, ?_⟩
                rw [Bool.and_eq_true] at c c'
                have a1 := of_decide_eq_true c.1
                have a2 := of_decide_eq_true c'.2
                refine k (decide (i < j)) ⟨fun z => ⟨i, j, a, rfl, ht, a1, of_decide_eq_true z, a2⟩, fun ⟨x, y, t', e1, e2, _, z, _⟩ => ?_⟩
                cases e1
                rw [ht] at e2
                simp only [Option.some.injEq, HO.tup.injEq, List.cons.injEq, V.int.injEq, and_true] at e2
                exact decide_eq_true (by omega)
              · refine fin fun x y ⟨t', e1, e2, z0, z1, z2⟩ => c' ?_
                cases e1
                rw [ht] at e2
                simp only [Option.some.injEq, HO.tup.injEq, List.cons.injEq, V.int.injEq, and_true] at e2
                rw [Bool.and_eq_true]
                exact ⟨decide_eq_true (by omega), decide_eq_true (by omega)⟩
            · refine .inr ⟨ny, _, rfl, iteF (fin fun x y ⟨t', e1, e2, z0, z1, z2⟩ => ?_)⟩
              cases e1
              rw [ht] at e2
              simp only [Option.some.injEq, HO.tup.injEq, List.cons.injEq, and_true] at e2
              rw [e2.2] at ny
              exact ny.int
          · refine fin fun x y ⟨t', e1, e2, z0, z1, z2⟩ => c ?_
            cases e1
            rw [ht] at e2
            simp only [Option.some.injEq, HO.tup.injEq, List.cons.injEq, V.int.injEq, and_true] at e2
            rw [Bool.and_eq_true]
            exact ⟨decide_eq_true (by omega), decide_eq_true (by omega)⟩
        · refine .inr ⟨nx, _, rfl, iteF (fin fun x y ⟨t', e1, e2, z0, z1, z2⟩ => ?_)⟩
          cases e1
          rw [ht] at e2
          simp only [Option.some.injEq, HO.tup.injEq, List.cons.injEq, and_true] at e2
          rw [e2.1] at nx
          exact nx.int
      · rw [decide_eq_false (show ¬ V.int ((xs.length : Nat) : Int) = V.int 2 from fun z => c2 (by
          have z2 := V.int.inj z
          omega))]
        refine iteT (fin fun x y ⟨t', e1, e2, _⟩ => ?_)
        cases e1
        rw [ht] at e2
        simp only [Option.some.injEq, HO.tup.injEq] at e2
        exact c2 (by rw [e2]; rfl)
    · refine iteT (k false ⟨fun z => (nomatch z), fun ⟨x, y, t', e1, e2, _⟩ => (no t' _ e1 e2).elim⟩)
theorem not_le_of {a b c d : Int} (h : ltP [c, d] [a, b]) : Ob.lexAt (fun j => decide (([a, b] : List Int).getD j 0 = ([c, d] : List Int).getD j 0)) (fun j => decide (([a, b] : List Int).getD j 0 ≤ ([c, d] : List Int).getD j 0)) (decide (([a, b] : List Int).length ≤ ([c, d] : List Int).length)) 0 (min ([a, b] : List Int).length ([c, d] : List Int).length) = false := by
  obtain ⟨x, y, z, u, e1, e2, h⟩ := h
  simp only [List.cons.injEq, and_true] at e1 e2
  obtain ⟨rfl, rfl⟩ := e1
  obtain ⟨rfl, rfl⟩ := e2
  show (if decide (a = c) = true then (if decide (b = d) = true then decide ((2 : Nat) ≤ 2) else decide (b ≤ d)) else decide (a ≤ c)) = false
  rcases h with h | ⟨h1, h2⟩
  · rw [decide_eq_false (show ¬ a = c by omega), if_neg Bool.false_ne_true]
    exact decide_eq_false (by omega)
  · rw [decide_eq_true (show a = c by omega), if_pos rfl, decide_eq_false (show ¬ b = d by omega), if_neg Bool.false_ne_true]
    exact decide_eq_false (by omega)
theorem TiesAt.same {m : Int} {H H' : Hp} {q : Addr} {L : List (Addr × List Int)} (h : TiesAt m H q L) (s : Same H H') : TiesAt m H' q L :=
  ⟨s _ _ h.at_, fun p hp => s _ _ (h.tup p hp), h.ok, h.asc, h.few⟩
end
end Q

namespace Q
open PySem L2
/-- item k is a tie, and greater than the one ahead -/
def FineAt (H : Hp) (m : Int) (xs : List V) (k : Nat) : Prop := ∃ v a b, xs[k]? = some v ∧ Good H m v a b ∧ ∀ j u c d, k = j + 1 → xs[j]? = some u → Good H m u c d → (c < a ∨ (c = a ∧ d < b))
def AllFine (H : Hp) (m : Int) (xs : List V) (n : Nat) : Prop := ∀ k, k < n → FineAt H m xs k
/-- the first place at which what stands is none -/
def First (H : Hp) (m : Int) (xs : List V) : Option Nat → Prop
  | none => AllFine H m xs xs.length
  | some k => k < xs.length ∧ AllFine H m xs k ∧ ¬ FineAt H m xs k
def nI (v : Nat) : V := .int (v : Int)
def vO : Option Nat → V
  | none => .non
  | some k => nI k
theorem First.uniq {H : Hp} {m : Int} {xs : List V} {r r' : Option Nat} (h : First H m xs r) (g : First H m xs r') : r = r' := by
  cases r with
  | none =>
    cases r' with
    | none => rfl
    | some k => exact absurd (h k g.1) g.2.2
  | some j =>
    cases r' with
    | none => exact absurd (g j h.1) h.2.2
    | some k =>
      rcases Nat.lt_trichotomy j k with c | c | c
      · exact absurd (g.2.1 j c) h.2.2
      · rw [c]
      · exact absurd (h.2.1 k c) g.2.2
theorem AllFine.next {H : Hp} {m : Int} {xs : List V} {n : Nat} (h : AllFine H m xs n) (g : FineAt H m xs n) : AllFine H m xs (n + 1) := fun k hk => by
  by_cases c : k < n
  · exact h k c
  · have e : k = n := by omega
    rw [e]
    exact g
theorem lex_le (a b c d : Int) : Ob.lexAt (fun j => decide (([a, b] : List Int).getD j 0 = ([c, d] : List Int).getD j 0)) (fun j => decide (([a, b] : List Int).getD j 0 ≤ ([c, d] : List Int).getD j 0)) (decide (([a, b] : List Int).length ≤ ([c, d] : List Int).length)) 0 (min ([a, b] : List Int).length ([c, d] : List Int).length) = !decide (c < a ∨ (c = a ∧ d < b)) := by
  show (if decide (a = c) = true then (if decide (b = d) = true then decide ((2 : Nat) ≤ 2) else decide (b ≤ d)) else decide (a ≤ c)) = _
  by_cases h1 : a = c
  · rw [decide_eq_true h1, if_pos rfl]
    by_cases h2 : b = d
    · rw [decide_eq_true h2, if_pos rfl, decide_eq_false (show ¬ (c < a ∨ (c = a ∧ d < b)) by omega)]
      rfl
    · rw [decide_eq_false h2, if_neg Bool.false_ne_true]
      by_cases h3 : b ≤ d
      · rw [decide_eq_true h3, decide_eq_false (show ¬ (c < a ∨ (c = a ∧ d < b)) by omega)]
        rfl
      · rw [decide_eq_false h3, decide_eq_true (show (c < a ∨ (c = a ∧ d < b)) by omega)]
        rfl
  · rw [decide_eq_false h1, if_neg Bool.false_ne_true]
    by_cases h3 : a ≤ c
    · rw [decide_eq_true h3, decide_eq_false (show ¬ (c < a ∨ (c = a ∧ d < b)) by omega)]
      rfl
    · rw [decide_eq_false h3, decide_eq_true (show (c < a ∨ (c = a ∧ d < b)) by omega)]
      rfl
def spFirst : Sp := fun vs H Q _ => ∃ (m : Int) (q : Addr) (xs : List V), vs = [.int m, .ref q] ∧ H q = some (.tup xs) ∧ (∀ x ∈ xs, Itm H x) ∧ ∀ r H', Same H H' → First H m xs r → Q (vO r) H'
section
variable {P : Program} {w : World} {K : PySem.W.Frag} {mg : Str → Option Value} {base : Heap}
theorem scFirst : FnScope ["many", "ties", "ahead", "at", "tie"] ["many", "ties"] (defScope sFirst) := ⟨rfl, rfl, rfl, by decide +kernel, rfl, by decide +kernel, by decide +kernel⟩
theorem ok_first {f fP fN fT : Addr} {fd fdP fdN fdT : FuncData} (F : Fun K "first_wrong_tie" "first_wrong_tie" sFirst f fd) (B : Bts mg) (DP : Df K mg "is_plain_int" sPlain ["thing"] fP fdP) (DN : Df K mg "is_number_below" sNum ["limit", "thing"] fN fdN)
    (DT : Df K mg "is_tie" sTie ["many", "thing"] fT fdT) : FnOk P w K mg base CX0 4 f fd ["many", "ties"] spFirst := by
  have GT : FnOk P w K mg base CX0 3 fT fdT ["many", "thing"] spTie := ok_tie DT.F B DP DN
  refine F.ok scFirst (fun vs H Q E h => ?_) (fun cdv A outer s H vs Q E hr h => ?_)
  · obtain ⟨m, q, xs, rfl, _⟩ := h
    rfl
  · obtain ⟨m, q, xs, rfl, hq, its, k⟩ := h
    have nd := scFirst.nd
    have hu := hr.units0
    refine ⟨_, pss_cons (ps_set (i := 2) nd rfl (.inl rfl) (pe_tup pa_nil))
      (pss_cons (ps_for PassesOwn.never rfl (pi_enumT rfl B.enumerate (pa_cons (pv 1) pa_nil)) (pg_tup rfl (pgs_cons (pg_name (i := 3) nd rfl (.inl rfl)) (pgs_cons (pg_name (i := 4) nd rfl (.inl rfl)) pgs_nil)))
        (pss_cons (ps_if (PW.pt (pw_or (pt_not (pt_val (pe_call GT hr rfl DT.m DT.k DT.b .nil pass0 (pa_cons (pv 0) (pa_cons (pv 4) pa_nil))))) (pw_or1 (pt_cmpR (op_leT hu) (pv 4) (pv 2) (nomark _))))) (pss_one (ps_ret (pv 3))) pss_nil)
        (pss_one (ps_set (i := 2) nd rfl (.inl rfl) (pv 4)))))
      (pss_one (ps_ret pe_non))), ?_⟩
    refine ⟨Nat.zero_le _, fun ah hah => ?_⟩
    have s0 : Same H (upd H ah (.tup [])) := fun b o e => by rw [upd_ne (ne_of_none e hah)]; exact e
    refine ⟨_, rfl, q, _, rfl, SqT.of (s0 _ _ hq), for_enT (a := q) (xs := xs) (fun i σ H' => ∃ ah x3 x4 cs, σ = [some (.int m), some (.ref q), some (.ref ah), x3, x4] ∧ Same H H' ∧ AllFine H m xs i ∧ H' ah = some (.tup (cs.map V.int)) ∧
      ((i = 0 ∧ cs = []) ∨ ∃ j u c d, i = j + 1 ∧ xs[j]? = some u ∧ Good H m u c d ∧ cs = [c, d])) ?_ ?_ ?_ ?_⟩
    · exact ⟨ah, none, none, [], rfl, s0, fun k hk => absurd hk (Nat.not_lt_zero _), upd_same, .inl ⟨rfl, rfl⟩⟩
    · rintro i σ H1 hi ⟨ah, x3, x4, cs, rfl, s1, _⟩
      exact SqT.of (s1 _ _ hq)
    · rintro i x T σ H1 hx ⟨ah, x3, x4, cs, rfl, s1, fine, eah, hcs⟩ hT
      have s2 : Same H1 (upd H1 T (.tup [.int (i : Nat), x])) := fun b o e => by rw [upd_ne (ne_of_none e hT)]; exact e
      have s3 : Same H (upd H1 T (.tup [.int (i : Nat), x])) := fun b o e => s2 _ _ (s1 _ _ e)
      have it := its x (List.mem_of_getElem? hx)
      have hil : i < xs.length := (List.getElem?_eq_some_iff.mp hx).1
      refine ⟨T, _, rfl, SqT.of upd_same, rfl, _, _, rfl, _, _, rfl, rfl, ?_⟩
      refine ⟨_, rfl, _, rfl, m, x, rfl, it.same s3, fun b hb => ⟨_, rfl, ?_⟩⟩
      cases b with
      | false =>
        refine iteT ⟨_, rfl, ?_⟩
        refine k (some i) _ s3 ⟨hil, fine, fun ⟨v, a, b, e1, g, _⟩ => ?_⟩
        rw [hx] at e1
        cases e1
        exact absurd (hb.mpr ⟨a, b, g.same s3⟩) Bool.false_ne_true
      | true =>
        obtain ⟨a, b, g3⟩ := hb.mp rfl
        have g := g3.back it s3
        obtain ⟨t, rfl, ht, h0, h1, h2⟩ := id g
        refine iteF ⟨_, rfl, _, rfl, t, ah, [a, b], cs, rfl, rfl, SqT.of (s3 _ _ ht), SqT.of (s2 _ _ eah), _, rfl, ?_⟩
        rcases hcs with ⟨rfl, rfl⟩ | ⟨j, u, c, d, rfl, hu', gu, rfl⟩
        · refine iteF ⟨_, rfl, t, _, _, [a, b], rfl, s3, fine.next ⟨_, a, b, hx, g, fun j _ _ _ e => by omega⟩, s3 _ _ ht, .inr ⟨0, _, a, b, rfl, hx, g, rfl⟩⟩
        · rw [lex_le]
          by_cases lt : c < a ∨ (c = a ∧ d < b)
          · rw [decide_eq_true lt]
            refine iteF ⟨_, rfl, t, _, _, [a, b], rfl, s3, fine.next ⟨_, a, b, hx, g, fun j' u' c' d' e eu gu' => ?_⟩, s3 _ _ ht, .inr ⟨j + 1, _, a, b, rfl, hx, g, rfl⟩⟩
            obtain rfl : j' = j := by omega
            rw [hu'] at eu
            cases eu
            obtain ⟨rfl, rfl⟩ := gu.uniq gu'
            exact lt
          · rw [decide_eq_false lt]
            refine iteT ⟨_, rfl, k (some (j + 1)) _ s3 ⟨hil, fine, fun ⟨v, a', b', e1, g', z⟩ => ?_⟩⟩
            rw [hx] at e1
            cases e1
            obtain ⟨rfl, rfl⟩ := g.uniq g'
            exact lt (z j u c d rfl hu' gu)
    · rintro σ H1 ⟨ah, x3, x4, cs, rfl, s1, fine, _⟩
      exact k none _ s1 fine
end
end Q

namespace Q
open PySem L2
abbrev sBeside : Stmt := top 12
def Edge (L : List (Addr × List Int)) (i j : Int) : Prop := ∃ p ∈ L, p.2 = [i, j] ∨ p.2 = [j, i]
/-- a list at D of n lists of ints -/
structure RowsL (H : Hp) (D : Addr) (bs : List Addr) (nb : Nat → List Int) (n : Nat) : Prop where
  at_ : H D = some (.lst (bs.map V.ref))
  len : bs.length = n
  nd : bs.Nodup
  nD : D ∉ bs
  row : ∀ (i : Nat) (a : Addr), bs[i]? = some a → H a = some (.lst ((nb i).map V.int))
theorem nd_get {l : List Addr} (h : l.Nodup) {i j : Nat} {a : Addr} (h1 : l[i]? = some a) (h2 : l[j]? = some a) : i = j := by
  obtain ⟨l1, e1⟩ := List.getElem?_eq_some_iff.mp h1
  obtain ⟨l2, e2⟩ := List.getElem?_eq_some_iff.mp h2
  rcases Nat.lt_trichotomy i j with c | c | c
  · exact absurd (e1.trans e2.symm) (List.pairwise_iff_getElem.mp h i j l1 l2 c)
  · exact c
  · exact absurd (e2.trans e1.symm) (List.pairwise_iff_getElem.mp h j i l2 l1 c)
theorem RowsL.add {H : Hp} {D : Addr} {bs : List Addr} {nb : Nat → List Int} {n i : Nat} {a : Addr} {j : Int} (h : RowsL H D bs nb n) (hi : bs[i]? = some a) :
    RowsL (upd H a (.lst ((nb i).map V.int ++ [.int j]))) D bs (fun k => if k = i then nb i ++ [j] else nb k) n := by
  have hm : a ∈ bs := List.mem_of_getElem? hi
  refine ⟨by rw [upd_ne (fun e => h.nD (by rw [e]; exact hm))]; exact h.at_, h.len, h.nd, h.nD, fun k b hk => ?_⟩
  show upd H a _ b = some (.lst ((if k = i then nb i ++ [j] else nb k).map V.int))
  by_cases e : b = a
  · subst e
    have ek := nd_get h.nd hk hi
    rw [if_pos ek, upd_same, List.map_append]
    rfl
  · have nk : ¬ k = i := fun ek => by
      rw [ek, hi] at hk
      exact e (Option.some.inj hk).symm
    rw [if_neg nk, upd_ne e]
    exact h.row k b hk
/-- a tuple at r of tuples of ints: the neighbours -/
structure RowsT (H : Hp) (r : Addr) (bs : List Addr) (nb : Nat → List Int) (n : Nat) : Prop where
  at_ : H r = some (.tup (bs.map V.ref))
  len : bs.length = n
  row : ∀ (i : Nat) (a : Addr), bs[i]? = some a → H a = some (.tup ((nb i).map V.int))
theorem RowsT.same {H H' : Hp} {r : Addr} {bs : List Addr} {nb : Nat → List Int} {n : Nat} (h : RowsT H r bs nb n) (s : Same H H') : RowsT H' r bs nb n := ⟨s _ _ h.at_, h.len, fun i a e => s _ _ (h.row i a e)⟩
def NbOf (L : List (Addr × List Int)) (n : Nat) (nb : Nat → List Int) : Prop := ∀ (i : Nat), i < n → ∀ j : Int, j ∈ nb i ↔ Edge L (i : Int) j
theorem sNew {H H1 : Hp} {p : Addr} {o : HO} (s : Same H H1) (n : H p = none) : Same H (upd H1 p o) := fun b u e => by
  rw [upd_ne (ne_of_none e n)]; exact s b u e
theorem sNew' {H H1 : Hp} {p : Addr} {o : HO} (s : Same H H1) (n : H1 p = none) : Same H (upd H1 p o) := fun b u e => by
  rw [upd_ne (ne_of_none (s b u e) n)]; exact s b u e
theorem sNo {H H1 : Hp} {p : Addr} (s : Same H H1) (n : H1 p = none) : H p = none := by
  cases e : H p with
  | none => rfl
  | some o =>
    rw [s _ _ e] at n
    cases n
def Sortd (n : Nat) (nb : Nat → List Int) : Prop := ∀ i, i < n → (nb i).Pairwise (· < ·)
theorem strict_of : ∀ {l : List Int}, l.Pairwise (· ≤ ·) → l.Nodup → l.Pairwise (· < ·)
  | [], _, _ => .nil
  | x :: r, h, n => by
    rw [List.pairwise_cons] at h
    rw [List.nodup_cons] at n
    refine List.pairwise_cons.mpr ⟨fun y hy => ?_, strict_of h.2 n.2⟩
    have z := h.1 y hy
    have ne : x ≠ y := fun e => n.1 (by rw [e]; exact hy)
    omega
/-- a tie is not among the earlier ones -/
theorem fresh_edge {m : Int} {L : List (Addr × List Int)} (ok : ∀ p ∈ L, ∃ a b : Int, p.2 = [a, b] ∧ 0 ≤ a ∧ a < b ∧ b < m) (asc : L.Pairwise (fun x y => ltP x.2 y.2)) {k : Nat} {p : Addr × List Int} (h : L[k]? = some p) {a b : Int} (e : p.2 = [a, b]) (ab : a < b) : ¬ Edge (L.take k) a b ∧ ¬ Edge (L.take k) b a := by
  have key : ∀ q ∈ L.take k, q.2 ≠ [a, b] ∧ q.2 ≠ [b, a] := fun q hq => by
    obtain ⟨j, hj, rfl⟩ := List.getElem_of_mem hq
    rw [List.length_take] at hj
    rw [List.getElem_take]
    obtain ⟨hk, ek⟩ := List.getElem?_eq_some_iff.mp h
    have z := List.pairwise_iff_getElem.mp asc j k (by omega) hk (by omega)
    rw [ek] at z
    obtain ⟨c, d, c', d', e1, e2, lt⟩ := z
    rw [e] at e2
    simp only [List.cons.injEq, and_true] at e2
    rw [e1]
    refine ⟨fun z => ?_, fun z => ?_⟩
    · simp only [List.cons.injEq, and_true] at z
      omega
    · obtain ⟨u, v, e3, _, uv, _⟩ := ok L[j] (List.getElem_mem (by omega))
      rw [e1] at e3
      simp only [List.cons.injEq, and_true] at z e3
      omega
  exact ⟨fun ⟨q, hq, z⟩ => z.elim (key q hq).1 (key q hq).2, fun ⟨q, hq, z⟩ => z.elim (key q hq).2 (key q hq).1⟩
def spBeside : Sp := fun vs H Q _ => ∃ (m : Int) (q : Addr) (L : List (Addr × List Int)), vs = [.int m, .ref q] ∧ 1 ≤ m ∧ m ≤ 40 ∧ TiesAt m H q L ∧ ∀ (r : Addr) (bs : List Addr) (nb : Nat → List Int) (H' : Hp), RowsT H' r bs nb m.toNat → NbOf L m.toNat nb → Sortd m.toNat nb → Same H H' → Q (.ref r) H'
theorem get_cast {ns : List V} {i : Int} {v : V} (h0 : 0 ≤ i) (h : ns[i.toNat]? = some v) : atI ns i = some v := by
  have z := atI_nat h
  rw [Int.toNat_of_nonneg h0] at z
  exact z
theorem map_get {l : List Addr} {i : Nat} {a : Addr} (h : l[i]? = some a) : (l.map V.ref)[i]? = some (V.ref a) := by
  rw [List.getElem?_map, h]
  rfl
theorem map_inv {α : Type} {f : α → V} {l : List α} {i : Nat} {v : V} (h : (l.map f)[i]? = some v) : ∃ a, l[i]? = some a ∧ v = f a := by
  rw [List.getElem?_map] at h
  cases e : l[i]? with
  | none => rw [e] at h; cases h
  | some a => rw [e] at h; exact ⟨a, rfl, (Option.some.inj h).symm⟩
theorem take_succ_mem {α : Type} {l : List α} {k : Nat} {x y : α} (h : l[k]? = some x) : y ∈ l.take (k + 1) ↔ y ∈ l.take k ∨ y = x := by
  rw [List.take_succ, h]
  simp
def rTupO (K : PySem.W.Frag) : List V → Hp → VK → Prop := fun xs H Q => ∃ (p : Addr) (ys : List V), xs = [.ref p] ∧ ((SqL K H p ys ∧ ∀ l, H l = none → Q (.ref l) (upd H l (.tup ys))) ∨ (SqT K H p ys ∧ Q (.ref p) H))
theorem cr_tupO {X : Cx} : CallR X (.type "tuple") (rTupO X.K) := call_tuple_of
section
variable {P : Program} {w : World} {K : PySem.W.Frag} {mg : Str → Option Value} {base : Heap}
theorem scBeside : FnScope ["many", "ties", "beside", "low", "high", "_", "houses"] ["many", "ties"] (defScope sBeside) := ⟨rfl, rfl, rfl, by decide +kernel, rfl, by decide +kernel, by decide +kernel⟩
theorem ok_beside {f : Addr} {fd : FuncData} (F : Fun K "houses_beside" "houses_beside" sBeside f fd) (B : Bts mg) : FnOk P w K mg base CX0 1 f fd ["many", "ties"] spBeside := by
  refine F.ok scBeside (fun vs H Q E h => ?_) (fun cdv A outer s H vs Q E hr h => ?_)
  · obtain ⟨m, q, L, rfl, _⟩ := h
    rfl
  · obtain ⟨m, q, L, rfl, m1, m40, tt, k⟩ := h
    have nd := scBeside.nd
    refine ⟨_, pss_cons (ps_setLc (i := 2) (own := [("_", 5)]) (g := gName 5) (tt := tYes) rfl nd rfl rfl (sw_true rfl rfl rfl (by decide +kernel)) (pi_range1 rfl B.range (pa_cons (pv 0) pa_nil))
        (blkOk_by (N := ["many", "ties", "beside", "low", "high", "_", "houses"]) (sc := defScope sBeside) (by decide +kernel)) (fun _ _ _ _ _ => pg_name (i := 5) nd rfl (.inl rfl)) (fun _ _ _ _ _ => pts_nil) (fun _ _ _ _ _ => pe_lst pa_nil))
      (pss_cons (ps_for PassesOwn.never rfl (pi_tup (pv 1)) (pg_tup rfl (pgs_cons (pg_name (i := 3) nd rfl (.inl rfl)) (pgs_cons (pg_name (i := 4) nd rfl (.inl rfl)) pgs_nil)))
        (pss_cons (ps_expr (pe_bm PySem.F.plainAttrs_list PySem.F.slot_list_append PySem.F.type_list_append mt_append (pe_ix ix_list (pv 2) (pv 3) (fun _ _ => rfl)) (pa_cons (pv 4) pa_nil)))
        (pss_one (ps_expr (pe_bm PySem.F.plainAttrs_list PySem.F.slot_list_append PySem.F.type_list_append mt_append (pe_ix ix_list (pv 2) (pv 4) (fun _ _ => rfl)) (pa_cons (pv 3) pa_nil))))))
      (pss_one (ps_ret (pe_callTy call_tuple_of (by rfl) B.tuple PyProof.Rows.boot_tuple (pa_cons (pe_lc (own := [("houses", 6)]) (g := gName 6) (tt := tYes) rfl nd (pi_list (pv 2))
        (blkOk_by (N := ["many", "ties", "beside", "low", "high", "_", "houses"]) (sc := defScope sBeside) (by decide +kernel)) (fun _ _ _ _ _ => pg_name (i := 6) nd rfl (.inl rfl)) (fun _ _ _ _ _ => pts_nil)
        (fun _ _ _ _ _ => pe_callTy (r := rTupO K) cr_tupO (by rfl) B.tuple PyProof.Rows.boot_tuple (pa_cons (pe_callB (r := rSortedI K) cr_sortedI (by rfl) B.sorted PyProof.Rows.boot_sorted (pa_cons (pv 6) pa_nil)) pa_nil))) pa_nil))))), ?_⟩
    -- beside = [[] for _ in range(many)]
    refine ⟨_, rfl, m, rfl, by omega, by omega, fun D hD => lc_range (lo := 0) (n := m.toNat) (fun i H' => ∃ bs : List Addr, H' D = some (.lst (bs.map V.ref)) ∧ bs.length = i ∧ bs.Nodup ∧ D ∉ bs ∧ (∀ a ∈ bs, H' a = some (.lst []) ∧ H a = none) ∧ Same H H') ?_ ?_ ?_⟩
    · exact ⟨[], upd_same, rfl, List.nodup_nil, List.not_mem_nil, fun a ha => absurd ha List.not_mem_nil, sNew (fun _ _ e => e) hD⟩
    · rintro i H1 hi ⟨bs, e1, hl, hn, hd, hb, s1⟩
      refine ⟨rfl, Nat.zero_le _, fun a ha => ?_⟩
      have nDa : D ≠ a := ne_of_none e1 ha
      have ea : upd H1 a (.lst []) D = some (.lst (bs.map V.ref)) := by rw [upd_ne nDa]; exact e1
      have na : a ∉ bs := fun hm => by
        rw [(hb a hm).1] at ha
        cases ha
      refine ⟨_, ea, ?_, bs ++ [a], ?_, ?_, ?_, ?_, ?_, ?_⟩
      · rw [List.length_map, hl]
        exact Nat.lt_of_lt_of_le (m := 64) (by omega) (by decide)
      · rw [upd_same, List.map_append]
        rfl
      · rw [List.length_append, hl]
        rfl
      · exact nd_snoc hn na
      · intro hm
        rcases List.mem_append.mp hm with hm | hm
        · exact hd hm
        · exact nDa (List.mem_singleton.mp hm)
      · intro b hm
        rcases List.mem_append.mp hm with hm | hm
        · refine ⟨?_, (hb b hm).2⟩
          rw [upd_ne (fun e => hd (by rw [← e]; exact hm)), upd_ne (fun e => na (by rw [← e]; exact hm))]
          exact (hb b hm).1
        · obtain rfl := List.mem_singleton.mp hm
          refine ⟨?_, sNo s1 ha⟩
          rw [upd_ne nDa.symm, upd_same]
      · exact sNew (sNew' s1 ha) hD
    · rintro H1 ⟨bs, e1, hl, hn, hd, hb, s1⟩
      have r1 : RowsL H1 D bs (fun _ => []) m.toNat := ⟨e1, hl, hn, hd, fun i a hi => (hb a (List.mem_of_getElem? hi)).1⟩
      have hfr : ∀ a ∈ bs, H a = none := fun a ha => (hb a ha).2
      clear e1 hl hn hd hb
      refine ⟨_, rfl, q, rfl, ⟨_, SqT.of (s1 _ _ tt.at_)⟩, for_tup (K := K) (a := q) (xs := L.map fun p => V.ref p.1) (fun k σ H' => ∃ x3 x4 nb, σ = [some (.int m), some (.ref q), some (.ref D), x3, x4, none, none] ∧ RowsL H' D bs nb m.toNat ∧ (∀ i : Nat, i < m.toNat → ∀ j : Int, j ∈ nb i ↔ Edge (L.take k) (i : Int) j) ∧ (∀ i, (nb i).length ≤ k) ∧ (∀ i, i < m.toNat → (nb i).Nodup) ∧ Same H H') ?_ ?_ ?_ ?_⟩
      · exact ⟨none, none, _, rfl, r1, fun i hi j => ⟨fun h => absurd h List.not_mem_nil, fun ⟨p, hp, _⟩ => absurd hp (by simp)⟩, fun i => Nat.le_refl _, fun i _ => List.nodup_nil, s1⟩
      · rintro k σ H2 hk ⟨x3, x4, nb, rfl, r2, he, hlen, hnd, s2⟩
        exact SqT.of (s2 _ _ tt.at_)
      · rintro k x σ H2 hx ⟨x3, x4, nb, rfl, r2, he, hlen, hnd, s2⟩
        obtain ⟨p, hp, rfl⟩ := map_inv hx
        have hk64 : k < 200 := Nat.lt_of_lt_of_le (List.getElem?_eq_some_iff.mp hp).1 (Nat.le_of_lt tt.few)
        obtain ⟨a, b, e2, a0, ab, bm⟩ := tt.ok p (List.mem_of_getElem? hp)
        have ht := s2 _ _ (tt.tup p (List.mem_of_getElem? hp))
        rw [e2] at ht
        have la : a.toNat < bs.length := by rw [r2.len]; omega
        have lb : b.toNat < bs.length := by rw [r2.len]; omega
        have ga : bs[a.toNat]? = some bs[a.toNat] := List.getElem?_eq_getElem la
        have gb : bs[b.toNat]? = some bs[b.toNat] := List.getElem?_eq_getElem lb
        refine ⟨p.1, _, rfl, SqT.of ht, rfl, _, _, rfl, _, _, rfl, rfl, ?_⟩
        have ra := r2.row _ _ ga
        refine ⟨_, rfl, _, rfl, D, _, a, _, rfl, rfl, SqL.of r2.at_, get_cast a0 (map_get ga), .inl ⟨rfl, _, SqL.of ra⟩, _, rfl, bs[a.toNat], _, _, rfl, rfl, ra, ?_, ?_⟩
        · rw [List.length_map]
          exact Nat.lt_of_le_of_lt (hlen _) (Nat.lt_of_lt_of_le hk64 (by decide))
        · have r3 := r2.add (j := b) ga
          have rb := r3.row _ _ gb
          have nab : ¬ b.toNat = a.toNat := by omega
          rw [if_neg nab] at rb
          refine ⟨_, rfl, _, rfl, D, _, b, _, rfl, rfl, SqL.of r3.at_, get_cast (by omega) (map_get gb), .inl ⟨rfl, _, SqL.of rb⟩, _, rfl, bs[b.toNat], _, _, rfl, rfl, rb, ?_, ?_⟩
          · rw [List.length_map]
            exact Nat.lt_of_le_of_lt (hlen _) (Nat.lt_of_lt_of_le hk64 (by decide))
          · have r4 := r3.add (j := a) gb
            simp only [if_neg nab] at r4
            refine ⟨_, _, _, rfl, r4, ?_, ?_, ?_, ?_⟩
            · intro i hi j
              have hz := he i hi j
              show j ∈ (if i = b.toNat then nb b.toNat ++ [a] else if i = a.toNat then nb a.toNat ++ [b] else nb i) ↔ _
              have ste : Edge (L.take (k + 1)) (i : Int) j ↔ Edge (L.take k) (i : Int) j ∨ (((i : Int) = a ∧ j = b) ∨ ((i : Int) = b ∧ j = a)) := by
                constructor
                · rintro ⟨y, hy, e⟩
                  rcases (take_succ_mem hp).mp hy with hy | rfl
                  · exact .inl ⟨y, hy, e⟩
                  · rw [e2] at e
                    simp only [List.cons.injEq, and_true] at e
                    omega
                · rintro (⟨y, hy, e⟩ | h)
                  · exact ⟨y, (take_succ_mem hp).mpr (.inl hy), e⟩
                  · refine ⟨p, (take_succ_mem hp).mpr (.inr rfl), ?_⟩
                    rw [e2]
                    simp only [List.cons.injEq, and_true]
                    omega
              rw [ste, ← hz]
              by_cases c1 : i = b.toNat
              · rw [if_pos c1, c1, List.mem_append, List.mem_singleton]
                constructor
                · rintro (h | h)
                  · exact .inl h
                  · exact .inr (.inr ⟨by omega, h⟩)
                · rintro (h | ⟨h, _⟩ | ⟨_, h⟩)
                  · exact .inl h
                  · omega
                  · exact .inr h
              · rw [if_neg c1]
                by_cases c2 : i = a.toNat
                · rw [if_pos c2, c2, List.mem_append, List.mem_singleton]
                  constructor
                  · rintro (h | h)
                    · exact .inl h
                    · exact .inr (.inl ⟨by omega, h⟩)
                  · rintro (h | ⟨_, h⟩ | ⟨h, _⟩)
                    · exact .inl h
                    · exact .inr h
                    · omega
                · rw [if_neg c2]
                  constructor
                  · exact .inl
                  · rintro (h | ⟨h, _⟩ | ⟨h, _⟩)
                    · exact h
                    · omega
                    · omega
            · intro i
              show (if i = b.toNat then nb b.toNat ++ [a] else if i = a.toNat then nb a.toNat ++ [b] else nb i).length ≤ k + 1
              have l1 := hlen i
              have l2 := hlen a.toNat
              have l3 := hlen b.toNat
              split
              · rw [List.length_append, List.length_singleton]; omega
              · split
                · rw [List.length_append, List.length_singleton]; omega
                · omega
            · intro i hi
              show (if i = b.toNat then nb b.toNat ++ [a] else if i = a.toNat then nb a.toNat ++ [b] else nb i).Nodup
              obtain ⟨f1, f2⟩ := fresh_edge tt.ok tt.asc hp e2 ab
              split
              · refine nd_snoc (hnd _ (by omega)) fun hm => f2 ?_
                have z := (he b.toNat (by omega) a).mp hm
                rw [Int.toNat_of_nonneg (by omega)] at z
                exact z
              · split
                · refine nd_snoc (hnd _ (by omega)) fun hm => f1 ?_
                  have z := (he a.toNat (by omega) b).mp hm
                  rw [Int.toNat_of_nonneg a0] at z
                  exact z
                · exact hnd i hi
            · intro y o e
              have za := hfr _ (List.mem_of_getElem? ga)
              have zb := hfr _ (List.mem_of_getElem? gb)
              rw [upd_ne (ne_of_none e zb), upd_ne (ne_of_none e za)]
              exact s2 y o e
      · rintro σ H2 ⟨x3, x4, nb, rfl, r2, he, hlen, hnd, s2⟩
        rw [List.length_map] at he hlen
        rw [List.take_length] at he
        refine ⟨_, rfl, D, rfl, ⟨_, SqL.of r2.at_⟩, fun D2 hD2 => lc_list (K := K) (a := D) (xs := bs.map V.ref) (fun k H' => ∃ (ts : List Addr) (rs : Nat → List Int), H' D2 = some (.lst (ts.map V.ref)) ∧ ts.length = k ∧ (∀ (i : Nat) (a : Addr), ts[i]? = some a → H' a = some (.tup ((rs i).map V.int)) ∧ (rs i).Perm (nb i) ∧ (rs i).Pairwise (· ≤ ·)) ∧ Same H2 H') ?_ ?_ ?_ ?_⟩
        · exact ⟨[], fun _ => [], upd_same, rfl, fun i a h => by simp at h, sNew (fun _ _ e => e) hD2⟩
        · rintro i H3 hi ⟨ts, rs, e1, hl, hr, s3⟩
          exact SqL.of (s3 _ _ r2.at_)
        · rintro i x H3 hx ⟨ts, rs, e1, hl, hrw, s3⟩
          obtain ⟨a, ha, rfl⟩ := map_inv hx
          refine ⟨rfl, ?_⟩
          refine ⟨_, rfl, a, nb i, rfl, SqL.of (s3 _ _ (r2.row i a ha)), fun ns p pm pw hp => ?_⟩
          refine ⟨p, _, rfl, .inl ⟨SqL.of upd_same, fun t ht => ?_⟩⟩
          have hil : i < bs.length := (List.getElem?_eq_some_iff.mp ha).1
          have ntp : t ≠ p := fun e => by rw [e, upd_same] at ht; cases ht
          have ht3 : H3 t = none := by
            have z := ht
            rw [upd_ne ntp] at z
            exact z
          have nD2p : D2 ≠ p := ne_of_none e1 hp
          have nD2t : D2 ≠ t := ne_of_none e1 ht3
          refine ⟨ts.map V.ref, ?_, ?_, ts ++ [t], fun k => if k = i then ns else rs k, ?_, ?_, ?_, ?_⟩
          · rw [upd_ne nD2t, upd_ne nD2p]
            exact e1
          · rw [List.length_map, hl]
            refine Nat.lt_of_lt_of_le (m := 64) ?_ (by decide)
            rw [r2.len] at hil
            omega
          · rw [upd_same, List.map_append]
            rfl
          · rw [List.length_append, hl]
            rfl
          · intro k b hb
            show _ = some (HO.tup ((if k = i then ns else rs k).map V.int)) ∧ (if k = i then ns else rs k).Perm (nb k) ∧ (if k = i then ns else rs k).Pairwise (· ≤ ·)
            by_cases c : k < ts.length
            · rw [List.getElem?_append_left c] at hb
              obtain ⟨z1, z2⟩ := hrw k b hb
              rw [if_neg (by omega)]
              refine ⟨?_, z2⟩
              rw [upd_ne (ne_of z1 e1 (fun z => by cases z)), upd_ne (ne_of_none z1 ht3), upd_ne (ne_of_none z1 hp)]
              exact z1
            · rw [List.getElem?_append_right (by omega)] at hb
              have ek : k = i := by
                have z := (List.getElem?_eq_some_iff.mp hb).1
                rw [List.length_singleton] at z
                omega
              subst ek
              rw [hl, Nat.sub_self] at hb
              obtain rfl : t = b := Option.some.inj hb
              rw [if_pos rfl]
              refine ⟨?_, pm, pw⟩
              rw [upd_ne nD2t.symm, upd_same]
          · exact sNew (sNew' (sNew' s3 hp) (by rw [upd_ne ntp]; exact ht3)) hD2
        · rintro H3 ⟨ts, rs, e1, hl, hrw, s3⟩
          refine ⟨D2, _, rfl, .inl ⟨SqL.of e1, fun t ht => ?_⟩⟩
          have s4 : Same H3 (upd H3 t (.tup (ts.map V.ref))) := fun b o e => by rw [upd_ne (ne_of_none e ht)]; exact e
          rw [List.length_map, r2.len] at hl
          refine k t ts rs _ ⟨upd_same, hl, fun i a h => s4 _ _ (hrw i a h).1⟩ (fun i hi j => ?_) (fun i hi => ?_) (fun b o e => s4 _ _ (s3 _ _ (s2 _ _ e)))
          · have hit : i < ts.length := by rw [hl]; exact hi
            have pm := (hrw i _ (List.getElem?_eq_getElem hit)).2.1
            rw [pm.mem_iff]
            exact he i hi j
          · have hit : i < ts.length := by rw [hl]; exact hi
            obtain ⟨_, pm, pw⟩ := hrw i _ (List.getElem?_eq_getElem hit)
            exact strict_of pw (pm.nodup_iff.mpr (hnd i hi))
end
end Q

/-! Ways through a graph: the mathematics, in plain Lean. -/
namespace QM
inductive Rch (G : Nat → Nat → Prop) (s : Nat) : Nat → Nat → Prop
  | zero : Rch G s 0 s
  | succ {k u v : Nat} : Rch G s k u → G u v → Rch G s (k + 1) v
def Dist (G : Nat → Nat → Prop) (s v d : Nat) : Prop := Rch G s d v ∧ ∀ e, e < d → ¬ Rch G s e v
variable {G : Nat → Nat → Prop} {s : Nat}
theorem Dist.uniq {v d e : Nat} (h : Dist G s v d) (g : Dist G s v e) : d = e := by
  rcases Nat.lt_trichotomy d e with c | c | c
  · exact absurd h.1 (g.2 d c)
  · exact c
  · exact absurd g.1 (h.2 e c)
theorem Rch.dist {v k : Nat} (h : Rch G s k v) : ∃ d, d ≤ k ∧ Dist G s v d := by
  induction k using Nat.strongRecOn with
  | _ k ih =>
    by_cases c : ∃ e, e < k ∧ Rch G s e v
    · obtain ⟨e, he, r⟩ := c
      obtain ⟨d, hd, q⟩ := ih e he r
      exact ⟨d, Nat.le_trans hd (Nat.le_of_lt he), q⟩
    · exact ⟨k, Nat.le_refl _, h, fun e he r => c ⟨e, he, r⟩⟩
theorem Dist.zero : Dist G s s 0 := ⟨.zero, fun e he => absurd he (Nat.not_lt_zero e)⟩
theorem Dist.of_zero {v : Nat} (h : Dist G s v 0) : v = s := by
  have z := h.1
  cases z
  rfl
theorem Dist.pred {v t : Nat} (h : Dist G s v (t + 1)) : ∃ u, Dist G s u t ∧ G u v := by
  have z := h.1
  cases z with
  | succ r g => exact ⟨_, ⟨r, fun e he r' => h.2 (e + 1) (by omega) (.succ r' g)⟩, g⟩
theorem Dist.next {u v t : Nat} (no : ∀ d, d ≤ t → ¬ Dist G s v d) (h : Dist G s u t) (g : G u v) : Dist G s v (t + 1) := by
  refine ⟨.succ h.1 g, fun e he r => ?_⟩
  obtain ⟨d, hd, q⟩ := r.dist
  exact no d (by omega) q
theorem Dist.chain {v d : Nat} (h : Dist G s v d) : ∀ e, e ≤ d → ∃ u, Dist G s u e := by
  induction d generalizing v with
  | zero =>
    intro e he
    obtain rfl : e = 0 := by omega
    exact ⟨v, h⟩
  | succ d ih =>
    intro e he
    by_cases c : e = d + 1
    · exact ⟨v, by rw [c]; exact h⟩
    · obtain ⟨u, hu, _⟩ := h.pred
      exact ih hu e (by omega)
theorem Rch.front {a b k : Nat} (g : G a b) {c : Nat} (h : Rch G b k c) : Rch G a (k + 1) c := by
  induction h with
  | zero => exact .succ .zero g
  | succ _ e ih => exact .succ ih e
theorem Rch.back (sym : ∀ a b, G a b → G b a) {v k : Nat} (h : Rch G s k v) : Rch G v k s := by
  induction h with
  | zero => exact .zero
  | succ _ e ih => exact Rch.front (sym _ _ e) ih
theorem Dist.back (sym : ∀ a b, G a b → G b a) {v d : Nat} (h : Dist G s v d) : Dist G v s d := ⟨h.1.back sym, fun e he r => h.2 e he (r.back sym)⟩
theorem nodup_le : ∀ (n : Nat) (l : List Nat), l.Nodup → (∀ x, x ∈ l → x < n) → l.length ≤ n
  | 0, [], _, _ => Nat.le_refl _
  | 0, x :: _, _, h => absurd (h x List.mem_cons_self) (Nat.not_lt_zero _)
  | n + 1, l, hn, h => by
    by_cases c : n ∈ l
    · have e1 := List.length_erase_of_mem c
      have z := nodup_le n (l.erase n) (hn.erase n) fun x hx => by
        have h1 := h x (List.mem_of_mem_erase hx)
        have h2 : x ≠ n := fun e => by
          rw [e] at hx
          exact (List.Nodup.not_mem_erase hn) hx
        omega
      omega
    · have z := nodup_le n l hn fun x hx => by
        have h1 := h x hx
        have h2 : x ≠ n := fun e => c (by rw [← e]; exact hx)
        omega
      omega
/-- a way's length is less than how many there are -/
theorem Dist.lt {n v d : Nat} (hs : s < n) (hG : ∀ a b, G a b → b < n) (h : Dist G s v d) : d < n := by
  have key : ∀ e, e ≤ d + 1 → ∃ l : List Nat, l.length = e ∧ l.Nodup ∧ ∀ x, x ∈ l → x < n ∧ ∃ k, k < e ∧ Dist G s x k := by
    intro e
    induction e with
    | zero => exact fun _ => ⟨[], rfl, List.nodup_nil, fun x hx => absurd hx List.not_mem_nil⟩
    | succ e ih =>
      intro he
      obtain ⟨l, hl, hn, hx⟩ := ih (by omega)
      obtain ⟨u, hu⟩ := h.chain e (by omega)
      have un : u < n := by
        cases e with
        | zero => rw [hu.of_zero]; exact hs
        | succ e =>
          obtain ⟨_, _, g⟩ := hu.pred
          exact hG _ _ g
      refine ⟨u :: l, by rw [List.length_cons, hl], List.nodup_cons.mpr ⟨fun hm => ?_, hn⟩, fun x hm => ?_⟩
      · obtain ⟨_, k, hk, q⟩ := hx u hm
        have := q.uniq hu
        omega
      · rcases List.mem_cons.mp hm with rfl | hm
        · exact ⟨un, e, by omega, hu⟩
        · obtain ⟨z1, k, hk, q⟩ := hx x hm
          exact ⟨z1, k, by omega, q⟩
  obtain ⟨l, hl, hn, hx⟩ := key (d + 1) (Nat.le_refl _)
  have z := nodup_le n l hn fun x hm => (hx x hm).1
  omega
end QM

namespace Q
open PySem L2 QM
abbrev sSteps : Stmt := top 13
def nn (cs : List V) : Nat := cs.countP fun v => decide (v = .non)
theorem nn_set : ∀ {cs : List V} {v : Nat} {z : Int}, cs[v]? = some .non → nn (cs.set v (.int z)) + 1 = nn cs
  | [], _, _, h => by simp at h
  | c :: r, 0, z, h => by
    have e : c = .non := Option.some.inj h
    subst e
    show (V.int z :: r).countP _ + 1 = (V.non :: r).countP _
    rw [List.countP_cons_of_neg (by simp), List.countP_cons_of_pos (by simp)]
  | c :: r, v + 1, z, h => by
    have ih := nn_set (cs := r) (v := v) (z := z) h
    show (c :: r.set v (V.int z)).countP _ + 1 = (c :: r).countP _
    unfold nn at ih
    rw [List.countP_cons, List.countP_cons, ← ih]
    omega
section
variable {G : Nat → Nat → Prop} {s n t : Nat}
structure Lev (G : Nat → Nat → Prop) (s n t : Nat) (cs : List V) : Prop where
  len : cs.length = n
  cell : ∀ v, v < n → (∃ d, d ≤ t ∧ cs[v]? = some (nI d) ∧ Dist G s v d) ∨ (cs[v]? = some .non ∧ ∀ d, d ≤ t → ¬ Dist G s v d)
structure Mid (G : Nat → Nat → Prop) (s n t : Nat) (Dn : Nat → Prop) (N0 : Nat) (cs : List V) (cm : List Nat) : Prop where
  len : cs.length = n
  cell : ∀ v, v < n → (∃ d, d ≤ t ∧ cs[v]? = some (nI d) ∧ Dist G s v d) ∨ (cs[v]? = some (nI (t + 1)) ∧ Dist G s v (t + 1) ∧ v ∈ cm) ∨ (cs[v]? = some .non ∧ (∀ d, d ≤ t → ¬ Dist G s v d) ∧ ¬ Dn v)
  cmok : ∀ x, x ∈ cm → x < n ∧ Dist G s x (t + 1)
  cnt : nn cs + cm.length = N0
/-- all ways found -/
structure Cells (G : Nat → Nat → Prop) (s n : Nat) (cs : List V) : Prop where
  len : cs.length = n
  cell : ∀ v, v < n → (∃ d, cs[v]? = some (nI d) ∧ Dist G s v d) ∨ (cs[v]? = some .non ∧ ∀ d, ¬ Dist G s v d)
theorem Mid.mono {Dn Dn' : Nat → Prop} {N0 : Nat} {cs : List V} {cm : List Nat} (h : Mid G s n t Dn N0 cs cm) (k : ∀ v, v < n → Dn' v → Dn v) : Mid G s n t Dn' N0 cs cm :=
  ⟨h.len, fun v hv => by
    rcases h.cell v hv with a | a | ⟨a, b, c⟩
    · exact .inl a
    · exact .inr (.inl a)
    · exact .inr (.inr ⟨a, b, fun d => c (k v hv d)⟩), h.cmok, h.cnt⟩
theorem Mid.start {cs : List V} (h : Lev G s n t cs) : Mid G s n t (fun _ => False) (nn cs) cs [] :=
  ⟨h.len, fun v hv => by
    rcases h.cell v hv with a | ⟨a, b⟩
    · exact .inl a
    · exact .inr (.inr ⟨a, b, id⟩), fun x hx => absurd hx List.not_mem_nil, rfl⟩
theorem Mid.house {Dn : Nat → Prop} {N0 u : Nat} {cs : List V} {cm : List Nat} (h : Mid G s n t Dn N0 cs cm) (hu : u < n) (d : Dist G s u t) : cs[u]? = some (nI t) := by
  rcases h.cell u hu with ⟨e, _, a, b⟩ | ⟨_, b, _⟩ | ⟨_, b, _⟩
  · rw [d.uniq b]; exact a
  · have := d.uniq b
    omega
  · exact absurd d (b t (Nat.le_refl _))
theorem Mid.skip {Dn : Nat → Prop} {N0 v : Nat} {cs : List V} {cm : List Nat} {c : V} (h : Mid G s n t Dn N0 cs cm) (hc : cs[v]? = some c) (ne : c ≠ .non) : Mid G s n t (fun x => Dn x ∨ x = v) N0 cs cm :=
  ⟨h.len, fun x hx => by
    rcases h.cell x hx with a | a | ⟨a, b, k⟩
    · exact .inl a
    · exact .inr (.inl a)
    · refine .inr (.inr ⟨a, b, ?_⟩)
      rintro (z | z)
      · exact k z
      · rw [z, hc] at a
        exact ne (Option.some.inj a), h.cmok, h.cnt⟩
theorem Mid.more {Dn : Nat → Prop} {N0 u v : Nat} {cs : List V} {cm : List Nat} (h : Mid G s n t Dn N0 cs cm) (hv : v < n) (hc : cs[v]? = some .non) (d : Dist G s u t) (g : G u v) :
    Mid G s n t (fun x => Dn x ∨ x = v) N0 (cs.set v (nI (t + 1))) (cm ++ [v]) := by
  have hl : v < cs.length := by rw [h.len]; exact hv
  have no : ∀ d, d ≤ t → ¬ Dist G s v d := by
    rcases h.cell v hv with ⟨_, _, a, _⟩ | ⟨a, _⟩ | ⟨_, b, _⟩
    · rw [hc] at a; cases a
    · rw [hc] at a; cases a
    · exact b
  have dv : Dist G s v (t + 1) := Dist.next no d g
  refine ⟨by rw [List.length_set]; exact h.len, fun x hx => ?_, fun x hx => ?_, ?_⟩
  · by_cases e : v = x
    · subst e
      rw [List.getElem?_set_self hl]
      exact .inr (.inl ⟨rfl, dv, List.mem_append_right _ (List.mem_singleton.mpr rfl)⟩)
    · rw [List.getElem?_set_ne e]
      rcases h.cell x hx with a | ⟨a, b, c⟩ | ⟨a, b, k⟩
      · exact .inl a
      · exact .inr (.inl ⟨a, b, List.mem_append_left _ c⟩)
      · exact .inr (.inr ⟨a, b, fun z => z.elim k fun z => e z.symm⟩)
  · rcases List.mem_append.mp hx with hx | hx
    · exact h.cmok x hx
    · rw [List.mem_singleton.mp hx]
      exact ⟨hv, dv⟩
  · have z := nn_set (z := ((t + 1 : Nat) : Int)) hc
    have c := h.cnt
    rw [List.length_append, List.length_singleton]
    have e : nn (cs.set v (nI (t + 1))) = nn (cs.set v (.int ((t + 1 : Nat) : Int))) := rfl
    omega
theorem Mid.fin {Dn : Nat → Prop} {N0 : Nat} {cs : List V} {cm : List Nat} (h : Mid G s n t Dn N0 cs cm) (hG : ∀ a b, G a b → b < n) (all : ∀ u v, Dist G s u t → G u v → Dn v) :
    Lev G s n (t + 1) cs ∧ ∀ x, Dist G s x (t + 1) → x ∈ cm := by
  have key : ∀ v, v < n → Dist G s v (t + 1) → cs[v]? = some (nI (t + 1)) ∧ v ∈ cm := by
    intro v hv d
    rcases h.cell v hv with ⟨e, he, _, b⟩ | ⟨a, _, c⟩ | ⟨_, _, k⟩
    · have := d.uniq b
      omega
    · exact ⟨a, c⟩
    · obtain ⟨u, hu, g⟩ := d.pred
      exact absurd (all u v hu g) k
  refine ⟨⟨h.len, fun v hv => ?_⟩, fun x d => ?_⟩
  · rcases h.cell v hv with ⟨e, he, a, b⟩ | ⟨a, b, _⟩ | ⟨a, b, _⟩
    · exact .inl ⟨e, by omega, a, b⟩
    · exact .inl ⟨t + 1, Nat.le_refl _, a, b⟩
    · refine .inr ⟨a, fun d hd q => ?_⟩
      by_cases c : d ≤ t
      · exact b d c q
      · obtain rfl : d = t + 1 := by omega
        have z := (key v hv q).1
        rw [a] at z
        cases z
  · obtain ⟨u, hu, g⟩ := d.pred
    exact (key x (hG u x g) d).2
theorem Lev.all {cs : List V} (h : Lev G s n t cs) (no : ∀ x, ¬ Dist G s x t) : Cells G s n cs :=
  ⟨h.len, fun v hv => by
    rcases h.cell v hv with ⟨d, _, a, b⟩ | ⟨a, b⟩
    · exact .inl ⟨d, a, b⟩
    · refine .inr ⟨a, fun d q => ?_⟩
      by_cases c : d ≤ t
      · exact b d c q
      · obtain ⟨u, hu⟩ := q.chain t (by omega)
        exact no u hu⟩
theorem lev_zero (hs : s < n) : Lev G s n 0 ((List.replicate n V.non).set s (nI 0)) := by
  refine ⟨by rw [List.length_set, List.length_replicate], fun v hv => ?_⟩
  by_cases e : s = v
  · subst e
    rw [List.getElem?_set_self (by rw [List.length_replicate]; exact hs)]
    exact .inl ⟨0, Nat.le_refl _, rfl, .zero⟩
  · rw [List.getElem?_set_ne e, List.getElem?_replicate, if_pos hv]
    refine .inr ⟨rfl, fun d hd q => ?_⟩
    obtain rfl : d = 0 := by omega
    exact e q.of_zero.symm
end

def NbG (G : Nat → Nat → Prop) (n : Nat) (nb : Nat → List Int) : Prop := ∀ i, i < n → ∀ j : Int, j ∈ nb i ↔ ∃ v : Nat, j = (v : Int) ∧ G i v
def spSteps : Sp := fun vs H Q _ => ∃ (r : Addr) (bs : List Addr) (nb : Nat → List Int) (n : Nat) (G : Nat → Nat → Prop) (st : Nat), vs = [.ref r, .int (st : Int)] ∧ RowsT H r bs nb n ∧ n ≤ 40 ∧ st < n ∧ NbG G n nb ∧ (∀ a b, G a b → b < n) ∧
  ∀ (p : Addr) (cs : List V) (H' : Hp), H' p = some (.lst cs) → Cells G st n cs → Same H H' → Q (.ref p) H'
theorem ixN_nat {N v : Nat} (h : v < N) : ixN N (v : Int) = some v := by
  unfold ixN
  rw [if_pos (Int.natCast_nonneg v), if_pos (by omega), Int.toNat_natCast]
/-- between two turns of the waves -/
def stW (H : Hp) (r sp : Addr) (G : Nat → Nat → Prop) (st n m : Nat) (σ : L2.St) (H' : Hp) : Prop := ∃ (t : Nat) (re : Addr) (rs : List Nat) (cs : List V) (x4 x5 x6 : Option V),
  σ = [some (.ref r), some (.int (st : Int)), some (.ref sp), some (.ref re), x4, x5, x6] ∧ H' sp = some (.lst cs) ∧ H' re = some (.lst (rs.map nI)) ∧ sp ≠ re ∧ Lev G st n t cs ∧
    (∀ x, x ∈ rs → x < n ∧ Dist G st x t) ∧ (∀ x, Dist G st x t → x ∈ rs) ∧ Same H H' ∧ m = nn cs + (if rs.isEmpty = true then 0 else 1)
theorem size_ok {k : Nat} (h : k ≤ 64) : k < sizeLine := Nat.lt_of_le_of_lt h (by decide)
theorem size_le {k : Nat} (h : k ≤ 64) : k ≤ sizeLine := Nat.le_trans h (by decide)
theorem nn_le (cs : List V) : nn cs ≤ cs.length := List.countP_le_length
section
variable {P : Program} {w : World} {K : PySem.W.Frag} {mg : Str → Option Value} {base : Heap}
theorem scSteps : FnScope ["beside", "start", "steps", "reached", "coming", "house", "other"] ["beside", "start"] (defScope sSteps) := ⟨rfl, rfl, rfl, by decide +kernel, rfl, by decide +kernel, by decide +kernel⟩
theorem ok_steps {f : Addr} {fd : FuncData} (F : Fun K "steps_from" "steps_from" sSteps f fd) (B : Bts mg) : FnOk P w K mg base CX0 1 f fd ["beside", "start"] spSteps := by
  refine F.ok scSteps (fun vs H Q E h => ?_) (fun cdv A outer s H vs Q E hr h => ?_)
  · obtain ⟨r, bs, nb, n, G, st, rfl, _⟩ := h
    rfl
  · obtain ⟨r, bs, nb, n, G, st, rfl, rt, n40, hst, hnb, hG, k⟩ := h
    have nd := scSteps.nd
    refine ⟨_, pss_cons (ps_set (i := 2) nd rfl (.inl rfl) (pe_op op_rep (pe_lst (pa_cons pe_non pa_nil)) (pe_callB call_len_seq (by rfl) B.len PySem.boot_len (pa_cons (pv 0) pa_nil))))
      (pss_cons (ps_asg pe_int (pg_sub (pv 2) (pv 1) set_list))
      (pss_cons (ps_set (i := 3) nd rfl (.inl rfl) (pe_lst (pa_cons (pv 1) pa_nil)))
      (pss_cons (ps_while PassesOwn.never (pt_truth (pv 3) (fun _ => rfl))
        (pss_cons (ps_set (i := 4) nd rfl (.inl rfl) (pe_lst pa_nil))
        (pss_cons (ps_for PassesOwn.never rfl (pi_list (pv 3)) (pg_name (i := 5) nd rfl (.inl rfl))
          (pss_one (ps_for PassesOwn.never rfl (pi_tup (pe_ix ix_tup (pv 0) (pv 5) (fun _ _ => rfl))) (pg_name (i := 6) nd rfl (.inl rfl))
            (pss_one (ps_if (pt_cmp (pc_isN (pe_ix ix_list (pv 2) (pv 6) (fun _ _ => rfl))))
              (pss_cons (ps_asg (pe_op op_add (pe_ix ix_list (pv 2) (pv 5) (fun _ _ => rfl)) pe_int) (pg_sub (pv 2) (pv 6) set_list))
              (pss_one (ps_expr (pe_bm PySem.F.plainAttrs_list PySem.F.slot_list_append PySem.F.type_list_append mt_append (pv 4) (pa_cons (pv 6) pa_nil))))) pss_nil)))))
        (pss_one (ps_set (i := 3) nd rfl (.inl rfl) (pv 4))))))
      (pss_one (ps_ret (pv 2)))))), ?_⟩
    -- steps = [None] * len(beside); steps[start] = 0; reached = [start]
    refine ⟨(by show 1 ≤ sizeLine; decide), fun l hl => ?_⟩
    have sl : Same H (upd H l (.lst [.non])) := sNew (fun _ _ e => e) hl
    have el : (bs.map V.ref).length = n := by rw [List.length_map, rt.len]
    refine ⟨_, rfl, r, _, rfl, .inr (SqT.of (sl _ _ rt.at_)), l, _, _, rfl, rfl, upd_same, ?_, ?_, ?_, fun sp hsp => ?_⟩
    · omega
    · rw [el]; omega
    · rw [el]; exact size_le (by show 1 * (n : Int).toNat ≤ 64; omega)
    · have hsp0 : H sp = none := sNo sl hsp
      have ef : (List.replicate (((bs.map V.ref).length : Nat) : Int).toNat [V.non]).flatten = List.replicate n V.non := by
        rw [el, Int.toNat_natCast, List.flatten_replicate_singleton]
      rw [ef]
      refine ⟨_, rfl, _, rfl, sp, _, (st : Int), st, rfl, rfl, upd_same, ixN_nat (by rw [List.length_replicate]; exact hst), ?_⟩
      refine ⟨_, rfl, (by show 1 ≤ sizeLine; decide), fun re hre => ?_⟩
      have nsr : sp ≠ re := fun e => by rw [← e, upd_same] at hre; cases hre
      have s1 : Same H (upd (upd (upd H l (.lst [.non])) sp (.lst (List.replicate n V.non))) sp (.lst ((List.replicate n V.non).set st (.int 0)))) := sNew (sNew sl hsp0) hsp0
      have hre0 : H re = none := sNo s1 hre
      refine ⟨stW H r sp G st n, ⟨_, 0, re, [st], _, none, none, none, rfl, by rw [upd_ne nsr, upd_same]; rfl, upd_same, nsr, lev_zero hst, ?_, ?_, sNew s1 hre0, rfl⟩, ?_⟩
      · intro x hx
        rw [List.mem_singleton.mp hx]
        exact ⟨hst, .zero⟩
      · intro x d
        rw [d.of_zero]
        exact List.mem_singleton.mpr rfl
      · clear nsr s1 hre0 hre re ef sl hsp el
        rintro m σ H1 ⟨t, re, rs, cs, x4, x5, x6, rfl, e1, e2, nsr, lv, hin, hall, s1, em⟩
        cases hb : (!(rs.map nI).isEmpty) with
        | false =>
          have er : rs = [] := by
            cases rs with
            | nil => rfl
            | cons u v => exact absurd hb (by simp)
          subst er
          exact ⟨_, rfl, false, .inl ⟨_, SqL.of e2, rfl⟩, iteF ⟨_, rfl, k sp cs _ e1 (lv.all fun x d => absurd (hall x d) List.not_mem_nil) s1⟩⟩
        | true =>
          have er : rs.isEmpty = false := by
            cases rs with
            | nil => exact absurd hb (by simp)
            | cons u v => rfl
          rw [er, if_neg Bool.false_ne_true] at em
          refine ⟨_, rfl, true, .inl ⟨_, SqL.of e2, hb.symm⟩, iteT ⟨fun σ' H' => ∃ m', m' < m ∧ stW H r sp G st n m' σ' H', fun _ _ z => z, ?_⟩⟩
          -- coming = []
          refine ⟨Nat.zero_le _, fun co hco => ?_⟩
          have nsc : sp ≠ co := ne_of_none e1 hco
          have nrc : re ≠ co := ne_of_none e2 hco
          have hco0 : H co = none := sNo s1 hco
          refine ⟨_, rfl, re, rfl, ⟨_, SqL.of (by rw [upd_ne nrc]; exact e2)⟩, for_list (K := K) (a := re) (xs := rs.map nI) (fun i σ H' => ∃ (cs' : List V) (cm : List Nat) (x5 x6 : Option V),
            σ = [some (.ref r), some (.int (st : Int)), some (.ref sp), some (.ref re), some (.ref co), x5, x6] ∧ H' sp = some (.lst cs') ∧ H' co = some (.lst (cm.map nI)) ∧ H' re = some (.lst (rs.map nI)) ∧
              Mid G st n t (fun v => ∃ u ∈ rs.take i, G u v) (nn cs) cs' cm ∧ Same H H') ?_ ?_ ?_ ?_⟩
          · exact ⟨cs, [], x5, x6, rfl, by rw [upd_ne nsc]; exact e1, upd_same, by rw [upd_ne nrc]; exact e2, (Mid.start lv).mono (fun v hv ⟨u, hu, _⟩ => absurd hu (by simp)), sNew s1 hco0⟩
          · rintro i σ H2 hi ⟨cs', cm, y5, y6, rfl, f1, f2, f3, md, s2⟩
            exact SqL.of f3
          · rintro i x σ H2 hx ⟨cs', cm, y5, y6, rfl, f1, f2, f3, md, s2⟩
            obtain ⟨u, hu, rfl⟩ := map_inv hx
            obtain ⟨un, du⟩ := hin u (List.mem_of_getElem? hu)
            have ul : u < bs.length := by rw [rt.len]; exact un
            have gu : bs[u]? = some bs[u] := List.getElem?_eq_getElem ul
            refine ⟨_, rfl, _, rfl, r, _, (u : Int), _, rfl, rfl, SqT.of (s2 _ _ rt.at_), atI_nat (map_get gu), bs[u], rfl, ⟨_, SqT.of (s2 _ _ (rt.row u _ gu))⟩, for_tup (K := K) (a := bs[u]) (xs := (nb u).map V.int) (fun j σ H' => ∃ (cs' : List V) (cm : List Nat) (x6 : Option V),
              σ = [some (.ref r), some (.int (st : Int)), some (.ref sp), some (.ref re), some (.ref co), some (nI u), x6] ∧ H' sp = some (.lst cs') ∧ H' co = some (.lst (cm.map nI)) ∧ H' re = some (.lst (rs.map nI)) ∧
                Mid G st n t (fun v => (∃ u ∈ rs.take i, G u v) ∨ (v : Int) ∈ (nb u).take j) (nn cs) cs' cm ∧ Same H H') ?_ ?_ ?_ ?_⟩
            · exact ⟨cs', cm, _, rfl, f1, f2, f3, md.mono (fun v hv z => z.elim id fun z => absurd z (by simp)), s2⟩
            · rintro j σ H3 hj ⟨cs3, cm3, z6, rfl, g1, g2, g3, md3, s3⟩
              exact SqT.of (s3 _ _ (rt.row u _ gu))
            · rintro j y σ H3 hy ⟨cs3, cm3, z6, rfl, g1, g2, g3, md3, s3⟩
              obtain ⟨w, hw, rfl⟩ := map_inv hy
              obtain ⟨v, rfl, guv⟩ := (hnb u un w).mp (List.mem_of_getElem? hw)
              have vn : v < n := hG _ _ guv
              have vl : v < cs3.length := by rw [md3.len]; exact vn
              have hcv : cs3[v]? = some cs3[v] := List.getElem?_eq_getElem vl
              have hcu := md3.house un du
              have dn : ∀ x, ((∃ u ∈ rs.take i, G u x) ∨ (x : Int) ∈ (nb u).take (j + 1)) → ((∃ u ∈ rs.take i, G u x) ∨ (x : Int) ∈ (nb u).take j) ∨ x = v := by
                rintro x (z | z)
                · exact .inl (.inl z)
                · rcases (take_succ_mem hw).mp z with z | z
                  · exact .inl (.inr z)
                  · exact .inr (by omega)
              refine ⟨_, rfl, _, rfl, sp, cs3, (v : Int), _, rfl, rfl, SqL.of g1, atI_nat hcv, _, rfl, ite2 (fun c => ?_) (fun c => ?_)⟩
              · have ec : cs3[v] = .non := of_decide_eq_true c
                rw [ec] at hcv
                have cl : cm3.length ≤ 40 := by
                  have z := md3.cnt
                  have z2 := nn_le cs
                  rw [lv.len] at z2
                  omega
                refine ⟨_, rfl, _, rfl, sp, cs3, (u : Int), _, rfl, rfl, SqL.of g1, atI_nat hcu, _, _, rfl, rfl, _, rfl, _, rfl, sp, cs3, (v : Int), v, rfl, rfl, g1, ixN_nat vl, ?_⟩
                have g2' : upd H3 sp (.lst (cs3.set v (nI (t + 1)))) co = some (.lst (cm3.map nI)) := by rw [upd_ne nsc.symm]; exact g2
                refine ⟨_, rfl, .inl ⟨rfl, _, SqL.of g2'⟩, _, rfl, co, _, _, rfl, rfl, g2', ?_, ?_⟩
                · rw [List.length_map]
                  exact size_ok (by omega)
                · refine ⟨cs3.set v (nI (t + 1)), cm3 ++ [v], _, rfl, ?_, ?_, ?_, (md3.more vn hcv du guv).mono (fun x _ z => dn x z), ?_⟩
                  · rw [upd_ne nsc, upd_same]
                    rfl
                  · rw [upd_same, List.map_append]
                    rfl
                  · rw [upd_ne nrc, upd_ne nsr.symm]
                    exact g3
                  · exact sNew (sNew s3 hsp0) hco0
              · exact ⟨cs3, cm3, _, rfl, g1, g2, g3, (md3.skip hcv (fun e => c (decide_eq_true e))).mono (fun x _ z => dn x z), s3⟩
            · rintro σ H3 ⟨cs3, cm3, z6, rfl, g1, g2, g3, md3, s3⟩
              refine ⟨cs3, cm3, _, _, rfl, g1, g2, g3, md3.mono ?_, s3⟩
              rintro v hv ⟨u', hu', g⟩
              rcases (take_succ_mem hu).mp hu' with z | rfl
              · exact .inl ⟨u', z, g⟩
              · refine .inr ?_
                rw [List.length_map, List.take_length]
                exact (hnb u' un _).mpr ⟨v, rfl, g⟩
          · rintro σ H2 ⟨cs', cm, y5, y6, rfl, f1, f2, f3, md, s2⟩
            obtain ⟨lv2, all2⟩ := md.fin hG fun u v d g => ⟨u, by rw [List.length_map, List.take_length]; exact hall u d, g⟩
            refine ⟨_, rfl, nn cs' + (if cm.isEmpty = true then 0 else 1), ?_, t + 1, co, cm, cs', _, _, _, rfl, f1, f2, nsc, lv2, md.cmok, all2, s2, rfl⟩
            have z := md.cnt
            cases cm with
            | nil =>
              rw [if_pos (show ([] : List Nat).isEmpty = true from rfl)]
              rw [List.length_nil] at z
              omega
            | cons a b =>
              rw [if_neg (show ¬ ((a :: b).isEmpty = true) from Bool.false_ne_true)]
              rw [List.length_cons] at z
              omega
end
end Q

namespace Q
open PySem L2 QM
abbrev sPart : Stmt := inClass (top 2) 0
def xdP (y : V) : HO := .xd [("part", y)]
def spPart (CB : Addr) : Sp := fun vs H Q _ => ∃ (a : Addr) (y : V), vs = [.ref a, y] ∧ H a = some (exo a CB none) ∧ ∀ d, H d = none → d ≠ a → Q .non (upd (upd H d (exd d [("part", y)])) a (exo a CB (some d)))
/-- what the top says of BadWeb -/
structure BTxt (K : PySem.W.Frag) (mg : Str → Option Value) (CB fI : Addr) (fd : FuncData) : Prop where
  ox : OexC K CB
  iC : PySem.W.findIn K (.ref CB) "__init__" = some (some (.ref fI))
  tI : PySem.W.typeIn K (.ref fI) = some (.type "function")
  F : Fun K "__init__" "BadWeb.__init__" sPart fI fd
  b : Binds K fd ["self", "part"] []
  no : PySem.W.findIn K (.ref CB) "part" = some none
  g : mg "BadWeb" = some (.ref CB)
  ex : PySem.W.exmOne K (.ref CB) (.ref CB) = some true
  xf : XfC K CB
section
variable {P : Program} {w : World} {K : PySem.W.Frag} {mg : Str → Option Value} {base : Heap}
theorem scPart : FnScope ["self", "part"] ["self", "part"] (defScope sPart) := ⟨rfl, rfl, rfl, by decide +kernel, rfl, by decide +kernel, by decide +kernel⟩
theorem ok_part {CB fI : Addr} {fd : FuncData} (T : BTxt K mg CB fI fd) (B : Bts mg) : FnOk P w K mg base CX0 1 fI fd ["self", "part"] (spPart CB) := by
  refine T.F.ok scPart (fun vs H Q E h => ?_) (fun cdv A outer s H vs Q E hr h => ?_)
  · obtain ⟨a, y, rfl, _⟩ := h
    rfl
  · obtain ⟨a, y, rfl, e, k⟩ := h
    refine ⟨_, pss_one (ps_ost (pv 0) (pv 1)), ?_⟩
    exact ⟨_, rfl, _, rfl, a, CB, rfl, T.ox, T.no, .inl ⟨e, fun d n ne => k d n ne⟩⟩
/-- raise BadWeb(y) -/
theorem bad_raise {CB : Addr} {H H1 : Hp} {y : V} {E : XK} (s : Same H H1) (k : ∀ d H', H' d = some (xdP y) → Same H H' → E (.ref CB) (some d) H') :
    [y].length ≤ 1000 ∧ ∀ a, H1 a = none → spPart CB (.ref a :: ([y] ++ [])) (upd H1 a (exo a CB none)) (fun v H2 => v = .non ∧ ∃ (d : Addr) (fs : List (Str × V)), H2 a = some (exo a CB (some d)) ∧ H2 d = some (exd d fs) ∧ H1 d = none ∧ E (.ref CB) (some d) (upd (del H2 a) d (.xd fs))) (fun _ _ _ => False) := by
  refine ⟨(by show 1 ≤ 1000; decide), fun a ha => ⟨a, y, rfl, upd_same, fun d hd hda => ⟨rfl, d, _, upd_same, ?_, ?_, k d _ upd_same fun b o e => ?_⟩⟩⟩
  · rw [upd_ne hda, upd_same]
  · rw [upd_ne hda] at hd
    exact hd
  · have hb := s _ _ e
    have nba : b ≠ a := ne_of_none hb ha
    rw [upd_ne hda] at hd
    have nbd : b ≠ d := ne_of_none hb hd
    rw [upd_ne nbd, del_ne nba, upd_ne nba, upd_ne nbd, upd_ne nba]
    exact hb
end
section
variable {X : Cx} {CX : CXT} {k : Nat} {f C : Addr} {fd : FuncData} {ps : List Str} {sp : Sp} {E : St → XK} {x : Str} {p pos : Pos} {e : Expr} {es : List Expr} {t : TA}
def tMakeS (C : Addr) (sp : Sp) (E : St → XK) (t : TA) : TE := fun σ H Q => t σ H fun vs H1 => ∀ x dx, H1 x = none → H1 dx = none → dx ≠ x → sp (.ref x :: vs) (upd (upd H1 dx (.own x)) x (.ins C dx [])) (fun v H2 => v = .non ∧ Q (.ref x) H2) (E σ)
theorem run_makeS {pins : List (Addr × Obj)} {σ : St} {H : Hp} {s : Shared} {Q : VK} {us : List Value} {vs : List V} (M : Mk X.K C f) (F : FnOk X.prog X.w X.K X.mg X.base CX k f fd ps sp) (hr : Room (k + 1) X.A) (hb : Binds X.K fd ps [])
    (hx : PassesAt CX X σ (E σ)) (I : Inv X pins σ H s) (r : Vals vs us)
    (h : ∀ x dx, H x = none → H dx = none → dx ≠ x → sp (.ref x :: vs) (upd (upd H dx (.own x)) x (.ins C dx [])) (fun v H2 => v = .non ∧ Q (.ref x) H2) (E σ)) :
    wpAny (model X.prog X.w) X.A (call (.ref C) us) (EP X pins σ Q) X.xe s := by
  have hq := h (s.heap.objs.size + 1) s.heap.objs.size (I.hok.fresh (Nat.le_succ _)) (I.hok.fresh (Nat.le_refl _)) (Nat.ne_of_lt (Nat.lt_succ_self _))
  have I2 := Inv.made (C := C) I
  have r2 : Vals (V.ref (s.heap.objs.size + 1) :: vs) (Value.ref (s.heap.objs.size + 1) :: us) := .cons rfl r
  have hl : (Value.ref (s.heap.objs.size + 1) :: us).length = ps.length := by
    have e := r2.length
    rw [F.len _ _ _ _ hq] at e
    exact e.symm
  have bb := hb { heap := _, gens := _, drawn := _, toks := _, os := _ } (Value.ref (s.heap.objs.size + 1) :: us) I2.kIn (by rw [List.append_nil]; exact hl)
  rw [List.append_nil] at bb
  refine wpAny_call (make_map (f := f) I.kIn M.makes M.init (beq_iff_eq.mp M.fn) (codeAny_mono (F.run _ X.stack _ _ ⟨Value.ref (s.heap.objs.size + 1) :: us, []⟩ (Value.ref (s.heap.objs.size + 1) :: us) _ _ (E σ) (hr.make C us [])
    (I2.env0.make C us []) bb r2 hq) fun r s' hq' => ?_))
  cases r with
  | error e => exact hx pins _ _ e s' I2 hq'
  | ok fl =>
    cases fl with
    | ret u =>
      obtain ⟨v, H', I3, rv, ev, q3⟩ := I2.after hq'
      subst ev
      exact ⟨rv, ⟨V.ref (s.heap.objs.size + 1), H', I3, rfl, q3⟩⟩
    | next => exact False.elim hq'
    | brk => exact False.elim hq'
    | cont => exact False.elim hq'
theorem pe_makeS (M : Mk X.K C f) (F : FnOk X.prog X.w X.K X.mg X.base CX k f fd ps sp) (hr : Room (k + 1) X.A) (hg : Gl X x) (hm : X.mg x = some (.ref C)) (hb : Binds X.K fd ps []) (hx : ∀ σ, PassesAt CX X σ (E σ))
    (ha : PA X (e :: es) t) (hdb : (x == ("__debug__" : Str)) = false := by decide) (he : starEach (e :: es) X.env = (false, eval e X.env) :: starEach es X.env := by rfl) (hpl : (backTo pos (starEach es X.env)).any (·.1) = false := by rfl) :
    PE X (.Call (.Name x p) (e :: es) [] pos) (tMakeS C sp E t) := by
  refine ⟨fun pins s σ H Q I h => ?_⟩
  refine wpAny_Call_Name_kw (ld_glob I hg hm ?_ hdb)
  refine PySem.W.callWith_K (h₀ := X.base) I.ok.mod.kin M.kp (thn (ha.run pos pins s σ H _ I h) fun us s1 ⟨vs, H1, I1, r, q⟩ => ⟨I1.kIn, ?_⟩) he hpl
  exact run_makeS M F hr hb (hx σ) I1 r q
end
end Q

namespace Q
open PySem L2 QM
abbrev sWeb : Stmt := inClass (top 9) 0
/-- the way from tie to tie -/
def GL (L : List (Addr × List Int)) (u v : Nat) : Prop := Edge L (u : Int) (v : Int)
structure TL (m : Int) (L : List (Addr × List Int)) : Prop where
  ok : ∀ p ∈ L, ∃ a b : Int, p.2 = [a, b] ∧ 0 ≤ a ∧ a < b ∧ b < m
  from0 : ∀ v, v < m.toNat → ∃ k, Rch (GL L) 0 k v
  m1 : 1 ≤ m
  m40 : m ≤ 40
section
variable {m : Int} {L : List (Addr × List Int)}
theorem Edge.sym {i j : Int} (h : Edge L i j) : Edge L j i := by
  obtain ⟨p, hp, e | e⟩ := h
  · exact ⟨p, hp, .inr e⟩
  · exact ⟨p, hp, .inl e⟩
theorem in2 (ok : ∀ p ∈ L, ∃ a b : Int, p.2 = [a, b] ∧ 0 ≤ a ∧ a < b ∧ b < m) {i j : Int} (h : Edge L i j) : 0 ≤ j ∧ j < m := by
  obtain ⟨p, hp, e⟩ := h
  obtain ⟨a, b, e2, h0, h1, h2⟩ := ok p hp
  rw [e2] at e
  simp only [List.cons.injEq, and_true] at e
  omega
theorem gl_lt (ok : ∀ p ∈ L, ∃ a b : Int, p.2 = [a, b] ∧ 0 ≤ a ∧ a < b ∧ b < m) (a b : Nat) (h : GL L a b) : b < m.toNat := by
  have := in2 ok h
  omega
theorem nbG_of (ok : ∀ p ∈ L, ∃ a b : Int, p.2 = [a, b] ∧ 0 ≤ a ∧ a < b ∧ b < m) {nb : Nat → List Int} (h : NbOf L m.toNat nb) : NbG (GL L) m.toNat nb := fun i hi j => by
  rw [h i hi j]
  constructor
  · intro e
    have z := in2 ok e
    exact ⟨j.toNat, by omega, by show Edge L (i : Int) ((j.toNat : Nat) : Int); rw [Int.toNat_of_nonneg z.1]; exact e⟩
  · rintro ⟨v, rfl, e⟩
    exact e
theorem TL.sym (a b : Nat) (h : GL L a b) : GL L b a := Edge.sym h
theorem conn_from0 (ok : ∀ p ∈ L, ∃ a b : Int, p.2 = [a, b] ∧ 0 ≤ a ∧ a < b ∧ b < m) (conn : Conn m L) : ∀ v, v < m.toNat → ∃ k, Rch (GL L) 0 k v := by
  intro v
  induction v using Nat.strongRecOn with
  | _ v ih =>
    intro hv
    by_cases c : v = 0
    · exact ⟨0, by rw [c]; exact .zero⟩
    · obtain ⟨p, hp, o, e⟩ := conn (v : Int) (by omega) (by omega)
      obtain ⟨a, b, e2, h0, h1, h2⟩ := ok p hp
      rw [e2] at e
      simp only [List.cons.injEq, and_true] at e
      obtain ⟨k, hk⟩ := ih a.toNat (by omega) (by omega)
      refine ⟨k + 1, .succ hk ⟨p, hp, .inl ?_⟩⟩
      rw [e2, Int.toNat_of_nonneg h0, e.2]
theorem Rch.trans {G : Nat → Nat → Prop} {a b c j k : Nat} (h : Rch G a j b) (g : Rch G b k c) : ∃ i, Rch G a i c := by
  induction g with
  | zero => exact ⟨j, h⟩
  | succ _ e ih =>
    obtain ⟨i, hi⟩ := ih
    exact ⟨i + 1, .succ hi e⟩
theorem TL.dist (T : TL m L) {s v : Nat} (hs : s < m.toNat) (hv : v < m.toNat) : ∃ d, Dist (GL L) s v d := by
  obtain ⟨j, hj⟩ := T.from0 s hs
  obtain ⟨k, hk⟩ := T.from0 v hv
  obtain ⟨i, hi⟩ := Rch.trans (hj.back TL.sym) hk
  obtain ⟨d, _, q⟩ := hi.dist
  exact ⟨d, q⟩
/-- on a joined web each cell is an int -/
theorem TL.ints (T : TL m L) {s : Nat} {cs : List V} (hs : s < m.toNat) (h : Cells (GL L) s m.toNat cs) : ∃ ds : List Nat, cs = ds.map nI ∧ ds.length = m.toNat ∧ ∀ (v d : Nat), ds[v]? = some d → Dist (GL L) s v d := by
  have key : ∀ (cs : List V) (k : Nat), (∀ (v : Nat) (c : V), cs[v]? = some c → ∃ d, c = nI d ∧ Dist (GL L) s (v + k) d) → ∃ ds : List Nat, cs = ds.map nI ∧ ∀ (v d : Nat), ds[v]? = some d → Dist (GL L) s (v + k) d := by
    intro cs
    induction cs with
    | nil => exact fun _ _ => ⟨[], rfl, fun v d h => by simp at h⟩
    | cons c r ih =>
      intro k h
      obtain ⟨d, rfl, hd⟩ := h 0 c rfl
      obtain ⟨ds, rfl, hds⟩ := ih (k + 1) fun v c hc => by
        obtain ⟨d, e, q⟩ := h (v + 1) c (by simpa using hc)
        exact ⟨d, e, by rw [show v + (k + 1) = v + 1 + k by omega]; exact q⟩
      refine ⟨d :: ds, rfl, fun v e hv => ?_⟩
      cases v with
      | zero =>
        obtain rfl : d = e := Option.some.inj hv
        exact hd
      | succ v =>
        have z := hds v e (by simpa using hv)
        rw [show v + 1 + k = v + (k + 1) by omega]
        exact z
  obtain ⟨ds, e, hds⟩ := key cs 0 fun v c hc => by
    have hv : v < m.toNat := by
      have z := (List.getElem?_eq_some_iff.mp hc).1
      rw [h.len] at z
      exact z
    rcases h.cell v hv with ⟨d, a, b⟩ | ⟨_, b⟩
    · rw [hc] at a
      exact ⟨d, Option.some.inj a, b⟩
    · obtain ⟨d, q⟩ := T.dist hs hv
      exact absurd q (b d)
  refine ⟨ds, e, ?_, hds⟩
  have z := h.len
  rw [e, List.length_map] at z
  exact z
end
theorem no_none : ∀ ds : List Nat, inV .non (ds.map nI) = false
  | [] => rfl
  | d :: r => by
    have ih := no_none r
    unfold inV at ih ⊢
    rw [List.map_cons, List.any_cons, ih]
    rfl
theorem flat_nI : ∀ ds : List Nat, (ds.map nI).all flatV = true
  | [] => rfl
  | d :: r => by
    rw [List.map_cons, List.all_cons, flat_nI r]
    rfl
/-! ### a web's attributes -/
def wf (m : Int) (q r : Addr) : List (Str × V) := putF "_beside" (.ref r) (putF "ties" (.ref q) (putF "many" (.int m) []))
theorem ne_tm : ¬ (("ties" : Str) = "many") := by decide +kernel
theorem ne_bt : ¬ (("_beside" : Str) = "ties") := by decide +kernel
theorem ne_bm : ¬ (("_beside" : Str) = "many") := by decide +kernel
theorem wf_many (m : Int) (q r : Addr) : (wf m q r).lookup ("many" : Str) = some (.int m) := by
  unfold wf
  rw [lookup_putF, if_neg (fun e => ne_bm e.symm), lookup_putF, if_neg (fun e => ne_tm e.symm), lookup_putF, if_pos rfl]
theorem wf_ties (m : Int) (q r : Addr) : (wf m q r).lookup ("ties" : Str) = some (.ref q) := by
  unfold wf
  rw [lookup_putF, if_neg (fun e => ne_bt e.symm), lookup_putF, if_pos rfl]
theorem wf_beside (m : Int) (q r : Addr) : (wf m q r).lookup ("_beside" : Str) = some (.ref r) := by
  unfold wf
  rw [lookup_putF, if_pos rfl]
/-- what the top says of Web -/
structure WTxt (K : PySem.W.Frag) (mg : Str → Option Value) (C : Addr) : Prop where
  cl : Cls K C
  nM : NoAttr K C "many"
  nT : NoAttr K C "ties"
  nB : NoAttr K C "_beside"
  mgC : mg "Web" = some (.ref C)
  most : ∃ t, mg "MOST_HOUSES" = some (.int 40 t)
/-- a web stands at w -/
structure WebIn (C : Addr) (m : Int) (L : List (Addr × List Int)) (H : Hp) (w dx q r : Addr) (bs : List Addr) (nb : Nat → List Int) : Prop where
  at_ : H w = some (.ins C dx (wf m q r))
  rows : RowsT H r bs nb m.toNat
  nbo : NbOf L m.toNat nb
  srt : Sortd m.toNat nb
  ties : TiesAt m H q L
  tl : TL m L
theorem TiesAt.ext {m : Int} {L : List (Addr × List Int)} {H H' : Hp} {q p : Addr} (h : TiesAt m H q L) (hp : ∀ xs, H p ≠ some (.tup xs)) (s : Ext p H H') : TiesAt m H' q L :=
  ⟨s _ _ h.at_ (fun e => hp _ (by rw [← e]; exact h.at_)), fun a ha => s _ _ (h.tup a ha) (fun e => hp _ (by rw [← e]; exact h.tup a ha)), h.ok, h.asc, h.few⟩
theorem WebIn.same {C : Addr} {m : Int} {L : List (Addr × List Int)} {H H' : Hp} {w dx q r : Addr} {bs : List Addr} {nb : Nat → List Int} (x : WebIn C m L H w dx q r bs nb) (s : Same H H') : WebIn C m L H' w dx q r bs nb :=
  ⟨s _ _ x.at_, x.rows.same s, x.nbo, x.srt, x.ties.same s, x.tl⟩
theorem hand_no {H : Hp} {p l : Addr} (g : HandAt H p l) : ∀ xs, H p ≠ some (.tup xs) := fun xs e => by
  obtain ⟨zs, z⟩ := g.hp
  rw [z] at e
  cases e
theorem WebIn.ext {C : Addr} {m : Int} {L : List (Addr × List Int)} {H H' : Hp} {w dx q r p l : Addr} {bs : List Addr} {nb : Nat → List Int} (x : WebIn C m L H w dx q r bs nb) (g : HandAt H p l) (s : Ext p H H') : WebIn C m L H' w dx q r bs nb := by
  obtain ⟨xs, e⟩ := g.hp
  refine ⟨s _ _ x.at_ (ne_of x.at_ e (fun z => by cases z)), ⟨s _ _ x.rows.at_ (ne_of x.rows.at_ e (fun z => by cases z)), x.rows.len, fun i a hi => ?_⟩, x.nbo, x.srt, x.ties.ext (hand_no g) s, x.tl⟩
  have z := x.rows.row i a hi
  exact s _ _ z (ne_of z e (fun z => by cases z))
/-- what Web may be asked with -/
structure PreW (H : Hp) (v u : V) : Prop where
  kv : Kd H v
  ku : Kd H u
  its : ∀ q xs, u = .ref q → H q = some (.tup xs) → xs.length < 200 ∧ ∀ x ∈ xs, Itm H x
/-- which part is none -/
inductive BadPart (H : Hp) (v u : V) : V → Prop
  | many (no : ∀ m, v = .int m → ¬ (1 ≤ m ∧ m ≤ 40)) : BadPart H v u (.str "many")
  | shape (m : Int) (ev : v = .int m) (m1 : 1 ≤ m) (m40 : m ≤ 40) (no : ∀ q xs, u = .ref q → H q = some (.tup xs) → False) : BadPart H v u (.int (-1))
  | tie (m : Int) (q : Addr) (xs : List V) (k : Nat) (ev : v = .int m) (m1 : 1 ≤ m) (m40 : m ≤ 40) (eu : u = .ref q) (hq : H q = some (.tup xs)) (f : First H m xs (some k)) : BadPart H v u (nI k)
  | apart (m : Int) (q : Addr) (L : List (Addr × List Int)) (v0 : Nat) (ev : v = .int m) (m1 : 1 ≤ m) (m40 : m ≤ 40) (eu : u = .ref q) (tt : TiesAt m H q L) (hv : v0 < m.toNat) (no : ∀ d, ¬ Dist (GL L) 0 v0 d) : BadPart H v u (.str "joined")
structure FineW (H : Hp) (v u : V) (m : Int) (q : Addr) (L : List (Addr × List Int)) : Prop where
  ev : v = .int m
  eu : u = .ref q
  tt : TiesAt m H q L
  tl : TL m L
theorem ltP.trans {x y z : List Int} (h : ltP x y) (g : ltP y z) : ltP x z := by
  obtain ⟨a, b, c, d, rfl, rfl, h⟩ := h
  obtain ⟨c', d', e, f, e1, rfl, g⟩ := g
  simp only [List.cons.injEq, and_true] at e1
  exact ⟨a, b, e, f, rfl, rfl, by omega⟩
/-- fine items make ties -/
theorem ties_of {H : Hp} {m : Int} {q : Addr} {xs : List V} (hq : H q = some (.tup xs)) (few : xs.length < 200) (h : AllFine H m xs xs.length) : ∃ L, TiesAt m H q L := by
  have key : ∀ k, ∃ p : Addr × List Int, k < xs.length → ∃ a b : Int, xs[k]? = some (.ref p.1) ∧ H p.1 = some (.tup (p.2.map V.int)) ∧ p.2 = [a, b] ∧ 0 ≤ a ∧ a < b ∧ b < m := fun k => by
    by_cases c : k < xs.length
    · obtain ⟨v, a, b, e, ⟨t, rfl, et, h0, h1, h2⟩, _⟩ := h k c
      exact ⟨(t, [a, b]), fun _ => ⟨a, b, e, et, rfl, h0, h1, h2⟩⟩
    · exact ⟨(0, []), fun z => absurd z c⟩
  let f : Nat → Addr × List Int := fun k => Classical.choose (key k)
  have hf : ∀ k, k < xs.length → ∃ a b : Int, xs[k]? = some (.ref (f k).1) ∧ H (f k).1 = some (.tup ((f k).2.map V.int)) ∧ (f k).2 = [a, b] ∧ 0 ≤ a ∧ a < b ∧ b < m := fun k => Classical.choose_spec (key k)
  have step : ∀ k, k + 1 < xs.length → ltP (f k).2 (f (k + 1)).2 := fun k hk => by
    obtain ⟨a, b, e, et, e2, h0, h1, h2⟩ := hf k (by omega)
    obtain ⟨a', b', e', et', e2', h0', h1', h2'⟩ := hf (k + 1) hk
    obtain ⟨v, c, d, ev, g, hz⟩ := h (k + 1) hk
    rw [e'] at ev
    cases ev
    obtain ⟨rfl, rfl⟩ := g.uniq ⟨_, rfl, by rw [et', e2']; rfl, h0', h1', h2'⟩
    have z := hz k _ a b rfl e ⟨_, rfl, by rw [et, e2]; rfl, h0, h1, h2⟩
    exact ⟨a, b, c, d, e2, e2', z⟩
  have far : ∀ d i, i + d + 1 < xs.length → ltP (f i).2 (f (i + d + 1)).2 := fun d => by
    induction d with
    | zero => exact fun i hi => step i hi
    | succ d ih => exact fun i hi => (ih i (by omega)).trans (step (i + d + 1) (by omega))
  have el : (List.range xs.length).length = xs.length := List.length_range
  refine ⟨(List.range xs.length).map f, ?_, ?_, ?_, ?_, ?_⟩
  · rw [hq]
    congr 2
    apply List.ext_getElem?
    intro i
    by_cases c : i < xs.length
    · obtain ⟨a, b, e, _⟩ := hf i c
      rw [e, List.map_map, List.getElem?_map, List.getElem?_range c]
      rfl
    · rw [List.getElem?_eq_none (by omega), List.getElem?_eq_none (by simp; omega)]
  · intro p hp
    obtain ⟨k, hk, rfl⟩ := List.mem_map.mp hp
    obtain ⟨a, b, _, et, _⟩ := hf k (List.mem_range.mp hk)
    exact et
  · intro p hp
    obtain ⟨k, hk, rfl⟩ := List.mem_map.mp hp
    obtain ⟨a, b, _, _, e2, r⟩ := hf k (List.mem_range.mp hk)
    exact ⟨a, b, e2, r⟩
  · rw [List.pairwise_iff_getElem]
    intro i j hi hj hij
    rw [List.length_map, el] at hi hj
    simp only [List.getElem_map, List.getElem_range]
    have z := far (j - i - 1) i (by omega)
    rw [show i + (j - i - 1) + 1 = j by omega] at z
    exact z
  · rw [List.length_map, el]
    exact few
/-- ties are fine items -/
theorem fine_of {H : Hp} {m : Int} {q : Addr} {L : List (Addr × List Int)} (t : TiesAt m H q L) : AllFine H m (L.map fun p => V.ref p.1) (L.map fun p => V.ref p.1).length := fun k hk => by
  rw [List.length_map] at hk
  have gp : ∀ i, i < L.length → ∀ (h : i < L.length), ∃ a b, L[i].2 = [a, b] ∧ Good H m (.ref L[i].1) a b := fun i _ h => by
    obtain ⟨a, b, e, h0, h1, h2⟩ := t.ok L[i] (List.getElem_mem h)
    have et := t.tup L[i] (List.getElem_mem h)
    rw [e] at et
    exact ⟨a, b, e, _, rfl, et, h0, h1, h2⟩
  obtain ⟨a, b, e, g⟩ := gp k hk hk
  refine ⟨_, a, b, by rw [List.getElem?_map, List.getElem?_eq_getElem hk]; rfl, g, fun j u c d ej eu gu => ?_⟩
  subst ej
  rw [List.getElem?_map, List.getElem?_eq_getElem (by omega)] at eu
  cases eu
  obtain ⟨c', d', e', g'⟩ := gp j (by omega) (by omega)
  obtain ⟨rfl, rfl⟩ := g'.uniq gu
  have z := List.pairwise_iff_getElem.mp t.asc j (j + 1) (by omega) hk (by omega)
  obtain ⟨x, y, x', y', e1, e2, lt⟩ := z
  rw [e'] at e1
  rw [e] at e2
  simp only [List.cons.injEq, and_true] at e1 e2
  omega
theorem TiesAt.uniq {H : Hp} {m m' : Int} {q : Addr} {L L' : List (Addr × List Int)} (t : TiesAt m H q L) (t' : TiesAt m' H q L') : L = L' := by
  have e : L.map (fun p => V.ref p.1) = L'.map fun p => V.ref p.1 := by
    have z := t.at_.symm.trans t'.at_
    simpa using z
  have el : L.length = L'.length := by
    have z := congrArg List.length e
    simpa using z
  apply List.ext_getElem el
  intro i h1 h2
  have e1 : L[i].1 = L'[i].1 := by
    have z := congrArg (fun l : List V => l[i]?) e
    simp only [List.getElem?_map, List.getElem?_eq_getElem h1, List.getElem?_eq_getElem h2, Option.map_some, Option.some.injEq, V.ref.injEq] at z
    exact z
  have z1 := t.tup L[i] (List.getElem_mem h1)
  have z2 := t'.tup L'[i] (List.getElem_mem h2)
  rw [e1, z2] at z1
  obtain ⟨a, b, ea, _⟩ := t.ok L[i] (List.getElem_mem h1)
  obtain ⟨c, d, ec, _⟩ := t'.ok L'[i] (List.getElem_mem h2)
  rw [ea, ec] at z1
  simp only [List.map_cons, List.map_nil, Option.some.injEq, HO.tup.injEq, List.cons.injEq, V.int.injEq, and_true] at z1
  refine Prod.ext e1 ?_
  rw [ea, ec, z1.1, z1.2]
theorem rch_has {G : Nat → Nat → Prop} {s k v : Nat} (h : Rch G s k v) : ∃ d, Dist G s v d := by
  obtain ⟨d, _, q⟩ := h.dist
  exact ⟨d, q⟩
theorem BadPart.uniq {H : Hp} {v u r r' : V} (h : BadPart H v u r) (g : BadPart H v u r') : r = r' := by
  cases h with
  | many no =>
    cases g with
    | many => rfl
    | shape m ev a b => exact absurd ⟨a, b⟩ (no m ev)
    | tie m _ _ _ ev a b => exact absurd ⟨a, b⟩ (no m ev)
    | apart m _ _ _ ev a b => exact absurd ⟨a, b⟩ (no m ev)
  | shape m ev a b no =>
    cases g with
    | many no' => exact absurd ⟨a, b⟩ (no' m ev)
    | shape => rfl
    | tie m' q xs k _ _ _ eu hq => exact (no q xs eu hq).elim
    | apart m' q L k _ _ _ eu tt => exact (no q _ eu tt.at_).elim
  | tie m q xs k ev a b eu hq f =>
    cases g with
    | many no' => exact absurd ⟨a, b⟩ (no' m ev)
    | shape _ _ _ _ no' => exact (no' q xs eu hq).elim
    | tie m' q' xs' k' ev' _ _ eu' hq' f' =>
      rw [ev] at ev'
      cases ev'
      rw [eu] at eu'
      cases eu'
      rw [hq] at hq'
      cases hq'
      cases f.uniq f'
      rfl
    | apart m' q' L k' ev' _ _ eu' tt' =>
      rw [ev] at ev'
      cases ev'
      rw [eu] at eu'
      cases eu'
      rw [tt'.at_] at hq
      cases hq
      have z := f.uniq (r' := none) (fine_of tt')
      cases z
  | apart m q L k ev a b eu tt hv no =>
    cases g with
    | many no' => exact absurd ⟨a, b⟩ (no' m ev)
    | shape _ _ _ _ no' => exact (no' q _ eu tt.at_).elim
    | tie m' q' xs' k' ev' _ _ eu' hq' f' =>
      rw [ev] at ev'
      cases ev'
      rw [eu] at eu'
      cases eu'
      rw [tt.at_] at hq'
      cases hq'
      have z := f'.uniq (r' := none) (fine_of tt)
      cases z
    | apart => rfl
theorem FineW.not_bad {H : Hp} {v u r : V} {m : Int} {q : Addr} {L : List (Addr × List Int)} (h : FineW H v u m q L) (g : BadPart H v u r) : False := by
  obtain ⟨ev, eu, tt, tl⟩ := h
  cases g with
  | many no => exact no m ev ⟨tl.m1, tl.m40⟩
  | shape _ _ _ _ no => exact no q _ eu tt.at_
  | tie m' q' xs k ev' _ _ eu' hq f =>
    rw [ev] at ev'
    cases ev'
    rw [eu] at eu'
    cases eu'
    rw [tt.at_] at hq
    cases hq
    have z := f.uniq (r' := none) (fine_of tt)
    cases z
  | apart m' q' L' v0 ev' _ _ eu' tt' hv no =>
    rw [ev] at ev'
    cases ev'
    rw [eu] at eu'
    cases eu'
    cases tt.uniq tt'
    obtain ⟨k, hk⟩ := tl.from0 v0 hv
    obtain ⟨d, q⟩ := rch_has hk
    exact no d q
/-- a row of found ways: each an int or None -/
theorem Cells.flat {G : Nat → Nat → Prop} {s n : Nat} {cs : List V} (h : Cells G s n cs) : cs.all flatV = true := by
  rw [List.all_eq_true]
  intro c hc
  obtain ⟨v, hv, rfl⟩ := List.getElem_of_mem hc
  rcases h.cell v (by rw [← h.len]; exact hv) with ⟨d, e, _⟩ | ⟨e, _⟩
  · rw [List.getElem?_eq_getElem hv] at e
    cases e' : cs[v] with
    | _ => rw [e'] at e; cases e <;> rfl
  · rw [List.getElem?_eq_getElem hv] at e
    cases e' : cs[v] with
    | _ => rw [e'] at e; cases e <;> rfl
theorem Cells.gap {G : Nat → Nat → Prop} {s n : Nat} {cs : List V} (h : Cells G s n cs) : (inV .non cs = true ∧ ∃ v, v < n ∧ ∀ d, ¬ Dist G s v d) ∨ (inV .non cs = false ∧ ∀ v, v < n → ∃ d, Dist G s v d) := by
  by_cases c : ∃ v, v < n ∧ ∀ d, ¬ Dist G s v d
  · obtain ⟨v, hv, no⟩ := c
    refine .inl ⟨?_, v, hv, no⟩
    rcases h.cell v hv with ⟨d, _, q⟩ | ⟨e, _⟩
    · exact absurd q (no d)
    · exact List.any_eq_true.mpr ⟨.non, List.mem_of_getElem? e, rfl⟩
  · have all : ∀ v, v < n → ∃ d, Dist G s v d := fun v hv => Classical.byContradiction fun z => c ⟨v, hv, fun d q => z ⟨d, q⟩⟩
    refine .inr ⟨?_, all⟩
    rw [Bool.eq_false_iff]
    intro z
    obtain ⟨x, hx, e⟩ := List.any_eq_true.mp z
    obtain ⟨v, hv, rfl⟩ := List.getElem_of_mem hx
    have hvn : v < n := by rw [← h.len]; exact hv
    rcases h.cell v hvn with ⟨d, e2, _⟩ | ⟨_, no⟩
    · rw [List.getElem?_eq_getElem hv] at e2
      rw [Option.some.inj e2] at e
      cases e
    · obtain ⟨d, q⟩ := all v hvn
      exact no d q
theorem tl_of {m : Int} {L : List (Addr × List Int)} (ok : ∀ p ∈ L, ∃ a b : Int, p.2 = [a, b] ∧ 0 ≤ a ∧ a < b ∧ b < m) (m1 : 1 ≤ m) (m40 : m ≤ 40) (h : ∀ v, v < m.toNat → ∃ d, Dist (GL L) 0 v d) : TL m L :=
  ⟨ok, fun v hv => by
    obtain ⟨d, q⟩ := h v hv
    exact ⟨d, q.1⟩, m1, m40⟩
section
variable {P : Program} {w : World} {K : PySem.W.Frag} {mg : Str → Option Value} {base : Heap}
/-- the defs that a web leans on -/
structure WDefs (K : PySem.W.Frag) (mg : Str → Option Value) where
  fP : Addr
  dP : FuncData
  DP : Df K mg "is_plain_int" sPlain ["thing"] fP dP
  fN : Addr
  dN : FuncData
  DN : Df K mg "is_number_below" sNum ["limit", "thing"] fN dN
  fT : Addr
  dT : FuncData
  DT : Df K mg "is_tie" sTie ["many", "thing"] fT dT
  fF : Addr
  dF : FuncData
  DF : Df K mg "first_wrong_tie" sFirst ["many", "ties"] fF dF
  fB : Addr
  dB : FuncData
  DB : Df K mg "houses_beside" sBeside ["many", "ties"] fB dB
  fS : Addr
  dS : FuncData
  DS : Df K mg "steps_from" sSteps ["beside", "start"] fS dS
end
end Q

namespace Q
open PySem L2 QM
def spWebX (C CB : Addr) : Sp := fun vs H Q E => ∃ (p dx : Addr) (v u : V), vs = [.ref p, v, u] ∧ H p = some (.ins C dx []) ∧ PreW H v u ∧
  (∀ r d H', BadPart H v u r → H' d = some (xdP r) → Same H H' → E (.ref CB) (some d) H') ∧
  (∀ m q L, FineW H v u m q L → ∀ (r : Addr) (bs : List Addr) (nb : Nat → List Int) (H' : Hp), WebIn C m L H' p dx q r bs nb → Ext p H H' → Q .non H')
/-- only of what is right -/
def spWeb (C : Addr) : Sp := fun vs H Q _ => ∃ (p dx : Addr) (m : Int) (q : Addr) (L : List (Addr × List Int)), vs = [.ref p, .int m, .ref q] ∧ H p = some (.ins C dx []) ∧ TiesAt m H q L ∧ TL m L ∧
  ∀ (r : Addr) (bs : List Addr) (nb : Nat → List Int) (H' : Hp), WebIn C m L H' p dx q r bs nb → Ext p H H' → Q .non H'
section
variable {P : Program} {w : World} {K : PySem.W.Frag} {mg : Str → Option Value} {base : Heap}
theorem BadPart.same {H H' : Hp} {v u r : V} (pre : PreW H v u) (h : BadPart H v u r) (s : Same H H') : True := trivial
theorem TiesAt.good {m : Int} {H : Hp} {q : Addr} {L : List (Addr × List Int)} (t : TiesAt m H q L) : ∀ x ∈ L.map (fun p => V.ref p.1), Itm H x := fun x hx => by
  obtain ⟨p, hp, rfl⟩ := List.mem_map.mp hx
  obtain ⟨a, b, e, _⟩ := t.ok p hp
  have et := t.tup p hp
  refine ⟨.tup et, fun a' x y e1 e2 => ?_⟩
  cases e1
  rw [et, e] at e2
  simp only [List.map_cons, List.map_nil, Option.some.injEq, HO.tup.injEq, List.cons.injEq, and_true] at e2
  rw [← e2.1, ← e2.2]
  exact ⟨.int _, .int _⟩
theorem TiesAt.pre {m : Int} {H : Hp} {q : Addr} {L : List (Addr × List Int)} (t : TiesAt m H q L) : PreW H (.int m) (.ref q) := ⟨.int _, .tup t.at_, fun q' xs e1 e2 => by
  cases e1
  rw [t.at_] at e2
  cases e2
  exact ⟨by rw [List.length_map]; exact t.few, t.good⟩⟩
theorem scWeb : FnScope ["self", "many", "ties", "wrong", "beside"] ["self", "many", "ties"] (defScope sWeb) := ⟨rfl, rfl, rfl, by decide +kernel, rfl, by decide +kernel, by decide +kernel⟩
theorem web_end {C p dx q r : Addr} {m : Int} {L : List (Addr × List Int)} {bs : List Addr} {nb : Nat → List Int} {H H3 : Hp} (hp : H p = some (.ins C dx [])) (s4 : Same H H3) (rt3 : RowsT H3 r bs nb m.toNat) (hnb : NbOf L m.toNat nb) (srt : Sortd m.toNat nb) (tt : TiesAt m H3 q L) (TT : TL m L) {x y : HO} :
    WebIn C m L (upd (upd (upd H3 p x) p y) p (.ins C dx (wf m q r))) p dx q r bs nb ∧ Ext p H (upd (upd (upd H3 p x) p y) p (.ins C dx (wf m q r))) := by
  have np : ∀ {b : Addr} {xs : List V}, H3 b = some (.tup xs) → b ≠ p := fun e => ne_of e (s4 _ _ hp) (fun z => by cases z)
  have ex : Ext p H (upd (upd (upd H3 p x) p y) p (.ins C dx (wf m q r))) := fun b o e nb => by
    rw [upd_ne nb, upd_ne nb, upd_ne nb]
    exact s4 _ _ e
  have ex3 : Ext p H3 (upd (upd (upd H3 p x) p y) p (.ins C dx (wf m q r))) := fun b o e nb => by
    rw [upd_ne nb, upd_ne nb, upd_ne nb]
    exact e
  refine ⟨⟨upd_same, ⟨?_, rt3.len, fun i a hi => ?_⟩, hnb, srt, tt.ext (fun xs e => ?_) ex3, TT⟩, ex⟩
  · rw [upd_ne (np rt3.at_), upd_ne (np rt3.at_), upd_ne (np rt3.at_)]
    exact rt3.at_
  · have z := rt3.row i a hi
    rw [upd_ne (np z), upd_ne (np z), upd_ne (np z)]
    exact z
  · exact np e rfl
theorem ok_web {f C : Addr} {fd : FuncData} (F : Fun K "__init__" "Web.__init__" sWeb f fd) (B : Bts mg) (T : WTxt K mg C) (D : WDefs K mg) : FnOk P w K mg base CX0 5 f fd ["self", "many", "ties"] (spWeb C) := by
  have GP : FnOk P w K mg base CX0 1 D.fP D.dP ["thing"] (spPlain K) := ok_plain (x := "") (st := sPlain) D.DP.F B
  have GF : FnOk P w K mg base CX0 4 D.fF D.dF ["many", "ties"] spFirst := ok_first D.DF.F B D.DP D.DN D.DT
  have GB : FnOk P w K mg base CX0 1 D.fB D.dB ["many", "ties"] spBeside := ok_beside D.DB.F B
  have GS : FnOk P w K mg base CX0 1 D.fS D.dS ["beside", "start"] spSteps := ok_steps D.DS.F B
  refine F.ok scWeb (fun vs H Q E h => ?_) (fun cdv A outer s H vs Q E hr h => ?_)
  · obtain ⟨p, dx, m, q, L, rfl, _⟩ := h
    rfl
  · obtain ⟨p, dx, m, q, L, rfl, hp, tt, TT, k⟩ := h
    have m1 := TT.m1
    have m40 := TT.m40
    have nd := scWeb.nd
    obtain ⟨tm, hmost⟩ := T.most
    have hr1 : Room 1 _ := hr.mono (by decide)
    refine ⟨_, pss_cons (ps_if (PW.pt (pw_or (pt_not (pt_val (pe_call GP hr1 rfl D.DP.m D.DP.k D.DP.b .nil pass0 (pa_cons (pv 1) pa_nil)))) (pw_or1 (pt_not (pt_chain op_le op_le pe_int (pv 1) (pe_glob (v := .int 40) rfl hmost ⟨_, rfl⟩)))))) pss_never pss_nil)
      (pss_cons (ps_if (pt_not (pt_val (pe_callB call_isi (by rfl) B.isinstance PyProof.Rows.boot_isinstance (pa_cons (pv 2) (pa_cons (pe_bltn (v := .ty "tuple") rfl B.tuple PyProof.Rows.boot_tuple rfl) pa_nil))))) pss_never pss_nil)
      (pss_cons (ps_set (i := 3) nd rfl (.inl rfl) (pe_call GF hr rfl D.DF.m D.DF.k D.DF.b .nil pass0 (pa_cons (pv 1) (pa_cons (pv 2) pa_nil))))
      (pss_cons (ps_if (pt_cmp (pc_notN (pv 3))) pss_never pss_nil)
      (pss_cons (ps_set (i := 4) nd rfl (.inl rfl) (pe_call GB hr1 rfl D.DB.m D.DB.k D.DB.b .nil pass0 (pa_cons (pv 1) (pa_cons (pv 2) pa_nil))))
      (pss_cons (ps_if (pt_cmpR op_in_seq pe_non (pe_call GS hr1 rfl D.DS.m D.DS.k D.DS.b .nil pass0 (pa_cons (pv 4) (pa_cons pe_int pa_nil))) rfl) pss_never pss_nil)
      (pss_cons (ps_fld (pv 0) (pv 1) rfl)
      (pss_cons (ps_fld (pv 0) (pv 2) rfl)
      (pss_one (ps_fld (pv 0) (pv 4) rfl))))))))), ?_⟩
    refine ⟨_, rfl, .int m, .type "int", true, false, rfl, .base (.int _), kInt_int, kBool_int, _, rfl, ?_⟩
    refine iteF ⟨_, rfl, _, _, rfl, rfl, _, rfl, ite2 (fun _ => ?_) (fun c => absurd (decide_eq_true m1) c)⟩
    refine ⟨_, _, rfl, rfl, _, rfl, ite2 (fun c => ?_) (fun _ => ?_)⟩
    · rw [decide_eq_true m40] at c
      exact absurd c (by decide)
    refine ⟨_, rfl, .ref q, .ty "tuple", .type "tuple", .type "tuple", true, rfl, .ty _, .base (.tup tt.at_), kit_ty (by decide +kernel), _, rfl, iteF ?_⟩
    refine ⟨_, rfl, _, rfl, m, q, _, rfl, tt.at_, tt.good, fun r H1 s1 fr => ?_⟩
    obtain rfl : r = none := fr.uniq (r' := none) (fine_of tt)
    refine ⟨_, rfl, _, rfl, ite2 (fun c => absurd c (by simp [vO])) (fun _ => ?_)⟩
    refine ⟨_, rfl, _, rfl, m, q, L, rfl, m1, m40, tt.same s1, fun r bs nb H2 rt hnb srt s2 => ?_⟩
    refine ⟨_, rfl, r, bs, nb, m.toNat, GL L, 0, rfl, rt, by omega, by omega, nbG_of TT.ok hnb, gl_lt TT.ok, fun sp cs H3 hsp cells s3 => ?_⟩
    refine ⟨sp, _, rfl, .inl (SqL.of hsp), rfl, cells.flat, _, rfl, ?_⟩
    have en : (if false = true then !inV V.non cs else inV V.non cs) = false := by
      rcases cells.gap with ⟨_, v, hv, no⟩ | ⟨e, _⟩
      · obtain ⟨k, hk⟩ := TT.from0 v hv
        obtain ⟨d, q⟩ := rch_has hk
        exact absurd q (no d)
      · exact e
    rw [en]
    refine iteF ?_
    have s4 : Same H H3 := fun b o e => s3 _ _ (s2 _ _ (s1 _ _ e))
    refine ⟨_, rfl, _, rfl, p, C, dx, _, rfl, s4 _ _ hp, T.cl, T.nM, (by show 0 < 1000; decide), ?_⟩
    refine ⟨_, rfl, _, rfl, p, C, dx, _, rfl, upd_same, T.cl, T.nT, (by show 1 < 1000; decide), ?_⟩
    refine ⟨_, rfl, _, rfl, p, C, dx, _, rfl, upd_same, T.cl, T.nB, (by show 2 < 1000; decide), ?_⟩
    obtain ⟨z1, z2⟩ := web_end hp s4 (rt.same s3) hnb srt (tt.same s4) TT
    exact k r bs nb _ z1 z2
theorem ok_webX {f C CB fI : Addr} {fd fdI : FuncData} (F : Fun K "__init__" "Web.__init__" sWeb f fd) (B : Bts mg) (T : WTxt K mg C) (D : WDefs K mg) (BT : BTxt K mg CB fI fdI) : FnOk P w K mg base (L2.CX P w) 5 f fd ["self", "many", "ties"] (spWebX C CB) := by
  have GP : FnOk P w K mg base CX0 1 D.fP D.dP ["thing"] (spPlain K) := ok_plain (x := "") (st := sPlain) D.DP.F B
  have GF : FnOk P w K mg base CX0 4 D.fF D.dF ["many", "ties"] spFirst := ok_first D.DF.F B D.DP D.DN D.DT
  have GB : FnOk P w K mg base CX0 1 D.fB D.dB ["many", "ties"] spBeside := ok_beside D.DB.F B
  have GS : FnOk P w K mg base CX0 1 D.fS D.dS ["beside", "start"] spSteps := ok_steps D.DS.F B
  have GI : FnOk P w K mg base CX0 1 fI fdI ["self", "part"] (spPart CB) := ok_part BT B
  refine F.okX scWeb (fun vs H Q E h => ?_) (fun cdv A outer s H vs Q E hr h => ?_)
  · obtain ⟨p, dx, v, u, rfl, _⟩ := h
    rfl
  · obtain ⟨p, dx, v, u, rfl, hp, pre, kE, k⟩ := h
    have nd := scWeb.nd
    obtain ⟨tm, hmost⟩ := T.most
    have hr1 : Room 1 _ := hr.mono (by decide)
    have hr2 : Room 2 _ := hr.mono (by decide)
    refine ⟨_, pss_cons (ps_if (PW.pt (pw_or (pt_not (pt_val (pe_call GP hr1 rfl D.DP.m D.DP.k D.DP.b .nil pass0 (pa_cons (pv 1) pa_nil)))) (pw_or1 (pt_not (pt_chain op_le op_le pe_int (pv 1) (pe_glob (v := .int 40) rfl hmost ⟨_, rfl⟩))))))
        (pss_one (ps_raise rfl (takes_of rfl rfl rfl rfl) (pmk_oex BT.ox BT.iC BT.tI GI hr2 BT.b .nil pass0 rfl BT.g (pa_cons pe_str pa_nil)))) pss_nil)
      (pss_cons (ps_if (pt_not (pt_val (pe_callB call_isi (by rfl) B.isinstance PyProof.Rows.boot_isinstance (pa_cons (pv 2) (pa_cons (pe_bltn (v := .ty "tuple") rfl B.tuple PyProof.Rows.boot_tuple rfl) pa_nil)))))
        (pss_one (ps_raise rfl (takes_of rfl rfl rfl rfl) (pmk_oex BT.ox BT.iC BT.tI GI hr2 BT.b .nil pass0 rfl BT.g (pa_cons (pe_un un_neg pe_int) pa_nil)))) pss_nil)
      (pss_cons (ps_set (i := 3) nd rfl (.inl rfl) (pe_call GF hr rfl D.DF.m D.DF.k D.DF.b .nil pass0 (pa_cons (pv 1) (pa_cons (pv 2) pa_nil))))
      (pss_cons (ps_if (pt_cmp (pc_notN (pv 3))) (pss_one (ps_raise rfl (takes_of rfl rfl rfl rfl) (pmk_oex BT.ox BT.iC BT.tI GI hr2 BT.b .nil pass0 rfl BT.g (pa_cons (pv 3) pa_nil)))) pss_nil)
      (pss_cons (ps_set (i := 4) nd rfl (.inl rfl) (pe_call GB hr1 rfl D.DB.m D.DB.k D.DB.b .nil pass0 (pa_cons (pv 1) (pa_cons (pv 2) pa_nil))))
      (pss_cons (ps_if (pt_cmpR op_in_seq pe_non (pe_call GS hr1 rfl D.DS.m D.DS.k D.DS.b .nil pass0 (pa_cons (pv 4) (pa_cons pe_int pa_nil))) rfl) (pss_one (ps_raise rfl (takes_of rfl rfl rfl rfl) (pmk_oex BT.ox BT.iC BT.tI GI hr2 BT.b .nil pass0 rfl BT.g (pa_cons pe_str pa_nil)))) pss_nil)
      (pss_cons (ps_fld (pv 0) (pv 1) rfl)
      (pss_cons (ps_fld (pv 0) (pv 2) rfl)
      (pss_one (ps_fld (pv 0) (pv 4) rfl))))))))), ?_⟩
    have rfl_s : Same H H := fun _ _ e => e
    rcases pre.kv.cl (K := K) with ⟨m, rfl⟩ | nv
    · refine ⟨_, rfl, .int m, .type "int", true, false, rfl, .base (.int _), kInt_int, kBool_int, _, rfl, ?_⟩
      refine iteF ⟨_, rfl, _, _, rfl, rfl, _, rfl, ite2 (fun c1 => ?_) (fun c1 => ?_)⟩
      · refine ⟨_, _, rfl, rfl, _, rfl, ite2 (fun c2 => ?_) (fun c2 => ?_)⟩
        · have no : ¬ m ≤ 40 := fun z => by
            rw [decide_eq_true z] at c2
            exact absurd c2 (by decide)
          exact bad_raise rfl_s fun d H' e s => kE _ d H' (.many fun m' e' => by
            cases e'
            exact fun z => no z.2) e s
        · have m1 : 1 ≤ m := of_decide_eq_true c1
          have m40 : m ≤ 40 := by
            by_cases z : m ≤ 40
            · exact z
            · rw [decide_eq_false z] at c2
              exact absurd rfl c2
          obtain ⟨t, bt, ty, kt, ht⟩ := pre.ku.tyT (K := K)
          refine ⟨_, rfl, u, .ty "tuple", t, .type "tuple", bt, rfl, .ty _, ty, kt, _, rfl, ?_⟩
          rcases ht with ⟨rfl, q, xs, rfl, hq⟩ | ⟨rfl, no⟩
          · obtain ⟨few, its⟩ := pre.its q xs rfl hq
            refine iteF ⟨_, rfl, _, rfl, m, q, xs, rfl, hq, its, fun r H1 s1 fr => ?_⟩
            cases r with
            | some k0 =>
              refine ⟨_, rfl, _, rfl, ite2 (fun _ => ⟨_, rfl, ?_⟩) (fun c => absurd (by simp [vO, nI]) c)⟩
              exact bad_raise s1 fun d H' e s => kE _ d H' (.tie m q xs k0 rfl m1 m40 rfl hq fr) e s
            | none =>
              refine ⟨_, rfl, _, rfl, ite2 (fun c => absurd c (by simp [vO])) (fun _ => ?_)⟩
              obtain ⟨L, tt⟩ := ties_of hq few fr
              refine ⟨_, rfl, _, rfl, m, q, L, rfl, m1, m40, tt.same s1, fun r bs nb H2 rt hnb srt s2 => ?_⟩
              refine ⟨_, rfl, r, bs, nb, m.toNat, GL L, 0, rfl, rt, by omega, by omega, nbG_of tt.ok hnb, gl_lt tt.ok, fun sp cs H3 hsp cells s3 => ?_⟩
              have s4 : Same H H3 := fun b o e => s3 _ _ (s2 _ _ (s1 _ _ e))
              refine ⟨sp, _, rfl, .inl (SqL.of hsp), rfl, cells.flat, _, rfl, ?_⟩
              rcases cells.gap with ⟨e, v0, hv, no⟩ | ⟨e, all⟩
              · have en : (if false = true then !inV V.non cs else inV V.non cs) = true := e
                rw [en]
                refine iteT ?_
                exact bad_raise s4 fun d H' e s => kE _ d H' (.apart m q L v0 rfl m1 m40 rfl tt hv no) e s
              · have en : (if false = true then !inV V.non cs else inV V.non cs) = false := e
                rw [en]
                refine iteF ?_
                have TT := tl_of tt.ok m1 m40 all
                refine ⟨_, rfl, _, rfl, p, C, dx, _, rfl, s4 _ _ hp, T.cl, T.nM, (by show 0 < 1000; decide), ?_⟩
                refine ⟨_, rfl, _, rfl, p, C, dx, _, rfl, upd_same, T.cl, T.nT, (by show 1 < 1000; decide), ?_⟩
                refine ⟨_, rfl, _, rfl, p, C, dx, _, rfl, upd_same, T.cl, T.nB, (by show 2 < 1000; decide), ?_⟩
                obtain ⟨z1, z2⟩ := web_end hp s4 (rt.same s3) hnb srt (tt.same s4) TT
                exact k m q L ⟨rfl, rfl, tt, TT⟩ r bs nb _ z1 z2
          · refine iteT ⟨_, rfl, ?_⟩
            exact bad_raise rfl_s fun d H' e s => kE _ d H' (.shape m rfl m1 m40 no) e s
      · have no : ¬ 1 ≤ m := fun z => c1 (decide_eq_true z)
        refine ⟨_, rfl, iteT ?_⟩
        exact bad_raise rfl_s fun d H' e s => kE _ d H' (.many fun m' e' => by
          cases e'
          exact fun z => no z.1) e s
    · obtain ⟨t, b, c, ty, kb, kc, e0⟩ := id nv
      refine ⟨_, rfl, v, t, b, c, rfl, ty, kb, kc, _, rfl, ?_⟩
      rw [e0]
      refine iteT ?_
      exact bad_raise rfl_s fun d H' e s => kE _ d H' (.many fun m' e' => by
        subst e'
        exact nv.int.elim) e s
end
end Q

namespace Q
open PySem L2 QM
abbrev sNear : Stmt := top 24
abbrev sWaves : Stmt := top 25
abbrev sInt : Stmt := top 19
abbrev sSame : Stmt := top 21
theorem op_is_ib {X : Cx} : OpR X (compareOp .Is) (fun x y H Q => ∃ (i : Int) (b : Bool), x = .int i ∧ y = .bl b ∧ Q (.bl false) H) := by
  intro pins s σ H x y v u Q I rx ry h
  obtain ⟨i, b, rfl, rfl, q⟩ := h
  obtain ⟨t, e⟩ := (show ∃ t, v = Value.int i t from rx)
  subst e
  cases (show u = Value.bool b from ry)
  exact wpAny_is_other rfl (fun z => nomatch z) ⟨.bl false, H, I, rfl, q⟩
/-- a pair as data -/
def pT (l : List Int) : PyData := .tuple (l.map .int)
theorem lay_ints : ∀ l : List Int, PyData.canLayAll0 (l.map PyData.int) = true
  | [] => by simp [PyData.canLayAll0]
  | a :: r => by
    have ih := lay_ints r
    simp only [List.map_cons, PyData.canLayAll0, PyData.canLay0, ih, Bool.and_self]
theorem lay_pT (l : List Int) : PyData.canLay0 (pT l) = true := by
  unfold pT
  simp only [PyData.canLay0, lay_ints]
theorem lay_all : ∀ L : List (Addr × List Int), PyData.canLayAll0 (L.map fun p => pT p.2) = true
  | [] => by simp [PyData.canLayAll0]
  | p :: r => by
    have ih := lay_all r
    simp only [List.map_cons, PyData.canLayAll0, lay_pT, ih, Bool.and_self]
theorem eqv_ints : ∀ x y : List Int, PyData.eqvAll (x.map PyData.int) (y.map PyData.int) = decide (x = y)
  | [], [] => by simp [PyData.eqvAll]
  | [], _ :: _ => by simp [PyData.eqvAll]
  | _ :: _, [] => by simp [PyData.eqvAll]
  | a :: x, b :: y => by
    have ih := eqv_ints x y
    simp only [List.map_cons, PyData.eqvAll, PyData.eqv, ih]
    by_cases c : a = b
    · subst c
      simp
    · simp [c]
theorem any_pT (l : List Int) : ∀ L : List (Addr × List Int), ((L.map fun p => pT p.2).any fun z => PyData.eqv z (pT l)) = decide (l ∈ L.map (·.2))
  | [] => by simp
  | p :: r => by
    have ih := any_pT l r
    rw [List.map_cons, List.any_cons, ih]
    unfold pT
    simp only [PyData.eqv, eqv_ints, List.map_cons, List.mem_cons]
    by_cases c : p.2 = l
    · simp [c]
    · have c' : ¬ l = p.2 := fun e => c e.symm
      simp [c, c']
theorem dp_ints {K : PySem.W.Frag} {H : Hp} : ∀ l : List Int, DpAll K H (l.map V.int) (l.map PyData.int)
  | [] => .nil
  | a :: r => .cons (.int a) (dp_ints r)
theorem dp_all {K : PySem.W.Frag} {H : Hp} : ∀ L : List (Addr × List Int), (∀ p ∈ L, H p.1 = some (.tup (p.2.map V.int))) → DpAll K H (L.map fun p => V.ref p.1) (L.map fun p => pT p.2)
  | [], _ => .nil
  | p :: r, h => .cons (.tup (SqT.of (h p List.mem_cons_self)) (dp_ints p.2)) (dp_all r fun q hq => h q (List.mem_cons_of_mem _ hq))
def rInP : R2 := fun x y H Q => ∃ (T q : Addr) (l : List Int) (L : List (Addr × List Int)), x = .ref T ∧ y = .ref q ∧ H T = some (.tup (l.map V.int)) ∧ H q = some (.tup (L.map fun p => V.ref p.1)) ∧ (∀ p ∈ L, H p.1 = some (.tup (p.2.map V.int))) ∧ Q (.bl (decide (l ∈ L.map (·.2)))) H
theorem depth_ints : ∀ l : List Int, PyData.depthAll (l.map PyData.int) = 0
  | [] => by simp [PyData.depthAll]
  | a :: r => by
    have ih := depth_ints r
    simp only [List.map_cons, PyData.depthAll, PyData.depth, ih, Nat.max_self]
theorem depth_pT (l : List Int) : (pT l).depth = 1 := by
  unfold pT
  simp only [PyData.depth, depth_ints]
theorem op_inP {X : Cx} (hu : X.A.units + 64 < cLine) : OpR X (compareOp .In) rInP := by
  intro pins s σ H x y v u Q I rx ry h
  obtain ⟨T, q, l, L, rfl, rfl, hT, hq, hp, k⟩ := h
  obtain ⟨as, r1⟩ := Dp.reads I (pT l) _ v (.tup (SqT.of hT) (dp_ints l)) rx
  obtain ⟨bs, r2⟩ := Dp.reads I (.tuple (L.map fun p => pT p.2)) _ u (.tup (SqT.of hq) (dp_all L hp)) ry
  refine SeqAt.in_tuple_reads r2 r1 (lay_all L) (lay_pT l) ?_ ?_
  · rw [depth_pT]
    have z := Nat.min_le_right (PyData.depthAll (L.map fun p => pT p.2)) 1
    omega
  · rw [any_pT]
    exact ⟨.bl _, H, I, rfl, k⟩
end Q

namespace Q
open PySem L2 QM
def spNear : Sp := fun vs H Q _ => ∃ (m : Int) (q : Addr) (L : List (Addr × List Int)), vs = [.int m, .ref q] ∧ 1 ≤ m ∧ m ≤ 40 ∧ TiesAt m H q L ∧ ∀ (r : Addr) (bs : List Addr) (nb : Nat → List Int) (H' : Hp), RowsL H' r bs nb m.toNat → NbOf L m.toNat nb → Sortd m.toNat nb → H r = none → (∀ a ∈ bs, H a = none) → Same H H' → Q (.ref r) H'
theorem edge_mem {m : Int} {L : List (Addr × List Int)} (T : ∀ p ∈ L, ∃ a b : Int, p.2 = [a, b] ∧ 0 ≤ a ∧ a < b ∧ b < m) (i j : Int) :
    Edge L i j ↔ [if j < i then j else i, if j > i then j else i] ∈ L.map (·.2) := by
  rw [List.mem_map]
  constructor
  · rintro ⟨p, hp, e⟩
    obtain ⟨a, b, e2, h0, h1, h2⟩ := T p hp
    refine ⟨p, hp, ?_⟩
    rw [e2] at e ⊢
    simp only [List.cons.injEq, and_true] at e ⊢
    rcases e with ⟨rfl, rfl⟩ | ⟨rfl, rfl⟩
    · rw [if_neg (by omega), if_pos (by omega)]
      exact ⟨rfl, rfl⟩
    · rw [if_pos (by omega), if_neg (by omega)]
      exact ⟨rfl, rfl⟩
  · rintro ⟨p, hp, e⟩
    refine ⟨p, hp, ?_⟩
    rw [e]
    simp only [List.cons.injEq, and_true]
    by_cases c : j < i
    · rw [if_pos c, if_neg (by omega)]
      exact .inr ⟨rfl, rfl⟩
    · rw [if_neg c]
      by_cases c2 : j > i
      · rw [if_pos c2]
        exact .inl ⟨rfl, rfl⟩
      · rw [if_neg c2]
        exact .inl ⟨rfl, by omega⟩
section
variable {P : Program} {w : World} {K : PySem.W.Frag} {mg : Str → Option Value} {base : Heap}
theorem scInt : FnScope ["thing"] ["thing"] (defScope sInt) := ⟨rfl, rfl, rfl, by decide +kernel, rfl, by decide +kernel, by decide +kernel⟩
theorem ok_int {f : Addr} {fd : FuncData} (F : Fun K "_law_is_integer" "_law_is_integer" sInt f fd) (B : Bts mg) : FnOk P w K mg base CX0 1 f fd ["thing"] (spPlain K) := by
  refine F.ok scInt (fun vs H Q E h => ?_) (fun cdv A outer s H vs Q E hr h => ?_)
  · obtain ⟨v, t, b, c, rfl, _⟩ := h
    rfl
  · obtain ⟨v, t, b, c, rfl, ty, kb, kc, k⟩ := h
    refine ⟨_, pss_one (ps_ret (pe_and (pe_callB call_isi (by rfl) B.isinstance PyProof.Rows.boot_isinstance (pa_cons (pv 0) (pa_cons (pe_bltn (v := .ty "int") rfl B.int PyProof.Rows.boot_int rfl) pa_nil)))
      (pe_one (pe_not (pe_callB call_isi (by rfl) B.isinstance PyProof.Rows.boot_isinstance (pa_cons (pv 0) (pa_cons (pe_bltn (v := .ty "bool") rfl B.bool (by decide +kernel) rfl) pa_nil))))))), ?_⟩
    refine ⟨_, rfl, v, .ty "int", t, .type "int", b, rfl, .ty _, ty, kb, _, rfl, ?_⟩
    cases b with
    | false => exact iteF k
    | true => exact iteT ⟨_, rfl, v, .ty "bool", t, .type "bool", c, rfl, .ty _, ty, kc, _, rfl, k⟩
theorem scNear : FnScope ["many", "ties", "house", "found", "other"] ["many", "ties"] (defScope sNear) := ⟨rfl, rfl, rfl, by decide +kernel, rfl, by decide +kernel, by decide +kernel⟩
theorem ok_near {f : Addr} {fd : FuncData} (F : Fun K "_law_near" "_law_near" sNear f fd) (B : Bts mg) : FnOk P w K mg base CX0 1 f fd ["many", "ties"] spNear := by
  refine F.ok scNear (fun vs H Q E h => ?_) (fun cdv A outer s H vs Q E hr h => ?_)
  · obtain ⟨m, q, L, rfl, _⟩ := h
    rfl
  · obtain ⟨m, q, L, rfl, m1, m40, tt, k⟩ := h
    have nd := scNear.nd
    have hu := hr.units
    refine ⟨_, pss_cons (ps_setLc (i := 3) (own := [("house", 2)]) (g := gName 2) (tt := tYes) rfl nd rfl rfl (sw_true rfl rfl rfl (by decide +kernel)) (pi_range1 rfl B.range (pa_cons (pv 0) pa_nil))
        (blkOk_by (N := ["many", "ties", "house", "found", "other"]) (sc := defScope sNear) (by decide +kernel)) (fun _ _ _ _ _ => pg_name (i := 2) nd rfl (.inl rfl)) (fun _ _ _ _ _ => pts_nil) (fun _ _ _ _ _ => pe_lst pa_nil))
      (pss_cons (ps_for PassesOwn.never rfl (pi_range1 rfl B.range (pa_cons (pv 0) pa_nil)) (pg_name (i := 2) nd rfl (.inl rfl))
        (pss_one (ps_for PassesOwn.never rfl (pi_range1 rfl B.range (pa_cons (pv 0) pa_nil)) (pg_name (i := 4) nd rfl (.inl rfl))
          (pss_one (ps_if (pt_cmpR (op_inP hu) (pe_tup (pa_cons (pe_callB (call_min2 rfl) (by rfl) B.min PyProof.Rows.boot_min (pa_cons (pv 2) (pa_cons (pv 4) pa_nil))) (pa_cons (pe_callB (call_max2 rfl) (by rfl) B.max PyProof.Rows.boot_max (pa_cons (pv 2) (pa_cons (pv 4) pa_nil))) pa_nil))) (pv 1) rfl)
            (pss_one (ps_expr (pe_bm PySem.F.plainAttrs_list PySem.F.slot_list_append PySem.F.type_list_append mt_append (pe_ix ix_list (pv 3) (pv 2) (fun _ _ => rfl)) (pa_cons (pv 4) pa_nil)))) pss_nil)))))
      (pss_one (ps_ret (pv 3)))), ?_⟩
    refine ⟨_, rfl, m, rfl, by omega, by omega, fun D hD => lc_range (lo := 0) (n := m.toNat) (fun i H' => ∃ bs : List Addr, H' D = some (.lst (bs.map V.ref)) ∧ bs.length = i ∧ bs.Nodup ∧ D ∉ bs ∧ (∀ a ∈ bs, H' a = some (.lst []) ∧ H a = none) ∧ Same H H') ?_ ?_ ?_⟩
    · exact ⟨[], upd_same, rfl, List.nodup_nil, List.not_mem_nil, fun a ha => absurd ha List.not_mem_nil, sNew (fun _ _ e => e) hD⟩
    · rintro i H1 hi ⟨bs, e1, hl, hn, hd, hb, s1⟩
      refine ⟨rfl, Nat.zero_le _, fun a ha => ?_⟩
      have nDa : D ≠ a := ne_of_none e1 ha
      have ea : upd H1 a (.lst []) D = some (.lst (bs.map V.ref)) := by rw [upd_ne nDa]; exact e1
      have na : a ∉ bs := fun hm => by
        rw [(hb a hm).1] at ha
        cases ha
      refine ⟨_, ea, ?_, bs ++ [a], ?_, ?_, nd_snoc hn na, ?_, ?_, sNew (sNew' s1 ha) hD⟩
      · rw [List.length_map, hl]
        exact size_ok (by omega)
      · rw [upd_same, List.map_append]
        rfl
      · rw [List.length_append, hl]
        rfl
      · intro hm
        rcases List.mem_append.mp hm with hm | hm
        · exact hd hm
        · exact nDa (List.mem_singleton.mp hm)
      · intro b hm
        rcases List.mem_append.mp hm with hm | hm
        · refine ⟨?_, (hb b hm).2⟩
          rw [upd_ne (fun e => hd (by rw [← e]; exact hm)), upd_ne (fun e => na (by rw [← e]; exact hm))]
          exact (hb b hm).1
        · obtain rfl := List.mem_singleton.mp hm
          refine ⟨?_, sNo s1 ha⟩
          rw [upd_ne nDa.symm, upd_same]
    · rintro H1 ⟨bs, e1, hl, hn, hd, hb, s1⟩
      have r1 : RowsL H1 D bs (fun _ => []) m.toNat := ⟨e1, hl, hn, hd, fun i a hi => (hb a (List.mem_of_getElem? hi)).1⟩
      have hfr : ∀ a ∈ bs, H a = none := fun a ha => (hb a ha).2
      clear e1 hl hn hd hb
      refine ⟨_, rfl, m, rfl, by omega, by omega, for_range (lo := 0) (n := m.toNat) (fun h σ H' => ∃ (x2 x4 : Option V) (nb : Nat → List Int), σ = [some (.int m), some (.ref q), x2, some (.ref D), x4] ∧ RowsL H' D bs nb m.toNat ∧
        (∀ i : Nat, i < h → ∀ j : Int, j ∈ nb i ↔ Edge L (i : Int) j) ∧ (∀ i, h ≤ i → nb i = []) ∧ Sortd h nb ∧ Same H H') ?_ ?_ ?_⟩
      · exact ⟨none, none, _, rfl, r1, fun i hi => absurd hi (Nat.not_lt_zero _), fun i _ => rfl, fun i hi => absurd hi (Nat.not_lt_zero _), s1⟩
      · rintro h σ H2 hh ⟨x2, x4, nb, rfl, r2, he, hem, hsr, s2⟩
        refine ⟨_, rfl, m, rfl, by omega, by omega, for_range (lo := 0) (n := m.toNat) (fun o σ H' => ∃ (x4 : Option V) (nb : Nat → List Int), σ = [some (.int m), some (.ref q), some (.int (h : Int)), some (.ref D), x4] ∧ RowsL H' D bs nb m.toNat ∧
          (∀ i : Nat, i < h → ∀ j : Int, j ∈ nb i ↔ Edge L (i : Int) j) ∧ (∀ i, h + 1 ≤ i → nb i = []) ∧ (∀ j : Int, j ∈ nb h ↔ Edge L (h : Int) j ∧ j < o) ∧ (nb h).length ≤ o ∧ Sortd (h + 1) nb ∧ Same H H') ?_ ?_ ?_⟩
        · refine ⟨x4, nb, by rw [Int.zero_add]; rfl, r2, he, fun i hi => hem i (by omega), fun j => ?_, by rw [hem h (Nat.le_refl _)]; exact Nat.zero_le _, fun i hi => ?_, s2⟩
          rotate_left
          · by_cases c : i < h
            · exact hsr i c
            · rw [hem i (by omega)]
              exact .nil
          rw [hem h (Nat.le_refl _)]
          refine ⟨fun z => absurd z List.not_mem_nil, fun ⟨⟨p, hp, z⟩, z2⟩ => ?_⟩
          obtain ⟨a, b, e2, h0, h1, h2⟩ := tt.ok p hp
          rw [e2] at z
          simp only [List.cons.injEq, and_true] at z
          omega
        · rintro o σ H3 ho ⟨x4, nb, rfl, r3, he, hem, hrow, hlen, hsr2, s3⟩
          rw [Int.zero_add]
          refine ⟨_, rfl, _, rfl, _, _, rfl, _, rfl, _, rfl, _, _, rfl, (by show 2 ≤ sizeLine; decide), fun T hT => ?_⟩
          have s4 : Same H3 (upd H3 T (.tup [.int (if (o : Int) < (h : Int) then (o : Int) else (h : Int)), .int (if (o : Int) > (h : Int) then (o : Int) else (h : Int))])) := sNew (fun _ _ e => e) hT
          have s5 : Same H (upd H3 T (.tup [.int (if (o : Int) < (h : Int) then (o : Int) else (h : Int)), .int (if (o : Int) > (h : Int) then (o : Int) else (h : Int))])) := fun b u e => s4 _ _ (s3 _ _ e)
          refine ⟨_, rfl, T, q, [if (o : Int) < (h : Int) then (o : Int) else (h : Int), if (o : Int) > (h : Int) then (o : Int) else (h : Int)], L, rfl, rfl, upd_same, s5 _ _ tt.at_, fun p hp => s5 _ _ (tt.tup p hp), _, rfl, ?_⟩
          have r4 : RowsL (upd H3 T (.tup [.int (if (o : Int) < (h : Int) then (o : Int) else (h : Int)), .int (if (o : Int) > (h : Int) then (o : Int) else (h : Int))])) D bs nb m.toNat := ⟨s4 _ _ r3.at_, r3.len, r3.nd, r3.nD, fun i a hi => s4 _ _ (r3.row i a hi)⟩
          have em := edge_mem tt.ok (h : Int) (o : Int)
          refine ite2 (fun c => ?_) (fun c => ?_)
          · have ed : Edge L (h : Int) (o : Int) := em.mpr (of_decide_eq_true c)
            have hl : h < bs.length := by rw [r3.len]; exact hh
            have gh : bs[h]? = some bs[h] := List.getElem?_eq_getElem hl
            have rh := r4.row _ _ gh
            refine ⟨_, rfl, _, rfl, D, _, (h : Int), _, rfl, rfl, SqL.of r4.at_, atI_nat (map_get gh), .inl ⟨rfl, _, SqL.of rh⟩, _, rfl, bs[h], _, _, rfl, rfl, rh, ?_, ?_⟩
            · rw [List.length_map]
              exact size_ok (by omega)
            · refine ⟨_, _, rfl, r4.add (j := (o : Int)) gh, fun i hi j => ?_, fun i hi => ?_, fun j => ?_, ?_, fun i hi => ?_, ?_⟩
              · show j ∈ (if i = h then nb h ++ [(o : Int)] else nb i) ↔ _
                rw [if_neg (by omega)]
                exact he i hi j
              · show (if i = h then nb h ++ [(o : Int)] else nb i) = []
                rw [if_neg (by omega)]
                exact hem i hi
              · show j ∈ (if h = h then nb h ++ [(o : Int)] else nb h) ↔ _
                rw [if_pos rfl, List.mem_append, List.mem_singleton, hrow]
                constructor
                · rintro (⟨z1, z2⟩ | rfl)
                  · exact ⟨z1, by omega⟩
                  · exact ⟨ed, by omega⟩
                · rintro ⟨z1, z2⟩
                  by_cases c2 : j < o
                  · exact .inl ⟨z1, c2⟩
                  · exact .inr (by omega)
              · show (if h = h then nb h ++ [(o : Int)] else nb h).length ≤ o + 1
                rw [if_pos rfl, List.length_append, List.length_singleton]
                omega
              · show (if i = h then nb h ++ [(o : Int)] else nb i).Pairwise (· < ·)
                split
                · rw [List.pairwise_append]
                  refine ⟨hsr2 h (by omega), List.pairwise_singleton _ _, fun x hx y hy => ?_⟩
                  rw [List.mem_singleton.mp hy]
                  exact ((hrow x).mp hx).2
                · exact hsr2 i hi
              · exact sNew s5 (hfr _ (List.getElem_mem hl))
          · refine ⟨_, nb, rfl, r4, he, hem, fun j => ?_, by omega, hsr2, s5⟩
            rw [hrow]
            constructor
            · rintro ⟨z1, z2⟩
              exact ⟨z1, by omega⟩
            · rintro ⟨z1, z2⟩
              refine ⟨z1, ?_⟩
              by_cases c2 : j < o
              · exact c2
              · have e : j = o := by omega
                rw [e] at z1
                exact absurd (decide_eq_true (em.mp z1)) c
        · rintro σ H3 ⟨x4, nb, rfl, r3, he, hem, hrow, hlen, hsr2, s3⟩
          refine ⟨_, x4, nb, rfl, r3, fun i hi j => ?_, hem, hsr2, s3⟩
          by_cases c : i < h
          · exact he i c j
          · obtain rfl : i = h := by omega
            rw [hrow]
            refine ⟨And.left, fun z => ⟨z, ?_⟩⟩
            obtain ⟨p, hp, z⟩ := z
            obtain ⟨a, b, e2, h0, h1, h2⟩ := tt.ok p hp
            rw [e2] at z
            simp only [List.cons.injEq, and_true] at z
            omega
      · rintro σ H2 ⟨x2, x4, nb, rfl, r2, he, hem, hsr, s2⟩
        exact ⟨_, rfl, k D bs nb _ r2 he hsr hD hfr s2⟩
end
end Q

namespace Q
open PySem L2 QM
def spWaves : Sp := fun vs H Q _ => ∃ (r : Addr) (bs : List Addr) (nb : Nat → List Int) (n : Nat) (G : Nat → Nat → Prop) (st : Nat), vs = [.ref r, .int (st : Int)] ∧ RowsL H r bs nb n ∧ n ≤ 40 ∧ st < n ∧ NbG G n nb ∧ (∀ a b, G a b → b < n) ∧
  ∀ (p : Addr) (cs : List V) (H' : Hp), H' p = some (.lst cs) → Cells G st n cs → Same H H' → H p = none → Q (.ref p) H'
theorem RowsL.same {H H' : Hp} {D : Addr} {bs : List Addr} {nb : Nat → List Int} {n : Nat} (h : RowsL H D bs nb n) (s : Same H H') : RowsL H' D bs nb n := ⟨s _ _ h.at_, h.len, h.nd, h.nD, fun i a e => s _ _ (h.row i a e)⟩
theorem Mid.is {G : Nat → Nat → Prop} {s n t u N0 : Nat} {Dn : Nat → Prop} {cs : List V} {cm : List Nat} (h : Mid G s n t Dn N0 cs cm) (hu : u < n) (e : cs[u]? = some (nI t)) : Dist G s u t := by
  rcases h.cell u hu with ⟨d, hd, a, b⟩ | ⟨a, _, _⟩ | ⟨a, _, _⟩
  · rw [e] at a
    have z : (t : Int) = (d : Int) := V.int.inj (Option.some.inj a)
    have z2 : t = d := by omega
    rw [z2]
    exact b
  · rw [e] at a
    have z : (t : Int) = ((t + 1 : Nat) : Int) := V.int.inj (Option.some.inj a)
    omega
  · rw [e] at a
    cases a
theorem Lev.full {G : Nat → Nat → Prop} {s n : Nat} {cs : List V} (h : Lev G s n n cs) (hs : s < n) (hG : ∀ a b, G a b → b < n) : Cells G s n cs :=
  ⟨h.len, fun v hv => by
    rcases h.cell v hv with ⟨d, _, a, b⟩ | ⟨a, b⟩
    · exact .inl ⟨d, a, b⟩
    · exact .inr ⟨a, fun d q => b d (Nat.le_of_lt (q.lt hs hG)) q⟩⟩
theorem scal_cell {c : V} {i : Int} (h : c = .non ∨ ∃ d : Nat, c = nI d) : scal c (.int i) = true := by
  rcases h with rfl | ⟨d, rfl⟩ <;> rfl
section
variable {P : Program} {w : World} {K : PySem.W.Frag} {mg : Str → Option Value} {base : Heap}
theorem scWaves : FnScope ["near", "house", "found", "steps", "here", "other"] ["near", "house"] (defScope sWaves) := ⟨rfl, rfl, rfl, by decide +kernel, rfl, by decide +kernel, by decide +kernel⟩
theorem ok_waves {f : Addr} {fd : FuncData} (F : Fun K "_law_waves" "_law_waves" sWaves f fd) (B : Bts mg) : FnOk P w K mg base CX0 1 f fd ["near", "house"] spWaves := by
  refine F.ok scWaves (fun vs H Q E h => ?_) (fun cdv A outer s H vs Q E hr h => ?_)
  · obtain ⟨r, bs, nb, n, G, st, rfl, _⟩ := h
    rfl
  · obtain ⟨r, bs, nb, n, G, st, rfl, rt, n40, hst, hnb, hG, k⟩ := h
    have nd := scWaves.nd
    refine ⟨_, pss_cons (ps_set (i := 2) nd rfl (.inl rfl) (pe_op op_rep (pe_lst (pa_cons pe_non pa_nil)) (pe_callB call_len_seq (by rfl) B.len PySem.boot_len (pa_cons (pv 0) pa_nil))))
      (pss_cons (ps_asg pe_int (pg_sub (pv 2) (pv 1) set_list))
      (pss_cons (ps_for PassesOwn.never rfl (pi_range1 rfl B.range (pa_cons (pe_callB call_len_seq (by rfl) B.len PySem.boot_len (pa_cons (pv 0) pa_nil)) pa_nil)) (pg_name (i := 3) nd rfl (.inl rfl))
        (pss_one (ps_for PassesOwn.never rfl (pi_range1 rfl B.range (pa_cons (pe_callB call_len_seq (by rfl) B.len PySem.boot_len (pa_cons (pv 0) pa_nil)) pa_nil)) (pg_name (i := 4) nd rfl (.inl rfl))
          (pss_one (ps_if (pt_cmpR op_eq (pe_ix ix_list (pv 2) (pv 4) (fun _ _ => rfl)) (pv 3) (nomark _))
            (pss_one (ps_for PassesOwn.never rfl (pi_list (pe_ix ix_list (pv 0) (pv 4) (fun _ _ => rfl))) (pg_name (i := 5) nd rfl (.inl rfl))
              (pss_one (ps_if (pt_cmp (pc_isN (pe_ix ix_list (pv 2) (pv 5) (fun _ _ => rfl))))
                (pss_one (ps_asg (pe_op op_add (pv 3) pe_int) (pg_sub (pv 2) (pv 5) set_list))) pss_nil)))) pss_nil)))))
      (pss_one (ps_ret (pv 2))))), ?_⟩
    have el : ((bs.map V.ref).length : Int) = (n : Int) := by rw [List.length_map, rt.len]
    refine ⟨(by show 1 ≤ sizeLine; decide), fun l hl => ?_⟩
    have sl : Same H (upd H l (.lst [.non])) := sNew (fun _ _ e => e) hl
    refine ⟨_, rfl, r, _, rfl, .inl (SqL.of (sl _ _ rt.at_)), l, _, _, rfl, rfl, upd_same, ?_, ?_, ?_, fun fo hfo => ?_⟩
    · omega
    · rw [el]; omega
    · rw [el]; exact size_le (by show 1 * (n : Int).toNat ≤ 64; omega)
    have hfo0 : H fo = none := sNo sl hfo
    have ef : (List.replicate (((bs.map V.ref).length : Nat) : Int).toNat [V.non]).flatten = List.replicate n V.non := by
      rw [el, Int.toNat_natCast, List.flatten_replicate_singleton]
    rw [ef]
    refine ⟨_, rfl, _, rfl, fo, _, (st : Int), st, rfl, rfl, upd_same, ixN_nat (by rw [List.length_replicate]; exact hst), ?_⟩
    have s1 : Same H (upd (upd (upd H l (.lst [.non])) fo (.lst (List.replicate n V.non))) fo (.lst ((List.replicate n V.non).set st (.int 0)))) := sNew (sNew sl hfo0) hfo0
    refine ⟨_, rfl, r, _, rfl, .inl (SqL.of (s1 _ _ rt.at_)), _, rfl, by omega, by omega, ?_⟩
    have en : ((bs.map V.ref).length : Int).toNat = n := by rw [el, Int.toNat_natCast]
    rw [en]
    refine for_range (lo := 0) (n := n) (fun t σ H' => ∃ (cs : List V) (x3 x4 x5 : Option V), σ = [some (.ref r), some (.int (st : Int)), some (.ref fo), x3, x4, x5] ∧ H' fo = some (.lst cs) ∧ Lev G st n t cs ∧ Same H H') ?_ ?_ ?_
    · exact ⟨_, none, none, none, rfl, by rw [upd_same]; rfl, lev_zero hst, s1⟩
    · rintro t σ H1 ht ⟨cs, x3, x4, x5, rfl, e1, lv, s2⟩
      rw [Int.zero_add]
      refine ⟨_, rfl, r, _, rfl, .inl (SqL.of (s2 _ _ rt.at_)), _, rfl, by omega, by omega, ?_⟩
      rw [en]
      refine for_range (lo := 0) (n := n) (fun h σ H' => ∃ (cs' : List V) (cm : List Nat) (x4 x5 : Option V), σ = [some (.ref r), some (.int (st : Int)), some (.ref fo), some (nI t), x4, x5] ∧ H' fo = some (.lst cs') ∧
        Mid G st n t (fun v => ∃ u, u < h ∧ Dist G st u t ∧ G u v) (nn cs) cs' cm ∧ Same H H') ?_ ?_ ?_
      · exact ⟨cs, [], _, _, rfl, e1, (Mid.start lv).mono (fun v hv ⟨u, hu, _⟩ => absurd hu (Nat.not_lt_zero _)), s2⟩
      · rintro h σ H2 hh ⟨cs', cm, y4, y5, rfl, f1, md, s3⟩
        rw [Int.zero_add]
        have hl : h < cs'.length := by rw [md.len]; exact hh
        have gh : cs'[h]? = some cs'[h] := List.getElem?_eq_getElem hl
        have kind : cs'[h] = .non ∨ ∃ d : Nat, cs'[h] = nI d := by
          rcases md.cell h hh with ⟨d, _, a, _⟩ | ⟨a, _, _⟩ | ⟨a, _, _⟩
          · rw [gh] at a; exact .inr ⟨d, Option.some.inj a⟩
          · rw [gh] at a; exact .inr ⟨_, Option.some.inj a⟩
          · rw [gh] at a; exact .inl (Option.some.inj a)
        refine ⟨_, rfl, _, rfl, fo, cs', (h : Int), _, rfl, rfl, SqL.of f1, atI_nat gh, _, rfl, scal_cell kind, _, rfl, ite2 (fun c => ?_) (fun c => ?_)⟩
        · have ec : cs'[h] = nI t := of_decide_eq_true c
          rw [ec] at gh
          have du : Dist G st h t := md.is hh gh
          have ul : h < bs.length := by rw [rt.len]; exact hh
          have gu : bs[h]? = some bs[h] := List.getElem?_eq_getElem ul
          refine ⟨_, rfl, _, rfl, r, _, (h : Int), _, rfl, rfl, SqL.of (s3 _ _ rt.at_), atI_nat (map_get gu), bs[h], rfl, ⟨_, SqL.of (s3 _ _ (rt.row h _ gu))⟩, for_list (K := K) (a := bs[h]) (xs := (nb h).map V.int) (fun j σ H' => ∃ (cs' : List V) (cm : List Nat) (x5 : Option V),
            σ = [some (.ref r), some (.int (st : Int)), some (.ref fo), some (nI t), some (nI h), x5] ∧ H' fo = some (.lst cs') ∧ Mid G st n t (fun v => (∃ u, u < h ∧ Dist G st u t ∧ G u v) ∨ (v : Int) ∈ (nb h).take j) (nn cs) cs' cm ∧ Same H H') ?_ ?_ ?_ ?_⟩
          · exact ⟨cs', cm, _, rfl, f1, md.mono (fun v hv z => z.elim id fun z => absurd z (by simp)), s3⟩
          · rintro j σ H3 hj ⟨cs3, cm3, z5, rfl, g1, md3, s4⟩
            exact SqL.of (s4 _ _ (rt.row h _ gu))
          · rintro j y σ H3 hy ⟨cs3, cm3, z5, rfl, g1, md3, s4⟩
            obtain ⟨w, hw, rfl⟩ := map_inv hy
            obtain ⟨v, rfl, guv⟩ := (hnb h hh w).mp (List.mem_of_getElem? hw)
            have vn : v < n := hG _ _ guv
            have vl : v < cs3.length := by rw [md3.len]; exact vn
            have hcv : cs3[v]? = some cs3[v] := List.getElem?_eq_getElem vl
            have dn : ∀ x, ((∃ u, u < h ∧ Dist G st u t ∧ G u x) ∨ (x : Int) ∈ (nb h).take (j + 1)) → ((∃ u, u < h ∧ Dist G st u t ∧ G u x) ∨ (x : Int) ∈ (nb h).take j) ∨ x = v := by
              rintro x (z | z)
              · exact .inl (.inl z)
              · rcases (take_succ_mem hw).mp z with z | z
                · exact .inl (.inr z)
                · exact .inr (by omega)
            refine ⟨_, rfl, _, rfl, fo, cs3, (v : Int), _, rfl, rfl, SqL.of g1, atI_nat hcv, _, rfl, ite2 (fun c => ?_) (fun c => ?_)⟩
            · have ev : cs3[v] = .non := of_decide_eq_true c
              rw [ev] at hcv
              refine ⟨_, rfl, _, _, rfl, rfl, _, rfl, _, rfl, fo, cs3, (v : Int), v, rfl, rfl, g1, ixN_nat vl, ?_⟩
              refine ⟨cs3.set v (nI (t + 1)), cm3 ++ [v], _, rfl, ?_, (md3.more vn hcv du guv).mono (fun x _ z => dn x z), sNew s4 hfo0⟩
              rw [upd_same]
              rfl
            · exact ⟨cs3, cm3, _, rfl, g1, (md3.skip hcv (fun e => c (decide_eq_true e))).mono (fun x _ z => dn x z), s4⟩
          · rintro σ H3 ⟨cs3, cm3, z5, rfl, g1, md3, s4⟩
            refine ⟨cs3, cm3, _, _, rfl, g1, md3.mono ?_, s4⟩
            rintro v hv ⟨u', hu', du', g⟩
            by_cases c : u' < h
            · exact .inl ⟨u', c, du', g⟩
            · obtain rfl : u' = h := by omega
              refine .inr ?_
              rw [List.length_map, List.take_length]
              exact (hnb u' hh _).mpr ⟨v, rfl, g⟩
        · refine ⟨cs', cm, _, _, rfl, f1, md.mono ?_, s3⟩
          rintro v hv ⟨u', hu', du', g⟩
          by_cases c2 : u' < h
          · exact ⟨u', c2, du', g⟩
          · obtain rfl : u' = h := by omega
            have z := md.house hh du'
            rw [gh] at z
            exact absurd (decide_eq_true (Option.some.inj z)) c
      · rintro σ H2 ⟨cs', cm, y4, y5, rfl, f1, md, s3⟩
        have un : ∀ u, Dist G st u t → u < n := fun u d => by
          cases t with
          | zero => rw [d.of_zero]; exact hst
          | succ t =>
            obtain ⟨_, _, g⟩ := d.pred
            exact hG _ _ g
        obtain ⟨lv2, _⟩ := md.fin hG fun u v d g => ⟨u, un u d, d, g⟩
        exact ⟨cs', _, _, _, rfl, f1, lv2, s3⟩
    · rintro σ H1 ⟨cs, x3, x4, x5, rfl, e1, lv, s2⟩
      exact ⟨_, rfl, k fo cs _ e1 (lv.full hst hG) s2 hfo0⟩
end
end Q

/-! an own error over ValueError whose __init__ says super().__init__() alone -/
namespace QS
open PySem PySem.W PySem.Calls PyProof.Rows PySem.HandSPX L2
/-- the body super().__init__() -/
def supB (q1 q2 q3 q4 q5 : Pos) : List Stmt := [.Expr (.Call (.Attribute (.Call (.Name "super" q1) [] [] q2) "__init__" q3) [] [] q4) q5]
def supSc : Scope := { kind := .function, names := [("self", .local), ("__class__", .free), ("super", .globalImplicit)], isGenerator := false, isCoroutine := false, more := [] }
def supAr (p : Pos) : Arguments := { posonlyargs := [], args := [{ arg := "self", annotation := none, pos := p }], vararg := none, kwonlyargs := [], kw_defaults := [], kwarg := none, defaults := [] }
theorem supSc_cell : ∀ x ∈ supSc.names, x.2 ≠ .cell := by decide
theorem supSc_loc (v : Value) : ∀ y ∈ [(("self" : Str), v)], supSc.names.lookup y.1 = some .local := fun y hy => by
  rw [List.mem_singleton.mp hy]
  show supSc.names.lookup ("self" : Str) = some .local
  decide
theorem he_sup {o : Expr} {env : Env} {q3 q4 : Pos} (hl : (q3.endLine == q4.line) = true) : eval (.Call (.Attribute o "__init__" q3) [] [] q4) env = (do
    let ov ← attributeBase o "__init__" env (eval o env)
    standAt q3.atName
    let (f, first) ← holding [ov] (getMethod ov "__init__" (do return (← importBound o env).getD true))
    callWith q4 f first (backTo q4 (starEach [] env)) []) := by
  rw [arm_eval_Call]
  have hp : methodCallPos true o env q3 q4 = pure q4 := by unfold methodCallPos; simp [hl]
  have hf : methodCallForm (([] : List Expr).length + ([] : List Keyword).length) (backTo q4 (starEach [] env)) (backToKw q4 (keywordEach [] env)) = true := rfl
  unfold methodCall
  rw [hf, hp]
  unfold calleeOf
  simp only [if_true, pure_bind]
  rfl
/-- what the written part says of such a class -/
structure SupC (prog : Program) (K : Frag) (mg : Str → Option Value) (C fI : Addr) (qual : Str) : Prop where
  cls : ∃ nm q N bs bm sn sub ab col dd k0 k1 k2 k3 k5, K.lookup C = some (excClassObj nm q C N bs bm true sn sub ab col dd k0 k1 k2 k3 k5 "ValueError.__new__") ∧ refsVE bm = true
  iC : findIn K (.ref C) "__init__" = some (some (.ref fI))
  tI : typeIn K (.ref fI) = some (.type "function")
  kC : keepIn K (.ref C) = true
  exC : subIn K (.ref C) (.type "BaseException") = some true
  veC : subIn K (.ref C) (.type "ValueError") = some true
  tyC : typeIn K (.ref C) = some (.type "type")
  me : mroIn K C (.ref C) = some true
  noS : mg "super" = none
  op : nsIn K cStatics "thirdparty.any" = some none
  al : ks_superIn K C C "__init__" = some (some (.builtin "ValueError.__init__"))
  top : (prog.main.scope.names.lookup ("super" : Str)).isSome = false
  fn : ∃ (oc : Value) (od : Option Addr) (doc pm : Value) (an : Option Addr) (cda cc : Addr) (ct : Value) (osl : Array (Option Value)) (p q1 q2 q3 q4 q5 : Pos) (ccl cl : Value) (cdd cld : Option Addr) (ccs csl : Array (Option Value)) (vs : Array Value) (file : Str) (tf : Tok),
    K.lookup fI = some ⟨oc, od, .func (ksFn "__init__" qual (supAr p) (supB q1 q2 q3 q4 q5) supSc .none .none doc pm an (.ref cda) ct cc), osl⟩ ∧ codeIn K (.ref cda) qual = true ∧ K.lookup cda = some ⟨ccl, cdd, .fields vs, ccs⟩ ∧ vs[2]? = some (.str file tf) ∧
      ((prog.main.file : Str) == file) = true ∧ K.lookup cc = some ⟨cl, cld, .cell (some (.ref C)), csl⟩ ∧ (q3.endLine == q4.line) = true
section
variable {prog : Program} {w : World} {A : Around} {E : Value → Shared → Prop} {R : Result → Shared → Prop} {s : Shared} {K : Frag} {mg : Str → Option Value} {C fI : Addr} {qual : Str} {base : Heap}
theorem sup_init (T : SupC prog K mg C fI qual) (M : Mod K mg base) (hk : ∀ b o, base.get? b = some o → s.heap.get? b = some o) {x t0 : Addr} (hx : s.heap.get? x = some (excO C t0)) (hroom : A.depth < recursionLimit)
    (hq : ∀ h' tk t1, (∀ b o, b ≠ x → s.heap.get? b = some o → h'.get? b = some o) → h'.get? x = some (excO C t1) → R (.ok (.ret .none)) { s with heap := h', toks := tk }) :
    codeAny (model prog w) A (.call (.ref fI) ⟨[.ref x], []⟩) R s := by
  have X : K.In s.heap := M.kin.keeps hk
  obtain ⟨oc, od, doc, pm, an, cda, cc, ct, osl, p, q1, q2, q3, q4, q5, ccl, cl, cdd, cld, ccs, csl, vs, file, tf, lk, hcd, hcode, hvs, hfile, hcell, hline⟩ := T.fn
  obtain ⟨nm, q, N, bs, bm, sn, sub, ab, col, dd, k0, k1, k2, k3, k5, hC, hbm⟩ := T.cls
  refine ks_codeAny_call_defAt (binds := [("self", .ref x)]) hroom (X _ _ lk) rfl (M.nolimit.keeps hk) (codeRec_of X hcd) rfl (BindsTo.of_eq (by first | rfl | with_unfolding_all rfl)) supSc_cell (supSc_loc _) (fun h1 hns kp => ?_) rfl rfl rfl
  have X1 : K.In h1 := X.keeps kp
  have b1 : ∀ b o, base.get? b = some o → h1.get? b = some o := fun b o e => kp b o (hk b o e)
  have hx1 := kp _ _ hx
  obtain ⟨mb, hmb, hbv⟩ := M.blt
  obtain ⟨hp, g, d, t, os⟩ := s
  show _root_.PySem.wpAt _ _ _ (execs (supB q1 q2 q3 q4 q5) (ksEnv qual supSc hp.objs.size fI (.ref cda) cc)) _ _ _
  refine ks_wpAt_execs_cons (ks_wpAt_Expr_any (ks_wpAt_MethodCall ?_ (he_sup hline)))
  refine ks_wpAt_super_base (env := ksEnv qual supSc hp.objs.size fI (.ref cda) cc) rfl rfl (by decide) rfl (X1 _ _ lk) rfl rfl rfl (X1 _ _ hcode) rfl hvs hfile T.top ?_
  refine ks_loadName_global rfl rfl (loadGlobal_builtin (M.glob.keeps b1) T.noS (hmb.keeps b1) ((hbv _ (by decide)).trans (by decide +kernel)) ⟨rfl, ?_⟩)
  refine wpAny_loadName_free rfl rfl rfl ⟨_, X1 _ _ hcell, rfl⟩ ?_
  refine wpAny_loadName_local rfl rfl hns rfl ?_
  have hC1 := X1 _ _ hC
  refine ks_wpAny_isType_cls hC1 rfl ⟨rfl, ?_⟩
  refine ks_wpAny_call_super hC1 rfl hx1 rfl (fun c e => nomatch e) (looks_mroIn X1 T.me) (fun h2 e2 k2 => ?_)
  have X2 : K.In h2 := X1.keeps k2
  have hx2 := k2 _ _ hx1
  have hC2 := X2 _ _ hC
  have hcl : clsIn K C = some { name := nm, bases := bs, mro := .ref C :: bm, ns := N, qualname := q, hasDict := true, slotNames := sn, subclasses := sub, abstract := ab, collection := col, hasDel := false } := by unfold clsIn; rw [hC] <;> rfl
  have hal : alongIn K "__init__" (((Value.ref C :: bm).dropWhile (· != .ref C)).drop 1) = some (some (.builtin "ValueError.__init__")) := by
    have z := T.al
    unfold ks_superIn at z
    rw [hcl] at z
    exact z
  have nxC : x ≠ C := fun e => by
    rw [e, hC1] at hx1
    cases hx1
  have hI : Looks (model prog w) h2 (isInstance (.ref x) (.type "ValueError")) true := by
    have I : InstAt h2 x (excO C t0) C none := ⟨hx2, rfl, rfl, trivial⟩
    exact I.type.andThen (looks_subIn X2 T.veC)
  refine kxs_getMethod kxs_ValueError e2 (looks_opaque X2 T.op) (l₀ := .ref C :: bm) ?_ rfl X2 hal hI nxC (by decide) ?_
  · exact fun A Q E s k q => wpAny_bind ((looks_clsIn X2 hcl) A _ E s k (wpAny_pure q))
  have k3 : ∀ b o, h2.get? b = some o → (h2.push (kxs_mw "ValueError.__init__" x)).get? b = some o := fun b o e => Heap.get?_push_of_some _ e
  refine kxs_callWith (i := "ValueError.__init__") (u := h2.objs.size) (x := x) rfl (evalArgs_empty ⟨Heap.get?_push_at rfl rfl, ?_⟩)
  refine wpAny_call (codeAny_of_tree ?_)
  show wpAny _ _ (callAny (.ref h2.objs.size) ⟨[], []⟩) _ _ _
  simp only [callAny]
  refine wpAny_bind (wpAny_load (Heap.get?_push_at rfl rfl) ?_)
  simp only [kxs_mw, show (Value.type "method-wrapper" == Value.type "method" || Value.type "method-wrapper" == Value.type "builtin_function_or_method" || Value.type "method-wrapper" == Value.type "method-wrapper") = true by decide, if_true]
  refine KFB.if_so (by decide) ?_
  refine wpAny_bind (check_bound_init F.excBase_ValueError.toExcCallFacts (k3 _ _ hC2) (k3 _ _ hx2) rfl ?_)
  refine wpAny_bind (wpAny_pure (wpAny_pure ?_))
  refine ⟨plainId_quiet F.excBase_ValueError.init.plain _, codeAny_builtin F.excBase_ValueError.initEntry ?_⟩
  refine exc_init_tree (cls := .ref C) (t0 := t0) (dv := none) (c2 := .none) (c3 := .none) (b4 := .bool false) (k3 _ _ hx2) (Nat.zero_le _) (fun h4 k4 e4 _ => ?_)
  show _root_.PySem.wpAt _ _ _ (execs [] _) _ _ _
  refine wpAt_of_wpAny (wpAny_execs_nil ?_)
  exact hq h4 _ _ (fun b o hb e => k4 b o hb (k3 b o (k2 b o (kp b o e)))) e4
end
section
variable {X : Cx} {p pos : Pos} {x : Str} {C fI : Addr} {k : Nat} {qual : Str}
/-- raise C(): a new error of the class at C, without a dict -/
theorem pmk_sup (T : SupC X.prog X.K X.mg C fI qual) (hr : Room k X.A) (hg : Gl X x) (hm : X.mg x = some (.ref C)) (hdb : (x == ("__debug__" : Str)) = false := by decide) :
    PMk X (.Call (.Name x p) [] [] pos) (fun _ H Q => Q (.ref C) none H) := by
  intro pins s σ H Q I h
  obtain ⟨nm, q, N, bs, bm, sn, sub, ab, col, dd, k0, k1, k2, k3, k5, hC, hbm⟩ := T.cls
  refine wpAny_Call_Name_kw (ld_glob I hg hm ?_ hdb)
  refine PySem.W.callWith_K0 I.kIn T.kC ?_
  show wpAny _ _ (call (.ref C) []) _ _ _
  have hdp := hr.dp
  have hbk := I.bk
  obtain ⟨hp, g, dr, tk, os⟩ := s
  have kk : ∀ b o, hp.get? b = some o → ((hp.push (kdv_tup [])).push (excO C hp.objs.size)).get? b = some o := fun b o e => Heap.get?_push_of_some _ (Heap.get?_push_of_some _ e)
  have hget : ((hp.push (kdv_tup [])).push (excO C hp.objs.size)).get? (hp.objs.size + 1) = some (excO C hp.objs.size) := by heap_get
  have hdep : (X.A.under (.builtin "type.__call__" ⟨[.ref C], []⟩)).depth < recursionLimit := by
    rw [make_depth]
    omega
  refine wpAny_call (call_own F.excBase_ValueError (fun Y => refsVE_contains Y bm hbm) (I.kIn _ _ hC) (looks_findIn I.kIn T.iC) (fun self => bind_fn I.kIn self T.tI) (Nat.zero_le _)
    (sup_init T I.ok.mod (fun b o e => kk b o (hbk b o e)) hget hdep fun h' tk' t1 k4 e4 => ⟨rfl, ?_⟩))
  obtain ⟨G, r1, r2⟩ := restrict h' fun b => decide (b ≠ hp.objs.size + 1)
  have gk : ∀ b, b ≠ hp.objs.size + 1 → G.get? b = h'.get? b := fun b hb => r1 b (decide_eq_true hb)
  have ge : G.get? (hp.objs.size + 1) = none := r2 _ (by simp)
  have old : ∀ b o, hp.get? b = some o → G.get? b = some o := fun b o e => by
    have hb : b ≠ hp.objs.size + 1 := Nat.ne_of_lt (Nat.lt_succ_of_lt (Heap.lt_size e))
    rw [gk b hb]
    exact k4 b o hb (kk b o e)
  have J : Inv X pins σ H ⟨G, g, dr, tk', os⟩ := I.kept (t' := tk') old
  refine ⟨hp.objs.size + 1, _, _, ⟨G, g, dr, tk', os⟩, H, .ref C, none, rfl, J, fun b o e => ?_, ge, e4, ⟨rfl, rfl⟩, rfl, rfl, I.hok.fresh (Nat.le_succ _), rfl, I.bare, raises_own T.exC T.tyC, h⟩
  by_cases hb : b = hp.objs.size + 1
  · have e' : G.get? b = some o := e
    rw [hb, ge] at e'
    cases e'
  · exact (gk b hb).symm.trans e
end
end QS

namespace Q
open PySem L2 QM QS
abbrev sNb : Stmt := top 14
abbrev sWithin : Stmt := top 20
abbrev sOdd : Stmt := top 22
abbrev sBsd : Stmt := top 29
/-- is it a house of the web? -/
def IsH (m : Int) (v : V) (a : Nat) : Prop := v = .int (a : Int) ∧ a < m.toNat
def NoH (K : PySem.W.Frag) (H : Hp) (m : Int) (v : V) : Prop := (∃ i : Int, v = .int i ∧ (decide (0 ≤ i) && decide (i < m)) = false) ∨ NoInt K H v
def houseB (m : Int) : V → Bool
  | .int i => decide (0 ≤ i) && decide (i < m)
  | _ => false
theorem Kd.house {K : PySem.W.Frag} {H : Hp} {v : V} (m : Int) (h : Kd H v) : (houseB m v = true ∧ ∃ a, IsH m v a) ∨ (houseB m v = false ∧ NoH K H m v) := by
  rcases h.cl (K := K) with ⟨i, rfl⟩ | n
  · cases c : houseB m (.int i) with
    | true =>
      have z : (decide (0 ≤ i) && decide (i < m)) = true := c
      rw [Bool.and_eq_true] at z
      have z1 := of_decide_eq_true z.1
      have z2 := of_decide_eq_true z.2
      refine .inl ⟨rfl, i.toNat, by rw [Int.toNat_of_nonneg z1], by omega⟩
    | false => exact .inr ⟨rfl, .inl ⟨i, rfl, c⟩⟩
  · refine .inr ⟨?_, .inr n⟩
    cases v with
    | int i =>
      obtain ⟨t, b, c, ty, k1, k2, e⟩ := n
      exfalso
      cases ty with
      | base ty =>
        cases ty
        have z1 : some b = some true := k1.symm.trans kInt_int
        have z2 : some c = some false := k2.symm.trans kBool_int
        cases z1
        cases z2
        cases e
    | _ => rfl
theorem exm_me {K : PySem.W.Frag} {S : Addr} (h1 : PySem.W.subIn K (.ref S) (.type "BaseException") = some true) (h2 : PySem.W.isClsIn K S = true) (h3 : PySem.W.typeIn K (.ref S) = some (.type "type")) (h4 : PySem.W.subIn K (.ref S) (.ref S) = some true) : PySem.W.exmOne K (.ref S) (.ref S) = some true := by
  have u1 : (PySem.W.subIn K (.ref S) (.type "BaseException") == some true) = true := by rw [h1] <;> rfl
  have u2 : ((PySem.W.clsIn K S).isSome && PySem.W.typeIn K (.ref S) == some (.type "type")) = true := by
    have z : (PySem.W.clsIn K S).isSome = true := h2
    rw [z, h3] <;> rfl
  show (if (PySem.W.subIn K (.ref S) (.type "BaseException") == some true) = true then (if ((PySem.W.clsIn K S).isSome && PySem.W.typeIn K (.ref S) == some (.type "type")) = true then PySem.W.subIn K (.ref S) (.ref S) else none) else none) = some true
  rw [if_pos u1, if_pos u2, h4]
theorem Itm.flat {H : Hp} {v : V} (k : Kd H v) (n : ∀ a, v ≠ .ref a) : Itm H v := ⟨k, fun a _ _ e => (n a e).elim⟩
theorem Itm.int {H : Hp} (i : Int) : Itm H (.int i) := .flat (.int i) fun a e => nomatch e
theorem Itm.non {H : Hp} : Itm H .non := .flat .non fun a e => nomatch e
theorem Itm.bl {H : Hp} (b : Bool) : Itm H (.bl b) := .flat (.bl b) fun a e => nomatch e
theorem Itm.str {H : Hp} (z : Str) : Itm H (.str z) := .flat (.str z) fun a e => nomatch e
theorem Itm.lst {H : Hp} {a : Addr} {xs : List V} (e : H a = some (.lst xs)) : Itm H (.ref a) := ⟨.lst e, fun a' _ _ e1 e2 => by
  cases e1
  rw [e] at e2
  cases e2⟩
theorem Itm.dk {H : Hp} {a : Addr} {kvs : List (Key × V)} (e : H a = some (.dK kvs)) : Itm H (.ref a) := ⟨.dk e, fun a' _ _ e1 e2 => by
  cases e1
  rw [e] at e2
  cases e2⟩
theorem Itm.tupN {H : Hp} {a : Addr} {xs : List V} (e : H a = some (.tup xs)) (n : xs.length ≠ 2) : Itm H (.ref a) := ⟨.tup e, fun a' _ _ e1 e2 => by
  cases e1
  rw [e] at e2
  cases e2
  exact absurd rfl n⟩
theorem Itm.tup2 {H : Hp} {a : Addr} {x y : V} (e : H a = some (.tup [x, y])) (kx : Kd H x) (ky : Kd H y) : Itm H (.ref a) := ⟨.tup e, fun a' _ _ e1 e2 => by
  cases e1
  rw [e] at e2
  cases e2
  exact ⟨kx, ky⟩⟩
theorem its_more {H : Hp} {ys : List V} {v : V} (h : ∀ y ∈ ys, Itm H y) (i : Itm H v) : ∀ y ∈ ys ++ [v], Itm H y := fun y hy => by
  rcases List.mem_append.mp hy with hy | hy
  · exact h y hy
  · rw [List.mem_singleton.mp hy]
    exact i
theorem pre_tup {H : Hp} {v : V} {z : Addr} {ys : List V} (kv : Kd H v) (e : H z = some (.tup ys)) (hl : ys.length < 200) (its : ∀ y ∈ ys, Itm H y) : PreW H v (.ref z) := ⟨kv, .tup e, fun q xs e1 e2 => by
  cases e1
  rw [e] at e2
  cases e2
  exact ⟨hl, its⟩⟩
def Whl (H : Hp) (v : V) : Prop := Itm H v ∧ PreW H (.int 0) v
theorem Whl.flat {H : Hp} {v : V} (k : Kd H v) (n : ∀ a, v ≠ .ref a) : Whl H v := ⟨.flat k n, .int 0, k, fun q _ e _ => (n q e).elim⟩
theorem Whl.int {H : Hp} (i : Int) : Whl H (.int i) := .flat (.int i) fun a e => nomatch e
theorem Whl.non {H : Hp} : Whl H .non := .flat .non fun a e => nomatch e
theorem Whl.bl {H : Hp} (b : Bool) : Whl H (.bl b) := .flat (.bl b) fun a e => nomatch e
theorem Whl.str {H : Hp} (z : Str) : Whl H (.str z) := .flat (.str z) fun a e => nomatch e
theorem Whl.lst {H : Hp} {a : Addr} {xs : List V} (e : H a = some (.lst xs)) : Whl H (.ref a) := ⟨.lst e, .int 0, .lst e, fun q _ e1 e2 => by
  cases e1
  rw [e] at e2
  cases e2⟩
theorem Whl.dk {H : Hp} {a : Addr} {kvs : List (Key × V)} (e : H a = some (.dK kvs)) : Whl H (.ref a) := ⟨.dk e, .int 0, .dk e, fun q _ e1 e2 => by
  cases e1
  rw [e] at e2
  cases e2⟩
theorem Whl.tup {H : Hp} {a : Addr} {xs : List V} (e : H a = some (.tup xs)) (hl : xs.length < 200) (its : ∀ x ∈ xs, Itm H x) : Whl H (.ref a) := ⟨⟨.tup e, fun a' x y e1 e2 => by
  cases e1
  rw [e] at e2
  cases e2
  exact ⟨(its x (by simp)).kd, (its y (by simp)).kd⟩⟩, pre_tup (.int 0) e hl its⟩
theorem its_nil {H : Hp} : ∀ y ∈ ([] : List V), Itm H y := fun _ h => absurd h List.not_mem_nil
def spNb (K : PySem.W.Frag) (C CN : Addr) : Sp := fun vs H Q E => ∃ (w : Addr) (m : Int) (L : List (Addr × List Int)) (dx q r : Addr) (bs : List Addr) (nb : Nat → List Int) (v : V), vs = [.ref w, v] ∧ WebIn C m L H w dx q r bs nb ∧
  ((∃ a t, IsH m v a ∧ bs[a]? = some t ∧ Q (.ref t) H) ∨ (NoH K H m v ∧ E (.ref CN) none H))
def spBsd (C : Addr) : Sp := fun vs H Q _ => ∃ (w : Addr) (m : Int) (L : List (Addr × List Int)) (dx q r : Addr) (bs : List Addr) (nb : Nat → List Int) (v : V), vs = [.ref w, v] ∧ WebIn C m L H w dx q r bs nb ∧ Kd H v ∧
  ∀ t H', Same H H' → ((∃ a ta, IsH m v a ∧ houseB m v = true ∧ bs[a]? = some ta ∧ H' t = some (.tup [.str "told", .ref ta])) ∨ (houseB m v = false ∧ H' t = some (.tup [.str "NoHouse"]))) → Q (.ref t) H'
def spWithin (K : PySem.W.Frag) : Sp := fun vs H Q _ => ∃ (v : V) (lo hi : Int), vs = [v, .int lo, .int hi] ∧ ((∃ i : Int, v = .int i ∧ Q (.bl (decide (lo ≤ i) && decide (i ≤ hi))) H) ∨ (NoInt K H v ∧ Q (.bl false) H))
def spOdd : Sp := fun vs H Q _ => ∃ (p l : Addr), vs = [.ref p] ∧ HandAt H p l ∧ ∀ (v : V) (H' : Hp), Whl H' v → HandAt H' p l → Ext p H H' → Q v H'
/-- what the top says of NoHouse -/
structure NTxt (P : Program) (K : PySem.W.Frag) (mg : Str → Option Value) (CN fN : Addr) : Prop where
  sup : SupC P K mg CN fN "NoHouse.__init__"
  gN : mg "NoHouse" = some (.ref CN)
  ex : PySem.W.exmOne K (.ref CN) (.ref CN) = some true
section
variable {P : Program} {w : World} {K : PySem.W.Frag} {mg : Str → Option Value} {base : Heap}
theorem isH_dec {m : Int} {a : Nat} (h : a < m.toNat) : (decide (0 ≤ (a : Int)) && decide ((a : Int) < m)) = true := by
  rw [decide_eq_true (show 0 ≤ (a : Int) by omega), decide_eq_true (show (a : Int) < m by omega)]
  rfl
theorem scNb : FnScope ["web", "house"] ["web", "house"] (defScope sNb) := ⟨rfl, rfl, rfl, by decide +kernel, rfl, by decide +kernel, by decide +kernel⟩
theorem ok_nb {f C CN fI : Addr} {fd : FuncData} (F : Fun K "neighbours" "neighbours" sNb f fd) (B : Bts mg) (T : WTxt K mg C) (D : WDefs K mg) (N : NTxt P K mg CN fI) : FnOk P w K mg base (L2.CX P w) 3 f fd ["web", "house"] (spNb K C CN) := by
  have GN : FnOk P w K mg base CX0 2 D.fN D.dN ["limit", "thing"] (spNum K) := ok_num D.DN.F B D.DP
  refine F.okX scNb (fun vs H Q E h => ?_) (fun cdv A outer s H vs Q E hr h => ?_)
  · obtain ⟨w, m, L, dx, q, r, bs, nb, v, rfl, _⟩ := h
    rfl
  · obtain ⟨w, m, L, dx, q, r, bs, nb, v, rfl, x, h⟩ := h
    refine ⟨_, pss_cons (ps_if (pt_not (pt_val (pe_call GN hr rfl D.DN.m D.DN.k D.DN.b .nil pass0 (pa_cons (pe_fld (pv 0) rfl) (pa_cons (pv 1) pa_nil))))) (pss_one (ps_raise rfl (takes_of rfl rfl rfl rfl) (pmk_sup N.sup hr rfl N.gN))) pss_nil)
      (pss_one (ps_ret (pe_ix ix_tup (pe_fld (pv 0) rfl) (pv 1) (fun _ _ => rfl)))), ?_⟩
    refine ⟨_, rfl, w, C, dx, _, _, rfl, x.at_, T.cl, T.nM, wf_many _ _ _, _, rfl, m, v, rfl, ?_⟩
    rcases h with ⟨a, t, ha, gu, k⟩ | ⟨no, k⟩
    · obtain ⟨rfl, hm⟩ := ha
      refine .inl ⟨_, rfl, _, rfl, ?_⟩
      rw [isH_dec hm]
      refine iteF ?_
      exact ⟨_, rfl, w, C, dx, _, _, rfl, x.at_, T.cl, T.nB, wf_beside _ _ _, _, rfl, r, _, (a : Int), _, rfl, rfl, SqT.of x.rows.at_, atI_nat (map_get gu), k⟩
    · rcases no with ⟨i, rfl, e⟩ | n
      · refine .inl ⟨_, rfl, _, rfl, ?_⟩
        rw [e]
        exact iteT k
      · exact .inr ⟨n, _, rfl, iteT k⟩
theorem scBsd : FnScope ["web", "house"] ["web", "house"] (defScope sBsd) := ⟨rfl, rfl, rfl, by decide +kernel, rfl, by decide +kernel, by decide +kernel⟩
theorem ok_bsd {f C CN fI fA : Addr} {fd dA : FuncData} (F : Fun K "_law_beside" "_law_beside" sBsd f fd) (B : Bts mg) (T : WTxt K mg C) (D : WDefs K mg) (N : NTxt P K mg CN fI) (DA : Df K mg "neighbours" sNb ["web", "house"] fA dA) :
    FnOk P w K mg base CX0 4 f fd ["web", "house"] (spBsd C) := by
  have GA : FnOk P w K mg base (L2.CX P w) 3 fA dA ["web", "house"] (spNb K C CN) := ok_nb DA.F B T D N
  refine F.ok scBsd (fun vs H Q E h => ?_) (fun cdv A outer s H vs Q E hr h => ?_)
  · obtain ⟨w, m, L, dx, q, r, bs, nb, v, rfl, _⟩ := h
    rfl
  · obtain ⟨w, m, L, dx, q, r, bs, nb, v, rfl, x, kd, k⟩ := h
    have hr3 : Room 3 _ := hr.mono (by decide)
    refine ⟨_, pss_one (ps_try_only (tb := fun W => tRet (tTup (tCons (tC (.str "told")) (tCons (tCallS (spNb K C CN) (WE W) (tCons (tVar 0) (tCons (tVar 1) tNil))) tNil))))
      (ts := fun _ _ _ => tRet (tTup (tCons (tC (.str "NoHouse")) tNil))) (Wout := fun _ _ _ _ => False) rfl rfl ⟨rfl, by decide, .inl N.gN⟩ takes0
      (fun W pn xe tk _ => pss_one (ps_ret (pe_tup (pa_cons pe_str (pa_cons (by exact (pe_callS GA hr3 rfl DA.m DA.k DA.b (fun σ => passAt tk σ) (by exact (pa_cons (pv 0) (pa_cons (pv 1) pa_nil))))) pa_nil)))))
      (fun a oe cls d pn _ _ => pss_one (ps_ret (pe_tup (pa_cons pe_str pa_nil))))), ?_⟩
    refine ⟨_, rfl, _, rfl, w, m, L, dx, q, r, bs, nb, v, rfl, x, ?_⟩
    rcases kd.house (K := K) m with ⟨e1, a, ha⟩ | ⟨e1, no⟩
    · have hl : a < bs.length := by rw [x.rows.len]; exact ha.2
      refine .inl ⟨a, _, ha, List.getElem?_eq_getElem hl, (by show 2 ≤ sizeLine; decide), fun t ht => k t _ (sNew (fun _ _ e => e) ht) (.inl ⟨a, _, ha, e1, List.getElem?_eq_getElem hl, upd_same⟩)⟩
    · refine .inr ⟨no, true, N.ex, fun _ a ha => ⟨(by show 1 ≤ sizeLine; decide), fun t ht => k t _ (sNew (fun _ _ e => e) ht) (.inr ⟨e1, upd_same⟩)⟩, fun q => nomatch q⟩
theorem scWithin : FnScope ["thing", "least", "most"] ["thing", "least", "most"] (defScope sWithin) := ⟨rfl, rfl, rfl, by decide +kernel, rfl, by decide +kernel, by decide +kernel⟩
theorem ok_within {f fI : Addr} {fd dI : FuncData} (F : Fun K "_law_is_within" "_law_is_within" sWithin f fd) (B : Bts mg) (DI : Df K mg "_law_is_integer" sInt ["thing"] fI dI) : FnOk P w K mg base CX0 2 f fd ["thing", "least", "most"] (spWithin K) := by
  have GI : FnOk P w K mg base CX0 1 fI dI ["thing"] (spPlain K) := ok_int DI.F B
  refine F.ok scWithin (fun vs H Q E h => ?_) (fun cdv A outer s H vs Q E hr h => ?_)
  · obtain ⟨v, lo, hi, rfl, _⟩ := h
    rfl
  · obtain ⟨v, lo, hi, rfl, h⟩ := h
    refine ⟨_, pss_one (ps_ret (pe_and (pe_call GI hr rfl DI.m DI.k DI.b .nil pass0 (pa_cons (pv 0) pa_nil)) (pe_and (pe_cmpR op_le (pv 1) (pv 0) (nomark _)) (pe_one (pe_cmpR op_le (pv 0) (pv 2) (nomark _)))))), ?_⟩
    rcases h with ⟨i, rfl, k⟩ | ⟨⟨t, b, c, ty, kb, kc, e⟩, k⟩
    · refine ⟨_, rfl, .int i, .type "int", true, false, rfl, .base (.int _), kInt_int, kBool_int, _, rfl, iteT ?_⟩
      refine ⟨_, rfl, _, rfl, _, _, rfl, rfl, _, rfl, ite2 (fun c => ?_) (fun c => ?_)⟩
      · rw [c] at k
        exact ⟨_, rfl, _, rfl, _, _, rfl, rfl, k⟩
      · rw [Bool.eq_false_iff.mpr c] at k
        exact k
    · refine ⟨_, rfl, v, t, b, c, rfl, ty, kb, kc, _, rfl, ?_⟩
      rw [e]
      exact iteF k
theorem pick_in {xs : List V} {i : Int} (h0 : 0 ≤ i) (h : i < xs.length) : ∃ v ∈ xs, atI xs i = some v := by
  have hl : i.toNat < xs.length := by omega
  exact ⟨xs[i.toNat], List.getElem_mem hl, get_cast h0 (List.getElem?_eq_getElem hl)⟩
theorem sN {H : Hp} {q : Addr} {o : HO} (n : H q = none) : Same H (upd H q o) := sNew (fun _ _ e => e) n
theorem scOdd : FnScope ["hand", "turn"] ["hand"] (defScope sOdd) := ⟨rfl, rfl, rfl, by decide +kernel, rfl, by decide +kernel, by decide +kernel⟩
theorem ok_odd {f fT : Addr} {fd fdT : FuncData} (F : Fun K "_law_odd" "_law_odd" sOdd f fd) (B : Bts mg) (DT : Df K mg "_law_take" sTake ["hand", "many"] fT fdT) : FnOk P w K mg base CX0 2 f fd ["hand"] spOdd := by
  have GT : FnOk P w K mg base CX0 1 fT fdT ["hand", "many"] spTake := ok_take DT.F B
  refine F.ok scOdd (fun vs H Q E h => ?_) (fun cdv A outer s H vs Q E hr h => ?_)
  · obtain ⟨p, l, rfl, _⟩ := h
    rfl
  · obtain ⟨p, l, rfl, hh, k⟩ := h
    have nd := scOdd.nd
    refine ⟨_, pss_cons (ps_set (i := 1) nd rfl (.inl rfl) (pe_call GT hr rfl DT.m DT.k DT.b .nil pass0 (pa_cons (pv 0) (pa_cons pe_int pa_nil))))
      (pss_cons (ps_if (pt_cmpR op_lt (pv 1) pe_int (nomark _)) (pss_one (ps_ret (pe_ix ix_list (pe_lst (pa_cons pe_non (pa_cons pe_bl (pa_cons pe_bl (pa_cons pe_str (pa_cons pe_str (pa_cons pe_str pa_nil))))))) (pv 1) (fun _ _ => rfl)))) pss_nil)
      (pss_cons (ps_if (pt_cmpR op_lt (pv 1) pe_int (nomark _)) (pss_one (ps_ret (pe_ix ix_list (pe_lst (pa_cons (pe_tup pa_nil) (pa_cons (pe_lst pa_nil) (pa_cons pe_dnewK (pa_cons (pe_tup (pa_cons pe_int pa_nil)) (pa_cons (pe_lst (pa_cons pe_int (pa_cons pe_int pa_nil))) (pa_cons (pe_tup (pa_cons (pe_tup pa_nil) pa_nil)) pa_nil))))))) (pe_op op_sub (pv 1) pe_int) (fun _ _ => rfl)))) pss_nil)
      (pss_one (ps_ret (pe_ix ix_list (pe_lst (pa_cons (pe_un un_neg pe_int) (pa_cons pe_int (pa_cons (pe_op op_sub (pe_op op_pow pe_int pe_int) pe_int) (pa_cons (pe_tup (pa_cons pe_int (pa_cons pe_int pa_nil))) (pa_cons (pe_tup (pa_cons pe_str pa_nil)) (pa_cons (pe_tup (pa_cons pe_int (pa_cons pe_int pa_nil))) pa_nil))))))) (pe_op op_sub (pv 1) pe_int) (fun _ _ => rfl)))))), ?_⟩
    refine ⟨_, rfl, p, l, 18, rfl, hh, by decide, by decide, fun d H1 d0 d1 g1 b1 => ?_⟩
    have x1 : Ext p H H1 := Ext.rfl'.but b1
    refine ⟨_, rfl, _, _, rfl, rfl, _, rfl, ite2 (fun c => ?_) (fun c1 => ?_)⟩
    · have c6 : d < 6 := of_decide_eq_true c
      refine ⟨(by show 6 ≤ sizeLine; decide), fun t ht => ?_⟩
      obtain ⟨v, hv, e⟩ := pick_in (xs := [V.non, V.bl true, V.bl false, V.str "", V.str "me", V.str "0"]) d0 (by show d < 6; exact c6)
      refine ⟨_, rfl, t, _, d, v, rfl, rfl, SqL.of upd_same, e, k v _ ?_ (g1.new ht) (x1.upd ht)⟩
      simp only [List.mem_cons, List.not_mem_nil, or_false] at hv
      rcases hv with rfl | rfl | rfl | rfl | rfl | rfl
      · exact .non
      · exact .bl _
      · exact .bl _
      · exact .str _
      · exact .str _
      · exact .str _
    · have c6 : ¬ d < 6 := fun z => c1 (decide_eq_true z)
      refine ⟨_, rfl, _, _, rfl, rfl, _, rfl, ite2 (fun c => ?_) (fun c2 => ?_)⟩
      · have c12 : d < 12 := of_decide_eq_true c
        refine ⟨Nat.zero_le _, fun a1 n1 => ?_⟩
        refine ⟨Nat.zero_le _, fun a2 n2 => ?_⟩
        intro a3 n3
        refine ⟨(by show 1 ≤ sizeLine; decide), fun a4 n4 => ?_⟩
        refine ⟨(by show 2 ≤ sizeLine; decide), fun a5 n5 => ?_⟩
        refine ⟨Nat.zero_le _, fun a6 n6 => ?_⟩
        refine ⟨(by show 1 ≤ sizeLine; decide), fun a7 n7 => ?_⟩
        refine ⟨(by show 6 ≤ sizeLine; decide), fun t ht => ?_⟩
        obtain ⟨v, hv, e⟩ := pick_in (xs := [V.ref a1, V.ref a2, V.ref a3, V.ref a4, V.ref a5, V.ref a7]) (i := d - 6) (by omega) (by show d - 6 < 6; omega)
        refine ⟨_, rfl, _, _, rfl, rfl, t, _, d - 6, v, rfl, rfl, SqL.of upd_same, e, k v _ ?_ ((((((((g1.new n1).new n2).new n3).new n4).new n5).new n6).new n7).new ht) ((((((((x1.upd n1).upd n2).upd n3).upd n4).upd n5).upd n6).upd n7).upd ht)⟩
        simp only [List.mem_cons, List.not_mem_nil, or_false] at hv
        rcases hv with rfl | rfl | rfl | rfl | rfl | rfl
        · exact .tup (xs := []) (sN ht _ _ (sN n7 _ _ (sN n6 _ _ (sN n5 _ _ (sN n4 _ _ (sN n3 _ _ (sN n2 _ _ upd_same))))))) (by decide) its_nil
        · exact .lst (sN ht _ _ (sN n7 _ _ (sN n6 _ _ (sN n5 _ _ (sN n4 _ _ (sN n3 _ _ upd_same))))))
        · exact .dk (sN ht _ _ (sN n7 _ _ (sN n6 _ _ (sN n5 _ _ (sN n4 _ _ upd_same)))))
        · exact .tup (xs := [.int 0]) (sN ht _ _ (sN n7 _ _ (sN n6 _ _ (sN n5 _ _ upd_same)))) (by decide) (its_more its_nil (.int 0))
        · exact .lst (sN ht _ _ (sN n7 _ _ (sN n6 _ _ upd_same)))
        · exact .tup (xs := [.ref a6]) (sN ht _ _ upd_same) (by show 1 < 200; decide) (its_more its_nil (.tupN (xs := []) (sN ht _ _ (sN n7 _ _ upd_same)) (by decide)))
      · have c12 : ¬ d < 12 := fun z => c2 (decide_eq_true z)
        refine ⟨_, rfl, _, _, rfl, rfl, ⟨by decide, by decide, by decide⟩, _, _, rfl, rfl, ?_⟩
        refine ⟨(by show 2 ≤ sizeLine; decide), fun a4 n4 => ?_⟩
        refine ⟨(by show 1 ≤ sizeLine; decide), fun a5 n5 => ?_⟩
        refine ⟨(by show 2 ≤ sizeLine; decide), fun a6 n6 => ?_⟩
        refine ⟨(by show 6 ≤ sizeLine; decide), fun t ht => ?_⟩
        obtain ⟨v, hv, e⟩ := pick_in (xs := [V.int (-1), V.int 41, V.int (10 ^ (20 : Int).toNat - 1), V.ref a4, V.ref a5, V.ref a6]) (i := d - 12) (by omega) (by show d - 12 < 6; omega)
        refine ⟨_, rfl, _, _, rfl, rfl, t, _, d - 12, v, rfl, rfl, SqL.of upd_same, e, k v _ ?_ ((((g1.new n4).new n5).new n6).new ht) ((((x1.upd n4).upd n5).upd n6).upd ht)⟩
        simp only [List.mem_cons, List.not_mem_nil, or_false] at hv
        rcases hv with rfl | rfl | rfl | rfl | rfl | rfl
        · exact .int _
        · exact .int _
        · exact .int _
        · exact .tup (xs := [.int 0, .int 1]) (sN ht _ _ (sN n6 _ _ (sN n5 _ _ upd_same))) (by show 2 < 200; decide) (its_more (its_more its_nil (.int 0)) (.int 1))
        · exact .tup (xs := [.str "me"]) (sN ht _ _ (sN n6 _ _ upd_same)) (by decide) (its_more its_nil (.str _))
        · exact .tup (xs := [.int 1, .int 0]) (sN ht _ _ upd_same) (by show 2 < 200; decide) (its_more (its_more its_nil (.int 1)) (.int 0))
end
end Q

namespace Q
open PySem L2 QM
theorem op_is_xb {X : Cx} : OpR X (compareOp .Is) (fun x y H Q => ((∃ i : Int, x = .int i) ∨ (∃ z : Str, x = .str z) ∨ ∃ a : Addr, x = .ref a) ∧ ∃ b : Bool, y = .bl b ∧ Q (.bl false) H) := by
  intro pins s σ H x y v u Q I rx ry h
  obtain ⟨hx, b, rfl, q⟩ := h
  cases (show u = Value.bool b from ry)
  rcases hx with ⟨i, rfl⟩ | ⟨z, rfl⟩ | ⟨a, rfl⟩
  · obtain ⟨t, rfl⟩ := rx
    exact wpAny_is_other rfl (fun z => nomatch z) ⟨.bl false, H, I, rfl, q⟩
  · obtain ⟨t, rfl⟩ := rx
    exact wpAny_is_other rfl (fun z => nomatch z) ⟨.bl false, H, I, rfl, q⟩
  · cases rx
    exact wpAny_is_other rfl (fun z => nomatch z) ⟨.bl false, H, I, rfl, q⟩
/-- alike, of nesting below n -/
def SmV (H : Hp) : Nat → V → V → Prop
  | 0 => fun _ _ => False
  | n + 1 => fun u v => (∃ i : Int, u = .int i ∧ v = .int i) ∨ (∃ z : Str, u = .str z ∧ v = .str z) ∨
      ∃ (a b : Addr) (xs ys : List V), u = .ref a ∧ v = .ref b ∧ H a = some (.tup xs) ∧ H b = some (.tup ys) ∧ xs.length = ys.length ∧ ∀ (i : Nat) (x y : V), xs[i]? = some x → ys[i]? = some y → SmV H n x y
theorem SmV.same {H H' : Hp} (s : Same H H') : ∀ {n : Nat} {u v : V}, SmV H n u v → SmV H' n u v
  | 0, _, _, h => h.elim
  | n + 1, u, v, h => by
    rcases h with h | h | ⟨a, b, xs, ys, e1, e2, h1, h2, hl, k⟩
    · exact .inl h
    · exact .inr (.inl h)
    · exact .inr (.inr ⟨a, b, xs, ys, e1, e2, s _ _ h1, s _ _ h2, hl, fun i x y hx hy => (k i x y hx hy).same s⟩)
def spSame (n : Nat) : Sp := fun vs H Q _ => ∃ u v : V, vs = [u, v] ∧ SmV H n u v ∧ ∀ H', Same H H' → Q (.bl true) H'
section
variable {P : Program} {w : World} {K : PySem.W.Frag} {mg : Str → Option Value} {base : Heap}
theorem scSame : FnScope ["actual", "due", "one", "other"] ["actual", "due"] (defScope sSame) := ⟨rfl, rfl, rfl, by decide +kernel, rfl, by decide +kernel, by decide +kernel⟩
theorem ok_same {f fI : Addr} {fd fdI : FuncData} (D : Df K mg "_law_same" sSame ["actual", "due"] f fd) (B : Bts mg) (hz : mg "zip" = none) (hs : mg "str" = none) (DI : Df K mg "_law_is_integer" sInt ["thing"] fI fdI) : ∀ n, FnOk P w K mg base CX0 (n + 1) f fd ["actual", "due"] (spSame n)
  | 0 => by
    refine D.F.ok scSame (fun vs H Q E h => ?_) (fun cdv A outer s H vs Q E hr h => ?_)
    · obtain ⟨u, v, rfl, _⟩ := h
      rfl
    · obtain ⟨u, v, rfl, h, _⟩ := h
      exact h.elim
  | n + 1 => by
    have IH := ok_same D B hz hs DI n
    have GI : FnOk P w K mg base CX0 1 fI fdI ["thing"] (spPlain K) := ok_int DI.F B
    refine D.F.ok scSame (fun vs H Q E h => ?_) (fun cdv A outer s H vs Q E hr h => ?_)
    · obtain ⟨u, v, rfl, _⟩ := h
      rfl
    · obtain ⟨u, v, rfl, h, k⟩ := h
      have nd := scSame.nd
      have hr1 : Room 1 _ := hr.mono (by omega)
      have hrn : Room (n + 1) _ := hr.mono (by omega)
      refine ⟨_, pss_cons (ps_if (pt_cmp (pc_isN (pv 1))) pss_never pss_nil)
        (pss_cons (ps_if (pt_cmpR op_is_xb (pv 1) pe_bl (nomark _)) pss_never pss_nil)
        (pss_cons (ps_if (pt_cmpR op_is_xb (pv 1) pe_bl (nomark _)) pss_never pss_nil)
        (pss_cons (ps_if (pt_val (pe_callB call_isi (by rfl) B.isinstance PyProof.Rows.boot_isinstance (pa_cons (pv 1) (pa_cons (pe_bltn (v := .ty "int") rfl B.int PyProof.Rows.boot_int rfl) pa_nil))))
          (pss_one (ps_ret (pe_and (pe_call GI hr1 rfl DI.m DI.k DI.b .nil pass0 (pa_cons (pv 0) pa_nil)) (pe_one (pe_cmpR op_eq (pv 0) (pv 1) (nomark _)))))) pss_nil)
        (pss_cons (ps_if (pt_val (pe_callB call_isi (by rfl) B.isinstance PyProof.Rows.boot_isinstance (pa_cons (pv 1) (pa_cons (pe_bltn (v := .ty "str") rfl hs PyProof.Rows.boot_str rfl) pa_nil))))
          (pss_one (ps_ret (pe_and (pe_callB call_isi (by rfl) B.isinstance PyProof.Rows.boot_isinstance (pa_cons (pv 0) (pa_cons (pe_bltn (v := .ty "str") rfl hs PyProof.Rows.boot_str rfl) pa_nil))) (pe_one (pe_cmpR op_eq (pv 0) (pv 1) (nomark _)))))) pss_nil)
        (pss_cons (ps_if (PW.pt (pw_or (pt_cmpR op_ne (pe_callB call_isi (by rfl) B.isinstance PyProof.Rows.boot_isinstance (pa_cons (pv 1) (pa_cons (pe_bltn (v := .ty "tuple") rfl B.tuple PyProof.Rows.boot_tuple rfl) pa_nil))) (pe_callB call_isi (by rfl) B.isinstance PyProof.Rows.boot_isinstance (pa_cons (pv 0) (pa_cons (pe_bltn (v := .ty "tuple") rfl B.tuple PyProof.Rows.boot_tuple rfl) pa_nil))) (nomark _))
          (pw_or1 (pt_cmpR op_ne (pe_callB call_isi (by rfl) B.isinstance PyProof.Rows.boot_isinstance (pa_cons (pv 1) (pa_cons (pe_bltn (v := .ty "list") rfl B.list PyProof.Rows.boot_list rfl) pa_nil))) (pe_callB call_isi (by rfl) B.isinstance PyProof.Rows.boot_isinstance (pa_cons (pv 0) (pa_cons (pe_bltn (v := .ty "list") rfl B.list PyProof.Rows.boot_list rfl) pa_nil))) (nomark _))))) pss_never pss_nil)
        (pss_cons (ps_if (pt_cmpR op_ne (pe_callB call_len_seq (by rfl) B.len PySem.boot_len (pa_cons (pv 0) pa_nil)) (pe_callB call_len_seq (by rfl) B.len PySem.boot_len (pa_cons (pv 1) pa_nil)) (nomark _)) pss_never pss_nil)
        (pss_cons (ps_for PassesOwn.never rfl (RZ.pi_zipA rfl hz (pa_cons (pv 0) (pa_cons (pv 1) pa_nil))) (pg_tup rfl (pgs_cons (pg_name (i := 2) nd rfl (.inl rfl)) (pgs_cons (pg_name (i := 3) nd rfl (.inl rfl)) pgs_nil)))
          (pss_one (ps_if (pt_not (pt_val (pe_call IH hrn rfl D.m D.k D.b .nil pass0 (pa_cons (pv 2) (pa_cons (pv 3) pa_nil))))) pss_never pss_nil)))
        (pss_one (ps_ret pe_bl))))))))), ?_⟩
      have rs : Same H H := fun _ _ e => e
      rcases h with ⟨i, rfl, rfl⟩ | ⟨z, rfl, rfl⟩ | ⟨a, b, xs, ys, rfl, rfl, ha, hb, hl, hk⟩
      · refine ⟨_, rfl, _, rfl, ite2 (fun c => absurd c (by simp)) (fun _ => ?_)⟩
        refine ⟨_, rfl, .inl ⟨i, rfl⟩, true, rfl, _, rfl, iteF ?_⟩
        refine ⟨_, rfl, .inl ⟨i, rfl⟩, false, rfl, _, rfl, iteF ?_⟩
        refine ⟨_, rfl, .int i, .ty "int", .type "int", .type "int", true, rfl, .ty _, .base (.int _), kInt_int, _, rfl, iteT ?_⟩
        refine ⟨_, rfl, .int i, .type "int", true, false, rfl, .base (.int _), kInt_int, kBool_int, _, rfl, iteT ?_⟩
        refine ⟨_, rfl, _, rfl, rfl, ?_⟩
        rw [decide_eq_true rfl]
        exact k _ rs
      · refine ⟨_, rfl, _, rfl, ite2 (fun c => absurd c (by simp)) (fun _ => ?_)⟩
        refine ⟨_, rfl, .inr (.inl ⟨z, rfl⟩), true, rfl, _, rfl, iteF ?_⟩
        refine ⟨_, rfl, .inr (.inl ⟨z, rfl⟩), false, rfl, _, rfl, iteF ?_⟩
        refine ⟨_, rfl, .str z, .ty "int", .type "str", .type "int", false, rfl, .ty _, .base (.str _), kit_ty (by decide +kernel), _, rfl, iteF ?_⟩
        refine ⟨_, rfl, .str z, .ty "str", .type "str", .type "str", true, rfl, .ty _, .base (.str _), kit_ty (by decide +kernel), _, rfl, iteT ?_⟩
        refine ⟨_, rfl, .str z, .ty "str", .type "str", .type "str", true, rfl, .ty _, .base (.str _), kit_ty (by decide +kernel), _, rfl, iteT ?_⟩
        refine ⟨_, rfl, _, rfl, rfl, ?_⟩
        rw [decide_eq_true rfl]
        exact k _ rs
      · refine ⟨_, rfl, _, rfl, ite2 (fun c => absurd c (by simp)) (fun _ => ?_)⟩
        refine ⟨_, rfl, .inr (.inr ⟨b, rfl⟩), true, rfl, _, rfl, iteF ?_⟩
        refine ⟨_, rfl, .inr (.inr ⟨b, rfl⟩), false, rfl, _, rfl, iteF ?_⟩
        refine ⟨_, rfl, .ref b, .ty "int", .type "tuple", .type "int", false, rfl, .ty _, .base (.tup hb), kit_ty (by decide +kernel), _, rfl, iteF ?_⟩
        refine ⟨_, rfl, .ref b, .ty "str", .type "tuple", .type "str", false, rfl, .ty _, .base (.tup hb), kit_ty (by decide +kernel), _, rfl, iteF ?_⟩
        refine ⟨_, rfl, .ref b, .ty "tuple", .type "tuple", .type "tuple", true, rfl, .ty _, .base (.tup hb), kit_ty (by decide +kernel), _, rfl, .ref a, .ty "tuple", .type "tuple", .type "tuple", true, rfl, .ty _, .base (.tup ha), kit_ty (by decide +kernel), rfl, _, rfl, iteF ?_⟩
        refine ⟨_, rfl, .ref b, .ty "list", .type "tuple", .type "list", false, rfl, .ty _, .base (.tup hb), kit_ty (by decide +kernel), _, rfl, .ref a, .ty "list", .type "tuple", .type "list", false, rfl, .ty _, .base (.tup ha), kit_ty (by decide +kernel), rfl, _, rfl, iteF ?_⟩
        refine ⟨_, rfl, a, xs, rfl, .inr (SqT.of ha), _, rfl, b, ys, rfl, .inr (SqT.of hb), rfl, _, rfl, ?_⟩
        rw [hl, decide_eq_true rfl]
        refine iteF ⟨_, rfl, _, rfl, a, b, xs, ys, rfl, .inr ⟨SqT.of ha, SqT.of hb, RZ.for_zipT hl (fun i σ H' => ∃ x2 x3, σ = [some (.ref a), some (.ref b), x2, x3] ∧ Same H H') ⟨none, none, rfl, rs⟩ ?_ ?_ ?_⟩⟩
        · rintro i σ H' ⟨x2, x3, rfl, s1⟩
          exact ⟨SqT.of (s1 _ _ ha), SqT.of (s1 _ _ hb)⟩
        · rintro i x y T σ H' hx hy ⟨x2, x3, rfl, s1⟩ hT
          have s2 : Same H (upd H' T (.tup [x, y])) := fun b o e => sN hT _ _ (s1 _ _ e)
          refine ⟨T, _, rfl, SqT.of upd_same, rfl, _, _, rfl, _, _, rfl, rfl, ?_⟩
          refine ⟨_, rfl, _, rfl, x, y, rfl, (hk i x y hx hy).same s2, fun H2 s3 => ⟨_, rfl, iteF ?_⟩⟩
          exact ⟨_, _, rfl, fun b o e => s3 _ _ (s2 _ _ e)⟩
        · rintro σ H' ⟨x2, x3, rfl, s1⟩
          exact k _ s1
end
end Q

namespace Q
open PySem L2 QM
abbrev sBad : Stmt := top 26
def spBad : Sp := fun vs H Q _ => ∃ v u : V, vs = [v, u] ∧ PreW H v u ∧ ∀ r H', Same H H' → (BadPart H v u r ∨ (r = .non ∧ ∃ m q L, FineW H v u m q L)) → Q r H'
theorem dec_and {a b : Prop} [Decidable a] [Decidable b] (h : (decide a && decide b) = true) : a ∧ b := by
  rw [Bool.and_eq_true] at h
  exact ⟨of_decide_eq_true h.1, of_decide_eq_true h.2⟩
theorem and_dec {a b : Prop} [Decidable a] [Decidable b] (h : ¬ (decide a && decide b) = true) : ¬ (a ∧ b) := fun z => h (by rw [decide_eq_true z.1, decide_eq_true z.2]; rfl)
theorem good_at {H : Hp} {m : Int} {t : Addr} {x y : V} {a b : Int} (ht : H t = some (.tup [x, y])) (g : Good H m (.ref t) a b) : x = .int a ∧ y = .int b := by
  obtain ⟨t', e1, e2, _⟩ := g
  cases e1
  rw [ht] at e2
  simpa using e2
section
variable {P : Program} {w : World} {K : PySem.W.Frag} {mg : Str → Option Value} {base : Heap}
theorem scBad : FnScope ["many", "ties", "k", "tie"] ["many", "ties"] (defScope sBad) := ⟨rfl, rfl, rfl, by decide +kernel, rfl, by decide +kernel, by decide +kernel⟩
theorem ok_bad {f fS fI fN fV : Addr} {fd dS dI dN dV : FuncData} (F : Fun K "_law_bad_web" "_law_bad_web" sBad f fd) (B : Bts mg) (DS : Df K mg "_law_is_within" sWithin ["thing", "least", "most"] fS dS) (DI : Df K mg "_law_is_integer" sInt ["thing"] fI dI)
    (DN : Df K mg "_law_near" sNear ["many", "ties"] fN dN) (DV : Df K mg "_law_waves" sWaves ["near", "house"] fV dV) : FnOk P w K mg base CX0 3 f fd ["many", "ties"] spBad := by
  have GS : FnOk P w K mg base CX0 2 fS dS ["thing", "least", "most"] (spWithin K) := ok_within DS.F B DI
  have GN : FnOk P w K mg base CX0 1 fN dN ["many", "ties"] spNear := ok_near DN.F B
  have GV : FnOk P w K mg base CX0 1 fV dV ["near", "house"] spWaves := ok_waves DV.F B
  refine F.ok scBad (fun vs H Q E h => ?_) (fun cdv A outer s H vs Q E hr h => ?_)
  · obtain ⟨v, u, rfl, _⟩ := h
    rfl
  · obtain ⟨v, u, rfl, pre, k⟩ := h
    have nd := scBad.nd
    have hu := hr.units0
    have hr1 : Room 1 _ := hr.mono (by decide)
    have hr2 : Room 2 _ := hr.mono (by decide)
    refine ⟨_, pss_cons (ps_if (pt_not (pt_val (pe_call GS hr2 rfl DS.m DS.k DS.b .nil pass0 (pa_cons (pv 0) (pa_cons pe_int (pa_cons pe_int pa_nil)))))) (pss_one (ps_ret pe_str)) pss_nil)
      (pss_cons (ps_if (pt_not (pt_val (pe_callB call_isi (by rfl) B.isinstance PyProof.Rows.boot_isinstance (pa_cons (pv 1) (pa_cons (pe_bltn (v := .ty "tuple") rfl B.tuple PyProof.Rows.boot_tuple rfl) pa_nil))))) (pss_one (ps_ret (pe_un un_neg pe_int))) pss_nil)
      (pss_cons (ps_for PassesOwn.never rfl (pi_range1 rfl B.range (pa_cons (pe_callB call_len_seq (by rfl) B.len PySem.boot_len (pa_cons (pv 1) pa_nil)) pa_nil)) (pg_name (i := 2) nd rfl (.inl rfl))
        (pss_cons (ps_set (i := 3) nd rfl (.inl rfl) (pe_ix ix_tup (pv 1) (pv 2) (fun _ _ => rfl)))
        (pss_cons (ps_if (PW.pt (pw_or (pt_not (pt_val (pe_callB call_isi (by rfl) B.isinstance PyProof.Rows.boot_isinstance (pa_cons (pv 3) (pa_cons (pe_bltn (v := .ty "tuple") rfl B.tuple PyProof.Rows.boot_tuple rfl) pa_nil)))))
          (pw_or1 (pt_cmpR op_ne (pe_callB call_len_seq (by rfl) B.len PySem.boot_len (pa_cons (pv 3) pa_nil)) pe_int (nomark _))))) (pss_one (ps_ret (pv 2))) pss_nil)
        (pss_cons (ps_if (PW.pt (pw_or (pt_not (pt_val (pe_call GS hr2 rfl DS.m DS.k DS.b .nil pass0 (pa_cons (pe_ix ix_tup (pv 3) pe_int (fun _ _ => rfl)) (pa_cons pe_int (pa_cons (pe_op op_sub (pv 0) pe_int) pa_nil))))))
          (pw_or (pt_not (pt_val (pe_call GS hr2 rfl DS.m DS.k DS.b .nil pass0 (pa_cons (pe_ix ix_tup (pv 3) pe_int (fun _ _ => rfl)) (pa_cons pe_int (pa_cons (pe_op op_sub (pv 0) pe_int) pa_nil))))))
          (pw_or1 (pt_cmpR op_ge (pe_ix ix_tup (pv 3) pe_int (fun _ _ => rfl)) (pe_ix ix_tup (pv 3) pe_int (fun _ _ => rfl)) (nomark _)))))) (pss_one (ps_ret (pv 2))) pss_nil)
        (pss_one (ps_if (PW.pt (pw_and (pt_cmpR op_gt (pv 2) pe_int (nomark _)) (pw_and1 (pt_cmpR (op_leT hu) (pv 3) (pe_ix ix_tup (pv 1) (pe_op op_sub (pv 2) pe_int) (fun _ _ => rfl)) (nomark _))))) (pss_one (ps_ret (pv 2))) pss_nil))))))
      (pss_cons (ps_if (pt_cmpR op_in_seq pe_non (pe_call GV hr1 rfl DV.m DV.k DV.b .nil pass0 (pa_cons (pe_call GN hr1 rfl DN.m DN.k DN.b .nil pass0 (pa_cons (pv 0) (pa_cons (pv 1) pa_nil))) (pa_cons pe_int pa_nil))) rfl) (pss_one (ps_ret pe_str)) pss_nil)
      (pss_one (ps_ret pe_non))))), ?_⟩
    have rs : Same H H := fun _ _ e => e
    rcases pre.kv.cl (K := K) with ⟨m, rfl⟩ | nv
    · refine ⟨_, rfl, .int m, 1, 40, rfl, .inl ⟨m, rfl, _, rfl, ?_⟩⟩
      cases cm : (decide (1 ≤ m) && decide (m ≤ 40)) with
      | false =>
        refine iteT ?_
        exact k _ _ rs (.inl (.many fun m' e' => by
          cases e'
          exact and_dec (by rw [cm]; exact Bool.false_ne_true)))
      | true =>
        obtain ⟨m1, m40⟩ := dec_and cm
        refine iteF ?_
        obtain ⟨t, bt, ty, kt, ht⟩ := pre.ku.tyT (K := K)
        refine ⟨_, rfl, u, .ty "tuple", t, .type "tuple", bt, rfl, .ty _, ty, kt, _, rfl, ?_⟩
        rcases ht with ⟨rfl, q, xs, rfl, hq⟩ | ⟨rfl, no⟩
        · obtain ⟨few, its⟩ := pre.its q xs rfl hq
          refine iteF ⟨_, rfl, q, xs, rfl, .inr (SqT.of hq), _, rfl, by omega, by omega, ?_⟩
          rw [Int.toNat_natCast]
          refine for_range (lo := 0) (n := xs.length) (fun i σ H' => H' = H ∧ ∃ x2 x3, σ = [some (.int m), some (.ref q), x2, x3] ∧ AllFine H m xs i) ?_ ?_ ?_
          · exact ⟨rfl, none, none, rfl, fun k hk => absurd hk (Nat.not_lt_zero _)⟩
          · rintro i σ H' hi ⟨rfl, x2, x3, rfl, fine⟩
            rw [Int.zero_add]
            have hx : xs[i]? = some xs[i] := List.getElem?_eq_getElem hi
            have it := its xs[i] (List.getElem_mem hi)
            have bad : (¬ FineAt H' m xs i) → Q (.int (i : Int)) H' := fun no => k _ _ rs (.inl (.tie m q xs i rfl m1 m40 rfl hq ⟨hi, fine, no⟩))
            have fail : (∀ a b, ¬ Good H' m xs[i] a b) → Q (.int (i : Int)) H' := fun no => bad fun ⟨v, a, b, e1, g, _⟩ => by
              rw [hx] at e1
              cases e1
              exact no a b g
            refine ⟨_, rfl, _, rfl, q, xs, (i : Int), xs[i], rfl, rfl, SqT.of hq, atI_nat hx, ?_⟩
            obtain ⟨t, bt, ty, kt, ht⟩ := it.kd.tyT (K := K)
            refine ⟨_, rfl, xs[i], .ty "tuple", t, .type "tuple", bt, rfl, .ty _, ty, kt, _, rfl, ?_⟩
            rcases ht with ⟨rfl, ta, zs, eta, hta⟩ | ⟨rfl, no⟩
            · rw [eta] at it fail ⊢
              refine iteF ⟨_, rfl, ta, zs, rfl, .inr (SqT.of hta), rfl, _, rfl, ?_⟩
              by_cases c2 : zs.length = 2
              · rw [c2, decide_eq_true (show V.int ((2 : Nat) : Int) = V.int 2 from rfl)]
                refine iteF ?_
                obtain ⟨x, y, rfl⟩ : ∃ x y, zs = [x, y] := by
                  match zs, c2 with
                  | [x, y], _ => exact ⟨x, y, rfl⟩
                obtain ⟨kx, ky⟩ := it.two ta x y rfl hta
                refine ⟨_, rfl, ta, [x, y], 0, x, rfl, rfl, SqT.of hta, rfl, _, rfl, _, _, rfl, rfl, x, 0, m - 1, rfl, ?_⟩
                rcases kx.cl (K := K) with ⟨a, rfl⟩ | nx
                · refine .inl ⟨a, rfl, _, rfl, ?_⟩
                  cases ca : (decide (0 ≤ a) && decide (a ≤ m - 1)) with
                  | false =>
                    refine iteT ⟨_, rfl, fail fun a' b' g => ?_⟩
                    obtain ⟨e1, e2⟩ := good_at hta g
                    cases e1
                    cases e2
                    obtain ⟨_, _, _, z0, z1, z2⟩ := g
                    exact and_dec (by rw [ca]; exact Bool.false_ne_true) ⟨by omega, by omega⟩
                  | true =>
                    obtain ⟨a0, a1⟩ := dec_and ca
                    refine iteF ⟨_, rfl, ta, _, 1, y, rfl, rfl, SqT.of hta, rfl, _, rfl, _, _, rfl, rfl, y, 0, m - 1, rfl, ?_⟩
                    rcases ky.cl (K := K) with ⟨b, rfl⟩ | ny
                    · refine .inl ⟨b, rfl, _, rfl, ?_⟩
                      cases cb : (decide (0 ≤ b) && decide (b ≤ m - 1)) with
                      | false =>
                        refine iteT ⟨_, rfl, fail fun a' b' g => ?_⟩
                        obtain ⟨e1, e2⟩ := good_at hta g
                        cases e1
                        cases e2
                        obtain ⟨_, _, _, z0, z1, z2⟩ := g
                        exact and_dec (by rw [cb]; exact Bool.false_ne_true) ⟨by omega, by omega⟩
                      | true =>
                        obtain ⟨b0, b1⟩ := dec_and cb
                        refine iteF ⟨_, rfl, ta, _, 0, .int a, rfl, rfl, SqT.of hta, rfl, _, rfl, ta, _, 1, .int b, rfl, rfl, SqT.of hta, rfl, _, _, rfl, rfl, _, rfl, ite2 (fun c => ?_) (fun c => ?_)⟩
                        · have ab : b ≤ a := of_decide_eq_true c
                          refine ⟨_, rfl, fail fun a' b' g => ?_⟩
                          obtain ⟨e1, e2⟩ := good_at hta g
                          cases e1
                          cases e2
                          obtain ⟨_, _, _, z0, z1, z2⟩ := g
                          omega
                        · have ab : ¬ b ≤ a := fun z => c (decide_eq_true z)
                          have g : Good H' m xs[i] a b := ⟨ta, eta, hta, a0, by omega, by omega⟩
                          refine ⟨_, rfl, _, _, rfl, rfl, _, rfl, ite2 (fun c3 => ?_) (fun c3 => ?_)⟩
                          · have i0 : (0 : Int) < (i : Int) := of_decide_eq_true c3
                            obtain ⟨j, rfl⟩ : ∃ j : Nat, i = j + 1 := ⟨i - 1, by omega⟩
                            obtain ⟨v0, c0, d0, ev0, g0, _⟩ := fine j (by omega)
                            obtain ⟨t0, rfl, ht0, r0⟩ := id g0
                            have e1 : ((j + 1 : Nat) : Int) - 1 = (j : Int) := by omega
                            refine ⟨_, rfl, _, rfl, _, rfl, _, _, rfl, rfl, q, xs, ((j + 1 : Nat) : Int) - 1, _, rfl, rfl, SqT.of hq, by rw [e1]; exact atI_nat ev0, ta, t0, [a, b], [c0, d0], rfl, rfl, SqT.of hta, SqT.of ht0, _, rfl, ?_⟩
                            rw [lex_le]
                            by_cases lt : c0 < a ∨ (c0 = a ∧ d0 < b)
                            · rw [decide_eq_true lt]
                              refine iteF ⟨rfl, _, _, rfl, fine.next ⟨_, a, b, hx, g, fun j' u' c' d' e eu gu' => ?_⟩⟩
                              obtain rfl : j' = j := by omega
                              rw [ev0] at eu
                              cases eu
                              obtain ⟨rfl, rfl⟩ := g0.uniq gu'
                              exact lt
                            · rw [decide_eq_false lt]
                              refine iteT ⟨_, rfl, bad fun ⟨v, a', b', e1, g', z⟩ => ?_⟩
                              rw [hx] at e1
                              cases e1
                              obtain ⟨rfl, rfl⟩ := g.uniq g'
                              exact lt (z j _ c0 d0 rfl ev0 g0)
                          · have i0 : i = 0 := by
                              by_cases z : i = 0
                              · exact z
                              · exact absurd (decide_eq_true (show (0 : Int) < (i : Int) by omega)) c3
                            subst i0
                            exact ⟨rfl, _, _, rfl, fine.next ⟨_, a, b, hx, g, fun j _ _ _ e => by omega⟩⟩
                    · refine .inr ⟨ny, _, rfl, iteT ⟨_, rfl, fail fun a' b' g => ?_⟩⟩
                      obtain ⟨e1, e2⟩ := good_at hta g
                      rw [e2] at ny
                      exact ny.int
                · refine .inr ⟨nx, _, rfl, iteT ⟨_, rfl, fail fun a' b' g => ?_⟩⟩
                  obtain ⟨e1, e2⟩ := good_at hta g
                  rw [e1] at nx
                  exact nx.int
              · rw [decide_eq_false (show ¬ V.int ((zs.length : Nat) : Int) = V.int 2 from fun z => c2 (by
                  have z2 := V.int.inj z
                  omega))]
                refine iteT ⟨_, rfl, fail fun a' b' ⟨t', e1, e2, _⟩ => ?_⟩
                cases e1
                rw [hta] at e2
                simp only [Option.some.injEq, HO.tup.injEq] at e2
                exact c2 (by rw [e2]; rfl)
            · exact iteT ⟨_, rfl, fail fun a' b' ⟨t', e1, e2, _⟩ => no t' _ e1 e2⟩
          · rintro σ H' ⟨rfl, x2, x3, rfl, fine⟩
            obtain ⟨L, tt⟩ := ties_of hq few fine
            refine ⟨_, rfl, _, rfl, m, q, L, rfl, m1, m40, tt, fun r bs nb H2 rows hnb srt hn hb s2 => ?_⟩
            refine ⟨r, bs, nb, m.toNat, GL L, 0, rfl, rows, by omega, by omega, nbG_of tt.ok hnb, gl_lt tt.ok, fun sp cs H3 hsp cells s3 _ => ?_⟩
            refine ⟨sp, _, rfl, .inl (SqL.of hsp), rfl, cells.flat, _, rfl, ?_⟩
            have s4 : Same H' H3 := fun b o e => s3 _ _ (s2 _ _ e)
            rcases cells.gap with ⟨e, v0, hv, no⟩ | ⟨e, all⟩
            · have en : (if false = true then !inV V.non cs else inV V.non cs) = true := e
              rw [en]
              exact iteT (k _ _ s4 (.inl (.apart m q L v0 rfl m1 m40 rfl tt hv no)))
            · have en : (if false = true then !inV V.non cs else inV V.non cs) = false := e
              rw [en]
              exact iteF (k _ _ s4 (.inr ⟨rfl, m, q, L, rfl, rfl, tt, tl_of tt.ok m1 m40 all⟩))
        · exact iteT ⟨_, rfl, k _ _ rs (.inl (.shape m rfl m1 m40 no))⟩
    · refine ⟨_, rfl, v, 1, 40, rfl, .inr ⟨nv, _, rfl, iteT (k _ _ rs (.inl (.many fun m' e' => by
        subst e'
        exact nv.int.elim)))⟩⟩
end
end Q

namespace Q
open PySem L2 QM
abbrev sSpoilt : Stmt := top 27
theorem HandAt.same {H H' : Hp} {p l : Addr} (h : HandAt H p l) (s : Same H H') : HandAt H' p l := by
  obtain ⟨ns, i, r, z, c, x⟩ := h
  exact ⟨ns, i, r, z, c, s _ _ x.at_, s _ _ x.lst, x.len, x.r0, x.s0, x.s1⟩
theorem Ext.same {p : Addr} {H H1 H2 : Hp} (h : Ext p H H1) (s : Same H1 H2) : Ext p H H2 := fun b o e n => s _ _ (h b o e n)
/-- t + u -/
def rCatS : R2 := fun x y H Q => ∃ a b xs ys, x = .ref a ∧ y = .ref b ∧ H a = some (.tup xs) ∧ H b = some (.tup ys) ∧ xs.length + ys.length ≤ sizeLine ∧ ∀ z H', Same H H' → H' z = some (.tup (xs ++ ys)) → Q (.ref z) H'
theorem op_catS {X : Cx} : OpR X (binaryOp .Add) rCatS := by
  intro pins s σ H x y v u Q I rx ry h
  obtain ⟨a, b, xs, ys, rfl, rfl, ha, hb, hz, k⟩ := h
  refine op_catA pins s σ H _ _ v u Q I rx ry ⟨a, b, xs, ys, rfl, rfl, SqT.of ha, SqT.of hb, hz, fun e => ?_, fun _ e => ?_, fun _ _ p hp => k p _ (sN hp) upd_same⟩
  · exact k b H (fun _ _ e => e) (by rw [hb, e]; rfl)
  · exact k a H (fun _ _ e => e) (by rw [ha, e, List.append_nil])
/-- t[lo:hi] -/
def rSlS : V → Option Int → Option Int → Hp → VK → Prop := fun x lo hi H Q => ∃ a xs, x = .ref a ∧ H a = some (.tup xs) ∧ ∀ z H' ys, Same H H' → H' z = some (.tup ys) → ys.length ≤ xs.length → (∀ y ∈ ys, y ∈ xs) → Q (.ref z) H'
theorem sl_S {X : Cx} : SlR X rSlS := by
  intro pins s σ H x v vl vu lo hi sl Q I rx hs pl pu h
  obtain ⟨a, xs, rfl, ha, k⟩ := h
  refine sl_tupA pins s σ H _ v vl vu lo hi sl Q I rx hs pl pu ⟨a, xs, rfl, SqT.of ha, fun _ => k a H xs (fun _ _ e => e) ha (Nat.le_refl _) (fun _ h => h), fun _ p hp => k p _ _ (sN hp) upd_same (cutV_length _ _ _) fun y hy => ?_⟩
  unfold cutV at hy
  exact List.mem_of_mem_drop (List.mem_of_mem_take hy)
theorem its_same {H H' : Hp} {ys : List V} (h : ∀ y ∈ ys, Itm H y) (s : Same H H') : ∀ y ∈ ys, Itm H' y := fun y hy => (h y hy).same s
theorem its_ext {H H' : Hp} {p l : Addr} {ys : List V} (h : ∀ y ∈ ys, Itm H y) (g : HandAt H p l) (g' : HandAt H' p l) (s : Ext p H H') : ∀ y ∈ ys, Itm H' y := fun y hy => (h y hy).ext g g' s
theorem its_app {H : Hp} {xs ys : List V} (h : ∀ y ∈ xs, Itm H y) (g : ∀ y ∈ ys, Itm H y) : ∀ y ∈ xs ++ ys, Itm H y := fun y hy => (List.mem_append.mp hy).elim (h y) (g y)
theorem its_sub {H : Hp} {xs ys : List V} (h : ∀ y ∈ xs, Itm H y) (s : ∀ y ∈ ys, y ∈ xs) : ∀ y ∈ ys, Itm H y := fun y hy => h y (s y hy)
theorem its_new {H : Hp} {ys : List V} {t : Addr} {o : HO} (h : ∀ y ∈ ys, Itm H y) (n : H t = none) (i : Itm (upd H t o) (.ref t)) : ∀ y ∈ ys ++ [.ref t], Itm (upd H t o) y := its_more (its_same h (sN n)) i
theorem PreW.same {H H' : Hp} {v u : V} (h : PreW H v u) (s : Same H H') : PreW H' v u := ⟨h.kv.same s, h.ku.same s, fun q xs e1 e2 => by
  have k := h.ku
  rw [e1] at k
  obtain ⟨o, eo⟩ := k.at_
  rw [s _ _ eo] at e2
  cases e2
  obtain ⟨h1, h2⟩ := h.its q xs e1 eo
  exact ⟨h1, its_same h2 s⟩⟩
theorem pre_itm {H : Hp} {v u : V} (kv : Kd H v) (i : Itm H u) (few : ∀ q xs, u = .ref q → H q = some (.tup xs) → xs.length < 200 ∧ ∀ x ∈ xs, Itm H x) : PreW H v u := ⟨kv, i.kd, few⟩
theorem PreW.ext {H H' : Hp} {v u : V} {p l : Addr} (h : PreW H v u) (g : HandAt H p l) (g' : HandAt H' p l) (s : Ext p H H') : PreW H' v u := ⟨h.kv.ext g g' s, h.ku.ext g g' s, fun q xs e1 e2 => by
  have k := h.ku
  rw [e1] at k
  obtain ⟨o, eo⟩ := k.at_
  obtain ⟨zs, ez⟩ := g'.hp
  have ne : q ≠ p := ne_of e2 ez (fun z => by cases z)
  rw [s _ _ eo ne] at e2
  cases e2
  obtain ⟨h1, h2⟩ := h.its q xs e1 eo
  exact ⟨h1, its_ext h2 g g' s⟩⟩
theorem Whl.same {H H' : Hp} {v : V} (h : Whl H v) (s : Same H H') : Whl H' v := ⟨h.1.same s, h.2.same s⟩
theorem Whl.ext {H H' : Hp} {v : V} {p l : Addr} (h : Whl H v) (g : HandAt H p l) (g' : HandAt H' p l) (s : Ext p H H') : Whl H' v := ⟨h.1.ext g g' s, h.2.ext g g' s⟩
theorem Whl.pre {H : Hp} {u v : V} (h : Whl H u) (k : Kd H v) : PreW H v u := ⟨k, h.2.ku, h.2.its⟩
def spSpoilt : Sp := fun vs H Q _ => ∃ (p l : Addr) (m : Int) (q : Addr) (L : List (Addr × List Int)), vs = [.ref p, .int m, .ref q] ∧ HandAt H p l ∧ TiesAt m H q L ∧ L.length < 64 ∧ 1 ≤ m ∧ m ≤ 40 ∧
  ∀ (t : Addr) (v u : V) (H' : Hp), HandAt H' p l → Ext p H H' → H' t = some (.tup [v, u]) → PreW H' v u → Q (.ref t) H'
end Q

namespace Q
open PySem L2 QM
section
variable {P : Program} {w : World} {K : PySem.W.Frag} {mg : Str → Option Value} {base : Heap}
theorem scSpoilt : FnScope ["hand", "many", "ties", "turn", "at", "a", "b", "other"] ["hand", "many", "ties"] (defScope sSpoilt) := ⟨rfl, rfl, rfl, by decide +kernel, rfl, by decide +kernel, by decide +kernel⟩
theorem ok_spoilt {f fT fP fN : Addr} {fd dT dP dN : FuncData} (F : Fun K "_law_spoilt" "_law_spoilt" sSpoilt f fd) (B : Bts mg) (DT : Df K mg "_law_take" sTake ["hand", "many"] fT dT) (DP : Df K mg "_law_pick" sPick ["hand", "things"] fP dP)
    (DN : Df K mg "_law_odd" sOdd ["hand"] fN dN) : FnOk P w K mg base CX0 3 f fd ["hand", "many", "ties"] spSpoilt := by
  have GT : FnOk P w K mg base CX0 1 fT dT ["hand", "many"] spTake := ok_take DT.F B
  have GP : FnOk P w K mg base CX0 2 fP dP ["hand", "things"] (spPick K) := ok_pick DP.F B DT
  have GO : FnOk P w K mg base CX0 2 fN dN ["hand"] spOdd := ok_odd DN.F B DT
  refine F.ok scSpoilt (fun vs H Q E h => ?_) (fun cdv A outer s H vs Q E hr h => ?_)
  · obtain ⟨p, l, m, q, L, rfl, _⟩ := h
    rfl
  · obtain ⟨p, l, m, q, L, rfl, hh, tt, few, m1, m40, k⟩ := h
    have nd := scSpoilt.nd
    have hr1 : Room 1 _ := hr.mono (by decide)
    have hr2 : Room 2 _ := hr.mono (by decide)
    refine ⟨_, pss_cons (ps_set (i := 3) nd rfl (.inl rfl) (pe_call GT hr1 rfl DT.m DT.k DT.b .nil pass0 (pa_cons (pv 0) (pa_cons pe_int pa_nil))))
      (pss_cons (ps_if (pt_cmpR op_eq (pv 3) pe_int (nomark _)) (pss_one (ps_ret (pe_tup (pa_cons (pe_call GP hr2 rfl DP.m DP.k DP.b .nil pass0 (pa_cons (pv 0) (pa_cons (pe_lst (pa_cons pe_int (pa_cons pe_int (pa_cons pe_int (pa_cons (pe_op op_add (pv 1) pe_int) (pa_cons (pe_op op_sub (pv 1) pe_int)
          (pa_cons (pe_call GO hr2 rfl DN.m DN.k DN.b .nil pass0 (pa_cons (pv 0) pa_nil)) pa_nil))))))) pa_nil))) (pa_cons (pv 2) pa_nil))))) pss_nil)
      (pss_cons (ps_if (pt_cmpR op_eq (pv 3) pe_int (nomark _)) (pss_one (ps_ret (pe_tup (pa_cons (pv 1) (pa_cons (pe_call GP hr2 rfl DP.m DP.k DP.b .nil pass0 (pa_cons (pv 0) (pa_cons (pe_lst (pa_cons (pe_callTy call_list_of (by rfl) B.list PyProof.Rows.boot_list (pa_cons (pv 2) pa_nil))
          (pa_cons (pe_call GO hr2 rfl DN.m DN.k DN.b .nil pass0 (pa_cons (pv 0) pa_nil)) (pa_cons (pe_tup pa_nil) (pa_cons pe_non pa_nil))))) pa_nil))) pa_nil))))) pss_nil)
      (pss_cons (ps_if (PW.pt (pw_or (pt_cmpR op_eq (pe_callB call_len_seq (by rfl) B.len PySem.boot_len (pa_cons (pv 2) pa_nil)) pe_int (nomark _)) (pw_or1 (pt_cmpR op_eq (pv 3) pe_int (nomark _)))))
        (pss_one (ps_ret (pe_tup (pa_cons (pv 1) (pa_cons (pe_op op_catS (pv 2) (pe_tup (pa_cons (pe_call GP hr2 rfl DP.m DP.k DP.b .nil pass0 (pa_cons (pv 0) (pa_cons (pe_lst (pa_cons (pe_call GO hr2 rfl DN.m DN.k DN.b .nil pass0 (pa_cons (pv 0) pa_nil))
          (pa_cons (pe_tup (pa_cons (pe_op op_sub (pv 1) pe_int) (pa_cons (pv 1) pa_nil))) (pa_cons (pe_tup (pa_cons pe_int (pa_cons pe_int pa_nil))) pa_nil)))) pa_nil))) pa_nil))) pa_nil))))) pss_nil)
      (pss_cons (ps_set (i := 4) nd rfl (.inl rfl) (pe_call GT hr1 rfl DT.m DT.k DT.b .nil pass0 (pa_cons (pv 0) (pa_cons (pe_callB call_len_seq (by rfl) B.len PySem.boot_len (pa_cons (pv 2) pa_nil)) pa_nil))))
      (pss_cons (ps_asg (pe_ix ix_tup (pv 2) (pv 4) (fun _ _ => rfl)) (pg_tup rfl (pgs_cons (pg_name (i := 5) nd rfl (.inl rfl)) (pgs_cons (pg_name (i := 6) nd rfl (.inl rfl)) pgs_nil))))
      (pss_cons (ps_if (pt_cmpR op_lt (pv 3) pe_int (nomark _)) (pss_one (ps_ret (pe_tup (pa_cons (pv 1) (pa_cons (pe_op op_catS (pe_slice sl_S (pv 2) po_none (po_some (pv 4))) (pe_slice sl_S (pv 2) (po_some (pe_op op_add (pv 4) pe_int)) po_none)) pa_nil))))) pss_nil)
      (pss_cons (ps_if (pt_cmpR op_eq (pv 3) pe_int (nomark _)) (pss_one (ps_ret (pe_tup (pa_cons (pv 1) (pa_cons (pe_op op_catS (pe_op op_catS (pe_slice sl_S (pv 2) po_none (po_some (pv 4)))
          (pe_tup (pa_cons (pe_ix ix_tup (pv 2) (pv 4) (fun _ _ => rfl)) (pa_cons (pe_ix ix_tup (pv 2) (pv 4) (fun _ _ => rfl)) pa_nil)))) (pe_slice sl_S (pv 2) (po_some (pe_op op_add (pv 4) pe_int)) po_none)) pa_nil))))) pss_nil)
      (pss_cons (ps_if (PW.pt (pw_and (pt_cmpR op_eq (pv 3) pe_int (nomark _)) (pw_and1 (pt_cmpR op_gt (pv 4) pe_int (nomark _)))))
        (pss_one (ps_ret (pe_tup (pa_cons (pv 1) (pa_cons (pe_op op_catS (pe_op op_catS (pe_slice sl_S (pv 2) po_none (po_some (pe_op op_sub (pv 4) pe_int)))
          (pe_tup (pa_cons (pe_ix ix_tup (pv 2) (pv 4) (fun _ _ => rfl)) (pa_cons (pe_ix ix_tup (pv 2) (pe_op op_sub (pv 4) pe_int) (fun _ _ => rfl)) pa_nil)))) (pe_slice sl_S (pv 2) (po_some (pe_op op_add (pv 4) pe_int)) po_none)) pa_nil))))) pss_nil)
      (pss_cons (ps_set (i := 7) nd rfl (.inl rfl) (pe_call GP hr2 rfl DP.m DP.k DP.b .nil pass0 (pa_cons (pv 0) (pa_cons (pe_lst
          (pa_cons (pe_tup (pa_cons (pv 6) (pa_cons (pv 5) pa_nil))) (pa_cons (pe_lst (pa_cons (pv 5) (pa_cons (pv 6) pa_nil))) (pa_cons (pe_tup (pa_cons (pv 5) (pa_cons (pv 6) (pa_cons pe_int pa_nil))))
          (pa_cons (pe_tup (pa_cons (pv 5) (pa_cons (pv 1) pa_nil))) (pa_cons (pe_tup (pa_cons (pe_un un_neg pe_int) (pa_cons (pv 6) pa_nil))) (pa_cons (pe_tup (pa_cons pe_bl (pa_cons (pv 6) pa_nil)))
          (pa_cons (pe_tup (pa_cons (pv 5) (pa_cons (pv 5) pa_nil))) (pa_cons (pe_call GO hr2 rfl DN.m DN.k DN.b .nil pass0 (pa_cons (pv 0) pa_nil)) (pa_cons (pe_tup (pa_cons (pv 5) (pa_cons (pv 6) pa_nil))) pa_nil)))))))))) pa_nil))))
      (pss_one (ps_ret (pe_tup (pa_cons (pv 1) (pa_cons (pe_op op_catS (pe_op op_catS (pe_slice sl_S (pv 2) po_none (po_some (pv 4))) (pe_tup (pa_cons (pv 7) pa_nil))) (pe_slice sl_S (pv 2) (po_some (pe_op op_add (pv 4) pe_int)) po_none)) pa_nil)))))))))))))), ?_⟩
    have fin : ∀ {v u : V} {H2 : Hp}, HandAt H2 p l → Ext p H H2 → PreW H2 v u → 2 ≤ sizeLine ∧ ∀ t, H2 t = none → Q (.ref t) (upd H2 t (.tup [v, u])) := fun g x pre => ⟨by decide, fun t ht => k t _ _ _ (g.new ht) (x.upd ht) upd_same (pre.same (sN ht))⟩
    have hn := hand_no hh
    have its0 : ∀ x ∈ L.map (fun p => V.ref p.1), Itm H x := tt.good
    have hlen : (L.map fun p => V.ref p.1).length < 64 := by rw [List.length_map]; exact few
    refine ⟨_, rfl, p, l, 10, rfl, hh, by decide, by decide, fun turn H1 d0 d1 g1 b1 => ?_⟩
    have x1 : Ext p H H1 := Ext.rfl'.but b1
    have tt1 := tt.ext hn x1
    have hq1 := tt1.at_
    have its1 := its_ext its0 hh g1 x1
    generalize exs : (L.map fun p => V.ref p.1) = xs at hq1 its1 hlen its0
    refine ⟨_, rfl, rfl, _, rfl, ite2 (fun _ => ?_) (fun _ => ?_)⟩
    · -- turn 0
      refine ⟨_, rfl, _, rfl, _, _, rfl, rfl, _, rfl, _, _, rfl, rfl, _, rfl, p, l, rfl, g1, fun v H2 wv g2 x2 => ?_⟩
      refine ⟨(by show 6 ≤ sizeLine; decide), fun ml hml => ?_⟩
      have g3 := (g2.new hml : HandAt (upd H2 ml (.lst [.int 0, .int 41, .int 40, .int (m + 1), .int (m - 1), v])) p l)
      refine ⟨p, l, ml, _, rfl, g3, upd_same, (g2.ne hml).1, (by show 0 < 6; decide), (by show 6 < 1000; decide), fun v1 H3 hv1 g4 b4 => ?_⟩
      have x3 : Ext p H1 (upd H2 ml (.lst [.int 0, .int 41, .int 40, .int (m + 1), .int (m - 1), v])) := x2.same (sN hml)
      have kv : Kd (upd H2 ml (.lst [.int 0, .int 41, .int 40, .int (m + 1), .int (m - 1), v])) v1 := by
        simp only [List.mem_cons, List.not_mem_nil, or_false] at hv1
        rcases hv1 with rfl | rfl | rfl | rfl | rfl | rfl
        · exact .int _
        · exact .int _
        · exact .int _
        · exact .int _
        · exact .int _
        · exact wv.1.kd.same (sN hml)
      have xx : Ext p H1 H3 := x3.but b4
      have pr : PreW H3 (.int m) (.ref q) := (tt1.ext (hand_no g1) xx).pre
      exact ⟨_, rfl, fin g4 (x1.trans xx) ⟨kv.ext g3 g4 (Ext.rfl'.but b4), pr.ku, pr.its⟩⟩
    refine ⟨_, rfl, rfl, _, rfl, ite2 (fun _ => ?_) (fun _ => ?_)⟩
    · -- turn 1
      refine ⟨_, rfl, _, rfl, _, rfl, q, xs, rfl, .inr (SqT.of hq1), fun ll hll => ?_⟩
      have ga := (g1.new hll : HandAt (upd H1 ll (.lst xs)) p l)
      refine ⟨_, rfl, p, l, rfl, ga, fun v H2 wv g2 x2 => ?_⟩
      have wl : Whl H2 (.ref ll) := (Whl.lst upd_same : Whl (upd H1 ll (.lst xs)) (.ref ll)).ext ga g2 x2
      refine ⟨Nat.zero_le _, fun e0 he0 => ?_⟩
      have we : Whl (upd H2 e0 (.tup [])) (.ref e0) := .tup upd_same (by decide) its_nil
      refine ⟨(by show 4 ≤ sizeLine; decide), fun ml hml => ?_⟩
      have gb := ((g2.new he0).new hml : HandAt (upd (upd H2 e0 (.tup [])) ml (.lst [.ref ll, v, .ref e0, .non])) p l)
      refine ⟨p, l, ml, _, rfl, gb, upd_same, ((g2.new he0).ne hml).1, (by show 0 < 4; decide), (by show 4 < 1000; decide), fun v1 H3 hv1 g4 b4 => ?_⟩
      have w1 : Whl (upd (upd H2 e0 (.tup [])) ml (.lst [.ref ll, v, .ref e0, .non])) v1 := by
        simp only [List.mem_cons, List.not_mem_nil, or_false] at hv1
        rcases hv1 with rfl | rfl | rfl | rfl
        · exact (wl.same (sN he0)).same (sN hml)
        · exact (wv.same (sN he0)).same (sN hml)
        · exact we.same (sN hml)
        · exact .non
      have xx : Ext p H1 H3 := (((Ext.rfl'.upd hll).trans x2).same (sN he0)).same (sN hml) |>.but b4
      exact fin g4 (x1.trans xx) ((w1.ext gb g4 (Ext.rfl'.but b4)).pre (.int _))
    have sz : ∀ {n : Nat}, n ≤ 300 → n ≤ sizeLine := fun h => Nat.le_trans h (by decide)
    have endT : ∀ {z : Addr} {ys : List V} {H2 : Hp}, HandAt H2 p l → Ext p H1 H2 → H2 z = some (.tup ys) → ys.length < 200 → (∀ y ∈ ys, Itm H2 y) → 2 ≤ sizeLine ∧ ∀ t, H2 t = none → Q (.ref t) (upd H2 t (.tup [.int m, .ref z])) :=
      fun g x e hl its => fin g (x1.trans x) (pre_tup (.int m) e hl its)
    refine ⟨_, rfl, q, xs, rfl, .inr (SqT.of hq1), rfl, _, rfl, ite2 (fun c => ?x) (fun ne => ⟨_, rfl, rfl, _, rfl, ite2 (fun c => ?y) (fun _ => ?z)⟩)⟩
    case x | y =>
      first
      | refine iteT ⟨_, rfl, _, rfl, _, rfl, _, rfl, p, l, rfl, g1, fun v H2 wv g2 x2 => ?_⟩
      | refine ⟨_, rfl, _, rfl, _, rfl, _, rfl, p, l, rfl, g1, fun v H2 wv g2 x2 => ?_⟩
      have i0 : ∀ y ∈ ([] ++ [v] : List V), Itm H2 y := its_more its_nil wv.1
      refine ⟨_, rfl, _, _, rfl, rfl, _, rfl, (by show 2 ≤ sizeLine; decide), fun t1 n1 => ?_⟩
      have i1 := its_new (o := .tup [.int (m - 1), .int m]) i0 n1 (.tup2 upd_same (.int _) (.int _))
      refine ⟨(by show 2 ≤ sizeLine; decide), fun t2 n2 => ?_⟩
      have i2 := its_new (o := .tup [.int 0, .int 0]) i1 n2 (.tup2 upd_same (.int _) (.int _))
      refine ⟨(by show 3 ≤ sizeLine; decide), fun ml hml => ?_⟩
      have i3 := its_same i2 (sN (o := .lst [v, .ref t1, .ref t2]) hml)
      have gb := ((g2.new n1).new n2).new (o := .lst [v, .ref t1, .ref t2]) hml
      refine ⟨p, l, ml, _, rfl, gb, upd_same, (((g2.new n1).new n2).ne hml).1, (by show 0 < 3; decide), (by show 3 < 1000; decide), fun v1 H3 hv1 g4 b4 => ?_⟩
      have j4 := (i3 v1 hv1).ext gb g4 (Ext.rfl'.but b4)
      have x4 : Ext p H1 H3 := (((x2.same (sN n1)).same (sN n2)).same (sN hml)).but b4
      refine ⟨(by show 1 ≤ sizeLine; decide), fun t3 n3 => ?_⟩
      have s5 := sN (o := .tup [v1]) n3
      have x5 := x4.same s5
      have g5 := g4.new (o := .tup [v1]) n3
      have hq5 := (tt1.ext (hand_no g1) x5).at_
      rw [exs] at hq5
      refine ⟨q, t3, xs, [v1], rfl, rfl, hq5, upd_same, sz (by show xs.length + 1 ≤ 300; omega), fun z H6 s6 e6 => ?_⟩
      exact endT (g5.same s6) (x5.same s6) e6 (by rw [List.length_append, List.length_singleton]; omega) (its_more (its_same (its_ext its1 g1 g5 x5) s6) ((j4.same s5).same s6))
    case z =>
      have n0 : 0 < xs.length := by
        by_cases z : xs.length = 0
        · rw [z] at ne
          exact absurd (decide_eq_true rfl) ne
        · omega
      refine ⟨_, rfl, _, rfl, q, xs, rfl, .inr (SqT.of hq1), p, l, _, rfl, g1, by omega, by omega, fun at0 H2 a0 a1 g2 b2 => ?_⟩
      have x2 : Ext p H1 H2 := Ext.rfl'.but b2
      have tt2 := tt1.ext (hand_no g1) x2
      have hq2 := tt2.at_
      rw [exs] at hq2
      have its2 := its_ext its1 g1 g2 x2
      obtain ⟨j, rfl⟩ : ∃ j : Nat, at0 = (j : Int) := ⟨at0.toNat, by omega⟩
      have hj : j < xs.length := by omega
      have hLl : L.length = xs.length := by rw [← exs, List.length_map]
      obtain ⟨pr, hpr, hL⟩ : ∃ pr, pr ∈ L ∧ L[j]? = some pr := ⟨L[j]'(by omega), List.getElem_mem _, List.getElem?_eq_getElem (by omega)⟩
      have gj : xs[j]? = some (.ref pr.1) := by rw [← exs, List.getElem?_map, hL]; rfl
      obtain ⟨a, b, e2, _, _, _⟩ := tt2.ok pr hpr
      have ht := tt2.tup pr hpr
      rw [e2] at ht
      refine ⟨_, rfl, _, rfl, q, xs, (j : Int), _, rfl, rfl, SqT.of hq2, atI_nat gj, pr.1, _, rfl, SqT.of ht, rfl, _, _, rfl, _, _, rfl, rfl, ?_⟩
      have sub : ∀ {ys : List V} {H3 : Hp}, Same H2 H3 → (∀ y ∈ ys, y ∈ xs) → ∀ y ∈ ys, Itm H3 y := fun s m => its_sub (its_same its2 s) m
      have ij : Itm H2 (.ref pr.1) := its2 _ (List.mem_of_getElem? gj)
      refine ⟨_, rfl, _, _, rfl, rfl, _, rfl, ite2 (fun _ => ?_) (fun _ => ?_)⟩
      · refine ⟨_, rfl, _, rfl, _, rfl, _, rfl, q, xs, rfl, hq2, fun z1 H3 y1 s3 e3 l3 m3 => ?_⟩
        refine ⟨_, rfl, _, rfl, _, _, rfl, rfl, _, rfl, q, xs, rfl, s3 _ _ hq2, fun z2 H4 y2 s4 e4 l4 m4 => ?_⟩
        refine ⟨z1, z2, y1, y2, rfl, rfl, s4 _ _ e3, e4, sz (by omega), fun z H5 s5 e5 => ?_⟩
        have ss : Same H2 H5 := fun b o e => s5 _ _ (s4 _ _ (s3 _ _ e))
        exact endT (g2.same ss) (x2.same ss) e5 (by rw [List.length_append]; omega) (its_app (sub ss m3) (sub ss m4))
      refine ⟨_, rfl, rfl, _, rfl, ite2 (fun _ => ?_) (fun _ => ?_)⟩
      · refine ⟨_, rfl, _, rfl, _, rfl, _, rfl, q, xs, rfl, hq2, fun z1 H3 y1 s3 e3 l3 m3 => ?_⟩
        refine ⟨_, rfl, _, rfl, q, xs, (j : Int), _, rfl, rfl, SqT.of (s3 _ _ hq2), atI_nat gj, _, rfl, _, rfl, q, xs, (j : Int), _, rfl, rfl, SqT.of (s3 _ _ hq2), atI_nat gj, (by show 2 ≤ sizeLine; decide), fun t4 n4 => ?_⟩
        have s4 := sN (o := .tup [.ref pr.1, .ref pr.1]) n4
        refine ⟨z1, t4, y1, [.ref pr.1, .ref pr.1], rfl, rfl, s4 _ _ e3, upd_same, sz (by show y1.length + 2 ≤ 300; omega), fun z5 H5 s5 e5 => ?_⟩
        refine ⟨_, rfl, _, rfl, _, _, rfl, rfl, _, rfl, q, xs, rfl, s5 _ _ (s4 _ _ (s3 _ _ hq2)), fun z2 H6 y2 s6 e6 l6 m6 => ?_⟩
        refine ⟨z5, z2, _, y2, rfl, rfl, s6 _ _ e5, e6, sz (by rw [List.length_append]; show y1.length + 2 + y2.length ≤ 300; omega), fun z H7 s7 e7 => ?_⟩
        have ss : Same H2 H7 := fun b o e => s7 _ _ (s6 _ _ (s5 _ _ (s4 _ _ (s3 _ _ e))))
        exact endT (g2.same ss) (x2.same ss) e7 (by rw [List.length_append, List.length_append]; show y1.length + 2 + y2.length < 200; omega) (its_app (its_app (sub ss m3) (its_more (its_more its_nil (ij.same ss)) (ij.same ss))) (sub ss m6))
      refine ⟨_, rfl, rfl, _, rfl, ite2 (fun c6 => ⟨_, rfl, _, _, rfl, rfl, _, rfl, ite2 (fun c7 => ?a) (fun c7 => ?r1)⟩) (fun c6 => ?r2)⟩
      case a =>
        have j0 : (0 : Int) < (j : Int) := of_decide_eq_true c7
        obtain ⟨i, rfl⟩ : ∃ i : Nat, j = i + 1 := ⟨j - 1, by omega⟩
        obtain ⟨pi, hpi, hLi⟩ : ∃ pr, pr ∈ L ∧ L[i]? = some pr := ⟨L[i]'(by omega), List.getElem_mem _, List.getElem?_eq_getElem (by omega)⟩
        have gi : xs[i]? = some (.ref pi.1) := by rw [← exs, List.getElem?_map, hLi]; rfl
        have ii : Itm H2 (.ref pi.1) := its2 _ (List.mem_of_getElem? gi)
        have ei : ((i + 1 : Nat) : Int) - 1 = (i : Int) := by omega
        refine ⟨_, rfl, _, rfl, _, rfl, _, _, rfl, rfl, _, rfl, q, xs, rfl, hq2, fun z1 H3 y1 s3 e3 l3 m3 => ?_⟩
        refine ⟨_, rfl, _, rfl, q, xs, ((i + 1 : Nat) : Int), _, rfl, rfl, SqT.of (s3 _ _ hq2), atI_nat gj, _, rfl, _, rfl, _, _, rfl, rfl, q, xs, ((i + 1 : Nat) : Int) - 1, _, rfl, rfl, SqT.of (s3 _ _ hq2), by rw [ei]; exact atI_nat gi, (by show 2 ≤ sizeLine; decide), fun t4 n4 => ?_⟩
        have s4 := sN (o := .tup [.ref pr.1, .ref pi.1]) n4
        refine ⟨z1, t4, y1, [.ref pr.1, .ref pi.1], rfl, rfl, s4 _ _ e3, upd_same, sz (by show y1.length + 2 ≤ 300; omega), fun z5 H5 s5 e5 => ?_⟩
        refine ⟨_, rfl, _, rfl, _, _, rfl, rfl, _, rfl, q, xs, rfl, s5 _ _ (s4 _ _ (s3 _ _ hq2)), fun z2 H6 y2 s6 e6 l6 m6 => ?_⟩
        refine ⟨z5, z2, _, y2, rfl, rfl, s6 _ _ e5, e6, sz (by rw [List.length_append]; show y1.length + 2 + y2.length ≤ 300; omega), fun z H7 s7 e7 => ?_⟩
        have ss : Same H2 H7 := fun b o e => s7 _ _ (s6 _ _ (s5 _ _ (s4 _ _ (s3 _ _ e))))
        exact endT (g2.same ss) (x2.same ss) e7 (by rw [List.length_append, List.length_append]; show y1.length + 2 + y2.length < 200; omega) (its_app (its_app (sub ss m3) (its_more (its_more its_nil (ij.same ss)) (ii.same ss))) (sub ss m6))
      case r1 | r2 =>
        first
        | refine iteF ⟨_, rfl, _, rfl, _, rfl, (by show 2 ≤ sizeLine; decide), fun t1 n1 => ?_⟩
        | refine ⟨_, rfl, _, rfl, _, rfl, (by show 2 ≤ sizeLine; decide), fun t1 n1 => ?_⟩
        have i1 := its_new (o := .tup [.int b, .int a]) its_nil n1 (.tup2 upd_same (.int _) (.int _))
        refine ⟨_, rfl, _, rfl, (by show 2 ≤ sizeLine; decide), fun t2 n2 => ?_⟩
        have i2 := its_new (o := .lst [.int a, .int b]) i1 n2 (.lst upd_same)
        refine ⟨_, rfl, _, rfl, (by show 3 ≤ sizeLine; decide), fun t3 n3 => ?_⟩
        have i3 := its_new (o := .tup [.int a, .int b, .int 0]) i2 n3 (.tupN upd_same (by show 3 ≠ 2; decide))
        refine ⟨_, rfl, _, rfl, (by show 2 ≤ sizeLine; decide), fun t4 n4 => ?_⟩
        have i4 := its_new (o := .tup [.int a, .int m]) i3 n4 (.tup2 upd_same (.int _) (.int _))
        refine ⟨_, rfl, _, rfl, (by show 2 ≤ sizeLine; decide), fun t5 n5 => ?_⟩
        have i5 := its_new (o := .tup [.int (-1), .int b]) i4 n5 (.tup2 upd_same (.int _) (.int _))
        refine ⟨_, rfl, (by show 2 ≤ sizeLine; decide), fun t6 n6 => ?_⟩
        have i6 := its_new (o := .tup [.bl true, .int b]) i5 n6 (.tup2 upd_same (.bl _) (.int _))
        refine ⟨_, rfl, _, rfl, (by show 2 ≤ sizeLine; decide), fun t7 n7 => ?_⟩
        have i7 := its_new (o := .tup [.int a, .int a]) i6 n7 (.tup2 upd_same (.int _) (.int _))
        have g7 : HandAt (upd (upd (upd (upd (upd (upd (upd H2 t1 (.tup [.int b, .int a])) t2 (.lst [.int a, .int b])) t3 (.tup [.int a, .int b, .int 0])) t4 (.tup [.int a, .int m])) t5 (.tup [.int (-1), .int b])) t6 (.tup [.bl true, .int b])) t7 (.tup [.int a, .int a])) p l := ((((((g2.new n1).new n2).new n3).new n4).new n5).new n6).new n7
        have x7 : Ext p H2 (upd (upd (upd (upd (upd (upd (upd H2 t1 (.tup [.int b, .int a])) t2 (.lst [.int a, .int b])) t3 (.tup [.int a, .int b, .int 0])) t4 (.tup [.int a, .int m])) t5 (.tup [.int (-1), .int b])) t6 (.tup [.bl true, .int b])) t7 (.tup [.int a, .int a])) := ((((((Ext.rfl'.upd n1).upd n2).upd n3).upd n4).upd n5).upd n6).upd n7
        refine ⟨_, rfl, p, l, rfl, g7, fun v H3 wv g8 x8 => ?_⟩
        have i8 := its_more (its_ext i7 g7 g8 x8) wv.1
        refine ⟨_, rfl, _, rfl, (by show 2 ≤ sizeLine; decide), fun t9 n9 => ?_⟩
        have i9 := its_new (o := .tup [.int a, .int b]) i8 n9 (.tup2 upd_same (.int _) (.int _))
        refine ⟨(by show 9 ≤ sizeLine; decide), fun ml hml => ?_⟩
        have iM := its_same i9 (sN (o := .lst [.ref t1, .ref t2, .ref t3, .ref t4, .ref t5, .ref t6, .ref t7, v, .ref t9]) hml)
        have gM := (g8.new n9).new (o := .lst [.ref t1, .ref t2, .ref t3, .ref t4, .ref t5, .ref t6, .ref t7, v, .ref t9]) hml
        refine ⟨p, l, ml, _, rfl, gM, upd_same, ((g8.new n9).ne hml).1, (by show 0 < 9; decide), (by show 9 < 1000; decide), fun v1 H4 hv1 gP bP => ?_⟩
        have iv := (iM v1 hv1).ext gM gP (Ext.rfl'.but bP)
        have xP : Ext p H2 H4 := ((((x7.trans x8).upd n9).upd hml)).but bP
        have ttP := tt2.ext (hand_no g2) xP
        have hqP := ttP.at_
        rw [exs] at hqP
        have itsP := its_ext its2 g2 gP xP
        refine ⟨_, rfl, _, rfl, _, rfl, _, rfl, q, xs, rfl, hqP, fun z1 H5 y1 s5 e5 l5 m5 => ?_⟩
        refine ⟨_, rfl, (by show 1 ≤ sizeLine; decide), fun t6' n6' => ?_⟩
        have s6 := sN (o := .tup [v1]) n6'
        refine ⟨z1, t6', y1, [v1], rfl, rfl, s6 _ _ e5, upd_same, sz (by show y1.length + 1 ≤ 300; omega), fun z7 H7 s7 e7 => ?_⟩
        refine ⟨_, rfl, _, rfl, _, _, rfl, rfl, _, rfl, q, xs, rfl, s7 _ _ (s6 _ _ (s5 _ _ hqP)), fun z2 H8 y2 s8 e8 l8 m8 => ?_⟩
        refine ⟨z7, z2, _, y2, rfl, rfl, s8 _ _ e7, e8, sz (by rw [List.length_append]; show y1.length + 1 + y2.length ≤ 300; omega), fun z H9 s9 e9 => ?_⟩
        have ss : Same H4 H9 := fun b o e => s9 _ _ (s8 _ _ (s7 _ _ (s6 _ _ (s5 _ _ e))))
        exact endT (gP.same ss) ((x2.trans xP).same ss) e9 (by rw [List.length_append, List.length_append]; show y1.length + 1 + y2.length < 200; omega) (its_app (its_app (its_sub (its_same itsP ss) m5) (its_more its_nil (iv.same ss))) (its_sub (its_same itsP ss) m8))
end
end Q

namespace Q
open PySem L2 QM
abbrev sEq : Stmt := inClass (top 9) 1
abbrev sMade : Stmt := top 28
/-- the ties as data -/
def dT (L : List (Addr × List Int)) : PyData := .tuple (L.map fun p => pT p.2)
theorem dep_all : ∀ L : List (Addr × List Int), PyData.depthAll (L.map fun p => pT p.2) ≤ 1
  | [] => by simp [PyData.depthAll]
  | p :: r => by
    have ih := dep_all r
    simp only [List.map_cons, PyData.depthAll, depth_pT]
    omega
theorem shaped_dT (L : List (Addr × List Int)) : SeqAt.shaped (dT L) = true := by
  have h := dep_all L
  unfold SeqAt.shaped dT
  rw [Bool.and_eq_true]
  refine ⟨by simp only [PyData.canLay0, lay_all], decide_eq_true ?_⟩
  simp only [PyData.depth]
  omega
theorem shaped_pair (m : Int) (L : List (Addr × List Int)) : SeqAt.shaped (.tuple [.int m, dT L]) = true := by
  have h := dep_all L
  unfold SeqAt.shaped dT
  rw [Bool.and_eq_true]
  refine ⟨by simp only [PyData.canLay0, PyData.canLayAll0, lay_all, Bool.and_self], decide_eq_true ?_⟩
  simp only [PyData.depth, PyData.depthAll]
  omega
theorem dp_ties {K : PySem.W.Frag} {H : Hp} {m : Int} {q : Addr} {L : List (Addr × List Int)} (t : TiesAt m H q L) : Dp K H (.ref q) (dT L) := .tup (SqT.of t.at_) (dp_all L t.tup)
theorem eqv_pair (m m' : Int) (d d' : PyData) : PyData.eqv (.tuple [.int m, d]) (.tuple [.int m', d']) = (decide (m = m') && PyData.eqv d d') := by
  simp only [PyData.eqv, PyData.eqvAll, Bool.and_true]
  rfl
theorem eqv_all : ∀ L L' : List (Addr × List Int), PyData.eqvAll (L.map fun p => pT p.2) (L'.map fun p => pT p.2) = decide (L.map (·.2) = L'.map (·.2))
  | [], [] => by simp [PyData.eqvAll]
  | [], _ :: _ => by simp [PyData.eqvAll]
  | _ :: _, [] => by simp [PyData.eqvAll]
  | a :: x, b :: y => by
    have ih := eqv_all x y
    simp only [List.map_cons, PyData.eqvAll, ih]
    unfold pT
    simp only [PyData.eqv, eqv_ints]
    by_cases c : a.2 = b.2
    · simp [c]
    · simp [c]
theorem eqv_dT (L L' : List (Addr × List Int)) : PyData.eqv (dT L) (dT L') = decide (L.map (·.2) = L'.map (·.2)) := by
  unfold dT
  simp only [PyData.eqv, eqv_all]
def spEqW (C : Addr) : Sp := fun vs H Q _ => ∃ (w : Addr) (m : Int) (L : List (Addr × List Int)) (dx q r : Addr) (bs : List Addr) (nb : Nat → List Int) (y : V), vs = [.ref w, y] ∧ WebIn C m L H w dx q r bs nb ∧
  ((∃ (w2 : Addr) (m2 : Int) (L2 : List (Addr × List Int)) (dx2 q2 r2 : Addr) (bs2 : List Addr) (nb2 : Nat → List Int), y = .ref w2 ∧ WebIn C m2 L2 H w2 dx2 q2 r2 bs2 nb2 ∧ Q (.bl (decide (m = m2) && PyData.eqv (dT L) (dT L2))) H) ∨ (∃ t ys, y = .ref t ∧ H t = some (.tup ys) ∧ Q (.bl false) H))
structure EqT (K : PySem.W.Frag) (C f : Addr) (fd : FuncData) : Prop where
  find : PySem.W.findIn K (.ref C) "__eq__" = some (some (.ref f))
  fn : PySem.W.isFn K (.ref f) = true
  F : Fun K "__eq__" "Web.__eq__" sEq f fd
  b : Binds K fd ["self", "other"] []
  ha : PySem.W.findIn K (.ref C) "__class__" = some (some (.builtin "object.__class__"))
  hn : PySem.W.specialIn K (.builtin "object.__class__") "__get__" = some (some (.builtin "getset_descriptor.__get__"))
  htk : PySem.W.takesIn K (.builtin "object.__class__") = some true
  hm : PySem.W.mroIn K C (.type "object") = some true
  isC : PySem.W.isClsIn K C = true
  tyC : PySem.W.typeIn K (.ref C) = some (.type "type")
  nT : PySem.W.subIn K (.type "tuple") (.ref C) = some false
  nf : PySem.W.notFirst K C (.type "tuple") = true
section
variable {P : Program} {w : World} {K : PySem.W.Frag} {mg : Str → Option Value} {base : Heap}
theorem EqT.tup {C f : Addr} {fd : FuncData} (T : EqT K C f fd) : PySem.W.kitOne K (.type "tuple") (.ref C) = some false := by
  have z : (PySem.W.clsIn K C).isSome = true := T.isC
  show (if (Value.type "tuple" == Value.ref C) = true then some true else if ((PySem.W.clsIn K C).isSome && PySem.W.typeIn K (.ref C) == some (.type "type")) = true then PySem.W.subIn K (.type "tuple") (.ref C) else none) = some false
  rw [if_neg (by simp), z, T.tyC, T.nT]
  rfl
theorem EqT.me {C f : Addr} {fd : FuncData} (T : EqT K C f fd) : PySem.W.kitOne K (.ref C) (.ref C) = some true := by
  show (if (Value.ref C == Value.ref C) = true then some true else _) = some true
  rw [if_pos (by simp)]
theorem scEq : FnScope ["self", "other"] ["self", "other"] (defScope sEq) := ⟨rfl, rfl, rfl, by decide +kernel, rfl, by decide +kernel, by decide +kernel⟩
theorem ok_eqw {C f : Addr} {fd : FuncData} (B : Bts mg) (T : WTxt K mg C) (E1 : EqT K C f fd) : FnOk P w K mg base CX0 1 f fd ["self", "other"] (spEqW C) := by
  refine E1.F.ok scEq (fun vs H Q E h => ?_) (fun cdv A outer s H vs Q E hr h => ?_)
  · obtain ⟨_, _, _, _, _, _, _, _, _, rfl, _⟩ := h
    rfl
  · obtain ⟨w, m, L, dx, q, r, bs, nb, y, rfl, x, h⟩ := h
    have hu := hr.units
    refine ⟨_, pss_one (ps_ret (pe_and (pe_callB call_isi (by rfl) B.isinstance PyProof.Rows.boot_isinstance (pa_cons (pv 1) (pa_cons (pe_glob (v := .ref C) rfl T.mgC rfl) pa_nil)))
      (pe_and (pe_cmpR op_eq (pe_fld (pv 0) rfl) (pe_fld (pv 1) rfl) (nomark _)) (pe_one (pe_cmpR (op_eqD hu) (pe_fld (pv 0) rfl) (pe_fld (pv 1) rfl) (nomark _)))))), ?_⟩
    rcases h with ⟨w2, m2, L2', dx2, q2, r2, bs2, nb2, rfl, x2, k⟩ | ⟨t, ys, rfl, et, k⟩
    · refine ⟨_, rfl, .ref w2, .ref C, .ref C, .ref C, true, rfl, .own C, .base (.ins x2.at_ T.cl E1.ha E1.hn E1.htk E1.hm), E1.me, _, rfl, iteT ?_⟩
      refine ⟨_, rfl, w, C, dx, _, _, rfl, x.at_, T.cl, T.nM, wf_many _ _ _, _, rfl, w2, C, dx2, _, _, rfl, x2.at_, T.cl, T.nM, wf_many _ _ _, rfl, _, rfl, ?_⟩
      have e : decide (V.int m = V.int m2) = decide (m = m2) := by
        by_cases c : m = m2
        · rw [c, decide_eq_true rfl, decide_eq_true rfl]
        · rw [decide_eq_false c, decide_eq_false (fun z => c (V.int.inj z))]
      rw [e]
      cases c : decide (m = m2) with
      | false =>
        rw [c] at k
        exact iteF k
      | true =>
        rw [c] at k
        refine iteT ⟨_, rfl, w, C, dx, _, _, rfl, x.at_, T.cl, T.nT, wf_ties _ _ _, _, rfl, w2, C, dx2, _, _, rfl, x2.at_, T.cl, T.nT, wf_ties _ _ _, _, _, dp_ties x.ties, dp_ties x2.ties, shaped_dT _, shaped_dT _, k⟩
    · exact ⟨_, rfl, .ref t, .ref C, .type "tuple", .ref C, false, rfl, .own C, .base (.tup et), E1.tup, _, rfl, iteF k⟩
end
section
variable {X : Cx}
/-- a == b by the own __eq__ of a's class -/
def rEqI (C : Addr) (sp : Sp) : R2 := fun x y H Q => ∃ (a dx : Addr) (fs : List (Str × V)), x = .ref a ∧ H a = some (.ins C dx fs) ∧ ((∃ b dy gs, y = .ref b ∧ H b = some (.ins C dy gs)) ∨ (∃ b ys, y = .ref b ∧ H b = some (.tup ys))) ∧ sp [x, y] H (fun v H' => (∃ c, v = .bl c) ∧ Q v H') (fun _ _ _ => False)
theorem op_eqI {CX : CXT} {n : Nat} {C f : Addr} {fd : FuncData} {ps : List Str} {sp : Sp} (F : FnOk X.prog X.w X.K X.mg X.base CX n f fd ps sp) (hs : PySem.W.findIn X.K (.ref C) "__eq__" = some (some (.ref f))) (hf : PySem.W.isFn X.K (.ref f) = true)
    (nf : PySem.W.notFirst X.K C (.type "tuple") = true) (hb : Binds X.K fd ps []) (hx : Passes CX X (fun _ _ _ => False)) (hr : Room n X.A) : OpR X (compareOp .Eq) (rEqI C sp) := by
  intro pins s σ H x y v u Q I rx ry h
  obtain ⟨a, dx, fs, rfl, ha, hy, hsp⟩ := h
  cases rx
  obtain ⟨mA, J, _⟩ := ins_get I.hok ha
  obtain ⟨od, J, _⟩ := J.look
  obtain ⟨m, hF⟩ := I.fr
  obtain ⟨b, rfl⟩ : ∃ b, y = .ref b := by
    rcases hy with ⟨b, _, _, e, _⟩ | ⟨b, _, e, _⟩ <;> exact ⟨b, e⟩
  cases ry
  have hl := F.len _ _ _ _ hsp
  have r2 : Vals [V.ref a, V.ref b] [Value.ref a, Value.ref b] := .cons rfl (.cons rfl .nil)
  have call : wpAny (model X.prog X.w) X.A (call (.ref f) [.ref a, .ref b]) (PySem.W.CmpBack (EP X pins σ Q)) X.xe s := by
    refine wpAny_call (codeAny_mono (F.run X.A X.stack s H ⟨[.ref a, .ref b], []⟩ [.ref a, .ref b] [.ref a, .ref b] _ _ hr I.env0 (by
      have := hb s [.ref a, .ref b] I.kIn (by simpa using hl)
      simpa using this) r2 hsp) fun r s' hq => ?_)
    cases r with
    | error e => exact hx pins σ H s e s' I hq
    | ok fl =>
      cases fl with
      | ret w =>
        obtain ⟨z, H', I', rz, ⟨c, ez⟩, q⟩ := I.after hq
        subst ez
        cases rz
        exact ⟨.bl c, H', I', rfl, q⟩
      | next => exact False.elim hq
      | brk => exact False.elim hq
      | cont => exact False.elim hq
  show wpAny (model X.prog X.w) X.A (richCompare .Eq (.ref a) (.ref b)) (EP X pins σ Q) X.xe s
  rcases hy with ⟨b', dy, gs, e, hb'⟩ | ⟨b', ys, e, hb'⟩
  · cases e
    obtain ⟨mB, J', _⟩ := ins_get I.hok hb'
    obtain ⟨od', J', _⟩ := J'.look
    exact PySem.W.cmp_K (op := .Eq) (tb := .ref C) hr.units0 hF I.ok.mod.kin J J'.type (by simp [PySem.W.notFirst]) hs hf call
  · cases e
    obtain ⟨_, its, rv, o, h1, h2, n', h3⟩ := (show ObjOk X.prog X.w H s.heap b (.tup ys) from I.hok b _ hb')
    have ty : PySem.W.Looks (model X.prog X.w) s.heap (typeOf (.ref b)) (.type "tuple") := fun A Q E s k q => wpAny_typeOf_ref (k _ _ h1) (by rw [h2]; exact q)
    exact PySem.W.cmp_K (op := .Eq) (tb := .type "tuple") hr.units0 hF I.ok.mod.kin J ty nf hs hf call
end
end Q

namespace Q
open PySem L2 QM
theorem pe_fldO {X : Cx} {e : Expr} {f : Str} {pos : Pos} {ta : TE} {K0 : PySem.W.Frag} (hK : X.K = K0) (he : PE X e ta) (hb : attributeBase e f X.env (eval e X.env) = eval e X.env) : PE X (.Attribute e f pos) (tFld K0 ta f) := by
  subst hK
  exact pe_fld he hb
/-! ### what is judged stays so -/
section
variable {H H' : Hp} {m : Int} {xs : List V} {v u r : V}
theorem fine_iff (its : ∀ x ∈ xs, Itm H x) (s : Same H H') (k : Nat) : FineAt H m xs k ↔ FineAt H' m xs k := by
  constructor
  · rintro ⟨v, a, b, e, g, h⟩
    refine ⟨v, a, b, e, g.same s, fun j u c d ej eu gu => h j u c d ej eu (gu.back (its u (List.mem_of_getElem? eu)) s)⟩
  · rintro ⟨v, a, b, e, g, h⟩
    exact ⟨v, a, b, e, g.back (its v (List.mem_of_getElem? e)) s, fun j u c d ej eu gu => h j u c d ej eu (gu.same s)⟩
theorem first_iff (its : ∀ x ∈ xs, Itm H x) (s : Same H H') (r : Option Nat) : First H m xs r ↔ First H' m xs r := by
  cases r with
  | none => exact ⟨fun h k hk => (fine_iff its s k).mp (h k hk), fun h k hk => (fine_iff its s k).mpr (h k hk)⟩
  | some k => exact ⟨fun ⟨a, b, c⟩ => ⟨a, fun j hj => (fine_iff its s j).mp (b j hj), fun z => c ((fine_iff its s k).mpr z)⟩, fun ⟨a, b, c⟩ => ⟨a, fun j hj => (fine_iff its s j).mpr (b j hj), fun z => c ((fine_iff its s k).mp z)⟩⟩
theorem tup_back (k : Kd H u) (s : Same H H') {q : Addr} (e : u = .ref q) {ys : List V} (h : H' q = some (.tup ys)) : H q = some (.tup ys) := by
  rw [e] at k
  obtain ⟨o, eo⟩ := k.at_
  have z := s _ _ eo
  rw [h] at z
  rw [eo, z]
theorem ties_back (pre : PreW H v u) (s : Same H H') {q : Addr} (e : u = .ref q) {L : List (Addr × List Int)} (t : TiesAt m H' q L) : TiesAt m H q L := by
  have at_ := tup_back pre.ku s e t.at_
  obtain ⟨_, its⟩ := pre.its q _ e at_
  exact ⟨at_, fun p hp => tup_back (its (.ref p.1) (List.mem_map.mpr ⟨p, hp, rfl⟩)).kd s rfl (t.tup p hp), t.ok, t.asc, t.few⟩
theorem BadPart.back (pre : PreW H v u) (s : Same H H') (h : BadPart H' v u r) : BadPart H v u r := by
  cases h with
  | many no => exact .many no
  | shape m ev a b no => exact .shape m ev a b fun q xs e z => no q xs e (s _ _ z)
  | tie m q xs k ev a b eu hq f =>
    have z := tup_back pre.ku s eu hq
    obtain ⟨_, its⟩ := pre.its q xs eu z
    exact .tie m q xs k ev a b eu z ((first_iff its s _).mpr f)
  | apart m q L v0 ev a b eu tt hv no => exact .apart m q L v0 ev a b eu (ties_back pre s eu tt) hv no
theorem FineW.back {q : Addr} {L : List (Addr × List Int)} (pre : PreW H v u) (s : Same H H') (h : FineW H' v u m q L) : FineW H v u m q L := ⟨h.ev, h.eu, ties_back pre s h.eu h.tt, h.tl⟩
theorem FineW.same {q : Addr} {L : List (Addr × List Int)} (h : FineW H v u m q L) (s : Same H H') : FineW H' v u m q L := ⟨h.ev, h.eu, h.tt.same s, h.tl⟩
end
def spMade : Sp := fun vs H Q _ => ∃ v u : V, vs = [v, u] ∧ PreW H v u ∧ ∀ t H', Same H H' → ((∃ r, BadPart H v u r ∧ H' t = some (.tup [.str "BadWeb", r])) ∨ (∃ m q L, FineW H v u m q L ∧ H' t = some (.tup [.str "told", v, u]))) → Q (.ref t) H'
theorem part_look (y : V) : List.lookup ("part" : Str) ([(("part" : Str), y)] : List (Str × V)) = some y := by
  show (match (("part" : Str) == ("part" : Str)) with | true => some y | false => List.lookup ("part" : Str) []) = some y
  rw [show (("part" : Str) == ("part" : Str)) = true by decide]
section
variable {P : Program} {w : World} {K : PySem.W.Frag} {mg : Str → Option Value} {base : Heap}
theorem scMade : FnScope ["many", "ties", "web", "error"] ["many", "ties"] (defScope sMade) := ⟨rfl, rfl, rfl, by decide +kernel, rfl, by decide +kernel, by decide +kernel⟩
theorem ok_made {f C CB fM fI : Addr} {fd fdM fdI : FuncData} (F : Fun K "_law_made" "_law_made" sMade f fd) (B : Bts mg) (T : WTxt K mg C) (D : WDefs K mg) (BT : BTxt K mg CB fI fdI) (M : Mk K C fM) (FM : Fun K "__init__" "Web.__init__" sWeb fM fdM) (bM : Binds K fdM ["self", "many", "ties"] []) :
    FnOk P w K mg base CX0 7 f fd ["many", "ties"] spMade := by
  have GM : FnOk P w K mg base (L2.CX P w) 5 fM fdM ["self", "many", "ties"] (spWebX C CB) := ok_webX FM B T D BT
  refine F.ok scMade (fun vs H Q E h => ?_) (fun cdv A outer s H vs Q E hr h => ?_)
  · obtain ⟨v, u, rfl, _⟩ := h
    rfl
  · obtain ⟨v, u, rfl, pre, k⟩ := h
    have nd := scMade.nd
    have hr6 : Room 6 _ := hr.mono (by decide)
    refine ⟨_, pss_one (ps_try_as (i := 3) (tb := fun W => tSeq (tAsg (tMakeS C (spWebX C CB) (WE W) (tCons (tVar 0) (tCons (tVar 1) tNil))) (gName 2)) (tRet (tTup (tCons (tC (.str "told")) (tCons (tFld K (tVar 2) "many") (tCons (tFld K (tVar 2) "ties") tNil))))))
      (ts := fun a cls d => tRet (tTup (tCons (tC (.str "BadWeb")) (tCons (tXf a cls d CB "part" (tVar 3)) tNil)))) (Wout := fun _ _ _ _ => False) rfl rfl nd rfl rfl ⟨rfl, by decide, .inl BT.g⟩ takes0
      (fun W pn xe tk _ => pss_cons (ps_set (i := 2) nd rfl (.inl rfl) (by exact (pe_makeS M GM hr6 rfl T.mgC bM (fun σ => passAt tk σ) (by exact (pa_cons (pv 0) (pa_cons (pv 1) pa_nil))))))
        (pss_one (ps_ret (pe_tup (pa_cons pe_str (pa_cons (pe_fldO rfl (pv 2) rfl) (pa_cons (pe_fldO rfl (pv 2) rfl) pa_nil)))))))
      (fun a oe cls d pn hz hf => pss_one (ps_ret (pe_tup (pa_cons pe_str (pa_cons (pe_xf BT.xf BT.no hz hf (pv 3)) pa_nil)))))), ?_⟩
    refine ⟨_, rfl, _, rfl, fun x dx nx ndx nex => ?_⟩
    have sx : Same H (upd (upd H dx (.own x)) x (.ins C dx [])) := sNew (sNew (fun _ _ e => e) ndx) nx
    refine ⟨x, dx, v, u, rfl, upd_same, pre.same sx, fun r d H1 bp ed s1 => ?_, fun m q L fw r bs nb H1 wi x1 => ⟨rfl, ?_⟩⟩
    · refine ⟨true, BT.ex, fun _ a ha => ?_, fun q => nomatch q⟩
      have ss : Same H H1 := fun b o e => s1 _ _ (sx _ _ e)
      refine ⟨_, rfl, rfl, rfl, d, _, _, rfl, ed, part_look r, (by show 2 ≤ sizeLine; decide), fun t ht => ?_⟩
      exact k t _ (fun b o e => sN ht _ _ (ss _ _ e)) (.inl ⟨r, bp.back pre sx, upd_same⟩)
    · have ss : Same H H1 := fun b o e => x1 b o (sx b o e) (ne_of_none e nx)
      refine ⟨_, rfl, x, C, dx, _, _, rfl, wi.at_, T.cl, T.nM, wf_many _ _ _, _, rfl, x, C, dx, _, _, rfl, wi.at_, T.cl, T.nT, wf_ties _ _ _, (by show 3 ≤ sizeLine; decide), fun t ht => ?_⟩
      have fw' := fw.back pre sx
      refine k t _ (fun b o e => sN ht _ _ (ss _ _ e)) (.inr ⟨m, q, L, fw', ?_⟩)
      rw [upd_same, fw'.ev, fw'.eu]
end
end Q

namespace Q
open PySem L2 QM
abbrev sLaw : Stmt := top 30
def spLaw (K : PySem.W.Frag) : Sp := fun vs H Q _ => ∃ (a : Addr) (ns : List Int), vs = [.ref a] ∧ SqL K H a (ns.map V.int) ∧ ns.length ≤ 63 ∧ ∀ H', Q (.bl true) H'
def spW2 : Sp := fun vs H Q _ => ∃ (v : V) (m : Int), vs = [v, .int 0, .int (m - 1)] ∧ Kd H v ∧ Q (.bl (houseB m v)) H
theorem noInt_house {K : PySem.W.Frag} {H : Hp} {v : V} (m : Int) (n : NoInt K H v) : houseB m v = false := by
  cases v with
  | int i => exact n.int.elim
  | _ => rfl
theorem RowsL.ext {H H' : Hp} {D p : Addr} {bs : List Addr} {nb : Nat → List Int} {n : Nat} (h : RowsL H D bs nb n) (s : Ext p H H') (n1 : D ≠ p) (n2 : ∀ a ∈ bs, a ≠ p) : RowsL H' D bs nb n :=
  ⟨s _ _ h.at_ n1, h.len, h.nd, h.nD, fun i a e => s _ _ (h.row i a e) (n2 a (List.mem_of_getElem? e))⟩
theorem asc_eq : ∀ {l l' : List Int}, l.Pairwise (· < ·) → l'.Pairwise (· < ·) → (∀ j, j ∈ l ↔ j ∈ l') → l = l'
  | [], [], _, _, _ => rfl
  | [], y :: _, _, _, h => absurd ((h y).mpr List.mem_cons_self) List.not_mem_nil
  | x :: _, [], _, _, h => absurd ((h x).mp List.mem_cons_self) List.not_mem_nil
  | x :: r, y :: r', h1, h2, h => by
    rw [List.pairwise_cons] at h1 h2
    have e : x = y := by
      rcases List.mem_cons.mp ((h x).mp List.mem_cons_self) with z | z
      · exact z
      · rcases List.mem_cons.mp ((h y).mpr List.mem_cons_self) with z2 | z2
        · exact z2.symm
        · have a := h2.1 x z
          have b := h1.1 y z2
          omega
    subst e
    rw [asc_eq h1.2 h2.2 fun j => ?_]
    constructor
    · intro z
      rcases List.mem_cons.mp ((h j).mp (List.mem_cons_of_mem _ z)) with e | e
      · have a := h1.1 j z
        omega
      · exact e
    · intro z
      rcases List.mem_cons.mp ((h j).mpr (List.mem_cons_of_mem _ z)) with e | e
      · have a := h2.1 j z
        omega
      · exact e
theorem BadPart.flat {H : Hp} {v u r : V} (h : BadPart H v u r) : (∃ i : Int, r = .int i) ∨ ∃ z : Str, r = .str z := by
  cases h with
  | many => exact .inr ⟨_, rfl⟩
  | shape => exact .inl ⟨_, rfl⟩
  | tie => exact .inl ⟨_, rfl⟩
  | apart => exact .inr ⟨_, rfl⟩
theorem sm_flat {H : Hp} {n : Nat} {r : V} (h : (∃ i : Int, r = .int i) ∨ ∃ z : Str, r = .str z) : SmV H (n + 1) r r := by
  rcases h with ⟨i, rfl⟩ | ⟨z, rfl⟩
  · exact .inl ⟨i, rfl, rfl⟩
  · exact .inr (.inl ⟨z, rfl, rfl⟩)
theorem sm_tup {H : Hp} {n : Nat} {a b : Addr} {xs ys : List V} (ha : H a = some (.tup xs)) (hb : H b = some (.tup ys)) (hl : xs.length = ys.length) (k : ∀ (i : Nat) (x y : V), xs[i]? = some x → ys[i]? = some y → SmV H n x y) : SmV H (n + 1) (.ref a) (.ref b) := .inr (.inr ⟨a, b, xs, ys, rfl, rfl, ha, hb, hl, k⟩)
theorem sm_ints {H : Hp} {n : Nat} {a b : Addr} {l : List Int} (ha : H a = some (.tup (l.map V.int))) (hb : H b = some (.tup (l.map V.int))) : SmV H (n + 2) (.ref a) (.ref b) := sm_tup ha hb rfl fun i x y hx hy => by
  rw [hx] at hy
  cases hy
  obtain ⟨j, _, rfl⟩ := map_inv hx
  exact sm_flat (.inl ⟨j, rfl⟩)
theorem sm_ties {H : Hp} {m : Int} {q : Addr} {L : List (Addr × List Int)} {n : Nat} (t : TiesAt m H q L) : SmV H (n + 3) (.ref q) (.ref q) := sm_tup t.at_ t.at_ rfl fun i x y hx hy => by
  rw [hx] at hy
  cases hy
  rw [List.getElem?_map] at hx
  cases hL : L[i]? with
  | none => rw [hL] at hx; cases hx
  | some p =>
    rw [hL] at hx
    simp only [Option.map_some, Option.some.injEq] at hx
    subst hx
    have e := t.tup p (List.mem_of_getElem? hL)
    exact sm_ints e e
theorem sm_two {H : Hp} {n : Nat} {a b : Addr} {x1 x2 y1 y2 : V} (ha : H a = some (.tup [x1, x2])) (hb : H b = some (.tup [y1, y2])) (h1 : SmV H n x1 y1) (h2 : SmV H n x2 y2) : SmV H (n + 1) (.ref a) (.ref b) := sm_tup ha hb rfl fun i x y hx hy => by
  match i with
  | 0 => cases hx; cases hy; exact h1
  | 1 => cases hx; cases hy; exact h2
  | i + 2 => cases hx
theorem sm_three {H : Hp} {n : Nat} {a b : Addr} {x1 x2 x3 y1 y2 y3 : V} (ha : H a = some (.tup [x1, x2, x3])) (hb : H b = some (.tup [y1, y2, y3])) (h1 : SmV H n x1 y1) (h2 : SmV H n x2 y2) (h3 : SmV H n x3 y3) : SmV H (n + 1) (.ref a) (.ref b) := sm_tup ha hb rfl fun i x y hx hy => by
  match i with
  | 0 => cases hx; cases hy; exact h1
  | 1 => cases hx; cases hy; exact h2
  | 2 => cases hx; cases hy; exact h3
  | i + 3 => cases hx
/-- the defs that the law itself calls -/
structure LDefs (K : PySem.W.Frag) (mg : Str → Option Value) where
  fH : Addr
  dH : FuncData
  DH : Df K mg "_law_hand" sHand ["script"] fH dH
  fT : Addr
  dT : FuncData
  DT : Df K mg "_law_take" sTake ["hand", "many"] fT dT
  fP : Addr
  dP : FuncData
  DP : Df K mg "_law_pick" sPick ["hand", "things"] fP dP
  fI : Addr
  dI : FuncData
  DI : Df K mg "_law_is_integer" sInt ["thing"] fI dI
  fS : Addr
  dS : FuncData
  DS : Df K mg "_law_is_within" sWithin ["thing", "least", "most"] fS dS
  fE : Addr
  dE : FuncData
  DE : Df K mg "_law_same" sSame ["actual", "due"] fE dE
  fO : Addr
  dO : FuncData
  DO : Df K mg "_law_odd" sOdd ["hand"] fO dO
  fR : Addr
  dR : FuncData
  DR : Df K mg "_law_ties" sTies ["hand", "many"] fR dR
  fN : Addr
  dN : FuncData
  DN : Df K mg "_law_near" sNear ["many", "ties"] fN dN
  fV : Addr
  dV : FuncData
  DV : Df K mg "_law_waves" sWaves ["near", "house"] fV dV
  fB : Addr
  dB : FuncData
  DB : Df K mg "_law_bad_web" sBad ["many", "ties"] fB dB
  fX : Addr
  dX : FuncData
  DX : Df K mg "_law_spoilt" sSpoilt ["hand", "many", "ties"] fX dX
  fM : Addr
  dM : FuncData
  DM : Df K mg "_law_made" sMade ["many", "ties"] fM dM
  fY : Addr
  dY : FuncData
  DY : Df K mg "_law_beside" sBsd ["web", "house"] fY dY
  fW : Addr
  dW : FuncData
  DW : Df K mg "neighbours" sNb ["web", "house"] fW dW
section
variable {P : Program} {w : World} {K : PySem.W.Frag} {mg : Str → Option Value} {base : Heap}
theorem ok_w2 {f fI : Addr} {fd dI : FuncData} (F : Fun K "_law_is_within" "_law_is_within" sWithin f fd) (B : Bts mg) (DI : Df K mg "_law_is_integer" sInt ["thing"] fI dI) : FnOk P w K mg base CX0 2 f fd ["thing", "least", "most"] spW2 :=
  (ok_within F B DI).imp fun vs H Q E ⟨v, m, ev, kd, q⟩ => by
    refine ⟨v, 0, m - 1, ev, ?_⟩
    rcases kd.cl (K := K) with ⟨i, rfl⟩ | n
    · refine .inl ⟨i, rfl, ?_⟩
      have e : decide (i ≤ m - 1) = decide (i < m) := by
        by_cases c : i < m
        · rw [decide_eq_true c, decide_eq_true (by omega)]
        · rw [decide_eq_false c, decide_eq_false (by omega)]
      rw [e]
      exact q
    · rw [noInt_house m n] at q
      exact .inr ⟨n, q⟩
theorem scLaw : FnScope ["script", "hand", "many", "ties", "web", "k", "pair", "bad", "due", "near", "house"] ["script"] (defScope sLaw) := ⟨rfl, rfl, rfl, by decide +kernel, rfl, by decide +kernel, by decide +kernel⟩
theorem ok_law {f C CN CB fM fEq fNI fBI : Addr} {fd fdM fdE fdB : FuncData} (F : Fun K "law" "law" sLaw f fd) (B : Bts mg) (hz : mg "zip" = none) (hs : mg "str" = none) (T : WTxt K mg C) (N : NTxt P K mg CN fNI) (BT : BTxt K mg CB fBI fdB) (Q1 : EqT K C fEq fdE) (M : Mk K C fM) (FM : Fun K "__init__" "Web.__init__" sWeb fM fdM) (bM : Binds K fdM ["self", "many", "ties"] []) (D : WDefs K mg) (E1 : LDefs K mg) :
    FnOk P w K mg base CX0 8 f fd ["script"] (spLaw K) := by
  have GH : FnOk P w K mg base CX0 1 E1.fH E1.dH ["script"] (spHand K) := ok_hand E1.DH.F B
  have GT : FnOk P w K mg base CX0 1 E1.fT E1.dT ["hand", "many"] spTake := ok_take E1.DT.F B
  have GP : FnOk P w K mg base CX0 2 E1.fP E1.dP ["hand", "things"] (spPick K) := ok_pick E1.DP.F B E1.DT
  have GR : FnOk P w K mg base CX0 2 E1.fR E1.dR ["hand", "many"] (spTies K) := ok_ties E1.DR.F B E1.DT
  have GW : FnOk P w K mg base CX0 5 fM fdM ["self", "many", "ties"] (spWeb C) := ok_web FM B T D
  have GO : FnOk P w K mg base CX0 2 E1.fO E1.dO ["hand"] spOdd := ok_odd E1.DO.F B E1.DT
  have GI : FnOk P w K mg base CX0 2 E1.fS E1.dS ["thing", "least", "most"] spW2 := ok_w2 E1.DS.F B E1.DI
  have GN : FnOk P w K mg base CX0 1 E1.fN E1.dN ["many", "ties"] spNear := ok_near E1.DN.F B
  have GB : FnOk P w K mg base CX0 3 E1.fB E1.dB ["many", "ties"] spBad := ok_bad E1.DB.F B E1.DS E1.DI E1.DN E1.DV
  have GX : FnOk P w K mg base CX0 3 E1.fX E1.dX ["hand", "many", "ties"] spSpoilt := ok_spoilt E1.DX.F B E1.DT E1.DP E1.DO
  have GM : FnOk P w K mg base CX0 7 E1.fM E1.dM ["many", "ties"] spMade := ok_made E1.DM.F B T D BT M FM bM
  have GY : FnOk P w K mg base CX0 4 E1.fY E1.dY ["web", "house"] (spBsd C) := ok_bsd E1.DY.F B T D N E1.DW
  have GE : FnOk P w K mg base CX0 5 E1.fE E1.dE ["actual", "due"] (spSame 4) := ok_same E1.DE B hz hs E1.DI 4
  have GQ : FnOk P w K mg base CX0 1 fEq fdE ["self", "other"] (spEqW C) := ok_eqw B T Q1
  refine F.ok scLaw (fun vs H Q E h => ?_) (fun cdv A outer s H vs Q E hr h => ?_)
  · obtain ⟨a, ns, rfl, _⟩ := h
    rfl
  · obtain ⟨a, ns, rfl, hS, hlen, k⟩ := h
    have nd := scLaw.nd
    have hu := hr.units
    have hr1 : Room 1 _ := hr.mono (by decide)
    have hr2 : Room 2 _ := hr.mono (by decide)
    have hr3 : Room 3 _ := hr.mono (by decide)
    have hr4 : Room 4 _ := hr.mono (by decide)
    have hr5 : Room 5 _ := hr.mono (by decide)
    have hr6 : Room 6 _ := hr.mono (by decide)
    refine ⟨_, pss_cons (ps_set (i := 1) nd rfl (.inl rfl) (pe_call GH hr1 rfl E1.DH.m E1.DH.k E1.DH.b .nil pass0 (pa_cons (pv 0) pa_nil)))
      (pss_cons (ps_set (i := 2) nd rfl (.inl rfl) (pe_op op_add pe_int (pe_call GT hr1 rfl E1.DT.m E1.DT.k E1.DT.b .nil pass0 (pa_cons (pv 1) (pa_cons (pe_call GP hr2 rfl E1.DP.m E1.DP.k E1.DP.b .nil pass0 (pa_cons (pv 1) (pa_cons (pe_lst (pa_cons pe_int (pa_cons pe_int (pa_cons pe_int (pa_cons pe_int pa_nil))))) pa_nil))) pa_nil)))))
      (pss_cons (ps_set (i := 3) nd rfl (.inl rfl) (pe_call GR hr2 rfl E1.DR.m E1.DR.k E1.DR.b .nil pass0 (pa_cons (pv 1) (pa_cons (pv 2) pa_nil))))
      (pss_cons (ps_set (i := 4) nd rfl (.inl rfl) (pe_make M GW hr6 rfl T.mgC bM .nil pass0 (pa_cons (pv 2) (pa_cons (pv 3) pa_nil))))
      (pss_cons (ps_for PassesOwn.never rfl (pi_range1 rfl B.range (pa_cons pe_int pa_nil)) (pg_name (i := 5) nd rfl (.inl rfl))
        (pss_cons (ps_set (i := 6) nd rfl (.inl rfl) (pe_call GX hr3 rfl E1.DX.m E1.DX.k E1.DX.b .nil pass0 (pa_cons (pv 1) (pa_cons (pv 2) (pa_cons (pv 3) pa_nil)))))
        (pss_cons (ps_set (i := 7) nd rfl (.inl rfl) (pe_call GB hr3 rfl E1.DB.m E1.DB.k E1.DB.b .nil pass0 (pa_cons (pe_ix ix_tup (pv 6) pe_int (fun _ _ => rfl)) (pa_cons (pe_ix ix_tup (pv 6) pe_int (fun _ _ => rfl)) pa_nil))))
        (pss_cons (ps_set (i := 8) nd rfl (.inl rfl) (pe_tup (pa_cons pe_str (pa_cons (pv 7) pa_nil))))
        (pss_cons (ps_if (pt_cmp (pc_isN (pv 7))) (pss_one (ps_set (i := 8) nd rfl (.inl rfl) (pe_tup (pa_cons pe_str (pa_cons (pe_ix ix_tup (pv 6) pe_int (fun _ _ => rfl)) (pa_cons (pe_ix ix_tup (pv 6) pe_int (fun _ _ => rfl)) pa_nil)))))) pss_nil)
        (pss_cons (ps_if (pt_not (pt_val (pe_call GE hr5 rfl E1.DE.m E1.DE.k E1.DE.b .nil pass0 (pa_cons (pe_call GM hr rfl E1.DM.m E1.DM.k E1.DM.b .nil pass0 (pa_cons (pe_ix ix_tup (pv 6) pe_int (fun _ _ => rfl)) (pa_cons (pe_ix ix_tup (pv 6) pe_int (fun _ _ => rfl)) pa_nil))) (pa_cons (pv 8) pa_nil))))) pss_never pss_nil)
        (pss_one (ps_if (PW.pt (pw_and (pt_cmp (pc_isN (pv 7))) (pw_and1 (pt_cmpR op_ne (pe_cmpR (op_eqI GQ Q1.find Q1.fn Q1.nf Q1.b pass0 hr1) (pe_make M GW hr6 rfl T.mgC bM .nil pass0 (pa_cons (pe_ix ix_tup (pv 6) pe_int (fun _ _ => rfl)) (pa_cons (pe_ix ix_tup (pv 6) pe_int (fun _ _ => rfl)) pa_nil))) (pv 4) (nomark _))
          (pe_cmpR (op_eqD hu) (pv 6) (pe_tup (pa_cons (pv 2) (pa_cons (pv 3) pa_nil))) (nomark _)) (nomark _))))) pss_never pss_nil))))))))
      (pss_cons (ps_set (i := 9) nd rfl (.inl rfl) (pe_call GN hr1 rfl E1.DN.m E1.DN.k E1.DN.b .nil pass0 (pa_cons (pv 2) (pa_cons (pv 3) pa_nil))))
      (pss_cons (ps_for PassesOwn.never rfl (pi_range1 rfl B.range (pa_cons pe_int pa_nil)) (pg_name (i := 5) nd rfl (.inl rfl))
        (pss_cons (ps_set (i := 10) nd rfl (.inl rfl) (pe_call GP hr2 rfl E1.DP.m E1.DP.k E1.DP.b .nil pass0 (pa_cons (pv 1) (pa_cons (pe_lst (pa_cons (pe_call GT hr1 rfl E1.DT.m E1.DT.k E1.DT.b .nil pass0 (pa_cons (pv 1) (pa_cons (pv 2) pa_nil))) (pa_cons (pe_call GT hr1 rfl E1.DT.m E1.DT.k E1.DT.b .nil pass0 (pa_cons (pv 1) (pa_cons (pv 2) pa_nil)))
            (pa_cons (pv 2) (pa_cons (pe_un un_neg pe_int) (pa_cons pe_bl (pa_cons (pe_call GO hr2 rfl E1.DO.m E1.DO.k E1.DO.b .nil pass0 (pa_cons (pv 1) pa_nil)) pa_nil))))))) pa_nil))))
        (pss_cons (ps_set (i := 8) nd rfl (.inl rfl) (pe_tup (pa_cons pe_str pa_nil)))
        (pss_cons (ps_if (pt_val (pe_call GI hr2 rfl E1.DS.m E1.DS.k E1.DS.b .nil pass0 (pa_cons (pv 10) (pa_cons pe_int (pa_cons (pe_op op_sub (pv 2) pe_int) pa_nil)))))
          (pss_one (ps_set (i := 8) nd rfl (.inl rfl) (pe_tup (pa_cons pe_str (pa_cons (pe_callTy (r := rTupO K) cr_tupO (by rfl) B.tuple PyProof.Rows.boot_tuple (pa_cons (pe_ix ix_list (pv 9) (pv 10) (fun _ _ => rfl)) pa_nil)) pa_nil))))) pss_nil)
        (pss_one (ps_if (pt_not (pt_val (pe_call GE hr5 rfl E1.DE.m E1.DE.k E1.DE.b .nil pass0 (pa_cons (pe_call GY hr4 rfl E1.DY.m E1.DY.k E1.DY.b .nil pass0 (pa_cons (pv 4) (pa_cons (pv 10) pa_nil))) (pa_cons (pv 8) pa_nil))))) pss_never pss_nil))))))
      (pss_one (ps_ret (pe_and (pe_cmpR (op_eqI GQ Q1.find Q1.fn Q1.nf Q1.b pass0 hr1) (pv 4) (pe_make M GW hr6 rfl T.mgC bM .nil pass0 (pa_cons (pv 2) (pa_cons (pv 3) pa_nil))) (nomark _))
        (pe_and (pe_not (pe_cmpR (op_eqI GQ Q1.find Q1.fn Q1.nf Q1.b pass0 hr1) (pv 4) (pe_tup (pa_cons (pv 2) (pa_cons (pv 3) pa_nil))) (nomark _)))
        (pe_one (pe_call GE hr5 rfl E1.DE.m E1.DE.k E1.DE.b .nil pass0 (pa_cons (pe_tup (pa_cons (pe_fld (pv 4) rfl) (pa_cons (pe_fld (pv 4) rfl) pa_nil))) (pa_cons (pe_tup (pa_cons (pv 2) (pa_cons (pv 3) pa_nil))) pa_nil)))))))))))))), ?_⟩
    -- hand, many, ties
    refine ⟨_, rfl, a, ns, rfl, hS, hlen, fun p l H1 g1 hp0 hl0 s1 => ?_⟩
    refine ⟨_, rfl, _, rfl, (by show 4 ≤ sizeLine; decide), fun t ht => ?_⟩
    refine ⟨p, l, t, _, rfl, g1.new ht, upd_same, (g1.ne ht).1, (by show 0 < 4; decide), (by show 4 < 1000; decide), fun v H2 hv g2 b2 => ?_⟩
    obtain ⟨m0, rfl, z2, z40⟩ : ∃ m0 : Int, v = .int m0 ∧ 2 ≤ m0 ∧ m0 ≤ 40 := by
      simp only [List.mem_cons, List.not_mem_nil, or_false] at hv
      rcases hv with rfl | rfl | rfl | rfl <;> exact ⟨_, rfl, by decide, by decide⟩
    refine ⟨p, l, m0, rfl, g2, by omega, by omega, fun d H3 d0 d1 g3 b3 => ?_⟩
    refine ⟨_, _, rfl, rfl, ?_⟩
    obtain ⟨m, em, m1, m40⟩ : ∃ m : Int, 1 + d = m ∧ 1 ≤ m ∧ m ≤ 40 := ⟨1 + d, rfl, by omega, by omega⟩
    have ev : (fun i j : Int => V.int (i + j)) 1 d = V.int m := by rw [← em]
    show gName 2 ((fun i j : Int => V.int (i + j)) 1 d) _ _ _
    rw [ev]
    refine ⟨_, rfl, _, rfl, p, l, m, rfl, g3, m1, m40, fun q L H4 tt conn few g4 x4 => ?_⟩
    have TT : TL m L := ⟨tt.ok, conn_from0 tt.ok conn, m1, m40⟩
    -- web
    refine ⟨_, rfl, _, rfl, fun x dx nx ndx nex => ?_⟩
    have sx : Same H4 (upd (upd H4 dx (.own x)) x (.ins C dx [])) := sNew (sNew (fun _ _ e => e) ndx) nx
    refine ⟨x, dx, m, q, L, rfl, upd_same, tt.same sx, TT, fun r bs nb H5 wi x5 => ⟨rfl, ?_⟩⟩
    have s45 : Same H4 H5 := fun b o e => x5 b o (sx b o e) (ne_of_none e nx)
    have g5 : HandAt H5 p l := g4.same s45
    refine ⟨4, rfl, by decide, by decide, for_range (lo := 0) (n := 4) (fun i σ H' => ∃ (x5 x6 x7 x8 : Option V), σ = [some (.ref a), some (.ref p), some (.int m), some (.ref q), some (.ref x), x5, x6, x7, x8, none, none] ∧ HandAt H' p l ∧ WebIn C m L H' x dx q r bs nb) ?_ ?_ ?_⟩
    · exact ⟨none, none, none, none, rfl, g5, wi⟩
    · rintro i σ H6 hi ⟨y5, y6, y7, y8, rfl, g6, w6⟩
      refine ⟨_, rfl, _, rfl, _, rfl, p, l, m, q, L, rfl, g6, w6.ties, few, m1, m40, fun pr v u H7 g7 x7 epr pre => ?_⟩
      have w7 := w6.ext g6 x7
      refine ⟨_, rfl, pr, [v, u], 0, v, rfl, rfl, SqT.of epr, rfl, _, rfl, pr, [v, u], 1, u, rfl, rfl, SqT.of epr, rfl, v, u, rfl, pre, fun rb H8 s8 hb => ?_⟩
      refine ⟨_, rfl, (by show 2 ≤ sizeLine; decide), fun d1 n1 => ?_⟩
      have s9 : Same H7 (upd H8 d1 (.tup [.str "BadWeb", rb])) := fun b o e => sN n1 _ _ (s8 _ _ e)
      rcases hb with bp | ⟨rfl, m', q', L', fw⟩
      · have nn : rb ≠ .non := by
          rcases bp.flat with ⟨i, rfl⟩ | ⟨z, rfl⟩ <;> exact fun e => nomatch e
        refine ⟨_, rfl, _, rfl, ite2 (fun c => absurd (of_decide_eq_true c) nn) (fun _ => ?_)⟩
        refine ⟨_, rfl, pr, [v, u], 0, v, rfl, rfl, SqT.of (s9 _ _ epr), rfl, _, rfl, pr, [v, u], 1, u, rfl, rfl, SqT.of (s9 _ _ epr), rfl, v, u, rfl, pre.same s9, fun tm H10 s10 hm => ?_⟩
        rcases hm with ⟨r', bp', etm⟩ | ⟨m', q', L', fw', etm⟩
        · obtain rfl := (bp'.back pre s9).uniq bp
          refine ⟨_, rfl, _, _, rfl, sm_two etm (s10 _ _ upd_same) (sm_flat (.inr ⟨_, rfl⟩)) (sm_flat bp.flat), fun H11 s11 => ⟨_, rfl, iteF ?_⟩⟩
          have ss : Same H7 H11 := fun b o e => s11 _ _ (s10 _ _ (s9 _ _ e))
          refine ⟨_, rfl, _, rfl, ite2 (fun c => absurd (of_decide_eq_true c) nn) (fun _ => ?_)⟩
          exact ⟨_, _, _, _, rfl, g7.same ss, w7.same ss⟩
        · exact ((fw'.back pre s9).not_bad bp).elim
      · refine ⟨_, rfl, _, rfl, ite2 (fun _ => ?_) (fun c => absurd (decide_eq_true rfl) c)⟩
        obtain ⟨rfl, rfl, tt', tl'⟩ := fw
        refine ⟨_, rfl, pr, [.int m', .ref q'], 0, .int m', rfl, rfl, SqT.of (s9 _ _ epr), rfl, _, rfl, pr, [.int m', .ref q'], 1, .ref q', rfl, rfl, SqT.of (s9 _ _ epr), rfl, (by show 3 ≤ sizeLine; decide), fun d2 n2 => ?_⟩
        have sA : Same H7 (upd (upd H8 d1 (.tup [.str "BadWeb", .non])) d2 (.tup [.str "told", .int m', .ref q'])) := fun b o e => sN n2 _ _ (s9 _ _ e)
        refine ⟨_, rfl, pr, [.int m', .ref q'], 0, .int m', rfl, rfl, SqT.of (sA _ _ epr), rfl, _, rfl, pr, [.int m', .ref q'], 1, .ref q', rfl, rfl, SqT.of (sA _ _ epr), rfl, .int m', .ref q', rfl, pre.same sA, fun tm H10 s10 hm => ?_⟩
        rcases hm with ⟨r', bp', etm⟩ | ⟨_, _, _, fw', etm⟩
        · exact ((FineW.mk rfl rfl tt' tl').not_bad (bp'.back pre sA)).elim
        · clear fw'
          have sB : Same H7 H10 := fun b o e => s10 _ _ (sA _ _ e)
          refine ⟨_, rfl, _, _, rfl, sm_three etm (s10 _ _ upd_same) (sm_flat (.inr ⟨_, rfl⟩)) (sm_flat (.inl ⟨_, rfl⟩)) (sm_ties (tt'.same sB)), fun H11 s11 => ⟨_, rfl, iteF ?_⟩⟩
          have sC : Same H7 H11 := fun b o e => s11 _ _ (sB _ _ e)
          refine ⟨_, rfl, _, rfl, ite2 (fun _ => ?_) (fun c => absurd (decide_eq_true rfl) c)⟩
          refine ⟨_, rfl, pr, [.int m', .ref q'], 0, .int m', rfl, rfl, SqT.of (sC _ _ epr), rfl, _, rfl, pr, [.int m', .ref q'], 1, .ref q', rfl, rfl, SqT.of (sC _ _ epr), rfl, fun x2 dx2 nx2 ndx2 nex2 => ?_⟩
          have sD : Same H11 (upd (upd H11 dx2 (.own x2)) x2 (.ins C dx2 [])) := sNew (sNew (fun _ _ e => e) ndx2) nx2
          refine ⟨x2, dx2, m', q', L', rfl, upd_same, (tt'.same sC).same sD, tl', fun r2 bs2 nb2 H12 wi2 x12 => ⟨rfl, ?_⟩⟩
          have sE : Same H11 H12 := fun b o e => x12 b o (sD b o e) (ne_of_none e nx2)
          have sF : Same H7 H12 := fun b o e => sE _ _ (sC _ _ e)
          have w12 := w7.same sF
          refine ⟨_, rfl, x2, dx2, _, rfl, wi2.at_, .inl ⟨x, dx, _, rfl, w12.at_⟩, x2, m', L', dx2, q', r2, bs2, nb2, _, rfl, wi2, .inl ⟨x, m, L, dx, q, r, bs, nb, rfl, w12, ⟨_, rfl⟩, ?_⟩⟩
          refine ⟨_, rfl, _, rfl, _, rfl, (by show 2 ≤ sizeLine; decide), fun d3 n3 => ?_⟩
          have sG := sN (o := .tup [.int m, .ref q]) n3
          refine ⟨_, _, .tup (SqT.of (sG _ _ (sF _ _ epr))) (.cons (.int m') (.cons (dp_ties ((tt'.same sF).same sG)) .nil)), .tup (SqT.of upd_same) (.cons (.int m) (.cons (dp_ties (w12.ties.same sG)) .nil)), shaped_pair _ _, shaped_pair _ _, rfl, _, rfl, ?_⟩
          rw [eqv_pair, decide_eq_true rfl]
          exact iteF ⟨_, _, _, _, rfl, (g7.same sF).same sG, w12.same sG⟩
    · rintro σ H6 ⟨y5, y6, y7, y8, rfl, g6, w6⟩
      refine ⟨_, rfl, _, rfl, m, q, L, rfl, m1, m40, w6.ties, fun nr nbs nnb H7 nrow nnbof nsrt nrf nbf s7 => ?_⟩
      have g7 := g6.same s7
      have w7 := w6.same s7
      have nrp : nr ≠ p := by
        obtain ⟨xs, e⟩ := g6.hp
        exact (ne_of_none e nrf).symm
      have nbp : ∀ a ∈ nbs, a ≠ p := by
        obtain ⟨xs, e⟩ := g6.hp
        exact fun a ha => (ne_of_none e (nbf a ha)).symm
      refine ⟨5, rfl, by decide, by decide, for_range (lo := 0) (n := 5) (fun i σ H' => ∃ (x5 x6 x7 x8 x10 : Option V), σ = [some (.ref a), some (.ref p), some (.int m), some (.ref q), some (.ref x), x5, x6, x7, x8, some (.ref nr), x10] ∧ HandAt H' p l ∧ WebIn C m L H' x dx q r bs nb ∧ RowsL H' nr nbs nnb m.toNat) ?_ ?_ ?_⟩
      · exact ⟨y5, y6, y7, y8, none, rfl, g7, w7, nrow⟩
      · clear g7 w7 nrow
        rintro i σ H8 hi ⟨z5, z6, z7, z8, z10, rfl, g8, w8, n8⟩
        refine ⟨_, rfl, _, rfl, _, rfl, p, l, m, rfl, g8, by omega, by omega, fun e1 H9 e10 e11 g9 b9 => ?_⟩
        refine ⟨_, rfl, _, rfl, p, l, m, rfl, g9, by omega, by omega, fun e2 H10 e20 e21 g10 b10 => ?_⟩
        refine ⟨_, rfl, _, rfl, _, rfl, p, l, rfl, g10, fun v H11 wv g11 x11 => ?_⟩
        refine ⟨(by show 6 ≤ sizeLine; decide), fun ml hml => ?_⟩
        have g12 := g11.new (o := .lst [.int e1, .int e2, .int m, .int (-1), .bl true, v]) hml
        refine ⟨p, l, ml, _, rfl, g12, upd_same, (g11.ne hml).1, (by show 0 < 6; decide), (by show 6 < 1000; decide), fun v1 H13 hv1 g13 b13 => ?_⟩
        have x13 : Ext p H8 H13 := (((Ext.rfl'.but b9).but b10).trans x11).same (sN hml) |>.but b13
        have w13 := w8.ext g8 x13
        have n13 := n8.ext x13 nrp nbp
        have kv : Kd H13 v1 := by
          have z : Kd (upd H11 ml (.lst [.int e1, .int e2, .int m, .int (-1), .bl true, v])) v1 := by
            simp only [List.mem_cons, List.not_mem_nil, or_false] at hv1
            rcases hv1 with rfl | rfl | rfl | rfl | rfl | rfl
            · exact .int _
            · exact .int _
            · exact .int _
            · exact .int _
            · exact .bl _
            · exact wv.1.kd.same (sN hml)
          exact z.ext g12 g13 (Ext.rfl'.but b13)
        refine ⟨(by show 1 ≤ sizeLine; decide), fun d1 n1 => ?_⟩
        have s14 := sN (o := .tup [.str "NoHouse"]) n1
        have w14 := w13.same s14
        refine ⟨_, rfl, _, rfl, _, _, rfl, rfl, v1, m, rfl, kv.same s14, _, rfl, ite2 (fun c => ?_) (fun c => ?_)⟩
        · obtain ⟨h, ha⟩ : ∃ h, IsH m v1 h := by
            rcases kv.house (K := K) m with ⟨_, h⟩ | ⟨e, _⟩
            · exact h
            · rw [e] at c
              exact absurd c Bool.false_ne_true
          have ul : h < nbs.length := by rw [n13.len]; exact ha.2
          have gu : nbs[h]? = some nbs[h] := List.getElem?_eq_getElem ul
          have row := s14 _ _ (n13.row h _ gu)
          obtain ⟨rfl, hm⟩ := id ha
          refine ⟨_, rfl, _, rfl, nr, _, (h : Int), _, rfl, rfl, SqL.of (s14 _ _ n13.at_), atI_nat (map_get gu), nbs[h], _, rfl, .inl ⟨SqL.of row, fun tn hn => ?_⟩⟩
          refine ⟨(by show 2 ≤ sizeLine; decide), fun d2 n2 => ?_⟩
          have s15 : Same H13 (upd (upd (upd H13 d1 (.tup [.str "NoHouse"])) tn (.tup ((nnb h).map V.int))) d2 (.tup [.str "told", .ref tn])) := fun b o e => sN n2 _ _ (sN hn _ _ (s14 _ _ e))
          have w15 := w13.same s15
          refine ⟨_, rfl, _, rfl, x, m, L, dx, q, r, bs, nb, _, rfl, w15, kv.same s15, fun tb H16 s16 hb => ?_⟩
          rcases hb with ⟨h', ta, ha', _, eta, etb⟩ | ⟨e, _⟩
          · have eh : h' = h := by
              have z := V.int.inj ha'.1
              omega
            subst eh
            have erow := s16 _ _ (w15.rows.row h' ta eta)
            have eq : nb h' = nnb h' := asc_eq (w15.srt h' hm) (nsrt h' hm) fun j => (w15.nbo h' hm j).trans (nnbof h' hm j).symm
            rw [eq] at erow
            refine ⟨_, rfl, _, _, rfl, sm_two etb (s16 _ _ upd_same) (sm_flat (.inr ⟨_, rfl⟩)) (sm_ints erow (s16 _ _ (sN n2 _ _ upd_same))), fun H17 s17 => ⟨_, rfl, iteF ?_⟩⟩
            have ss : Same H13 H17 := fun b o e => s17 _ _ (s16 _ _ (s15 _ _ e))
            exact ⟨_, _, _, _, _, rfl, g13.same ss, w13.same ss, n13.same ss⟩
          · rw [e] at c
            exact absurd c Bool.false_ne_true
        · have e0 : houseB m v1 = false := by
            cases z : houseB m v1 with
            | true => exact absurd z c
            | false => rfl
          refine ⟨_, rfl, _, rfl, x, m, L, dx, q, r, bs, nb, _, rfl, w14, kv.same s14, fun tb H16 s16 hb => ?_⟩
          rcases hb with ⟨_, _, _, e, _⟩ | ⟨_, etb⟩
          · rw [e] at e0
            cases e0
          · refine ⟨_, rfl, _, _, rfl, sm_tup etb (s16 _ _ upd_same) rfl (fun i x y hx hy => ?_), fun H17 s17 => ⟨_, rfl, iteF ?_⟩⟩
            · rw [hx] at hy
              cases hy
              match i with
              | 0 => cases hx; exact sm_flat (.inr ⟨_, rfl⟩)
              | i + 1 => cases hx
            · have ss : Same H13 H17 := fun b o e => s17 _ _ (s16 _ _ (s14 _ _ e))
              exact ⟨_, _, _, _, _, rfl, g13.same ss, w13.same ss, n13.same ss⟩
      · clear g7 w7 nrow
        rintro σ H8 ⟨z5, z6, z7, z8, z10, rfl, g8, w8, n8⟩
        refine ⟨_, rfl, _, rfl, _, rfl, fun x2 dx2 nx2 ndx2 nex2 => ?_⟩
        have sD : Same H8 (upd (upd H8 dx2 (.own x2)) x2 (.ins C dx2 [])) := sNew (sNew (fun _ _ e => e) ndx2) nx2
        refine ⟨x2, dx2, m, q, L, rfl, upd_same, w8.ties.same sD, TT, fun r2 bs2 nb2 H9 wi2 x9 => ⟨rfl, ?_⟩⟩
        have sE : Same H8 H9 := fun b o e => x9 b o (sD b o e) (ne_of_none e nx2)
        have w9 := w8.same sE
        refine ⟨x, dx, _, rfl, w9.at_, .inl ⟨x2, dx2, _, rfl, wi2.at_⟩, x, m, L, dx, q, r, bs, nb, _, rfl, w9, .inl ⟨x2, m, L, dx2, q, r2, bs2, nb2, rfl, wi2, ⟨_, rfl⟩, _, rfl, ?_⟩⟩
        rw [eqv_dT, decide_eq_true rfl, decide_eq_true rfl]
        refine iteT ?_
        refine ⟨_, rfl, _, rfl, _, rfl, (by show 2 ≤ sizeLine; decide), fun t1 n1 => ?_⟩
        have s10 := sN (o := .tup [.int m, .ref q]) n1
        have w10 := w9.same s10
        refine ⟨x, dx, _, rfl, w10.at_, .inr ⟨t1, _, rfl, upd_same⟩, x, m, L, dx, q, r, bs, nb, _, rfl, w10, .inr ⟨t1, _, rfl, upd_same, ⟨_, rfl⟩, _, rfl, _, rfl, iteT ?_⟩⟩
        refine ⟨_, rfl, x, C, dx, _, _, rfl, w10.at_, T.cl, T.nM, wf_many _ _ _, _, rfl, x, C, dx, _, _, rfl, w10.at_, T.cl, T.nT, wf_ties _ _ _, (by show 2 ≤ sizeLine; decide), fun t2 n2 => ?_⟩
        refine ⟨_, rfl, _, rfl, (by show 2 ≤ sizeLine; decide), fun t3 n3 => ?_⟩
        have s12 : Same H9 (upd (upd (upd H9 t1 (.tup [.int m, .ref q])) t2 (.tup [.int m, .ref q])) t3 (.tup [.int m, .ref q])) := fun b o e => sN n3 _ _ (sN n2 _ _ (s10 _ _ e))
        refine ⟨_, _, rfl, sm_two (sN n3 _ _ upd_same) upd_same (sm_flat (.inl ⟨_, rfl⟩)) (sm_ties (w9.ties.same s12)), fun H13 s13 => ?_⟩
        exact k _
end
end Q

namespace Q
open PySem L2 QM QS PySem.HandSPX
theorem all_mk {l : PySem.W.OpenLaw} {w : World} {K : PySem.W.Frag} {h : Heap} {mg : Str → Option Value} {fa C fM : Addr} (X : K.In h) (G : h.Ns mainGlobals mg) (hfa : mg "law" = some (.ref fa)) {tm : Tok}
    {CN fN cdaN ccN : Addr} {nmN qN : Str} {NN : Addr} {bsN bmN : List Value} {snN : List Str} {subN : List Value} {abN : Bool} {colN : Option Bool} {ddN : Option Addr} {k0N k1N k2N k3N k5N : Option Value} {ocN : Value} {odN : Option Addr} {docN pmN : Value} {anN : Option Addr} {ctN : Value} {oslN : Array (Option Value)} {pN q1N q2N q3N q4N q5N : Pos} {cclN clN : Value} {cddN cldN : Option Addr} {ccsN cslN : Array (Option Value)} {vsN : Array Value} {fileN : Str} {tfN : Tok} {CB fB fQ : Addr} {nmB qB : Str} {NB : Addr} {bsB bmB : List Value} {snB : List Str} {subB : List Value} {abB : Bool} {colB : Option Bool} {ddB : Option Addr} {k0B k1B k2B k3B k5B : Option Value} {ocB ocQ : Value} {odB odQ anB anQ : Option Addr} {slB slQ : Array (Option Value)} {kVB dcB pmB cdB ctB kVQ dcQ pmQ cdQ ctQ : Value} {odM anM : Option Addr} {slM : Array (Option Value)} {ocM kVM dcM pmM cdM ctM : Value}
    {f0 : Addr} {od0 an0 : Option Addr} {sl0 : Array (Option Value)} {oc0 kV0 dc0 pm0 cd0 ct0 : Value}
    {f1 : Addr} {od1 an1 : Option Addr} {sl1 : Array (Option Value)} {oc1 kV1 dc1 pm1 cd1 ct1 : Value}
    {f2 : Addr} {od2 an2 : Option Addr} {sl2 : Array (Option Value)} {oc2 kV2 dc2 pm2 cd2 ct2 : Value}
    {f3 : Addr} {od3 an3 : Option Addr} {sl3 : Array (Option Value)} {oc3 kV3 dc3 pm3 cd3 ct3 : Value}
    {f4 : Addr} {od4 an4 : Option Addr} {sl4 : Array (Option Value)} {oc4 kV4 dc4 pm4 cd4 ct4 : Value}
    {f5 : Addr} {od5 an5 : Option Addr} {sl5 : Array (Option Value)} {oc5 kV5 dc5 pm5 cd5 ct5 : Value}
    {f6 : Addr} {od6 an6 : Option Addr} {sl6 : Array (Option Value)} {oc6 kV6 dc6 pm6 cd6 ct6 : Value}
    {f7 : Addr} {od7 an7 : Option Addr} {sl7 : Array (Option Value)} {oc7 kV7 dc7 pm7 cd7 ct7 : Value}
    {f8 : Addr} {od8 an8 : Option Addr} {sl8 : Array (Option Value)} {oc8 kV8 dc8 pm8 cd8 ct8 : Value}
    {f9 : Addr} {od9 an9 : Option Addr} {sl9 : Array (Option Value)} {oc9 kV9 dc9 pm9 cd9 ct9 : Value}
    {f10 : Addr} {od10 an10 : Option Addr} {sl10 : Array (Option Value)} {oc10 kV10 dc10 pm10 cd10 ct10 : Value}
    {f11 : Addr} {od11 an11 : Option Addr} {sl11 : Array (Option Value)} {oc11 kV11 dc11 pm11 cd11 ct11 : Value}
    {f12 : Addr} {od12 an12 : Option Addr} {sl12 : Array (Option Value)} {oc12 kV12 dc12 pm12 cd12 ct12 : Value}
    {f13 : Addr} {od13 an13 : Option Addr} {sl13 : Array (Option Value)} {oc13 kV13 dc13 pm13 cd13 ct13 : Value}
    {f14 : Addr} {od14 an14 : Option Addr} {sl14 : Array (Option Value)} {oc14 kV14 dc14 pm14 cd14 ct14 : Value}
    {f15 : Addr} {od15 an15 : Option Addr} {sl15 : Array (Option Value)} {oc15 kV15 dc15 pm15 cd15 ct15 : Value}
    {f16 : Addr} {od16 an16 : Option Addr} {sl16 : Array (Option Value)} {oc16 kV16 dc16 pm16 cd16 ct16 : Value}
    {f17 : Addr} {od17 an17 : Option Addr} {sl17 : Array (Option Value)} {oc17 kV17 dc17 pm17 cd17 ct17 : Value}
    {f18 : Addr} {od18 an18 : Option Addr} {sl18 : Array (Option Value)} {oc18 kV18 dc18 pm18 cd18 ct18 : Value}
    {f19 : Addr} {od19 an19 : Option Addr} {sl19 : Array (Option Value)} {oc19 kV19 dc19 pm19 cd19 ct19 : Value}
    {f20 : Addr} {od20 an20 : Option Addr} {sl20 : Array (Option Value)} {oc20 kV20 dc20 pm20 cd20 ct20 : Value}
    {f21 : Addr} {od21 an21 : Option Addr} {sl21 : Array (Option Value)} {oc21 kV21 dc21 pm21 cd21 ct21 : Value}
    (aC : PySem.W.nsIn K mainGlobals "Web" = some (some (.ref C)))
    (aO : PySem.W.nsIn K mainGlobals "MOST_HOUSES" = some (some (.int 40 tm)))
    (aM : PySem.W.findIn K (.ref C) "__init__" = some (some (.ref fM)))
    (iM : PySem.W.isFn K (.ref fM) = true)
    (lM : K.lookup fM = some ⟨ocM, odM, .func (PySem.W.fnOf "__init__" "Web.__init__" (defArgs sWeb) (defBody sWeb) (defScope sWeb) .none kVM dcM pmM anM cdM ctM), slM⟩)
    (cM : PySem.W.codeIn K cdM "Web.__init__" = true)
    (kM : PySem.W.keepIn K (.ref fM) = true)
    (a0 : PySem.W.nsIn K mainGlobals "is_plain_int" = some (some (.ref f0)))
    (l0 : K.lookup f0 = some ⟨oc0, od0, .func (PySem.W.fnOf "is_plain_int" "is_plain_int" (defArgs sPlain) (defBody sPlain) (defScope sPlain) .none kV0 dc0 pm0 an0 cd0 ct0), sl0⟩)
    (c0 : PySem.W.codeIn K cd0 "is_plain_int" = true)
    (k0 : PySem.W.keepIn K (.ref f0) = true)
    (a1 : PySem.W.nsIn K mainGlobals "is_number_below" = some (some (.ref f1)))
    (l1 : K.lookup f1 = some ⟨oc1, od1, .func (PySem.W.fnOf "is_number_below" "is_number_below" (defArgs sNum) (defBody sNum) (defScope sNum) .none kV1 dc1 pm1 an1 cd1 ct1), sl1⟩)
    (c1 : PySem.W.codeIn K cd1 "is_number_below" = true)
    (k1 : PySem.W.keepIn K (.ref f1) = true)
    (a2 : PySem.W.nsIn K mainGlobals "is_tie" = some (some (.ref f2)))
    (l2 : K.lookup f2 = some ⟨oc2, od2, .func (PySem.W.fnOf "is_tie" "is_tie" (defArgs sTie) (defBody sTie) (defScope sTie) .none kV2 dc2 pm2 an2 cd2 ct2), sl2⟩)
    (c2 : PySem.W.codeIn K cd2 "is_tie" = true)
    (k2 : PySem.W.keepIn K (.ref f2) = true)
    (a3 : PySem.W.nsIn K mainGlobals "first_wrong_tie" = some (some (.ref f3)))
    (l3 : K.lookup f3 = some ⟨oc3, od3, .func (PySem.W.fnOf "first_wrong_tie" "first_wrong_tie" (defArgs sFirst) (defBody sFirst) (defScope sFirst) .none kV3 dc3 pm3 an3 cd3 ct3), sl3⟩)
    (c3 : PySem.W.codeIn K cd3 "first_wrong_tie" = true)
    (k3 : PySem.W.keepIn K (.ref f3) = true)
    (a4 : PySem.W.nsIn K mainGlobals "houses_beside" = some (some (.ref f4)))
    (l4 : K.lookup f4 = some ⟨oc4, od4, .func (PySem.W.fnOf "houses_beside" "houses_beside" (defArgs sBeside) (defBody sBeside) (defScope sBeside) .none kV4 dc4 pm4 an4 cd4 ct4), sl4⟩)
    (c4 : PySem.W.codeIn K cd4 "houses_beside" = true)
    (k4 : PySem.W.keepIn K (.ref f4) = true)
    (a5 : PySem.W.nsIn K mainGlobals "steps_from" = some (some (.ref f5)))
    (l5 : K.lookup f5 = some ⟨oc5, od5, .func (PySem.W.fnOf "steps_from" "steps_from" (defArgs sSteps) (defBody sSteps) (defScope sSteps) .none kV5 dc5 pm5 an5 cd5 ct5), sl5⟩)
    (c5 : PySem.W.codeIn K cd5 "steps_from" = true)
    (k5 : PySem.W.keepIn K (.ref f5) = true)
    (a6 : PySem.W.nsIn K mainGlobals "_law_hand" = some (some (.ref f6)))
    (l6 : K.lookup f6 = some ⟨oc6, od6, .func (PySem.W.fnOf "_law_hand" "_law_hand" (defArgs sHand) (defBody sHand) (defScope sHand) .none kV6 dc6 pm6 an6 cd6 ct6), sl6⟩)
    (c6 : PySem.W.codeIn K cd6 "_law_hand" = true)
    (k6 : PySem.W.keepIn K (.ref f6) = true)
    (a7 : PySem.W.nsIn K mainGlobals "_law_take" = some (some (.ref f7)))
    (l7 : K.lookup f7 = some ⟨oc7, od7, .func (PySem.W.fnOf "_law_take" "_law_take" (defArgs sTake) (defBody sTake) (defScope sTake) .none kV7 dc7 pm7 an7 cd7 ct7), sl7⟩)
    (c7 : PySem.W.codeIn K cd7 "_law_take" = true)
    (k7 : PySem.W.keepIn K (.ref f7) = true)
    (a8 : PySem.W.nsIn K mainGlobals "_law_pick" = some (some (.ref f8)))
    (l8 : K.lookup f8 = some ⟨oc8, od8, .func (PySem.W.fnOf "_law_pick" "_law_pick" (defArgs sPick) (defBody sPick) (defScope sPick) .none kV8 dc8 pm8 an8 cd8 ct8), sl8⟩)
    (c8 : PySem.W.codeIn K cd8 "_law_pick" = true)
    (k8 : PySem.W.keepIn K (.ref f8) = true)
    (a9 : PySem.W.nsIn K mainGlobals "_law_is_integer" = some (some (.ref f9)))
    (l9 : K.lookup f9 = some ⟨oc9, od9, .func (PySem.W.fnOf "_law_is_integer" "_law_is_integer" (defArgs sInt) (defBody sInt) (defScope sInt) .none kV9 dc9 pm9 an9 cd9 ct9), sl9⟩)
    (c9 : PySem.W.codeIn K cd9 "_law_is_integer" = true)
    (k9 : PySem.W.keepIn K (.ref f9) = true)
    (a10 : PySem.W.nsIn K mainGlobals "_law_is_within" = some (some (.ref f10)))
    (l10 : K.lookup f10 = some ⟨oc10, od10, .func (PySem.W.fnOf "_law_is_within" "_law_is_within" (defArgs sWithin) (defBody sWithin) (defScope sWithin) .none kV10 dc10 pm10 an10 cd10 ct10), sl10⟩)
    (c10 : PySem.W.codeIn K cd10 "_law_is_within" = true)
    (k10 : PySem.W.keepIn K (.ref f10) = true)
    (a11 : PySem.W.nsIn K mainGlobals "_law_same" = some (some (.ref f11)))
    (l11 : K.lookup f11 = some ⟨oc11, od11, .func (PySem.W.fnOf "_law_same" "_law_same" (defArgs sSame) (defBody sSame) (defScope sSame) .none kV11 dc11 pm11 an11 cd11 ct11), sl11⟩)
    (c11 : PySem.W.codeIn K cd11 "_law_same" = true)
    (k11 : PySem.W.keepIn K (.ref f11) = true)
    (a12 : PySem.W.nsIn K mainGlobals "_law_odd" = some (some (.ref f12)))
    (l12 : K.lookup f12 = some ⟨oc12, od12, .func (PySem.W.fnOf "_law_odd" "_law_odd" (defArgs sOdd) (defBody sOdd) (defScope sOdd) .none kV12 dc12 pm12 an12 cd12 ct12), sl12⟩)
    (c12 : PySem.W.codeIn K cd12 "_law_odd" = true)
    (k12 : PySem.W.keepIn K (.ref f12) = true)
    (a13 : PySem.W.nsIn K mainGlobals "_law_ties" = some (some (.ref f13)))
    (l13 : K.lookup f13 = some ⟨oc13, od13, .func (PySem.W.fnOf "_law_ties" "_law_ties" (defArgs sTies) (defBody sTies) (defScope sTies) .none kV13 dc13 pm13 an13 cd13 ct13), sl13⟩)
    (c13 : PySem.W.codeIn K cd13 "_law_ties" = true)
    (k13 : PySem.W.keepIn K (.ref f13) = true)
    (a14 : PySem.W.nsIn K mainGlobals "_law_near" = some (some (.ref f14)))
    (l14 : K.lookup f14 = some ⟨oc14, od14, .func (PySem.W.fnOf "_law_near" "_law_near" (defArgs sNear) (defBody sNear) (defScope sNear) .none kV14 dc14 pm14 an14 cd14 ct14), sl14⟩)
    (c14 : PySem.W.codeIn K cd14 "_law_near" = true)
    (k14 : PySem.W.keepIn K (.ref f14) = true)
    (a15 : PySem.W.nsIn K mainGlobals "_law_waves" = some (some (.ref f15)))
    (l15 : K.lookup f15 = some ⟨oc15, od15, .func (PySem.W.fnOf "_law_waves" "_law_waves" (defArgs sWaves) (defBody sWaves) (defScope sWaves) .none kV15 dc15 pm15 an15 cd15 ct15), sl15⟩)
    (c15 : PySem.W.codeIn K cd15 "_law_waves" = true)
    (k15 : PySem.W.keepIn K (.ref f15) = true)
    (a16 : PySem.W.nsIn K mainGlobals "_law_bad_web" = some (some (.ref f16)))
    (l16 : K.lookup f16 = some ⟨oc16, od16, .func (PySem.W.fnOf "_law_bad_web" "_law_bad_web" (defArgs sBad) (defBody sBad) (defScope sBad) .none kV16 dc16 pm16 an16 cd16 ct16), sl16⟩)
    (c16 : PySem.W.codeIn K cd16 "_law_bad_web" = true)
    (k16 : PySem.W.keepIn K (.ref f16) = true)
    (a17 : PySem.W.nsIn K mainGlobals "_law_spoilt" = some (some (.ref f17)))
    (l17 : K.lookup f17 = some ⟨oc17, od17, .func (PySem.W.fnOf "_law_spoilt" "_law_spoilt" (defArgs sSpoilt) (defBody sSpoilt) (defScope sSpoilt) .none kV17 dc17 pm17 an17 cd17 ct17), sl17⟩)
    (c17 : PySem.W.codeIn K cd17 "_law_spoilt" = true)
    (k17 : PySem.W.keepIn K (.ref f17) = true)
    (a18 : PySem.W.nsIn K mainGlobals "_law_made" = some (some (.ref f18)))
    (l18 : K.lookup f18 = some ⟨oc18, od18, .func (PySem.W.fnOf "_law_made" "_law_made" (defArgs sMade) (defBody sMade) (defScope sMade) .none kV18 dc18 pm18 an18 cd18 ct18), sl18⟩)
    (c18 : PySem.W.codeIn K cd18 "_law_made" = true)
    (k18 : PySem.W.keepIn K (.ref f18) = true)
    (a19 : PySem.W.nsIn K mainGlobals "_law_beside" = some (some (.ref f19)))
    (l19 : K.lookup f19 = some ⟨oc19, od19, .func (PySem.W.fnOf "_law_beside" "_law_beside" (defArgs sBsd) (defBody sBsd) (defScope sBsd) .none kV19 dc19 pm19 an19 cd19 ct19), sl19⟩)
    (c19 : PySem.W.codeIn K cd19 "_law_beside" = true)
    (k19 : PySem.W.keepIn K (.ref f19) = true)
    (a20 : PySem.W.nsIn K mainGlobals "neighbours" = some (some (.ref f20)))
    (l20 : K.lookup f20 = some ⟨oc20, od20, .func (PySem.W.fnOf "neighbours" "neighbours" (defArgs sNb) (defBody sNb) (defScope sNb) .none kV20 dc20 pm20 an20 cd20 ct20), sl20⟩)
    (c20 : PySem.W.codeIn K cd20 "neighbours" = true)
    (k20 : PySem.W.keepIn K (.ref f20) = true)
    (a21 : PySem.W.nsIn K mainGlobals "law" = some (some (.ref f21)))
    (l21 : K.lookup f21 = some ⟨oc21, od21, .func (PySem.W.fnOf "law" "law" (defArgs sLaw) (defBody sLaw) (defScope sLaw) .none kV21 dc21 pm21 an21 cd21 ct21), sl21⟩)
    (c21 : PySem.W.codeIn K cd21 "law" = true)
    (k21 : PySem.W.keepIn K (.ref f21) = true)
    (pg : PySem.W.plainGet K C Str.empty = true)
    (hd : PySem.W.hasDictIn K C = true)
    (po : PySem.W.plainOver K C = true)
    (sa : PySem.W.findIn K (.ref C) "__setattr__" = some (some (.builtin "object.__setattr__")))
    (mk : PySem.W.makesIn K C = true)
    (kc : PySem.W.keepIn K (.ref C) = true)
    (xN : PySem.W.nsIn K mainGlobals "NoHouse" = some (some (.ref CN)))
    (xl : K.lookup CN = some (PySem.excClassObj nmN qN CN NN bsN bmN true snN subN abN colN ddN k0N k1N k2N k3N k5N "ValueError.__new__"))
    (xi : PySem.W.findIn K (.ref CN) "__init__" = some (some (.ref fN)))
    (xt : PySem.W.typeIn K (.ref fN) = some (.type "function"))
    (xk : PySem.W.keepIn K (.ref CN) = true)
    (xb : PySem.W.subIn K (.ref CN) (.type "BaseException") = some true)
    (xv : PySem.W.subIn K (.ref CN) (.type "ValueError") = some true)
    (xy : PySem.W.typeIn K (.ref CN) = some (.type "type"))
    (xm : PySem.W.mroIn K CN (.ref CN) = some true)
    (xs : PySem.W.subIn K (.ref CN) (.ref CN) = some true)
    (xz : PySem.W.isClsIn K CN = true)
    (xsu : PySem.W.nsIn K mainGlobals "super" = some none)
    (xo : PySem.W.nsIn K cStatics "thirdparty.any" = some none)
    (xf : K.lookup fN = some ⟨ocN, odN, .func (PySem.W.ksFn "__init__" "NoHouse.__init__" (supAr pN) (supB q1N q2N q3N q4N q5N) supSc .none .none docN pmN anN (.ref cdaN) ctN ccN), oslN⟩)
    (xc : PySem.W.codeIn K (.ref cdaN) "NoHouse.__init__" = true)
    (xd : K.lookup cdaN = some ⟨cclN, cddN, .fields vsN, ccsN⟩)
    (xe : K.lookup ccN = some ⟨clN, cldN, .cell (some (.ref CN)), cslN⟩)
    (xu : PySem.W.ks_superIn K CN CN "__init__" = some (some (.builtin "ValueError.__init__")))
    (yb : refsVE bmN = true)
    (yv : vsN[2]? = some (.str fileN tfN))
    (yf : ((l.prog.main.file : Str) == fileN) = true)
    (yt : (l.prog.main.scope.names.lookup ("super" : Str)).isSome = false)
    (yl : (q3N.endLine == q4N.line) = true)
    (wN : PySem.W.nsIn K mainGlobals "BadWeb" = some (some (.ref CB)))
    (wl : K.lookup CB = some (PySem.excClassObj nmB qB CB NB bsB bmB true snB subB abB colB ddB k0B k1B k2B k3B k5B "ValueError.__new__"))
    (wbm : PySem.HandSPX.refsVE bmB = true)
    (wi : PySem.W.findIn K (.ref CB) "__init__" = some (some (.ref fB)))
    (wt : PySem.W.typeIn K (.ref fB) = some (.type "function"))
    (wk : PySem.W.keepIn K (.ref CB) = true)
    (wb : PySem.W.subIn K (.ref CB) (.type "BaseException") = some true)
    (wy : PySem.W.typeIn K (.ref CB) = some (.type "type"))
    (ws : PySem.W.subIn K (.ref CB) (.ref CB) = some true)
    (wz : PySem.W.isClsIn K CB = true)
    (wsa : PySem.W.findIn K (.ref CB) "__setattr__" = some (some (.builtin "object.__setattr__")))
    (wp : PySem.W.findIn K (.ref CB) "part" = some none)
    (wga : PySem.W.findIn K (.ref CB) "__getattribute__" = some (some (.builtin "BaseException.__getattribute__")))
    (wgg : PySem.W.findIn K (.ref CB) "__getattr__" = some none)
    (whd : PySem.W.hasDictIn K CB = true)
    (wf : K.lookup fB = some ⟨ocB, odB, .func (PySem.W.fnOf "__init__" "BadWeb.__init__" (defArgs sPart) (defBody sPart) (defScope sPart) .none kVB dcB pmB anB cdB ctB), slB⟩)
    (wc : PySem.W.codeIn K cdB "BadWeb.__init__" = true)
    (wfk : PySem.W.keepIn K (.ref fB) = true)
    (ef : PySem.W.findIn K (.ref C) "__eq__" = some (some (.ref fQ)))
    (ei : PySem.W.isFn K (.ref fQ) = true)
    (el : K.lookup fQ = some ⟨ocQ, odQ, .func (PySem.W.fnOf "__eq__" "Web.__eq__" (defArgs sEq) (defBody sEq) (defScope sEq) .none kVQ dcQ pmQ anQ cdQ ctQ), slQ⟩)
    (ec : PySem.W.codeIn K cdQ "Web.__eq__" = true)
    (ek : PySem.W.keepIn K (.ref fQ) = true)
    (eha : PySem.W.findIn K (.ref C) "__class__" = some (some (.builtin "object.__class__")))
    (ehn : PySem.W.specialIn K (.builtin "object.__class__") "__get__" = some (some (.builtin "getset_descriptor.__get__")))
    (eht : PySem.W.takesIn K (.builtin "object.__class__") = some true)
    (ehm : PySem.W.mroIn K C (.type "object") = some true)
    (eis : PySem.W.isClsIn K C = true)
    (ety : PySem.W.typeIn K (.ref C) = some (.type "type"))
    (ent : PySem.W.subIn K (.type "tuple") (.ref C) = some false)
    (enf : PySem.W.notFirst K C (.type "tuple") = true)
    (zz : PySem.W.nsIn K mainGlobals "zip" = some none)
    (zs : PySem.W.nsIn K mainGlobals "str" = some none)
    (n1 : PySem.W.findIn K (.ref C) "many" = some none)
    (n2 : PySem.W.findIn K (.ref C) "ties" = some none)
    (n3 : PySem.W.findIn K (.ref C) "_beside" = some none)
    (z_len : PySem.W.nsIn K mainGlobals "len" = some none)
    (z_int : PySem.W.nsIn K mainGlobals "int" = some none)
    (z_list : PySem.W.nsIn K mainGlobals "list" = some none)
    (z_range : PySem.W.nsIn K mainGlobals "range" = some none)
    (z_min : PySem.W.nsIn K mainGlobals "min" = some none)
    (z_max : PySem.W.nsIn K mainGlobals "max" = some none)
    (z_tuple : PySem.W.nsIn K mainGlobals "tuple" = some none)
    (z_sorted : PySem.W.nsIn K mainGlobals "sorted" = some none)
    (z_set : PySem.W.nsIn K mainGlobals "set" = some none)
    (z_isinstance : PySem.W.nsIn K mainGlobals "isinstance" = some none)
    (z_enumerate : PySem.W.nsIn K mainGlobals "enumerate" = some none)
    (z_bool : PySem.W.nsIn K mainGlobals "bool" = some none)
    : ∃ fd : FuncData, (∀ (s : Shared) (v : Value), BindsTo s fd ⟨[v], []⟩ [("script", v)]) ∧ ∀ base : Heap, K.In base → base.Ns mainGlobals mg → FnOk l.prog w K mg base CX0 8 fa fd ["script"] (spLaw K) := by
  have e := hfa.symm.trans (PySem.W.mg_of X G a21)
  cases e
  have T : WTxt K mg C := ⟨⟨pg, hd, po, sa⟩, n1, n2, n3, PySem.W.mg_of X G aC, ⟨tm, PySem.W.mg_of X G aO⟩⟩
  have B : Bts mg := ⟨PySem.W.mg_none_of X G z_len, PySem.W.mg_none_of X G z_int, PySem.W.mg_none_of X G z_list, PySem.W.mg_none_of X G z_range, PySem.W.mg_none_of X G z_min, PySem.W.mg_none_of X G z_max, PySem.W.mg_none_of X G z_tuple, PySem.W.mg_none_of X G z_sorted, PySem.W.mg_none_of X G z_set, PySem.W.mg_none_of X G z_isinstance, PySem.W.mg_none_of X G z_enumerate, PySem.W.mg_none_of X G z_bool⟩
  have SU : SupC l.prog K mg CN fN "NoHouse.__init__" := ⟨⟨nmN, qN, NN, bsN, bmN, snN, subN, abN, colN, ddN, k0N, k1N, k2N, k3N, k5N, xl, yb⟩, xi, xt, xk, xb, xv, xy, xm, PySem.W.mg_none_of X G xsu, xo, xu, yt, ⟨ocN, odN, docN, pmN, anN, cdaN, ccN, ctN, oslN, pN, q1N, q2N, q3N, q4N, q5N, cclN, clN, cddN, cldN, ccsN, cslN, vsN, fileN, tfN, xf, xc, xd, yv, yf, xe, yl⟩⟩
  have NN1 : NTxt l.prog K mg CN fN := ⟨SU, PySem.W.mg_of X G xN, exm_me xb xz xy xs⟩
  have FB0 := fun_mk (st := sPart) wf wc wfk
  have BT : BTxt K mg CB fB _ := ⟨⟨⟨nmB, qB, NB, bsB, bmB, snB, subB, abB, colB, ddB, k0B, k1B, k2B, k3B, k5B, wl, wbm⟩, wsa, wb, wy, wk⟩, wi, wt, FB0, FB0.binds (ps := ["self", "part"]) (fun _ _ _ _ _ _ us hl => match us, hl with | [_, _], _ => rfl), wp, PySem.W.mg_of X G wN, exm_me wb wz wy ws, ⟨wga, wgg, wb, whd⟩⟩
  have FQ0 := fun_mk (st := sEq) el ec ek
  have QT : EqT K C fQ _ := ⟨ef, ei, FQ0, FQ0.binds (ps := ["self", "other"]) (fun _ _ _ _ _ _ us hl => match us, hl with | [_, _], _ => rfl), eha, ehn, eht, ehm, eis, ety, ent, enf⟩
  have FM := fun_mk (st := sWeb) lM cM kM
  have bM := FM.binds (ps := ["self", "many", "ties"]) fun _ _ _ _ _ _ us hl => match us, hl with | [_, _, _], _ => rfl
  have F0 := fun_mk (st := sPlain) l0 c0 k0
  have D0 : Df K mg "is_plain_int" sPlain ["thing"] f0 _ := ⟨F0, PySem.W.mg_of X G a0, F0.binds (ps := ["thing"]) fun _ _ _ _ _ _ us hl => match us, hl with | [_], _ => rfl⟩
  have F1 := fun_mk (st := sNum) l1 c1 k1
  have D1 : Df K mg "is_number_below" sNum ["limit", "thing"] f1 _ := ⟨F1, PySem.W.mg_of X G a1, F1.binds (ps := ["limit", "thing"]) fun _ _ _ _ _ _ us hl => match us, hl with | [_, _], _ => rfl⟩
  have F2 := fun_mk (st := sTie) l2 c2 k2
  have D2 : Df K mg "is_tie" sTie ["many", "thing"] f2 _ := ⟨F2, PySem.W.mg_of X G a2, F2.binds (ps := ["many", "thing"]) fun _ _ _ _ _ _ us hl => match us, hl with | [_, _], _ => rfl⟩
  have F3 := fun_mk (st := sFirst) l3 c3 k3
  have D3 : Df K mg "first_wrong_tie" sFirst ["many", "ties"] f3 _ := ⟨F3, PySem.W.mg_of X G a3, F3.binds (ps := ["many", "ties"]) fun _ _ _ _ _ _ us hl => match us, hl with | [_, _], _ => rfl⟩
  have F4 := fun_mk (st := sBeside) l4 c4 k4
  have D4 : Df K mg "houses_beside" sBeside ["many", "ties"] f4 _ := ⟨F4, PySem.W.mg_of X G a4, F4.binds (ps := ["many", "ties"]) fun _ _ _ _ _ _ us hl => match us, hl with | [_, _], _ => rfl⟩
  have F5 := fun_mk (st := sSteps) l5 c5 k5
  have D5 : Df K mg "steps_from" sSteps ["beside", "start"] f5 _ := ⟨F5, PySem.W.mg_of X G a5, F5.binds (ps := ["beside", "start"]) fun _ _ _ _ _ _ us hl => match us, hl with | [_, _], _ => rfl⟩
  have F6 := fun_mk (st := sHand) l6 c6 k6
  have D6 : Df K mg "_law_hand" sHand ["script"] f6 _ := ⟨F6, PySem.W.mg_of X G a6, F6.binds (ps := ["script"]) fun _ _ _ _ _ _ us hl => match us, hl with | [_], _ => rfl⟩
  have F7 := fun_mk (st := sTake) l7 c7 k7
  have D7 : Df K mg "_law_take" sTake ["hand", "many"] f7 _ := ⟨F7, PySem.W.mg_of X G a7, F7.binds (ps := ["hand", "many"]) fun _ _ _ _ _ _ us hl => match us, hl with | [_, _], _ => rfl⟩
  have F8 := fun_mk (st := sPick) l8 c8 k8
  have D8 : Df K mg "_law_pick" sPick ["hand", "things"] f8 _ := ⟨F8, PySem.W.mg_of X G a8, F8.binds (ps := ["hand", "things"]) fun _ _ _ _ _ _ us hl => match us, hl with | [_, _], _ => rfl⟩
  have F9 := fun_mk (st := sInt) l9 c9 k9
  have D9 : Df K mg "_law_is_integer" sInt ["thing"] f9 _ := ⟨F9, PySem.W.mg_of X G a9, F9.binds (ps := ["thing"]) fun _ _ _ _ _ _ us hl => match us, hl with | [_], _ => rfl⟩
  have F10 := fun_mk (st := sWithin) l10 c10 k10
  have D10 : Df K mg "_law_is_within" sWithin ["thing", "least", "most"] f10 _ := ⟨F10, PySem.W.mg_of X G a10, F10.binds (ps := ["thing", "least", "most"]) fun _ _ _ _ _ _ us hl => match us, hl with | [_, _, _], _ => rfl⟩
  have F11 := fun_mk (st := sSame) l11 c11 k11
  have D11 : Df K mg "_law_same" sSame ["actual", "due"] f11 _ := ⟨F11, PySem.W.mg_of X G a11, F11.binds (ps := ["actual", "due"]) fun _ _ _ _ _ _ us hl => match us, hl with | [_, _], _ => rfl⟩
  have F12 := fun_mk (st := sOdd) l12 c12 k12
  have D12 : Df K mg "_law_odd" sOdd ["hand"] f12 _ := ⟨F12, PySem.W.mg_of X G a12, F12.binds (ps := ["hand"]) fun _ _ _ _ _ _ us hl => match us, hl with | [_], _ => rfl⟩
  have F13 := fun_mk (st := sTies) l13 c13 k13
  have D13 : Df K mg "_law_ties" sTies ["hand", "many"] f13 _ := ⟨F13, PySem.W.mg_of X G a13, F13.binds (ps := ["hand", "many"]) fun _ _ _ _ _ _ us hl => match us, hl with | [_, _], _ => rfl⟩
  have F14 := fun_mk (st := sNear) l14 c14 k14
  have D14 : Df K mg "_law_near" sNear ["many", "ties"] f14 _ := ⟨F14, PySem.W.mg_of X G a14, F14.binds (ps := ["many", "ties"]) fun _ _ _ _ _ _ us hl => match us, hl with | [_, _], _ => rfl⟩
  have F15 := fun_mk (st := sWaves) l15 c15 k15
  have D15 : Df K mg "_law_waves" sWaves ["near", "house"] f15 _ := ⟨F15, PySem.W.mg_of X G a15, F15.binds (ps := ["near", "house"]) fun _ _ _ _ _ _ us hl => match us, hl with | [_, _], _ => rfl⟩
  have F16 := fun_mk (st := sBad) l16 c16 k16
  have D16 : Df K mg "_law_bad_web" sBad ["many", "ties"] f16 _ := ⟨F16, PySem.W.mg_of X G a16, F16.binds (ps := ["many", "ties"]) fun _ _ _ _ _ _ us hl => match us, hl with | [_, _], _ => rfl⟩
  have F17 := fun_mk (st := sSpoilt) l17 c17 k17
  have D17 : Df K mg "_law_spoilt" sSpoilt ["hand", "many", "ties"] f17 _ := ⟨F17, PySem.W.mg_of X G a17, F17.binds (ps := ["hand", "many", "ties"]) fun _ _ _ _ _ _ us hl => match us, hl with | [_, _, _], _ => rfl⟩
  have F18 := fun_mk (st := sMade) l18 c18 k18
  have D18 : Df K mg "_law_made" sMade ["many", "ties"] f18 _ := ⟨F18, PySem.W.mg_of X G a18, F18.binds (ps := ["many", "ties"]) fun _ _ _ _ _ _ us hl => match us, hl with | [_, _], _ => rfl⟩
  have F19 := fun_mk (st := sBsd) l19 c19 k19
  have D19 : Df K mg "_law_beside" sBsd ["web", "house"] f19 _ := ⟨F19, PySem.W.mg_of X G a19, F19.binds (ps := ["web", "house"]) fun _ _ _ _ _ _ us hl => match us, hl with | [_, _], _ => rfl⟩
  have F20 := fun_mk (st := sNb) l20 c20 k20
  have D20 : Df K mg "neighbours" sNb ["web", "house"] f20 _ := ⟨F20, PySem.W.mg_of X G a20, F20.binds (ps := ["web", "house"]) fun _ _ _ _ _ _ us hl => match us, hl with | [_, _], _ => rfl⟩
  have DD : WDefs K mg := ⟨_, _, D0, _, _, D1, _, _, D2, _, _, D3, _, _, D4, _, _, D5⟩
  have EE : LDefs K mg := ⟨_, _, D6, _, _, D7, _, _, D8, _, _, D9, _, _, D10, _, _, D11, _, _, D12, _, _, D13, _, _, D14, _, _, D15, _, _, D16, _, _, D17, _, _, D18, _, _, D19, _, _, D20⟩
  exact ⟨PySem.W.fnOf "law" "law" (defArgs sLaw) (defBody sLaw) (defScope sLaw) .none kV21 dc21 pm21 an21 cd21 ct21, fun s v => .of_eq rfl, fun base _ _ =>
    ok_law (fun_mk (st := sLaw) l21 c21 k21) B (PySem.W.mg_none_of X G zz) (PySem.W.mg_none_of X G zs) T NN1 BT QT ⟨mk, aM, iM, kc⟩ FM bM DD EE⟩
theorem walk {l : PySem.W.OpenLaw} {q : Program} {loose : List Str} {XP : (Str → Option Value) → Heap → Prop} {YP : World → Heap → Prop} {d : DefRec} {K : Params → PySem.W.Frag} (hn : l.most = some 63) (hdf : d.params.defaults = [])
    (hY : ∀ (w : World) (h : Heap), YP w h → (K w.params).In h)
    (F : ∀ (w : World) (mg : Str → Option Value) (fa : Addr) (h : Heap), (K w.params).In h → h.Ns mainGlobals mg → mg d.name = some (.ref fa) →
      ∃ fd : FuncData, (∀ (s : Shared) (u : Value), BindsTo s fd ⟨[u], []⟩ [("script", u)]) ∧ ∀ base : Heap, (K w.params).In base → base.Ns mainGlobals mg → FnOk l.prog w (K w.params) mg base CX0 8 fa fd ["script"] (spLaw (K w.params))) :
    PySem.W.WalkO q loose XP YP l.row.toRowW d [] (fun f vs => PySem.call f vs) :=
  L2.walk_of (n := 63) (k := 8) (x := "script") (CX := fun _ => CX0) (sp := fun w => spLaw (K w.params)) hn (by decide) hdf ⟨rfl, by decide, by decide⟩ hY F (fun _ _ a ns hl _ hS => ⟨a, ns, rfl, hS, hl, fun _ => rfl⟩) fun _ _ _ _ _ z => z
end Q
open PySem PySem.W PyProof.Rows in
set_option maxRecDepth 100000 in
set_option maxHeartbeats 0 in
theorem PySem.Challenge.cw_sameround_k01_webs_judged_holds : PySem.Challenge.rw_sameround_k01_webs_judged.Holds := by
  w_on; o_law; k_head; (case hw => w_witness2)
  k_fill
  refine Q.walk (l := PySem.Challenge.rw_sameround_k01_webs_judged) rfl rfl (fun w h Y => PySem.W.kIn_of Y) ?F
  case F =>
    intro w mg fa h KX G hmg
    refine' Q.all_mk KX G hmg ?aC ?aO ?aM ?iM ?lM ?cM ?kM ?a0 ?l0 ?c0 ?k0 ?a1 ?l1 ?c1 ?k1 ?a2 ?l2 ?c2 ?k2 ?a3 ?l3 ?c3 ?k3 ?a4 ?l4 ?c4 ?k4 ?a5 ?l5 ?c5 ?k5 ?a6 ?l6 ?c6 ?k6 ?a7 ?l7 ?c7 ?k7 ?a8 ?l8 ?c8 ?k8 ?a9 ?l9 ?c9 ?k9 ?a10 ?l10 ?c10 ?k10 ?a11 ?l11 ?c11 ?k11 ?a12 ?l12 ?c12 ?k12 ?a13 ?l13 ?c13 ?k13 ?a14 ?l14 ?c14 ?k14 ?a15 ?l15 ?c15 ?k15 ?a16 ?l16 ?c16 ?k16 ?a17 ?l17 ?c17 ?k17 ?a18 ?l18 ?c18 ?k18 ?a19 ?l19 ?c19 ?k19 ?a20 ?l20 ?c20 ?k20 ?a21 ?l21 ?c21 ?k21 ?pg ?hd ?po ?sa ?mk ?kc ?xN ?xl ?xi ?xt ?xk ?xb ?xv ?xy ?xm ?xs ?xz ?xsu ?xo ?xf ?xc ?xd ?xe ?xu ?yb ?yv ?yf ?yt ?yl ?wN ?wl ?wbm ?wi ?wt ?wk ?wb ?wy ?ws ?wz ?wsa ?wp ?wga ?wgg ?whd ?wf ?wc ?wfk ?ef ?ei ?el ?ec ?ek ?eha ?ehn ?eht ?ehm ?eis ?ety ?ent ?enf ?zz ?zs ?n1 ?n2 ?n3 ?z_len ?z_int ?z_list ?z_range ?z_min ?z_max ?z_tuple ?z_sorted ?z_set ?z_isinstance ?z_enumerate ?z_bool
    (case aC => k_is)
    (case aO => k_is)
    (case aM => k_is)
    (case iM => k_is)
    (case lM => k_is)
    (case cM => k_is)
    (case kM => k_is)
    (case a0 => k_is)
    (case l0 => k_is)
    (case c0 => k_is)
    (case k0 => k_is)
    (case a1 => k_is)
    (case l1 => k_is)
    (case c1 => k_is)
    (case k1 => k_is)
    (case a2 => k_is)
    (case l2 => k_is)
    (case c2 => k_is)
    (case k2 => k_is)
    (case a3 => k_is)
    (case l3 => k_is)
    (case c3 => k_is)
    (case k3 => k_is)
    (case a4 => k_is)
    (case l4 => k_is)
    (case c4 => k_is)
    (case k4 => k_is)
    (case a5 => k_is)
    (case l5 => k_is)
    (case c5 => k_is)
    (case k5 => k_is)
    (case a6 => k_is)
    (case l6 => k_is)
    (case c6 => k_is)
    (case k6 => k_is)
    (case a7 => k_is)
    (case l7 => k_is)
    (case c7 => k_is)
    (case k7 => k_is)
    (case a8 => k_is)
    (case l8 => k_is)
    (case c8 => k_is)
    (case k8 => k_is)
    (case a9 => k_is)
    (case l9 => k_is)
    (case c9 => k_is)
    (case k9 => k_is)
    (case a10 => k_is)
    (case l10 => k_is)
    (case c10 => k_is)
    (case k10 => k_is)
    (case a11 => k_is)
    (case l11 => k_is)
    (case c11 => k_is)
    (case k11 => k_is)
    (case a12 => k_is)
    (case l12 => k_is)
    (case c12 => k_is)
    (case k12 => k_is)
    (case a13 => k_is)
    (case l13 => k_is)
    (case c13 => k_is)
    (case k13 => k_is)
    (case a14 => k_is)
    (case l14 => k_is)
    (case c14 => k_is)
    (case k14 => k_is)
    (case a15 => k_is)
    (case l15 => k_is)
    (case c15 => k_is)
    (case k15 => k_is)
    (case a16 => k_is)
    (case l16 => k_is)
    (case c16 => k_is)
    (case k16 => k_is)
    (case a17 => k_is)
    (case l17 => k_is)
    (case c17 => k_is)
    (case k17 => k_is)
    (case a18 => k_is)
    (case l18 => k_is)
    (case c18 => k_is)
    (case k18 => k_is)
    (case a19 => k_is)
    (case l19 => k_is)
    (case c19 => k_is)
    (case k19 => k_is)
    (case a20 => k_is)
    (case l20 => k_is)
    (case c20 => k_is)
    (case k20 => k_is)
    (case a21 => k_is)
    (case l21 => k_is)
    (case c21 => k_is)
    (case k21 => k_is)
    (case pg => k_is)
    (case hd => k_is)
    (case po => k_is)
    (case sa => k_is)
    (case mk => k_is)
    (case kc => k_is)
    (case xN => k_is)
    (case xl => k_is)
    (case xi => k_is)
    (case xt => k_is)
    (case xk => k_is)
    (case xb => k_is)
    (case xv => k_is)
    (case xy => k_is)
    (case xm => k_is)
    (case xs => k_is)
    (case xz => k_is)
    (case xsu => k_is)
    (case xo => k_is)
    (case xf => k_is)
    (case xc => k_is)
    (case xd => k_is)
    (case xe => k_is)
    (case xu => ks_is)
    (case yb => decide +kernel)
    (case yv => rfl)
    (case yf => decide +kernel)
    (case yt => decide +kernel)
    (case yl => decide +kernel)
    (case wN => k_is)
    (case wl => k_is)
    (case wbm => decide +kernel)
    (case wi => k_is)
    (case wt => k_is)
    (case wk => k_is)
    (case wb => k_is)
    (case wy => k_is)
    (case ws => k_is)
    (case wz => k_is)
    (case wsa => k_is)
    (case wp => k_is)
    (case wga => k_is)
    (case wgg => k_is)
    (case whd => k_is)
    (case wf => k_is)
    (case wc => k_is)
    (case wfk => k_is)
    (case ef => k_is)
    (case ei => k_is)
    (case el => k_is)
    (case ec => k_is)
    (case ek => k_is)
    (case eha => k_is)
    (case ehn => k_is)
    (case eht => k_is)
    (case ehm => k_is)
    (case eis => k_is)
    (case ety => k_is)
    (case ent => k_is)
    (case enf => k_is)
    (case zz => k_is)
    (case zs => k_is)
    (case n1 => k_is)
    (case n2 => k_is)
    (case n3 => k_is)
    (case z_len => k_is)
    (case z_int => k_is)
    (case z_list => k_is)
    (case z_range => k_is)
    (case z_min => k_is)
    (case z_max => k_is)
    (case z_tuple => k_is)
    (case z_sorted => k_is)
    (case z_set => k_is)
    (case z_isinstance => k_is)
    (case z_enumerate => k_is)
    (case z_bool => k_is)

