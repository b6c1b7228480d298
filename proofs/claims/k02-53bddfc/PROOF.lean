import PyProof.Rows.All
import Wide.All
import OpenK.AllK
import Wide.FinOn
import HandS.ForMost
import HandS.Codes
import HandS.TupSets
import HandS.TupLe
import HandS.IsInst
import KE.GoesMore
import PyProof.Draws
import PyProof.EnumMake
import PyProof.P3In
import PySem.Challenge.RW_sameround_k02_whole_ways_by_own_waves
set_option Elab.async false
set_option linter.all false
set_option maxRecDepth 100000
set_option maxHeartbeats 4000000
namespace Q
open PySem L2
def top (i : Nat) : Stmt := PySem.Challenge.pw_sameround_k02_whole_ways_by_own_waves.main.body.getD i (.Pass ⟨0, 0, 0, 0⟩)
abbrev sHand : Stmt := top 17
abbrev sTake : Stmt := top 18
abbrev sPick : Stmt := top 19
/-- what the built-in names still are -/
structure Bts (mg : Str → Option Value) : Prop where
  len : mg "len" = none
  int : mg "int" = none
  list : mg "list" = none
  range : mg "range" = none
  min : mg "min" = none
  max : mg "max" = none
  tuple : mg "tuple" = none
  sorted : mg "sorted" = none
  set : mg "set" = none
  isinstance : mg "isinstance" = none
  enumerate : mg "enumerate" = none
  bool : mg "bool" = none

def HL (l : Addr) (i : Nat) (r s c : Int) : List V := [.ref l, .int (i : Int), .int r, .int s, .int c]
/-- the drawing hand at p -/
structure HandX (H : Hp) (p l : Addr) (ns : List Int) (i : Nat) (r s c : Int) : Prop where
  at_ : H p = some (.lst (HL l i r s c))
  lst : H l = some (.lst (ns.map V.int))
  len : ns.length ≤ 63
  r0 : 0 ≤ r
  s0 : 0 ≤ s
  s1 : s < 2147483647
def HandAt (H : Hp) (p l : Addr) : Prop := ∃ ns i r s c, HandX H p l ns i r s c
/-- nothing is otherwise but at p -/
def But (p : Addr) (H H' : Hp) : Prop := ∀ b, b ≠ p → H' b = H b
theorem But.rfl' {p : Addr} {H : Hp} : But p H H := fun _ _ => rfl
theorem But.upd {p : Addr} {H H' : Hp} {o : HO} (h : But p H H') : But p H (upd H' p o) := fun b hb => by rw [upd_ne hb]; exact h b hb
theorem But.trans {p : Addr} {H H1 H2 : Hp} (h : But p H H1) (g : But p H1 H2) : But p H H2 := fun b hb => (g b hb).trans (h b hb)
theorem HandX.np {H : Hp} {p l : Addr} {ns : List Int} {i : Nat} {r s c : Int} (h : HandX H p l ns i r s c) : l ≠ p := fun e => by
  have h1 := h.at_
  rw [← e, h.lst] at h1
  have h2 := HO.lst.inj (Option.some.inj h1)
  cases ns with
  | nil => exact absurd h2 (by simp [HL])
  | cons a t =>
    rw [List.map_cons] at h2
    exact V.noConfusion (List.cons.inj h2).1
theorem HandX.put {H H' : Hp} {p l : Addr} {ns : List Int} {i i' : Nat} {r s c r' s' c' : Int} (h : HandX H p l ns i r s c) (e : H' p = some (.lst (HL l i' r' s' c'))) (b : But p H H') (h0 : 0 ≤ r') (h1 : 0 ≤ s') (h2 : s' < 2147483647) : HandX H' p l ns i' r' s' c' :=
  ⟨e, by rw [b l h.np]; exact h.lst, h.len, h0, h1, h2⟩
def spHand (K : PySem.W.Frag) : Sp := fun vs H Q _ => ∃ (a : Addr) (ns : List Int), vs = [.ref a] ∧ SqL K H a (ns.map V.int) ∧ ns.length ≤ 63 ∧
  ∀ (p l : Addr) (H' : Hp), HandAt H' p l → H p = none → H l = none → Same H H' → Q (.ref p) H'
def spTake : Sp := fun vs H Q _ => ∃ (p l : Addr) (m : Int), vs = [.ref p, .int m] ∧ HandAt H p l ∧ 0 < m ∧ m < 1073741824 ∧ ∀ (d : Int) (H' : Hp), 0 ≤ d → d < m → HandAt H' p l → But p H H' → Q (.int d) H'
section
variable {P : Program} {w : World} {K : PySem.W.Frag} {mg : Str → Option Value} {base : Heap}
theorem scHand : FnScope ["script"] ["script"] (defScope sHand) := ⟨rfl, rfl, rfl, by decide +kernel, rfl, by decide +kernel, by decide +kernel⟩
theorem ok_hand {f : Addr} {fd : FuncData} (F : Fun K "_law_hand" "_law_hand" sHand f fd) (B : Bts mg) : FnOk P w K mg base CX0 1 f fd ["script"] (spHand K) := by
  refine F.ok scHand (fun vs H Q E h => ?_) (fun cdv A outer s H vs Q E hr h => ?_)
  · obtain ⟨a, ns, rfl, _⟩ := h
    rfl
  · obtain ⟨a, ns, rfl, hS, hlen, k⟩ := h
    refine ⟨_, pss_one (ps_ret (pe_lst (pa_cons (pe_callTy call_list_of (by rfl) B.list PyProof.Rows.boot_list (pa_cons (pv 0) pa_nil)) (pa_cons pe_int (pa_cons pe_int (pa_cons pe_int (pa_cons pe_int pa_nil))))))), ?_⟩
    refine ⟨_, rfl, a, _, rfl, .inl hS, fun l hl => ?_⟩
    refine ⟨(by show 5 ≤ sizeLine; decide), fun p hp => ?_⟩
    have npl : p ≠ l := fun e => by rw [e, upd_same] at hp; cases hp
    rw [upd_ne npl] at hp
    refine k p l _ ⟨ns, 0, 0, 1, 0, upd_same, ?_, hlen, by decide, by decide, by decide⟩ hp hl fun b o e => ?_
    · rw [upd_ne npl.symm, upd_same]
    · rw [upd_ne (ne_of_none e hp), upd_ne (ne_of_none e hl)]
      exact e
theorem scTake : FnScope ["hand", "many", "cell", "found", "number"] ["hand", "many"] (defScope sTake) := ⟨rfl, rfl, rfl, by decide +kernel, rfl, by decide +kernel, by decide +kernel⟩
theorem ok_take {f : Addr} {fd : FuncData} (F : Fun K "_law_take" "_law_take" sTake f fd) (B : Bts mg) : FnOk P w K mg base CX0 1 f fd ["hand", "many"] spTake := by
  refine F.ok scTake (fun vs H Q E h => ?_) (fun cdv A outer s H vs Q E hr h => ?_)
  · obtain ⟨p, l, m, rfl, _⟩ := h
    rfl
  · obtain ⟨p, l, m, rfl, ⟨ns, i, r, s, c, hx⟩, hm0, hm1, k⟩ := h
    have nd := scTake.nd
    refine ⟨_, pss_cons (ps_asg (pe_op op_add (pe_ix ix_list (pv 0) pe_int (fun _ _ => rfl)) pe_int) (pg_sub (pv 0) pe_int set_list))
      (C8.pss_cut (ps_if (PW.pt (pw_and (pt_cmpR op_eq (pe_ix ix_list (pv 0) pe_int (fun _ _ => rfl)) pe_int (nomark _))
            (pw_and1 (pt_cmpR op_lt (pe_ix ix_list (pv 0) pe_int (fun _ _ => rfl)) (pe_callB call_len_seq (by rfl) B.len PySem.boot_len (pa_cons (pe_ix ix_list (pv 0) pe_int (fun _ _ => rfl)) pa_nil)) (nomark _)))))
          (pss_cons (ps_set (i := 2) nd rfl (.inl rfl) (pe_callTy call_int1 (by rfl) B.int PyProof.Rows.boot_int (pa_cons (pe_ix ix_list (pe_ix ix_list (pv 0) pe_int (fun _ _ => rfl)) (pe_ix ix_list (pv 0) pe_int (fun _ _ => rfl)) (fun _ _ => rfl)) pa_nil)))
          (pss_cons (ps_asg (pe_op op_add (pe_ix ix_list (pv 0) pe_int (fun _ _ => rfl)) pe_int) (pg_sub (pv 0) pe_int set_list))
          (pss_one (ps_if (pt_cmpR op_ge (pv 2) (pe_op op_pow pe_int pe_int) (nomark _))
            (pss_one (ps_asg (pv 2) (pg_sub (pv 0) pe_int set_list)))
            (pss_one (ps_asg (pe_op op_mod (pe_callTy call_int1 (by rfl) B.int PyProof.Rows.boot_int (pa_cons (pe_op op_add (pe_op op_add (pe_op op_mul (pe_ix ix_list (pv 0) pe_int (fun _ _ => rfl)) pe_int) (pe_op op_mod (pe_callTy call_int1 (by rfl) B.int PyProof.Rows.boot_int (pa_cons (pv 2) pa_nil)) pe_int)) pe_int) pa_nil)) pe_int) (pg_sub (pv 0) pe_int set_list)))))))
          pss_nil)
      (pss_cons (ps_if (pt_cmpR op_gt (pe_ix ix_list (pv 0) pe_int (fun _ _ => rfl)) pe_int (nomark _))
          (pss_cons (ps_set (i := 3) nd rfl (.inl rfl) (pe_op op_mod (pe_callTy call_int1 (by rfl) B.int PyProof.Rows.boot_int (pa_cons (pe_ix ix_list (pv 0) pe_int (fun _ _ => rfl)) pa_nil)) (pv 1)))
          (pss_cons (ps_asg (pe_op op_fdiv (pe_callTy call_int1 (by rfl) B.int PyProof.Rows.boot_int (pa_cons (pe_ix ix_list (pv 0) pe_int (fun _ _ => rfl)) pa_nil)) (pv 1)) (pg_sub (pv 0) pe_int set_list))
          (pss_one (ps_ret (pv 3)))))
          pss_nil)
      (pss_cons (ps_asg (pe_op op_mod (pe_callTy call_int1 (by rfl) B.int PyProof.Rows.boot_int (pa_cons (pe_op op_add (pe_op op_mul (pe_ix ix_list (pv 0) pe_int (fun _ _ => rfl)) pe_int) (pe_op op_mul pe_int (pe_ix ix_list (pv 0) pe_int (fun _ _ => rfl)))) pa_nil)) pe_int) (pg_sub (pv 0) pe_int set_list))
      (pss_cons (ps_set (i := 4) nd rfl (.inl rfl) (pe_op op_mod (pe_callTy call_int1 (by rfl) B.int PyProof.Rows.boot_int (pa_cons (pe_op op_mul (pe_ix ix_list (pv 0) pe_int (fun _ _ => rfl)) (pe_op op_add (pe_op op_fdiv (pe_ix ix_list (pv 0) pe_int (fun _ _ => rfl)) pe_int) pe_int)) pa_nil)) pe_int))
      (pss_cons (ps_set (i := 4) nd rfl (.inl rfl) (pe_op op_mod (pe_callTy call_int1 (by rfl) B.int PyProof.Rows.boot_int (pa_cons (pe_op op_mul (pv 4) (pe_op op_add (pe_op op_fdiv (pv 4) pe_int) pe_int)) pa_nil)) pe_int))
      (pss_one (ps_ret (pe_op op_mod (pe_callTy call_int1 (by rfl) B.int PyProof.Rows.boot_int (pa_cons (pe_op op_fdiv (pv 4) pe_int) pa_nil)) (pv 1))))))))), ?_⟩
    -- hand[4] = hand[4] + 1
    refine ⟨_, rfl, p, _, 4, _, rfl, rfl, SqL.of hx.at_, rfl, _, _, rfl, rfl, _, rfl, p, _, 4, 4, rfl, rfl, hx.at_, rfl, ?_⟩
    have b1 : But p H (upd H p (.lst (HL l i r s (c + 1)))) := But.rfl'.upd
    have x1 : HandX (upd H p (.lst (HL l i r s (c + 1)))) p l ns i r s (c + 1) := hx.put upd_same b1 hx.r0 hx.s0 hx.s1
    show C8.tCut _ _ _ _ (upd H p (.lst (HL l i r s (c + 1))))
    revert b1 x1
    generalize upd H p (.lst (HL l i r s (c + 1))) = H1
    intro b1 x1
    refine ⟨fun σ H2 => ∃ x2 i r s c, σ = [some (.ref p), some (.int m), x2, none, none] ∧ HandX H2 p l ns i r s c ∧ But p H H2, ?_, ?_⟩
    · refine ⟨_, rfl, p, _, 2, _, rfl, rfl, SqL.of x1.at_, rfl, rfl, _, rfl, ?_⟩
      refine ite2 (fun _ => ?_) (fun _ => ?_)
      · refine ⟨_, rfl, p, _, 1, _, rfl, rfl, SqL.of x1.at_, rfl, _, rfl, p, _, 0, _, rfl, rfl, SqL.of x1.at_, rfl, l, _, rfl, .inl (SqL.of x1.lst), _, _, rfl, rfl, _, rfl, ?_⟩
        refine ite2 (fun c2 => ?_) (fun _ => ?_)
        · -- cell = int(hand[0][hand[1]])
          have hi : i < ns.length := by
            have z := of_decide_eq_true c2
            rw [List.length_map] at z
            omega
          have hg : atI (ns.map V.int) (i : Int) = some (V.int ns[i]) := atI_nat (by rw [List.getElem?_map, List.getElem?_eq_getElem hi]; rfl)
          refine ⟨_, rfl, p, _, 0, _, rfl, rfl, SqL.of x1.at_, rfl, _, rfl, p, _, 1, _, rfl, rfl, SqL.of x1.at_, rfl, l, _, _, _, rfl, rfl, SqL.of x1.lst, hg, .inl ⟨_, rfl, ?_⟩⟩
          -- hand[1] = hand[1] + 1
          refine ⟨_, rfl, p, _, 1, _, rfl, rfl, SqL.of x1.at_, rfl, _, _, rfl, rfl, _, rfl, p, _, 1, 1, rfl, rfl, x1.at_, rfl, ?_⟩
          have e1 : ((i : Int) + 1) = ((i + 1 : Nat) : Int) := by omega
          have b2 : But p H (upd H1 p (.lst (HL l (i + 1) r s (c + 1)))) := b1.upd
          have x2 : HandX (upd H1 p (.lst (HL l (i + 1) r s (c + 1)))) p l ns (i + 1) r s (c + 1) := x1.put upd_same But.rfl'.upd x1.r0 x1.s0 x1.s1
          have eH : upd H1 p (.lst ((HL l i r s (c + 1)).set 1 (V.int ((i : Int) + 1)))) = upd H1 p (.lst (HL l (i + 1) r s (c + 1))) := by
            rw [e1]
            rfl
          rw [eH]
          revert b2 x2
          generalize upd H1 p (.lst (HL l (i + 1) r s (c + 1))) = H2
          intro b2 x2
          refine ⟨_, rfl, _, _, rfl, rfl, ⟨by decide, by decide, by decide⟩, _, _, rfl, rfl, _, rfl, ?_⟩
          refine ite2 (fun c3 => ?_) (fun _ => ?_)
          · refine ⟨_, rfl, _, rfl, p, _, 2, 2, rfl, rfl, x2.at_, rfl, ?_⟩
            refine ⟨_, i + 1, ns[i], s, c + 1, rfl, x2.put upd_same But.rfl'.upd ?_ x2.s0 x2.s1, b2.upd⟩
            have z := of_decide_eq_true c3
            refine Int.le_trans ?_ z
            decide
          · refine ⟨_, rfl, p, _, 3, _, rfl, rfl, SqL.of x2.at_, rfl, _, _, rfl, rfl, .inr ⟨by decide, by decide⟩, _, rfl, .inl ⟨_, rfl, ?_⟩⟩
            refine ⟨_, _, rfl, rfl, (by decide : (0 : Int) < 2147483647), _, _, rfl, rfl, _, _, rfl, rfl, .inl ⟨_, rfl, ?_⟩⟩
            refine ⟨_, _, rfl, rfl, (by decide : (0 : Int) < 2147483647), _, rfl, p, _, 3, 3, rfl, rfl, x2.at_, rfl, ?_⟩
            exact ⟨_, i + 1, r, _, c + 1, rfl, x2.put upd_same But.rfl'.upd x2.r0 (Int.emod_nonneg _ (by decide)) (Int.emod_lt_of_pos _ (by decide)), b2.upd⟩
        · exact ⟨_, i, r, s, c + 1, rfl, x1, b1⟩
      · exact ⟨_, i, r, s, c + 1, rfl, x1, b1⟩
    · rintro σ H2 ⟨x2, i, r, s, c, rfl, y1, c1⟩
      refine ⟨_, rfl, p, _, 2, _, rfl, rfl, SqL.of y1.at_, rfl, _, _, rfl, rfl, _, rfl, ?_⟩
      refine ite2 (fun _ => ?_) (fun _ => ?_)
      · -- found = int(hand[2]) % many; hand[2] = int(hand[2]) // many; return found
        refine ⟨_, rfl, p, _, 2, _, rfl, rfl, SqL.of y1.at_, rfl, .inl ⟨_, rfl, ?_⟩⟩
        refine ⟨_, rfl, _, _, rfl, rfl, hm0, ?_⟩
        refine ⟨_, rfl, p, _, 2, _, rfl, rfl, SqL.of y1.at_, rfl, .inl ⟨_, rfl, ?_⟩⟩
        refine ⟨_, rfl, _, _, rfl, rfl, ⟨hm0, hm1⟩, _, rfl, p, _, 2, 2, rfl, rfl, y1.at_, rfl, ?_⟩
        refine ⟨_, rfl, k _ _ (Int.emod_nonneg _ (by omega)) (Int.emod_lt_of_pos _ hm0) ⟨ns, i, _, s, c, y1.put upd_same But.rfl'.upd (Int.ediv_nonneg y1.r0 (by omega)) y1.s0 y1.s1⟩ c1.upd⟩
      · -- hand[3] = int(hand[3] * 69621 + 7919 * hand[4]) % 2147483647
        refine ⟨_, rfl, p, _, 3, _, rfl, rfl, SqL.of y1.at_, rfl, _, _, rfl, rfl, .inr ⟨by decide, by decide⟩, _, rfl, p, _, 4, _, rfl, rfl, SqL.of y1.at_, rfl, _, _, rfl, rfl, .inl ⟨by decide, by decide⟩, _, _, rfl, rfl, .inl ⟨_, rfl, ?_⟩⟩
        refine ⟨_, _, rfl, rfl, (by decide : (0 : Int) < 2147483647), _, rfl, p, _, 3, 3, rfl, rfl, y1.at_, rfl, ?_⟩
        have z0 : 0 ≤ (s * 69621 + 7919 * c) % 2147483647 := Int.emod_nonneg _ (by decide)
        have z1 : (s * 69621 + 7919 * c) % 2147483647 < 2147483647 := Int.emod_lt_of_pos _ (by decide)
        have b2 : But p H (upd H2 p (.lst (HL l i r ((s * 69621 + 7919 * c) % 2147483647) c))) := c1.upd
        have y2 : HandX (upd H2 p (.lst (HL l i r ((s * 69621 + 7919 * c) % 2147483647) c))) p l ns i r ((s * 69621 + 7919 * c) % 2147483647) c := y1.put upd_same But.rfl'.upd y1.r0 z0 z1
        show tSeq _ _ _ _ (upd H2 p (.lst (HL l i r ((s * 69621 + 7919 * c) % 2147483647) c)))
        revert b2 y2
        generalize upd H2 p (.lst (HL l i r ((s * 69621 + 7919 * c) % 2147483647) c)) = H3
        revert z0 z1
        generalize (s * 69621 + 7919 * c) % 2147483647 = s2
        intro z0 z1 b2 y2
        refine ⟨_, rfl, p, _, 3, _, rfl, rfl, SqL.of y2.at_, rfl, _, rfl, p, _, 3, _, rfl, rfl, SqL.of y2.at_, rfl, _, _, rfl, rfl, ⟨by decide, by decide⟩, _, _, rfl, rfl, _, _, rfl, rfl, .inl ⟨by omega, by omega⟩, .inl ⟨_, rfl, ?_⟩⟩
        refine ⟨_, _, rfl, rfl, (by decide : (0 : Int) < 2147483647), ?_⟩
        have q0 : 0 ≤ (s2 * (s2 / 1009 + 69621)) % 2147483647 := Int.emod_nonneg _ (by decide)
        have q1 : (s2 * (s2 / 1009 + 69621)) % 2147483647 < 2147483647 := Int.emod_lt_of_pos _ (by decide)
        revert q0 q1
        generalize (s2 * (s2 / 1009 + 69621)) % 2147483647 = n1
        intro q0 q1
        refine ⟨_, rfl, _, rfl, _, _, rfl, rfl, ⟨by decide, by decide⟩, _, _, rfl, rfl, _, _, rfl, rfl, .inl ⟨by omega, by omega⟩, .inl ⟨_, rfl, ?_⟩⟩
        refine ⟨_, _, rfl, rfl, (by decide : (0 : Int) < 2147483399), ?_⟩
        refine ⟨_, rfl, _, _, rfl, rfl, ⟨by decide, by decide⟩, .inl ⟨_, rfl, ?_⟩⟩
        refine ⟨_, rfl, _, _, rfl, rfl, hm0, ?_⟩
        exact k _ _ (Int.emod_nonneg _ (by omega)) (Int.emod_lt_of_pos _ hm0) ⟨ns, i, r, s2, c, y2⟩ b2
end
end Q

namespace Q
open PySem L2
abbrev sTies : Stmt := top 22
/-- a def of the text: where it stands, how it is called -/
structure Df (K : PySem.W.Frag) (mg : Str → Option Value) (x : Str) (st : Stmt) (ps : List Str) (f : Addr) (fd : FuncData) : Prop where
  F : Fun K x x st f fd
  m : mg x = some (.ref f)
  b : Binds K fd ps []
theorem Df.k {K : PySem.W.Frag} {mg : Str → Option Value} {x : Str} {st : Stmt} {ps : List Str} {f : Addr} {fd : FuncData} (D : Df K mg x st ps f fd) : PySem.W.keepIn K (.ref f) = true := D.F.kp
theorem HandAt.stay {H : Hp} {p l q : Addr} {o : HO} (h : HandAt H p l) (n1 : q ≠ p) (n2 : q ≠ l) : HandAt (L2.upd H q o) p l := by
  obtain ⟨ns, i, r, s, c, x⟩ := h
  exact ⟨ns, i, r, s, c, (upd_ne n1.symm).trans x.at_, (upd_ne n2.symm).trans x.lst, x.len, x.r0, x.s0, x.s1⟩
theorem HandAt.new {H : Hp} {p l q : Addr} {o : HO} (h : HandAt H p l) (n : H q = none) : HandAt (L2.upd H q o) p l := by
  obtain ⟨ns, i, r, s, c, x⟩ := id h
  exact h.stay (fun e => by rw [e, x.at_] at n; cases n) (fun e => by rw [e, x.lst] at n; cases n)
/-- all that stood stands, but for p -/
def Ext (p : Addr) (H H' : Hp) : Prop := ∀ b o, H b = some o → b ≠ p → H' b = some o
theorem Ext.rfl' {p : Addr} {H : Hp} : Ext p H H := fun _ _ e _ => e
theorem Ext.trans {p : Addr} {H H1 H2 : Hp} (h : Ext p H H1) (g : Ext p H1 H2) : Ext p H H2 := fun b o e n => g b o (h b o e n) n
theorem Ext.but {p : Addr} {H H1 H2 : Hp} (h : Ext p H H1) (g : But p H1 H2) : Ext p H H2 := fun b o e n => by rw [g b n]; exact h b o e n
theorem Ext.upd {p q : Addr} {o : HO} {H H1 : Hp} (h : Ext p H H1) (n : H1 q = none) : Ext p H (L2.upd H1 q o) := fun b u e nb => by
  rw [upd_ne (ne_of_none (h b u e nb) n)]; exact h b u e nb
theorem min_ok {X : Int} (h : 0 ≤ X ∧ X ≤ 20) : 0 ≤ (if 1 < X then 1 else X) ∧ (if 1 < X then 1 else X) ≤ 20 := by
  split <;> omega
theorem HandAt.hp {H : Hp} {p l : Addr} (h : HandAt H p l) : ∃ xs, H p = Option.some (HO.lst (V.ref l :: xs)) := by
  obtain ⟨ns, i, r, s, c, x⟩ := h
  exact ⟨_, x.at_⟩
theorem HandAt.hl {H : Hp} {p l : Addr} (h : HandAt H p l) : ∃ ns : List Int, H l = some (.lst (ns.map V.int)) ∧ l ≠ p := by
  obtain ⟨ns, i, r, s, c, x⟩ := h
  exact ⟨_, x.lst, x.np⟩
theorem HandAt.ne {H : Hp} {p l q : Addr} (h : HandAt H p l) (n : H q = none) : q ≠ p ∧ q ≠ l := by
  obtain ⟨ns, i, r, s, c, x⟩ := h
  exact ⟨fun e => (by rw [e, x.at_] at n; cases n), fun e => (by rw [e, x.lst] at n; cases n)⟩
/-- a list at f of tuples of two ints -/
structure Pairs (m : Int) (H : Hp) (f : Addr) (ks : List (Addr × List Int)) : Prop where
  at_ : H f = some (.lst (ks.map fun p => V.ref p.1))
  tup : ∀ p ∈ ks, H p.1 = some (.tup (p.2.map V.int))
  ok : ∀ p ∈ ks, ∃ a b : Int, p.2 = [a, b] ∧ 0 ≤ a ∧ a < b ∧ b < m
theorem Pairs.but {m : Int} {H H' : Hp} {f p : Addr} {ks : List (Addr × List Int)} {l : Addr} (h : Pairs m H f ks) (g : HandAt H p l) (b : But p H H') (n : f ≠ p) : Pairs m H' f ks := by
  refine ⟨by rw [b f n]; exact h.at_, fun q hq => ?_, h.ok⟩
  obtain ⟨xs, e⟩ := g.hp
  rw [b q.1 (ne_of (h.tup q hq) e (fun z => by cases z))]
  exact h.tup q hq
theorem Pairs.add {m : Int} {H : Hp} {f t : Addr} {ks : List (Addr × List Int)} {a b : Int} (h : Pairs m H f ks) (ht : H t = none) (h0 : 0 ≤ a) (h1 : a < b) (h2 : b < m) :
    Pairs m (upd (upd H t (.tup [.int a, .int b])) f (.lst ((ks.map fun p => V.ref p.1) ++ [.ref t]))) f (ks ++ [(t, [a, b])]) := by
  have ntf : t ≠ f := fun e => by rw [e, h.at_] at ht; cases ht
  refine ⟨by rw [upd_same, List.map_append]; rfl, fun q hq => ?_, fun q hq => ?_⟩
  · rcases List.mem_append.mp hq with hq | hq
    · rw [upd_ne (ne_of (h.tup q hq) h.at_ (fun z => by cases z)), upd_ne (ne_of_none (h.tup q hq) ht)]
      exact h.tup q hq
    · obtain rfl := List.mem_singleton.mp hq
      rw [upd_ne ntf, upd_same]
      rfl
  · rcases List.mem_append.mp hq with hq | hq
    · exact h.ok q hq
    · obtain rfl := List.mem_singleton.mp hq
      exact ⟨a, b, rfl, h0, h1, h2⟩
/-- the order of pairs -/
def ltP (x y : List Int) : Prop := ∃ a b c d : Int, x = [a, b] ∧ y = [c, d] ∧ (a < c ∨ (a = c ∧ b < d))
/-- ties as they are drawn: ascending, joined -/
structure TiesAt (m : Int) (H : Hp) (q : Addr) (L : List (Addr × List Int)) : Prop where
  at_ : H q = some (.tup (L.map fun p => V.ref p.1))
  tup : ∀ p ∈ L, H p.1 = some (.tup (p.2.map V.int))
  ok : ∀ p ∈ L, ∃ a b : Int, p.2 = [a, b] ∧ 0 ≤ a ∧ a < b ∧ b < m
  asc : L.Pairwise (fun x y => ltP x.2 y.2)
  few : L.length < 64
  conn : ∀ h : Int, 1 ≤ h → h < m → ∃ p ∈ L, ∃ o : Int, p.2 = [o, h]
theorem asc_of {m : Int} (hm : m ≤ 40) : ∀ (L : List (Addr × List Int)), (∀ p ∈ L, ∃ a b : Int, p.2 = [a, b] ∧ 0 ≤ a ∧ a < b ∧ b < m) → (L.map (·.2)).Nodup → L.Pairwise (fun q r => TS.code 64 q.2 ≤ TS.code 64 r.2) → L.Pairwise (fun x y => ltP x.2 y.2)
  | [], _, _, _ => .nil
  | x :: r, hok, hnd, hpw => by
    rw [List.map_cons, List.nodup_cons] at hnd
    rw [List.pairwise_cons] at hpw
    refine List.pairwise_cons.mpr ⟨fun y hy => ?_, asc_of hm r (fun p hp => hok p (List.mem_cons_of_mem _ hp)) hnd.2 hpw.2⟩
    obtain ⟨a, b, e1, a0, ab, bm⟩ := hok x List.mem_cons_self
    obtain ⟨c, d, e2, c0, cd, dm⟩ := hok y (List.mem_cons_of_mem _ hy)
    have ne : ([a, b] : List Int) ≠ [c, d] := fun e => hnd.1 (by
      show x.2 ∈ r.map (·.2)
      rw [e1, e, ← e2]
      exact List.mem_map_of_mem hy)
    have le := hpw.1 y hy
    rw [e1, e2] at le
    exact ⟨a, b, c, d, e1, e2, pair_lt le ne ⟨by omega, by omega⟩ ⟨by omega, by omega⟩ ⟨by omega, by omega⟩ ⟨by omega, by omega⟩⟩
def spPick (K : PySem.W.Frag) : Sp := fun vs H Q _ => ∃ (p l t : Addr) (xs : List V), vs = [.ref p, .ref t] ∧ HandAt H p l ∧ H t = some (.lst xs) ∧ t ≠ p ∧ 0 < xs.length ∧ xs.length < 1000 ∧
  ∀ (v : V) (H' : Hp), v ∈ xs → HandAt H' p l → But p H H' → Q v H'
def spTies (K : PySem.W.Frag) : Sp := fun vs H Q _ => ∃ (p l : Addr) (m : Int), vs = [.ref p, .int m] ∧ HandAt H p l ∧ 1 ≤ m ∧ m ≤ 40 ∧
  ∀ (q : Addr) (L : List (Addr × List Int)) (H' : Hp), TiesAt m H' q L → HandAt H' p l → Ext p H H' → Q (.ref q) H'
section
variable {P : Program} {w : World} {K : PySem.W.Frag} {mg : Str → Option Value} {base : Heap}
theorem scPick : FnScope ["hand", "things"] ["hand", "things"] (defScope sPick) := ⟨rfl, rfl, rfl, by decide +kernel, rfl, by decide +kernel, by decide +kernel⟩
theorem ok_pick {f fT : Addr} {fd fdT : FuncData} (F : Fun K "_law_pick" "_law_pick" sPick f fd) (B : Bts mg) (DT : Df K mg "_law_take" sTake ["hand", "many"] fT fdT) : FnOk P w K mg base CX0 2 f fd ["hand", "things"] (spPick K) := by
  have GT : FnOk P w K mg base CX0 1 fT fdT ["hand", "many"] spTake := ok_take DT.F B
  refine F.ok scPick (fun vs H Q E h => ?_) (fun cdv A outer s H vs Q E hr h => ?_)
  · obtain ⟨p, l, t, xs, rfl, _⟩ := h
    rfl
  · obtain ⟨p, l, t, xs, rfl, hh, ht, ntp, h0, h1, k⟩ := h
    refine ⟨_, pss_one (ps_ret (pe_ix ix_list (pv 1) (pe_call GT hr rfl DT.m DT.k DT.b .nil pass0 (pa_cons (pv 0) (pa_cons (pe_callB call_len_seq (by rfl) B.len PySem.boot_len (pa_cons (pv 1) pa_nil)) pa_nil))) (fun _ _ => rfl))), ?_⟩
    refine ⟨_, rfl, _, rfl, _, rfl, t, _, rfl, .inl (SqL.of ht), p, l, _, rfl, hh, by omega, by omega, fun d H' d0 d1 hh' hb => ?_⟩
    have hd : d.toNat < xs.length := by omega
    have e1 : ((d.toNat : Nat) : Int) = d := Int.toNat_of_nonneg d0
    refine ⟨t, xs, d, xs[d.toNat], rfl, rfl, SqL.of (by rw [hb t ntp]; exact ht), ?_, k _ _ (List.getElem_mem hd) hh' hb⟩
    have z := atI_nat (xs := xs) (j := d.toNat) (List.getElem?_eq_getElem hd)
    rw [e1] at z
    exact z
theorem scTies : FnScope ["hand", "many", "found", "shape", "house", "other", "more", "k", "a", "b"] ["hand", "many"] (defScope sTies) := ⟨rfl, rfl, rfl, by decide +kernel, rfl, by decide +kernel, by decide +kernel⟩
theorem ok_ties {f fT : Addr} {fd fdT : FuncData} (F : Fun K "_law_ties" "_law_ties" sTies f fd) (B : Bts mg) (DT : Df K mg "_law_take" sTake ["hand", "many"] fT fdT) : FnOk P w K mg base CX0 2 f fd ["hand", "many"] (spTies K) := by
  have GT : FnOk P w K mg base CX0 1 fT fdT ["hand", "many"] spTake := ok_take DT.F B
  refine F.ok scTies (fun vs H Q E h => ?_) (fun cdv A outer s H vs Q E hr h => ?_)
  · obtain ⟨p, l, m, rfl, _⟩ := h
    rfl
  · obtain ⟨p, l, m, rfl, hh, hm1, hm40, k⟩ := h
    have nd := scTies.nd
    have hu := hr.units
    refine ⟨_, pss_cons (ps_set (i := 2) nd rfl (.inl rfl) (pe_lst pa_nil))
      (pss_cons (ps_set (i := 3) nd rfl (.inl rfl) (pe_call GT hr rfl DT.m DT.k DT.b .nil pass0 (pa_cons (pv 0) (pa_cons pe_int pa_nil))))
      (C8.pss_cut (ps_for PassesOwn.never rfl (pi_range2 rfl B.range (pa_cons pe_int (pa_cons (pv 1) pa_nil))) (pg_name (i := 4) nd rfl (.inl rfl))
        (pss_cons (ps_set (i := 5) nd rfl (.inl rfl) (pe_call GT hr rfl DT.m DT.k DT.b .nil pass0 (pa_cons (pv 0) (pa_cons (pv 4) pa_nil))))
        (C8.pss_cut (ps_if (pt_cmpR op_eq (pv 3) pe_int (nomark _)) (pss_one (ps_set (i := 5) nd rfl (.inl rfl) (pe_op op_sub (pv 4) pe_int))) pss_nil)
        (C8.pss_cut (ps_if (pt_cmpR op_eq (pv 3) pe_int (nomark _)) (pss_one (ps_set (i := 5) nd rfl (.inl rfl) pe_int)) pss_nil)
        (pss_one (ps_expr (pe_bm PySem.F.plainAttrs_list PySem.F.slot_list_append PySem.F.type_list_append mt_append (pv 2) (pa_cons (pe_tup (pa_cons (pv 5) (pa_cons (pv 4) pa_nil))) pa_nil))))))))
      (pss_cons (ps_set (i := 6) nd rfl (.inl rfl) (pe_op op_fdiv (pe_op op_mul (pe_call GT hr rfl DT.m DT.k DT.b .nil pass0 (pa_cons (pv 0) (pa_cons (pe_op op_add (pv 1) pe_int) pa_nil))) (pe_callTy call_int1 (by rfl) B.int PyProof.Rows.boot_int (pa_cons (pe_cmpR op_gt (pv 1) pe_int (nomark _)) pa_nil))) pe_int))
      (C8.pss_cut (ps_if (pt_cmpR op_eq (pe_call GT hr rfl DT.m DT.k DT.b .nil pass0 (pa_cons (pv 0) (pa_cons pe_int pa_nil))) pe_int (nomark _)) (pss_one (ps_set (i := 6) nd rfl (.inl rfl) (pe_callB (call_min2 rfl) (by rfl) B.min PyProof.Rows.boot_min (pa_cons (pv 6) (pa_cons pe_int pa_nil))))) pss_nil)
      (C8.pss_cut (ps_for PassesOwn.never rfl (pi_range1 rfl B.range (pa_cons (pv 6) pa_nil)) (pg_name (i := 7) nd rfl (.inl rfl))
        (pss_cons (ps_set (i := 8) nd rfl (.inl rfl) (pe_call GT hr rfl DT.m DT.k DT.b .nil pass0 (pa_cons (pv 0) (pa_cons (pv 1) pa_nil))))
        (pss_cons (ps_set (i := 9) nd rfl (.inl rfl) (pe_call GT hr rfl DT.m DT.k DT.b .nil pass0 (pa_cons (pv 0) (pa_cons (pv 1) pa_nil))))
        (pss_one (ps_if (pt_cmpR op_ne (pv 8) (pv 9) (nomark _))
          (pss_one (ps_expr (pe_bm PySem.F.plainAttrs_list PySem.F.slot_list_append PySem.F.type_list_append mt_append (pv 2) (pa_cons (pe_tup (pa_cons (pe_callB (call_min2 rfl) (by rfl) B.min PyProof.Rows.boot_min (pa_cons (pv 8) (pa_cons (pv 9) pa_nil))) (pa_cons (pe_callB (call_max2 rfl) (by rfl) B.max PyProof.Rows.boot_max (pa_cons (pv 8) (pa_cons (pv 9) pa_nil))) pa_nil))) pa_nil)))) pss_nil)))))
      (pss_one (ps_ret (pe_callTy call_tuple_of (by rfl) B.tuple PyProof.Rows.boot_tuple (pa_cons (pe_callB (cr_sortedT rfl) (by rfl) B.sorted PyProof.Rows.boot_sorted (pa_cons (pe_callTy (cr_setOfT rfl hu) (by rfl) B.set PyProof.Rows.boot_set (pa_cons (pv 2) pa_nil)) pa_nil)) pa_nil))))))))), ?_⟩
    refine ⟨Nat.zero_le _, fun fo hf0 => ?_⟩
    obtain ⟨npf, nlf⟩ := hh.ne hf0
    have x0 : Ext p H (upd H fo (.lst [])) := Ext.rfl'.upd hf0
    have hh0 : HandAt (upd H fo (.lst [])) p l := hh.new hf0
    have pr0 : Pairs m (upd H fo (.lst [])) fo [] := ⟨upd_same, fun q hq => absurd hq List.not_mem_nil, fun q hq => absurd hq List.not_mem_nil⟩
    refine ⟨_, rfl, p, l, 4, rfl, hh0, by decide, by decide, fun sh H1 s0 s1 g1 b1 => ?_⟩
    have pr1 := pr0.but hh0 b1 npf
    have x1 := x0.but b1
    refine ⟨fun σ H' => ∃ x4 x5 ks, σ = [some (.ref p), some (.int m), some (.ref fo), some (.int sh), x4, x5, none, none, none, none] ∧ Pairs m H' fo ks ∧ ks.length ≤ 39 ∧ (∀ h : Int, 1 ≤ h → h < m → ∃ q ∈ ks, ∃ o : Int, q.2 = [o, h]) ∧ HandAt H' p l ∧ Ext p H H', ?_, ?_⟩
    · refine ⟨_, rfl, 1, m, rfl, ⟨by decide, by decide, by omega, by omega⟩, for_range (lo := 1) (n := (m - 1).toNat) (fun i σ H' => ∃ x4 x5 ks, σ = [some (.ref p), some (.int m), some (.ref fo), some (.int sh), x4, x5, none, none, none, none] ∧ Pairs m H' fo ks ∧ ks.length = i ∧ (∀ h : Int, 1 ≤ h → h ≤ i → ∃ q ∈ ks, ∃ o : Int, q.2 = [o, h]) ∧ HandAt H' p l ∧ Ext p H H') ?_ ?_ ?_⟩
      · exact ⟨none, none, [], rfl, pr1, rfl, fun h a b => by omega, g1, x1⟩
      · rintro i σ H2 hi ⟨x4, x5, ks, rfl, pr2, hl, hc, g2, x2⟩
        refine ⟨_, rfl, _, rfl, p, l, 1 + (i : Int), rfl, g2, by omega, by omega, fun o H3 o0 o1 g3 b3 => ?_⟩
        have pr3 := pr2.but g2 b3 npf
        have x3 := x2.but b3
        refine ⟨fun σ H' => H' = H3 ∧ ∃ o : Int, 0 ≤ o ∧ o < 1 + (i : Int) ∧ σ = [some (.ref p), some (.int m), some (.ref fo), some (.int sh), some (.int (1 + (i : Int))), some (.int o), none, none, none, none], ?_, ?_⟩
        · refine ⟨_, rfl, rfl, _, rfl, ite2 (fun _ => ?_) (fun _ => ?_)⟩
          · exact ⟨_, rfl, _, _, rfl, rfl, rfl, 1 + (i : Int) - 1, by omega, by omega, rfl⟩
          · exact ⟨rfl, o, o0, o1, rfl⟩
        · rintro σ H3 ⟨rfl, o, o0, o1, rfl⟩
          refine ⟨fun σ H' => H' = H3 ∧ ∃ o : Int, 0 ≤ o ∧ o < 1 + (i : Int) ∧ σ = [some (.ref p), some (.int m), some (.ref fo), some (.int sh), some (.int (1 + (i : Int))), some (.int o), none, none, none, none], ?_, ?_⟩
          · refine ⟨_, rfl, rfl, _, rfl, ite2 (fun _ => ?_) (fun _ => ?_)⟩
            · exact ⟨rfl, 0, by omega, by omega, rfl⟩
            · exact ⟨rfl, o, o0, o1, rfl⟩
          · rintro σ H3 ⟨rfl, o, o0, o1, rfl⟩
            refine ⟨_, rfl, .inl ⟨rfl, _, SqL.of pr3.at_⟩, _, rfl, _, rfl, (by show 2 ≤ sizeLine; decide), fun t ht => ?_⟩
            have ntf : fo ≠ t := ne_of_none pr3.at_ ht
            refine ⟨fo, _, _, rfl, rfl, (by rw [upd_ne ntf]; exact pr3.at_), ?_, ?_⟩
            · rw [List.length_map, hl]
              refine Nat.lt_of_lt_of_le (m := 64) (by omega) (by decide)
            · refine ⟨_, _, _, rfl, pr3.add ht o0 o1 (by omega), by rw [List.length_append, hl]; rfl, fun h a b => ?_, ?_, ?_⟩
              · by_cases e : h ≤ (i : Int)
                · obtain ⟨q, hq, z⟩ := hc h a e
                  exact ⟨q, List.mem_append_left _ hq, z⟩
                · have e2 : h = 1 + (i : Int) := by omega
                  exact ⟨_, List.mem_append_right _ (List.mem_singleton.mpr rfl), o, by rw [e2]⟩
              · exact (g3.new ht).stay npf nlf
              · exact fun b o e nb => by rw [upd_ne (ne_of_none e hf0)]; exact (x3.upd ht) b o e nb
      · rintro σ H2 ⟨x4, x5, ks, rfl, pr2, hl, hc, g2, x2⟩
        exact ⟨x4, x5, ks, rfl, pr2, by omega, fun h a b => hc h a (by omega), g2, x2⟩
    · rintro σ H2 ⟨x4, x5, ks, rfl, pr2, hl, hc, g2, x2⟩
      refine ⟨_, rfl, _, rfl, _, _, rfl, rfl, p, l, m + 1, rfl, g2, by omega, by omega, fun d H3 d0 d1 g3 b3 => ?_⟩
      have pr3 := pr2.but g2 b3 npf
      have x3 := x2.but b3
      refine ⟨_, rfl, _, _, rfl, rfl, .inr ⟨_, rfl, ?_⟩⟩
      refine ⟨_, _, rfl, rfl, .inr (by split <;> constructor <;> decide), _, _, rfl, rfl, ⟨by decide, by decide⟩, ?_⟩
      have hmo : 0 ≤ d * (if decide (2 < m) = true then 1 else 0) / 2 ∧ d * (if decide (2 < m) = true then 1 else 0) / 2 ≤ 20 := by
        split
        · rw [Int.mul_one]; omega
        · rw [Int.mul_zero]; decide
      refine ⟨fun σ H' => ∃ x4 x5 mo ks, σ = [some (.ref p), some (.int m), some (.ref fo), some (.int sh), x4, x5, some (.int mo), none, none, none] ∧ 0 ≤ mo ∧ mo ≤ 20 ∧ Pairs m H' fo ks ∧ ks.length ≤ 39 ∧ (∀ h : Int, 1 ≤ h → h < m → ∃ q ∈ ks, ∃ o : Int, q.2 = [o, h]) ∧ HandAt H' p l ∧ Ext p H H', ?_, ?_⟩
      · refine ⟨_, rfl, p, l, 2, rfl, g3, by decide, by decide, fun d2 H4 e0 e1 g4 b4 => ?_⟩
        have pr4 := pr3.but g3 b4 npf
        have x4' := x3.but b4
        refine ⟨rfl, _, rfl, ite2 (fun _ => ?_) (fun _ => ?_)⟩
        · exact ⟨_, rfl, _, _, rfl, _, _, _, ks, rfl, (min_ok hmo).1, (min_ok hmo).2, pr4, hl, hc, g4, x4'⟩
        · exact ⟨_, _, _, ks, rfl, hmo.1, hmo.2, pr4, hl, hc, g4, x4'⟩
      · clear hmo
        clear hl hc pr2 pr3 x2 x3 g2 g3 b3
        rintro σ H4 ⟨x4, x5, mo, ks, rfl, m0, m20, pr4, hl, hc, g4, x4'⟩
        refine ⟨fun σ H' => ∃ x4 x5 x7 x8 x9 ks, σ = [some (.ref p), some (.int m), some (.ref fo), some (.int sh), x4, x5, some (.int mo), x7, x8, x9] ∧ Pairs m H' fo ks ∧ ks.length < 64 ∧ (∀ h : Int, 1 ≤ h → h < m → ∃ q ∈ ks, ∃ o : Int, q.2 = [o, h]) ∧ HandAt H' p l ∧ Ext p H H', ?_, ?_⟩
        · refine ⟨_, rfl, mo, rfl, by omega, by omega, for_range (lo := 0) (n := mo.toNat) (fun i σ H' => ∃ x4 x5 x7 x8 x9 ks, σ = [some (.ref p), some (.int m), some (.ref fo), some (.int sh), x4, x5, some (.int mo), x7, x8, x9] ∧ Pairs m H' fo ks ∧ ks.length ≤ 39 + i ∧ (∀ h : Int, 1 ≤ h → h < m → ∃ q ∈ ks, ∃ o : Int, q.2 = [o, h]) ∧ HandAt H' p l ∧ Ext p H H') ?_ ?_ ?_⟩
          · exact ⟨x4, x5, _, _, _, ks, rfl, pr4, hl, hc, g4, x4'⟩
          · rintro i σ H5 hi ⟨y4, y5, y7, y8, y9, ks, rfl, pr5, hl, hc, g5, x5'⟩
            refine ⟨_, rfl, _, rfl, p, l, m, rfl, g5, by omega, by omega, fun a H6 a0 a1 g6 b6 => ?_⟩
            refine ⟨_, rfl, _, rfl, p, l, m, rfl, g6, by omega, by omega, fun b H7 b0 b1 g7 b7 => ?_⟩
            have pr7 := (pr5.but g5 b6 npf).but g6 b7 npf
            have x7' := (x5'.but b6).but b7
            refine ⟨_, rfl, _, rfl, rfl, _, rfl, ite2 (fun c => ?_) (fun _ => ?_)⟩
            · have hab : a ≠ b := fun e => by rw [e] at c; simp at c
              refine ⟨_, rfl, .inl ⟨rfl, _, SqL.of pr7.at_⟩, _, rfl, _, rfl, _, _, rfl, _, rfl, _, rfl, _, _, rfl, (by show 2 ≤ sizeLine; decide), fun t ht => ?_⟩
              have ntf : fo ≠ t := ne_of_none pr7.at_ ht
              refine ⟨fo, _, _, rfl, rfl, (by rw [upd_ne ntf]; exact pr7.at_), ?_, ?_⟩
              · rw [List.length_map]
                refine Nat.lt_of_lt_of_le (m := 64) (by omega) (by decide)
              · have e1 : (if b < a then b else a) < (if b > a then b else a) := by split <;> split <;> omega
                have e0 : 0 ≤ (if b < a then b else a) := by split <;> omega
                have e2 : (if b > a then b else a) < m := by split <;> omega
                refine ⟨_, _, _, _, _, _, rfl, pr7.add ht e0 e1 e2, by rw [List.length_append, List.length_singleton]; omega, fun h u v => ?_, (g7.new ht).stay npf nlf, fun b o e nb => by rw [upd_ne (ne_of_none e hf0)]; exact (x7'.upd ht) b o e nb⟩
                obtain ⟨q, hq, z⟩ := hc h u v
                exact ⟨q, List.mem_append_left _ hq, z⟩
            · exact ⟨_, _, _, _, _, ks, rfl, pr7, by omega, hc, g7, x7'⟩
          · rintro σ H5 ⟨y4, y5, y7, y8, y9, ks, rfl, pr5, hl, hc, g5, x5'⟩
            exact ⟨_, _, _, _, _, ks, rfl, pr5, by omega, hc, g5, x5'⟩
        · clear hl hc pr4 g4 x4'
          rintro σ H5 ⟨y4, y5, y7, y8, y9, ks, rfl, pr5, hl, hc, g5, x5'⟩
          refine ⟨_, rfl, fo, ks, rfl, SqL.of pr5.at_, fun q hq => SqT.of (pr5.tup q hq), hl, fun a L ha hLk hkL => ?_⟩
          have t6 : ∀ q ∈ ks, upd H5 a (SetTO P w a L) q.1 = some (.tup (q.2.map V.int)) := fun q hq => by
            rw [upd_ne (ne_of_none (pr5.tup q hq) ha)]
            exact pr5.tup q hq
          refine ⟨a, L, 2, 64, rfl, upd_same, fun q hq => SqT.of (t6 q (hLk q hq)), by decide, fun q hq => ?_, fun L' q pm hnd few pw hq => ?_⟩
          · obtain ⟨u, v, e, h0, h1, h2⟩ := pr5.ok q (hLk q hq)
            rw [e]
            refine ⟨rfl, fun z hz => ?_⟩
            simp at hz
            omega
          · refine ⟨q, _, rfl, .inl ⟨SqL.of upd_same, fun t ht => ?_⟩⟩
            have mem : ∀ x ∈ L', x ∈ ks := fun x hx => hLk x (pm.mem_iff.mp hx)
            have ntq : t ≠ q := fun e => by rw [e, upd_same] at ht; cases ht
            have ht2 : upd H5 a (SetTO P w a L) t = none := by
              have z := ht
              rw [upd_ne ntq] at z
              exact z
            refine k t L' _ ⟨upd_same, fun x hx => ?_, fun x hx => pr5.ok x (mem x hx), ?_, few, fun h u v => ?_⟩ ?_ ?_
            · rw [upd_ne (ne_of_none (t6 x (mem x hx)) ht2), upd_ne (ne_of_none (t6 x (mem x hx)) hq)]
              exact t6 x (mem x hx)
            · exact asc_of hm40 L' (fun x hx => pr5.ok x (mem x hx)) hnd pw
            · obtain ⟨x, hx, o, e⟩ := hc h u v
              obtain ⟨y, hy, e2⟩ := List.mem_map.mp (hkL x hx)
              exact ⟨y, pm.mem_iff.mpr hy, o, e2.trans e⟩
            · exact (((g5.new ha).new hq).new (by rw [upd_ne ntq]; exact ht2))
            · exact ((x5'.upd ha).upd hq).upd (by rw [upd_ne ntq]; exact ht2)
end
end Q

/-! enumerate over a tuple -/
namespace Q
open PySem L2 PySem.Spec PyProof.Rows
open AutoSeq1 (wpAny_loadPart')
theorem en_new (tp : Addr) (xs : Array Value) (n : Nat) (dc : Option Addr) (sl : Array (Option Value)) :
    Meets (Builtin.«enumerate.__new__» ⟨[.type "enumerate", .ref tp], []⟩) (fun _ R s => s.heap.get? tp = some { cls := .type "tuple", dict := dc, data := .seq xs n, slots := sl } ∧ R (.ok (.ret (.ref (s.heap.push { cls := .type "tuple_iterator", data := .fields #[.ref tp, .int 0 0] }).objs.size)))
      { s with heap := (s.heap.push { cls := .type "tuple_iterator", data := .fields #[.ref tp, .int 0 0] }).push { cls := .type "enumerate", data := .fields #[.none, .bool false, .ref s.heap.objs.size, rawInt 0, .none, .none] } }) :=
  .of_wp fun P' w' A' R' s' h' => by
    obtain ⟨h0, g0, d0, t0, o0⟩ := s'
    obtain ⟨a1, a2⟩ := h'
    have zs := sub_enumerate
    have zt : Heap.IsTuple (Shared.heap ⟨h0, g0, d0, t0, o0⟩) tp xs := ⟨_, a1, rfl, n, rfl⟩
    wp_walk using wpAny_loadPart' a1
    refine wpAny_stack_any fun _ => wpAny_pure ?_
    split
    · rename_i c _ _ _ _ _
      cases (c == Value.type "enumerate")
      · wp_walk using wpAny_loadPart' a1, wpAny_pyIter_tuple zt
        exact ⟨_, rfl, a2⟩
      · wp_walk using wpAny_loadPart' a1, wpAny_pyIter_tuple zt
        exact ⟨_, rfl, a2⟩
    · wp_walk using wpAny_loadPart' a1, wpAny_pyIter_tuple zt
      exact ⟨_, rfl, a2⟩
theorem en_call {prog : Program} {w : World} {A : Around} {E : Value → Shared → Prop} {s : Shared} {tp : Addr} {xs : Array Value} {Q : Value → Shared → Prop} (ht : s.heap.IsTuple tp xs)
    (k : ∀ h', IsEnum h' (s.heap.objs.size + 1) s.heap.objs.size 0 .none → h'.IsTupleIter s.heap.objs.size tp 0 → (∀ b o, s.heap.get? b = some o → h'.get? b = some o) → Q (.ref (s.heap.objs.size + 1)) { s with heap := h' }) :
    wpAny (model prog w) A (call (.type "enumerate") [.ref tp]) Q E s := by
  obtain ⟨⟨c, dc, dt, sl⟩, a1, ac, n, ad⟩ := ht
  have ac' : c = .type "tuple" := ac
  have ad' : dt = .seq xs n := ad
  subst ac' ad'
  refine callType_new F.called_enumerate (by decide) (F.typeCall_enumerate_1 _) (F.newCall_enumerate_1 _) (fun ob => F.args_object_init_2 ob _) F.entry_enumerate_new (en_new tp xs n dc sl) ⟨a1, ?_⟩
  have sz : (s.heap.push { cls := .type "tuple_iterator", data := .fields #[.ref tp, .int 0 0] }).objs.size = s.heap.objs.size + 1 := Heap.size_push ..
  show _ ∧ _
  rw [sz]
  have en : IsEnum ((s.heap.push { cls := .type "tuple_iterator", data := .fields #[.ref tp, .int 0 0] }).push { cls := .type "enumerate", data := .fields #[.none, .bool false, .ref s.heap.objs.size, rawInt 0, .none, .none] }) (s.heap.objs.size + 1) s.heap.objs.size 0 .none := by
    have q := Heap.get?_push_size (s.heap.push { cls := .type "tuple_iterator", data := .fields #[.ref tp, .int 0 0] }) (o := { cls := .type "enumerate", data := .fields #[.none, .bool false, .ref s.heap.objs.size, rawInt 0, .none, .none] }) rfl
    rw [sz] at q
    exact q
  exact ⟨⟨_, en, rfl⟩, k _ en ⟨_, Heap.get?_push_of_some _ (Heap.get?_push_size _ rfl), rfl, rfl⟩ fun b o x => Heap.get?_push_of_some _ (Heap.get?_push_of_some _ x)⟩
/-- the tuple at a, each item in a new pair behind its number -/
def ItEt (K : PySem.W.Frag) (a : Addr) : It :=
  ⟨fun i H => ∃ (xs : List V) (x : V), SqT K H a xs ∧ xs[i]? = some x, fun i H v H' => ∃ T x, v = .ref T ∧ H T = none ∧ H' = upd H T (.tup [.int (i : Nat), x]) ∧ ∀ ys, SqT K H a ys → ys[i]? = some x, fun i H => ∃ xs : List V, SqT K H a xs ∧ xs.length = i⟩
theorem D_of {prog : Program} {w : World} {A : Around} (hh : A.handled = none) {it a : Addr} (n : a ≠ it) (items : Array Value) : Draws prog w A.in1 it [it, a] items.size (fun i v => items[i]? = some v) (fun i h => h.IsTupleIter it a i ∧ h.IsTuple a items) :=
  Draws.tuple (A := A.in1) hh it a n items
theorem en_turn {P : Program} {w : World} {K : PySem.W.Frag} {elts : List Expr} {kk : Nat} {tpos : Pos} (a e it : Addr) :
    Turn P w K (.Tuple elts kk tpos) (ItEt K a) [e, it] e (fun i h => (∃ u, IsEnum h e it ((i : Nat) : Int) u) ∧ h.IsTupleIter it a i ∧ e ≠ it ∧ a ≠ it ∧ a ≠ e) where
  mem := List.mem_cons_self
  obj := fun i h st b hb => by
    obtain ⟨⟨u, he⟩, ⟨o, ho, hc, hd⟩, _⟩ := st
    rcases List.mem_cons.mp hb with z | z
    · rw [z]; exact ⟨_, he, fun v q => nomatch q⟩
    · rw [List.mem_singleton.mp z]; exact ⟨o, ho, fun v q => by rw [hd] at q; cases q⟩
  keep := fun i h h' st k => let ⟨⟨u, he⟩, hi, n1, n2⟩ := st; ⟨⟨u, k e List.mem_cons_self _ he⟩, hi.at fun o q => k it (List.mem_cons_of_mem _ (List.mem_singleton.mpr rfl)) o q, n1, n2⟩
  item := by
    intro X eP ew eK hc i pins s σ H E I hf st hg
    subst eP ew eK
    obtain ⟨⟨u0, he⟩, hit, n1, n2, n3⟩ := st
    obtain ⟨xs, x, hq, hx⟩ := hg
    obtain ⟨its, rv, tp, hz⟩ := I.tuple hq
    obtain ⟨u, hu, ru⟩ := rv.get hx
    have lt : i < its.toArray.size := by
      have z := (List.getElem?_eq_some_iff.mp hu).1
      simpa using z
    have le : e < s.heap.objs.size := Heap.lt_size he
    have li : it < s.heap.objs.size := by obtain ⟨_, q, _⟩ := hit; exact Heap.lt_size q
    refine wpAny_pyNext_enum_itemD (D_of (I.ok.hd hc) n2 its.toArray) he ⟨hit, tp⟩ lt n1 (fun z => ?_) fun y h' tk hy ho hs' hT hsz hk => ?_
    · rcases List.mem_cons.mp z with z | z
      · exact n1 z
      · exact n3 (List.mem_singleton.mp z).symm
    have ey : y = u := by
      have z : its.toArray[i]? = some y := hy
      rw [List.getElem?_toArray, hu] at z
      exact (Option.some.inj z).symm
    subst ey
    refine ⟨_, rfl, wpAny_letOwnedTupleGo_enum (s := { s with heap := h', toks := tk + 1 }) ho fun h2 he2 sb => ?_⟩
    have hT2 : h2.get? s.heap.objs.size = some { cls := .type "tuple", data := .seq #[.int i tk, y] } := (sb.2 _ (Nat.ne_of_gt le)).trans hT
    have new : ObjOk X.prog X.w (upd H s.heap.objs.size (.tup [.int (i : Nat), x])) h2 s.heap.objs.size (.tup [.int (i : Nat), x]) :=
      ⟨by show 2 ≤ sizeLine; decide, [.int i tk, y], .cons ⟨_, rfl⟩ (.cons ru .nil), ⟨_, hT2, rfl, _, rfl⟩⟩
    have I1 : Inv X pins σ (upd H s.heap.objs.size (.tup [.int (i : Nat), x])) { s with heap := h2, toks := tk + 1 } :=
      I.turnedNew (ch := [e, it]) (fun b ob hb q => (sb.2 b (fun z => hb (by rw [z]; exact List.mem_cons_self))).trans (hk b ob (fun z => hb (by rw [z]; exact List.mem_cons_self)) (fun z => hb (by rw [z]; exact List.mem_cons_of_mem _ (List.mem_singleton.mpr rfl))) q)) hf (Nat.le_refl _) new
    refine ⟨.ref s.heap.objs.size, _, I1, rfl, ⟨_, x, rfl, I.hok.fresh (Nat.le_refl _), rfl, fun ys hy => by rw [I.tuple_inj hy hq]; exact hx⟩, ⟨⟨y, ?_⟩, hs'.1.at fun o q => (sb.2 it (Ne.symm n1)).trans q, n1, n2, n3⟩, fun b hb => ?_⟩
    · have e1 : ((i + 1 : Nat) : Int) = (i : Int) + 1 := by omega
      rw [e1]
      exact he2
    · have hb2 : b < s.heap.objs.size := by
        rcases List.mem_cons.mp hb with z | z
        · rw [z]; exact le
        · rw [List.mem_singleton.mp z]; exact li
      rw [upd_ne (Nat.ne_of_lt hb2)]
      exact (hf b hb).1
  done := by
    intro X eP ew eK hc i pins s σ H E I hf st hg
    subst eP ew eK
    obtain ⟨⟨u0, he⟩, hit, n1, n2, n3⟩ := st
    obtain ⟨xs, hq, hx⟩ := hg
    obtain ⟨its, rv, tp, hz⟩ := I.tuple hq
    obtain ⟨f0, f1, f2, f3, f4, f5⟩ := hf it (List.mem_cons_of_mem _ (List.mem_singleton.mpr rfl))
    have ls : xs.length = its.length := rv.length
    have ei : i = its.toArray.size := by
      rw [List.size_toArray]
      omega
    exact wpAny_pyNext_enum_endD (D_of (I.ok.hd hc) n2 its.toArray) he ⟨by rw [← ei]; exact hit, tp⟩ fun h' eb => ⟨rfl, I.turned (t' := s.toks) (fun b o hb q => eb b o hb q) f0 f1 f3 f4 f5⟩
  self := fun A i s Q E st h => let ⟨⟨_, he⟩, _⟩ := st; wpAny_pyIter_enum he h
def iEnT (K : PySem.W.Frag) (ta : TA) : TI := fun σ H R => ta σ H fun vs H1 => ∃ a xs, vs = [.ref a] ∧ SqT K H1 a xs ∧ R (ItEt K a) H1
theorem pi_enumT {X : Cx} {e : Expr} {ta : TA} {p pos tpos : Pos} {elts : List Expr} {kk : Nat} (hg : Gl X "enumerate") (hm : X.mg "enumerate" = none) (ha : PA X [e] ta) (hs : starEach [e] X.env = [(false, eval e X.env)] := by rfl) :
    PI X (.Tuple elts kk tpos) (.Call (.Name "enumerate" p) [e] [] pos) (iEnT X.K ta) := by
  refine ⟨fun pins s σ H R I h => ?_⟩
  refine Call_ (ld_blt I hg hm boot_enumerate (PyProof.Rows.callWith_type1 (thn (ha.run pos pins s σ H _ I h) fun us s1 ⟨vs, H1, I1, r1, q1⟩ => ?_) hs rfl))
  obtain ⟨a, xs, rfl, hq, q⟩ := q1
  cases r1 with
  | cons r rr =>
    cases rr
    cases r
    obtain ⟨its, rv, tp, hz⟩ := I1.tuple hq
    have la : a < s1.heap.objs.size := by obtain ⟨o, z, _⟩ := tp; exact Heap.lt_size z
    refine en_call tp fun h' he hit hk => wpAny_pyIter_enum he ?_
    have I2 : Inv X pins σ H1 { s1 with heap := h' } := I1.kept (t' := s1.toks) hk
    refine ⟨s1.heap.objs.size + 1, [s1.heap.objs.size + 1, s1.heap.objs.size], _, _, H1, rfl, I2, en_turn a (s1.heap.objs.size + 1) s1.heap.objs.size, ⟨⟨.none, he⟩, hit, Nat.succ_ne_self _, Nat.ne_of_lt la, Nat.ne_of_lt (Nat.lt_succ_of_lt la)⟩, fun b hb => ?_, q⟩
    have hle : s1.heap.objs.size ≤ b := by
      rcases List.mem_cons.mp hb with z | z
      · rw [z]; exact Nat.le_add_right _ _
      · rw [List.mem_singleton.mp z]; exact Nat.le_refl _
    exact I1.fpOk hle (I1.hok.fresh hle)
theorem for_enT {K : PySem.W.Frag} {a : Addr} {xs : List V} {g : TG} {tb : TS} {D : Ends} {σ : L2.St} {H : Hp} (Pv : Nat → L2.St → Hp → Prop) (h0 : Pv 0 σ H) (hl : ∀ i σ H, i ≤ xs.length → Pv i σ H → SqT K H a xs)
    (hs : ∀ (i : Nat) (x : V) (T : Addr) (σ : L2.St) (H : Hp), xs[i]? = some x → Pv i σ H → H T = none → g (.ref T) σ (upd H T (.tup [.int (i : Nat), x])) fun σ2 H2 => tb { D with nx := Pv (i + 1), ct := Pv (i + 1), bk := D.nx } σ2 H2) (hd : ∀ σ H, Pv xs.length σ H → D.nx σ H) :
    ∃ W : Nat → Nat → L2.St → Hp → Prop, (∃ m, W 0 m σ H) ∧ ∀ i m σ H, W i m σ H →
      ((ItEt K a).stop i H ∧ D.nx σ H) ∨ ((ItEt K a).go i H ∧ ∃ N : L2.St → Hp → Prop, (∀ σ' H', N σ' H' → ∃ m', m' < m ∧ W (i + 1) m' σ' H') ∧ ∀ v H', (ItEt K a).yld i H v H' → g v σ H' fun σ2 H2 => tb { D with nx := N, ct := N, bk := D.nx } σ2 H2) := by
  refine ⟨fun i m σ H => m = xs.length - i ∧ i ≤ xs.length ∧ Pv i σ H, ⟨xs.length, by omega, Nat.zero_le _, h0⟩, ?_⟩
  rintro i m σ H ⟨em, hi, p⟩
  have q := hl i σ H hi p
  by_cases lt : i < xs.length
  · refine .inr ⟨⟨xs, xs[i], q, List.getElem?_eq_getElem lt⟩, Pv (i + 1), fun σ' H' p' => ⟨xs.length - (i + 1), by omega, rfl, lt, p'⟩, ?_⟩
    rintro v H' ⟨T, x, rfl, hT, rfl, hx⟩
    exact hs i x T σ H (hx xs q) p hT
  · have e : i = xs.length := by omega
    subst e
    exact .inl ⟨⟨xs, q, rfl⟩, hd σ H p⟩
end Q

namespace Q
open PySem L2
abbrev sPlain : Stmt := top 5
abbrev sNum : Stmt := top 6
abbrev sTie : Stmt := top 10
abbrev sFirst : Stmt := top 11
abbrev kInt (K : PySem.W.Frag) (t : Value) (b : Bool) : Prop := PySem.W.kitOne K t (.type "int") = some b
abbrev kBool (K : PySem.W.Frag) (t : Value) (b : Bool) : Prop := PySem.W.kitOne K t (.type "bool") = some b
def spPlain (K : PySem.W.Frag) : Sp := fun vs H Q _ => ∃ (v : V) (t : Value) (b c : Bool), vs = [v] ∧ TyX K H v t ∧ kInt K t b ∧ kBool K t c ∧ Q (.bl (b && !c)) H
def NoInt (K : PySem.W.Frag) (H : Hp) (v : V) : Prop := ∃ (t : Value) (b c : Bool), TyX K H v t ∧ kInt K t b ∧ kBool K t c ∧ (b && !c) = false
def spNum (K : PySem.W.Frag) : Sp := fun vs H Q _ => ∃ (n : Int) (v : V), vs = [.int n, v] ∧ ((∃ i : Int, v = .int i ∧ Q (.bl (decide (0 ≤ i) && decide (i < n))) H) ∨ (NoInt K H v ∧ Q (.bl false) H))
def spTie : Sp := fun vs H Q _ => ∃ (m : Int) (t : Addr) (a b : Int), vs = [.int m, .ref t] ∧ H t = some (.tup [.int a, .int b]) ∧ 0 ≤ a ∧ a < b ∧ b < m ∧ Q (.bl true) H
def spFirst : Sp := fun vs H Q _ => ∃ (m : Int) (q : Addr) (L : List (Addr × List Int)), vs = [.int m, .ref q] ∧ TiesAt m H q L ∧ ∀ H', Same H H' → Q .non H'
theorem kInt_int {K : PySem.W.Frag} : kInt K (.type "int") true := kit_ty (by decide +kernel)
theorem kBool_int {K : PySem.W.Frag} : kBool K (.type "int") false := kit_ty (by decide +kernel)
section
variable {P : Program} {w : World} {K : PySem.W.Frag} {mg : Str → Option Value} {base : Heap}
theorem scPlain : FnScope ["thing"] ["thing"] (defScope sPlain) := ⟨rfl, rfl, rfl, by decide +kernel, rfl, by decide +kernel, by decide +kernel⟩
theorem ok_plain {f : Addr} {fd : FuncData} {x : Str} {st : Stmt} (F : Fun K "is_plain_int" "is_plain_int" sPlain f fd) (B : Bts mg) : FnOk P w K mg base CX0 1 f fd ["thing"] (spPlain K) := by
  refine F.ok scPlain (fun vs H Q E h => ?_) (fun cdv A outer s H vs Q E hr h => ?_)
  · obtain ⟨v, t, b, c, rfl, _⟩ := h
    rfl
  · obtain ⟨v, t, b, c, rfl, ty, kb, kc, k⟩ := h
    refine ⟨_, pss_one (ps_ret (pe_and (pe_callB call_isi (by rfl) B.isinstance PyProof.Rows.boot_isinstance (pa_cons (pv 0) (pa_cons (pe_bltn (v := .ty "int") rfl B.int PyProof.Rows.boot_int rfl) pa_nil)))
      (pe_one (pe_not (pe_callB call_isi (by rfl) B.isinstance PyProof.Rows.boot_isinstance (pa_cons (pv 0) (pa_cons (pe_bltn (v := .ty "bool") rfl B.bool (by decide +kernel) rfl) pa_nil))))))), ?_⟩
    refine ⟨_, rfl, v, .ty "int", t, .type "int", b, rfl, .ty _, ty, kb, _, rfl, ?_⟩
    cases b with
    | false => exact iteF k
    | true => exact iteT ⟨_, rfl, v, .ty "bool", t, .type "bool", c, rfl, .ty _, ty, kc, _, rfl, k⟩
theorem scNum : FnScope ["limit", "thing"] ["limit", "thing"] (defScope sNum) := ⟨rfl, rfl, rfl, by decide +kernel, rfl, by decide +kernel, by decide +kernel⟩
theorem ok_num {f fP : Addr} {fd fdP : FuncData} (F : Fun K "is_number_below" "is_number_below" sNum f fd) (B : Bts mg) (DP : Df K mg "is_plain_int" sPlain ["thing"] fP fdP) : FnOk P w K mg base CX0 2 f fd ["limit", "thing"] (spNum K) := by
  have GP : FnOk P w K mg base CX0 1 fP fdP ["thing"] (spPlain K) := ok_plain (x := "") (st := sPlain) DP.F B
  refine F.ok scNum (fun vs H Q E h => ?_) (fun cdv A outer s H vs Q E hr h => ?_)
  · obtain ⟨n, v, rfl, _⟩ := h
    rfl
  · obtain ⟨n, v, rfl, h⟩ := h
    refine ⟨_, pss_one (ps_ret (pe_and (pe_call GP hr rfl DP.m DP.k DP.b .nil pass0 (pa_cons (pv 1) pa_nil)) (pe_one (pe_chain op_le op_lt pe_int (pv 1) (pv 0))))), ?_⟩
    rcases h with ⟨i, rfl, k⟩ | ⟨⟨t, b, c, ty, kb, kc, e⟩, k⟩
    · refine ⟨_, rfl, .int i, .type "int", true, false, rfl, .base (.int _), kInt_int, kBool_int, _, rfl, iteT ?_⟩
      refine ⟨_, rfl, _, _, rfl, rfl, _, rfl, ?_⟩
      by_cases c : (0 : Int) ≤ i
      · rw [decide_eq_true c] at k ⊢
        exact iteT ⟨_, rfl, _, _, rfl, rfl, k⟩
      · rw [decide_eq_false c] at k ⊢
        exact iteF k
    · refine ⟨_, rfl, v, t, b, c, rfl, ty, kb, kc, _, rfl, ?_⟩
      rw [e]
      exact iteF k
theorem scTie : FnScope ["many", "thing", "low", "high"] ["many", "thing"] (defScope sTie) := ⟨rfl, rfl, rfl, by decide +kernel, rfl, by decide +kernel, by decide +kernel⟩
theorem ok_tie {f fP fN : Addr} {fd fdP fdN : FuncData} (F : Fun K "is_tie" "is_tie" sTie f fd) (B : Bts mg) (DP : Df K mg "is_plain_int" sPlain ["thing"] fP fdP) (DN : Df K mg "is_number_below" sNum ["limit", "thing"] fN fdN) : FnOk P w K mg base CX0 3 f fd ["many", "thing"] spTie := by
  have GN : FnOk P w K mg base CX0 2 fN fdN ["limit", "thing"] (spNum K) := ok_num DN.F B DP
  refine F.ok scTie (fun vs H Q E h => ?_) (fun cdv A outer s H vs Q E hr h => ?_)
  · obtain ⟨m, t, a, b, rfl, _⟩ := h
    rfl
  · obtain ⟨m, t, a, b, rfl, ht, h0, h1, h2, k⟩ := h
    have nd := scTie.nd
    refine ⟨_, pss_cons (ps_if (PW.pt (pw_or (pt_not (pt_val (pe_callB call_isi (by rfl) B.isinstance PyProof.Rows.boot_isinstance (pa_cons (pv 1) (pa_cons (pe_bltn (v := .ty "tuple") rfl B.tuple PyProof.Rows.boot_tuple rfl) pa_nil)))))
        (pw_or1 (pt_cmpR op_ne (pe_callB call_len_seq (by rfl) B.len PySem.boot_len (pa_cons (pv 1) pa_nil)) pe_int (nomark _))))) pss_never pss_nil)
      (pss_cons (ps_asg (pv 1) (pg_tup rfl (pgs_cons (pg_name (i := 2) nd rfl (.inl rfl)) (pgs_cons (pg_name (i := 3) nd rfl (.inl rfl)) pgs_nil))))
      (pss_one (ps_ret (pe_and (pe_call GN hr rfl DN.m DN.k DN.b .nil pass0 (pa_cons (pv 0) (pa_cons (pv 2) pa_nil)))
        (pe_and (pe_call GN hr rfl DN.m DN.k DN.b .nil pass0 (pa_cons (pv 0) (pa_cons (pv 3) pa_nil))) (pe_one (pe_cmpR op_lt (pv 2) (pv 3) (nomark _)))))))), ?_⟩
    refine ⟨_, rfl, .ref t, .ty "tuple", .type "tuple", .type "tuple", true, rfl, .ty _, .base (.tup ht), kit_ty (by decide +kernel), _, rfl, ?_⟩
    refine iteF ⟨_, rfl, t, _, rfl, .inr (SqT.of ht), rfl, _, rfl, ?_⟩
    refine iteF ?_
    refine ⟨_, rfl, t, _, rfl, SqT.of ht, rfl, _, _, rfl, _, _, rfl, rfl, ?_⟩
    refine ⟨_, rfl, _, rfl, m, _, rfl, .inl ⟨a, rfl, ?_⟩⟩
    rw [decide_eq_true h0, decide_eq_true (show a < m by omega)]
    refine ⟨_, rfl, iteT ?_⟩
    refine ⟨_, rfl, _, rfl, m, _, rfl, .inl ⟨b, rfl, ?_⟩⟩
    rw [decide_eq_true (show 0 ≤ b by omega), decide_eq_true h2]
    refine ⟨_, rfl, iteT ?_⟩
    refine ⟨_, rfl, _, rfl, _, _, rfl, rfl, ?_⟩
    have z : Q (V.bl (decide (a < b))) H := by
      rw [decide_eq_true h1]
      exact k
    exact z
theorem not_le_of {a b c d : Int} (h : ltP [c, d] [a, b]) : Ob.lexAt (fun j => decide (([a, b] : List Int).getD j 0 = ([c, d] : List Int).getD j 0)) (fun j => decide (([a, b] : List Int).getD j 0 ≤ ([c, d] : List Int).getD j 0)) (decide (([a, b] : List Int).length ≤ ([c, d] : List Int).length)) 0 (min ([a, b] : List Int).length ([c, d] : List Int).length) = false := by
  obtain ⟨x, y, z, u, e1, e2, h⟩ := h
  simp only [List.cons.injEq, and_true] at e1 e2
  obtain ⟨rfl, rfl⟩ := e1
  obtain ⟨rfl, rfl⟩ := e2
  show (if decide (a = c) = true then (if decide (b = d) = true then decide ((2 : Nat) ≤ 2) else decide (b ≤ d)) else decide (a ≤ c)) = false
  rcases h with h | ⟨h1, h2⟩
  · rw [decide_eq_false (show ¬ a = c by omega), if_neg Bool.false_ne_true]
    exact decide_eq_false (by omega)
  · rw [decide_eq_true (show a = c by omega), if_pos rfl, decide_eq_false (show ¬ b = d by omega), if_neg Bool.false_ne_true]
    exact decide_eq_false (by omega)
/-- what stood ahead of item i -/
def ahd (L : List (Addr × List Int)) : Nat → List Int
  | 0 => []
  | i + 1 => match L[i]? with
    | some p => p.2
    | none => []
theorem TiesAt.same {m : Int} {H H' : Hp} {q : Addr} {L : List (Addr × List Int)} (h : TiesAt m H q L) (s : Same H H') : TiesAt m H' q L :=
  ⟨s _ _ h.at_, fun p hp => s _ _ (h.tup p hp), h.ok, h.asc, h.few, h.conn⟩
theorem ahd_lt {L : List (Addr × List Int)} (asc : L.Pairwise (fun x y => ltP x.2 y.2)) {i : Nat} {p : Addr × List Int} (h : L[i + 1]? = some p) : ltP (ahd L (i + 1)) p.2 := by
  have h1 := (List.getElem?_eq_some_iff.mp h).1
  have e : L[i]? = some L[i] := List.getElem?_eq_getElem (by omega)
  have e2 := (List.getElem?_eq_some_iff.mp h).2
  show ltP (match L[i]? with | some p => p.2 | none => []) p.2
  rw [e]
  have z := List.pairwise_iff_getElem.mp asc i (i + 1) (by omega) h1 (by omega)
  rw [e2] at z
  exact z
theorem scFirst : FnScope ["many", "ties", "ahead", "at", "tie"] ["many", "ties"] (defScope sFirst) := ⟨rfl, rfl, rfl, by decide +kernel, rfl, by decide +kernel, by decide +kernel⟩
theorem ok_first {f fP fN fT : Addr} {fd fdP fdN fdT : FuncData} (F : Fun K "first_wrong_tie" "first_wrong_tie" sFirst f fd) (B : Bts mg) (DP : Df K mg "is_plain_int" sPlain ["thing"] fP fdP) (DN : Df K mg "is_number_below" sNum ["limit", "thing"] fN fdN)
    (DT : Df K mg "is_tie" sTie ["many", "thing"] fT fdT) : FnOk P w K mg base CX0 4 f fd ["many", "ties"] spFirst := by
  have GT : FnOk P w K mg base CX0 3 fT fdT ["many", "thing"] spTie := ok_tie DT.F B DP DN
  refine F.ok scFirst (fun vs H Q E h => ?_) (fun cdv A outer s H vs Q E hr h => ?_)
  · obtain ⟨m, q, L, rfl, _⟩ := h
    rfl
  · obtain ⟨m, q, L, rfl, tt, k⟩ := h
    have nd := scFirst.nd
    have hu := hr.units0
    refine ⟨_, pss_cons (ps_set (i := 2) nd rfl (.inl rfl) (pe_tup pa_nil))
      (pss_cons (ps_for PassesOwn.never rfl (pi_enumT rfl B.enumerate (pa_cons (pv 1) pa_nil)) (pg_tup rfl (pgs_cons (pg_name (i := 3) nd rfl (.inl rfl)) (pgs_cons (pg_name (i := 4) nd rfl (.inl rfl)) pgs_nil)))
        (pss_cons (ps_if (PW.pt (pw_or (pt_not (pt_val (pe_call GT hr rfl DT.m DT.k DT.b .nil pass0 (pa_cons (pv 0) (pa_cons (pv 4) pa_nil))))) (pw_or1 (pt_cmpR (op_leT hu) (pv 4) (pv 2) (nomark _))))) pss_never pss_nil)
        (pss_one (ps_set (i := 2) nd rfl (.inl rfl) (pv 4)))))
      (pss_one (ps_ret pe_non))), ?_⟩
    refine ⟨Nat.zero_le _, fun ah hah => ?_⟩
    have s0 : Same H (upd H ah (.tup [])) := fun b o e => by rw [upd_ne (ne_of_none e hah)]; exact e
    refine ⟨_, rfl, q, _, rfl, SqT.of (s0 _ _ tt.at_), for_enT (a := q) (xs := L.map fun p => V.ref p.1) (fun i σ H' => ∃ ah x3 x4, σ = [some (.int m), some (.ref q), some (.ref ah), x3, x4] ∧ Same H H' ∧ H' ah = some (.tup ((ahd L i).map V.int))) ?_ ?_ ?_ ?_⟩
    · exact ⟨ah, none, none, rfl, s0, upd_same⟩
    · rintro i σ H1 hi ⟨ah, x3, x4, rfl, s1, e⟩
      exact SqT.of (s1 _ _ tt.at_)
    · rintro i x T σ H1 hx ⟨ah, x3, x4, rfl, s1, e⟩ hT
      have s2 : Same H1 (upd H1 T (.tup [.int (i : Nat), x])) := fun b o e => by rw [upd_ne (ne_of_none e hT)]; exact e
      obtain ⟨p, hp, rfl⟩ : ∃ p, L[i]? = some p ∧ V.ref p.1 = x := by
        rw [List.getElem?_map] at hx
        cases z : L[i]? with
        | none => rw [z] at hx; cases hx
        | some p => rw [z] at hx; exact ⟨p, rfl, Option.some.inj hx⟩
      have hm : p ∈ L := List.mem_of_getElem? hp
      obtain ⟨a, b, e2, a0, ab, bm⟩ := tt.ok p hm
      have ht2 := s2 _ _ (s1 _ _ (tt.tup p hm))
      refine ⟨T, _, rfl, SqT.of upd_same, rfl, _, _, rfl, _, _, rfl, rfl, ?_⟩
      have ht3 := ht2
      rw [e2] at ht3
      refine ⟨_, rfl, _, rfl, m, p.1, a, b, rfl, ht3, a0, ab, bm, _, rfl, ?_⟩
      refine iteF ⟨_, rfl, _, rfl, p.1, ah, [a, b], ahd L i, rfl, rfl, SqT.of ht3, SqT.of (s2 _ _ e), _, rfl, ?_⟩
      have fl : Ob.lexAt (fun j => decide (([a, b] : List Int).getD j 0 = (ahd L i).getD j 0)) (fun j => decide (([a, b] : List Int).getD j 0 ≤ (ahd L i).getD j 0)) (decide (([a, b] : List Int).length ≤ (ahd L i).length)) 0 (min ([a, b] : List Int).length (ahd L i).length) = false := by
        cases i with
        | zero => rfl
        | succ i =>
          have z := ahd_lt tt.asc hp
          rw [e2] at z
          have z' := z
          obtain ⟨c, d, _, _, e3, _⟩ := z'
          rw [e3] at z ⊢
          exact not_le_of z
      rw [fl]
      refine iteF ⟨_, rfl, p.1, _, _, rfl, fun b o e => s2 _ _ (s1 _ _ e), ?_⟩
      have eah : ahd L (i + 1) = p.2 := by
        show (match L[i]? with | some p => p.2 | none => []) = p.2
        rw [hp]
      rw [eah]
      exact ht2
    · rintro σ H1 ⟨ah, x3, x4, rfl, s1, e⟩
      exact k _ s1
end
end Q

namespace Q
open PySem L2
abbrev sBeside : Stmt := top 12
def Edge (L : List (Addr × List Int)) (i j : Int) : Prop := ∃ p ∈ L, p.2 = [i, j] ∨ p.2 = [j, i]
/-- a list at D of n lists of ints -/
structure RowsL (H : Hp) (D : Addr) (bs : List Addr) (nb : Nat → List Int) (n : Nat) : Prop where
  at_ : H D = some (.lst (bs.map V.ref))
  len : bs.length = n
  nd : bs.Nodup
  nD : D ∉ bs
  row : ∀ (i : Nat) (a : Addr), bs[i]? = some a → H a = some (.lst ((nb i).map V.int))
theorem nd_get {l : List Addr} (h : l.Nodup) {i j : Nat} {a : Addr} (h1 : l[i]? = some a) (h2 : l[j]? = some a) : i = j := by
  obtain ⟨l1, e1⟩ := List.getElem?_eq_some_iff.mp h1
  obtain ⟨l2, e2⟩ := List.getElem?_eq_some_iff.mp h2
  rcases Nat.lt_trichotomy i j with c | c | c
  · exact absurd (e1.trans e2.symm) (List.pairwise_iff_getElem.mp h i j l1 l2 c)
  · exact c
  · exact absurd (e2.trans e1.symm) (List.pairwise_iff_getElem.mp h j i l2 l1 c)
theorem RowsL.add {H : Hp} {D : Addr} {bs : List Addr} {nb : Nat → List Int} {n i : Nat} {a : Addr} {j : Int} (h : RowsL H D bs nb n) (hi : bs[i]? = some a) :
    RowsL (upd H a (.lst ((nb i).map V.int ++ [.int j]))) D bs (fun k => if k = i then nb i ++ [j] else nb k) n := by
  have hm : a ∈ bs := List.mem_of_getElem? hi
  refine ⟨by rw [upd_ne (fun e => h.nD (by rw [e]; exact hm))]; exact h.at_, h.len, h.nd, h.nD, fun k b hk => ?_⟩
  show upd H a _ b = some (.lst ((if k = i then nb i ++ [j] else nb k).map V.int))
  by_cases e : b = a
  · subst e
    have ek := nd_get h.nd hk hi
    rw [if_pos ek, upd_same, List.map_append]
    rfl
  · have nk : ¬ k = i := fun ek => by
      rw [ek, hi] at hk
      exact e (Option.some.inj hk).symm
    rw [if_neg nk, upd_ne e]
    exact h.row k b hk
/-- a tuple at r of tuples of ints: the neighbours -/
structure RowsT (H : Hp) (r : Addr) (bs : List Addr) (nb : Nat → List Int) (n : Nat) : Prop where
  at_ : H r = some (.tup (bs.map V.ref))
  len : bs.length = n
  row : ∀ (i : Nat) (a : Addr), bs[i]? = some a → H a = some (.tup ((nb i).map V.int))
theorem RowsT.same {H H' : Hp} {r : Addr} {bs : List Addr} {nb : Nat → List Int} {n : Nat} (h : RowsT H r bs nb n) (s : Same H H') : RowsT H' r bs nb n := ⟨s _ _ h.at_, h.len, fun i a e => s _ _ (h.row i a e)⟩
def NbOf (L : List (Addr × List Int)) (n : Nat) (nb : Nat → List Int) : Prop := ∀ (i : Nat), i < n → ∀ j : Int, j ∈ nb i ↔ Edge L (i : Int) j
theorem sNew {H H1 : Hp} {p : Addr} {o : HO} (s : Same H H1) (n : H p = none) : Same H (upd H1 p o) := fun b u e => by
  rw [upd_ne (ne_of_none e n)]; exact s b u e
theorem sNew' {H H1 : Hp} {p : Addr} {o : HO} (s : Same H H1) (n : H1 p = none) : Same H (upd H1 p o) := fun b u e => by
  rw [upd_ne (ne_of_none (s b u e) n)]; exact s b u e
theorem sNo {H H1 : Hp} {p : Addr} (s : Same H H1) (n : H1 p = none) : H p = none := by
  cases e : H p with
  | none => rfl
  | some o =>
    rw [s _ _ e] at n
    cases n
def spBeside : Sp := fun vs H Q _ => ∃ (m : Int) (q : Addr) (L : List (Addr × List Int)), vs = [.int m, .ref q] ∧ 1 ≤ m ∧ m ≤ 40 ∧ TiesAt m H q L ∧ ∀ (r : Addr) (bs : List Addr) (nb : Nat → List Int) (H' : Hp), RowsT H' r bs nb m.toNat → NbOf L m.toNat nb → Same H H' → Q (.ref r) H'
theorem get_cast {ns : List V} {i : Int} {v : V} (h0 : 0 ≤ i) (h : ns[i.toNat]? = some v) : atI ns i = some v := by
  have z := atI_nat h
  rw [Int.toNat_of_nonneg h0] at z
  exact z
theorem map_get {l : List Addr} {i : Nat} {a : Addr} (h : l[i]? = some a) : (l.map V.ref)[i]? = some (V.ref a) := by
  rw [List.getElem?_map, h]
  rfl
theorem map_inv {α : Type} {f : α → V} {l : List α} {i : Nat} {v : V} (h : (l.map f)[i]? = some v) : ∃ a, l[i]? = some a ∧ v = f a := by
  rw [List.getElem?_map] at h
  cases e : l[i]? with
  | none => rw [e] at h; cases h
  | some a => rw [e] at h; exact ⟨a, rfl, (Option.some.inj h).symm⟩
theorem take_succ_mem {α : Type} {l : List α} {k : Nat} {x y : α} (h : l[k]? = some x) : y ∈ l.take (k + 1) ↔ y ∈ l.take k ∨ y = x := by
  rw [List.take_succ, h]
  simp
def rTupO (K : PySem.W.Frag) : List V → Hp → VK → Prop := fun xs H Q => ∃ (p : Addr) (ys : List V), xs = [.ref p] ∧ ((SqL K H p ys ∧ ∀ l, H l = none → Q (.ref l) (upd H l (.tup ys))) ∨ (SqT K H p ys ∧ Q (.ref p) H))
theorem cr_tupO {X : Cx} : CallR X (.type "tuple") (rTupO X.K) := call_tuple_of
section
variable {P : Program} {w : World} {K : PySem.W.Frag} {mg : Str → Option Value} {base : Heap}
theorem scBeside : FnScope ["many", "ties", "beside", "low", "high", "_", "houses"] ["many", "ties"] (defScope sBeside) := ⟨rfl, rfl, rfl, by decide +kernel, rfl, by decide +kernel, by decide +kernel⟩
theorem ok_beside {f : Addr} {fd : FuncData} (F : Fun K "houses_beside" "houses_beside" sBeside f fd) (B : Bts mg) : FnOk P w K mg base CX0 1 f fd ["many", "ties"] spBeside := by
  refine F.ok scBeside (fun vs H Q E h => ?_) (fun cdv A outer s H vs Q E hr h => ?_)
  · obtain ⟨m, q, L, rfl, _⟩ := h
    rfl
  · obtain ⟨m, q, L, rfl, m1, m40, tt, k⟩ := h
    have nd := scBeside.nd
    refine ⟨_, pss_cons (ps_setLc (i := 2) (own := [("_", 5)]) (g := gName 5) (tt := tYes) rfl nd rfl rfl (sw_true rfl rfl rfl (by decide +kernel)) (pi_range1 rfl B.range (pa_cons (pv 0) pa_nil))
        (blkOk_by (N := ["many", "ties", "beside", "low", "high", "_", "houses"]) (sc := defScope sBeside) (by decide +kernel)) (fun _ _ _ _ _ => pg_name (i := 5) nd rfl (.inl rfl)) (fun _ _ _ _ _ => pts_nil) (fun _ _ _ _ _ => pe_lst pa_nil))
      (pss_cons (ps_for PassesOwn.never rfl (pi_tup (pv 1)) (pg_tup rfl (pgs_cons (pg_name (i := 3) nd rfl (.inl rfl)) (pgs_cons (pg_name (i := 4) nd rfl (.inl rfl)) pgs_nil)))
        (pss_cons (ps_expr (pe_bm PySem.F.plainAttrs_list PySem.F.slot_list_append PySem.F.type_list_append mt_append (pe_ix ix_list (pv 2) (pv 3) (fun _ _ => rfl)) (pa_cons (pv 4) pa_nil)))
        (pss_one (ps_expr (pe_bm PySem.F.plainAttrs_list PySem.F.slot_list_append PySem.F.type_list_append mt_append (pe_ix ix_list (pv 2) (pv 4) (fun _ _ => rfl)) (pa_cons (pv 3) pa_nil))))))
      (pss_one (ps_ret (pe_callTy call_tuple_of (by rfl) B.tuple PyProof.Rows.boot_tuple (pa_cons (pe_lc (own := [("houses", 6)]) (g := gName 6) (tt := tYes) rfl nd (pi_list (pv 2))
        (blkOk_by (N := ["many", "ties", "beside", "low", "high", "_", "houses"]) (sc := defScope sBeside) (by decide +kernel)) (fun _ _ _ _ _ => pg_name (i := 6) nd rfl (.inl rfl)) (fun _ _ _ _ _ => pts_nil)
        (fun _ _ _ _ _ => pe_callTy (r := rTupO K) cr_tupO (by rfl) B.tuple PyProof.Rows.boot_tuple (pa_cons (pe_callB (r := rSorted K) cr_sorted (by rfl) B.sorted PyProof.Rows.boot_sorted (pa_cons (pv 6) pa_nil)) pa_nil))) pa_nil))))), ?_⟩
    -- beside = [[] for _ in range(many)]
    refine ⟨_, rfl, m, rfl, by omega, by omega, fun D hD => lc_range (lo := 0) (n := m.toNat) (fun i H' => ∃ bs : List Addr, H' D = some (.lst (bs.map V.ref)) ∧ bs.length = i ∧ bs.Nodup ∧ D ∉ bs ∧ (∀ a ∈ bs, H' a = some (.lst []) ∧ H a = none) ∧ Same H H') ?_ ?_ ?_⟩
    · exact ⟨[], upd_same, rfl, List.nodup_nil, List.not_mem_nil, fun a ha => absurd ha List.not_mem_nil, sNew (fun _ _ e => e) hD⟩
    · rintro i H1 hi ⟨bs, e1, hl, hn, hd, hb, s1⟩
      refine ⟨rfl, Nat.zero_le _, fun a ha => ?_⟩
      have nDa : D ≠ a := ne_of_none e1 ha
      have ea : upd H1 a (.lst []) D = some (.lst (bs.map V.ref)) := by rw [upd_ne nDa]; exact e1
      have na : a ∉ bs := fun hm => by
        rw [(hb a hm).1] at ha
        cases ha
      refine ⟨_, ea, ?_, bs ++ [a], ?_, ?_, ?_, ?_, ?_, ?_⟩
      · rw [List.length_map, hl]
        exact Nat.lt_of_lt_of_le (m := 64) (by omega) (by decide)
      · rw [upd_same, List.map_append]
        rfl
      · rw [List.length_append, hl]
        rfl
      · exact nd_snoc hn na
      · intro hm
        rcases List.mem_append.mp hm with hm | hm
        · exact hd hm
        · exact nDa (List.mem_singleton.mp hm)
      · intro b hm
        rcases List.mem_append.mp hm with hm | hm
        · refine ⟨?_, (hb b hm).2⟩
          rw [upd_ne (fun e => hd (by rw [← e]; exact hm)), upd_ne (fun e => na (by rw [← e]; exact hm))]
          exact (hb b hm).1
        · obtain rfl := List.mem_singleton.mp hm
          refine ⟨?_, sNo s1 ha⟩
          rw [upd_ne nDa.symm, upd_same]
      · exact sNew (sNew' s1 ha) hD
    · rintro H1 ⟨bs, e1, hl, hn, hd, hb, s1⟩
      have r1 : RowsL H1 D bs (fun _ => []) m.toNat := ⟨e1, hl, hn, hd, fun i a hi => (hb a (List.mem_of_getElem? hi)).1⟩
      have hfr : ∀ a ∈ bs, H a = none := fun a ha => (hb a ha).2
      clear e1 hl hn hd hb
      refine ⟨_, rfl, q, rfl, ⟨_, SqT.of (s1 _ _ tt.at_)⟩, for_tup (K := K) (a := q) (xs := L.map fun p => V.ref p.1) (fun k σ H' => ∃ x3 x4 nb, σ = [some (.int m), some (.ref q), some (.ref D), x3, x4, none, none] ∧ RowsL H' D bs nb m.toNat ∧ (∀ i : Nat, i < m.toNat → ∀ j : Int, j ∈ nb i ↔ Edge (L.take k) (i : Int) j) ∧ (∀ i, (nb i).length ≤ k) ∧ Same H H') ?_ ?_ ?_ ?_⟩
      · exact ⟨none, none, _, rfl, r1, fun i hi j => ⟨fun h => absurd h List.not_mem_nil, fun ⟨p, hp, _⟩ => absurd hp (by simp)⟩, fun i => Nat.le_refl _, s1⟩
      · rintro k σ H2 hk ⟨x3, x4, nb, rfl, r2, he, hlen, s2⟩
        exact SqT.of (s2 _ _ tt.at_)
      · rintro k x σ H2 hx ⟨x3, x4, nb, rfl, r2, he, hlen, s2⟩
        obtain ⟨p, hp, rfl⟩ := map_inv hx
        have hk64 : k < 64 := Nat.lt_of_lt_of_le (List.getElem?_eq_some_iff.mp hp).1 (Nat.le_of_lt tt.few)
        obtain ⟨a, b, e2, a0, ab, bm⟩ := tt.ok p (List.mem_of_getElem? hp)
        have ht := s2 _ _ (tt.tup p (List.mem_of_getElem? hp))
        rw [e2] at ht
        have la : a.toNat < bs.length := by rw [r2.len]; omega
        have lb : b.toNat < bs.length := by rw [r2.len]; omega
        have ga : bs[a.toNat]? = some bs[a.toNat] := List.getElem?_eq_getElem la
        have gb : bs[b.toNat]? = some bs[b.toNat] := List.getElem?_eq_getElem lb
        refine ⟨p.1, _, rfl, SqT.of ht, rfl, _, _, rfl, _, _, rfl, rfl, ?_⟩
        have ra := r2.row _ _ ga
        refine ⟨_, rfl, _, rfl, D, _, a, _, rfl, rfl, SqL.of r2.at_, get_cast a0 (map_get ga), .inl ⟨rfl, _, SqL.of ra⟩, _, rfl, bs[a.toNat], _, _, rfl, rfl, ra, ?_, ?_⟩
        · rw [List.length_map]
          exact Nat.lt_of_le_of_lt (hlen _) (Nat.lt_of_lt_of_le hk64 (by decide))
        · have r3 := r2.add (j := b) ga
          have rb := r3.row _ _ gb
          have nab : ¬ b.toNat = a.toNat := by omega
          rw [if_neg nab] at rb
          refine ⟨_, rfl, _, rfl, D, _, b, _, rfl, rfl, SqL.of r3.at_, get_cast (by omega) (map_get gb), .inl ⟨rfl, _, SqL.of rb⟩, _, rfl, bs[b.toNat], _, _, rfl, rfl, rb, ?_, ?_⟩
          · rw [List.length_map]
            exact Nat.lt_of_le_of_lt (hlen _) (Nat.lt_of_lt_of_le hk64 (by decide))
          · have r4 := r3.add (j := a) gb
            simp only [if_neg nab] at r4
            refine ⟨_, _, _, rfl, r4, ?_, ?_, ?_⟩
            · intro i hi j
              have hz := he i hi j
              show j ∈ (if i = b.toNat then nb b.toNat ++ [a] else if i = a.toNat then nb a.toNat ++ [b] else nb i) ↔ _
              have ste : Edge (L.take (k + 1)) (i : Int) j ↔ Edge (L.take k) (i : Int) j ∨ (((i : Int) = a ∧ j = b) ∨ ((i : Int) = b ∧ j = a)) := by
                constructor
                · rintro ⟨y, hy, e⟩
                  rcases (take_succ_mem hp).mp hy with hy | rfl
                  · exact .inl ⟨y, hy, e⟩
                  · rw [e2] at e
                    simp only [List.cons.injEq, and_true] at e
                    omega
                · rintro (⟨y, hy, e⟩ | h)
                  · exact ⟨y, (take_succ_mem hp).mpr (.inl hy), e⟩
                  · refine ⟨p, (take_succ_mem hp).mpr (.inr rfl), ?_⟩
                    rw [e2]
                    simp only [List.cons.injEq, and_true]
                    omega
              rw [ste, ← hz]
              by_cases c1 : i = b.toNat
              · rw [if_pos c1, c1, List.mem_append, List.mem_singleton]
                constructor
                · rintro (h | h)
                  · exact .inl h
                  · exact .inr (.inr ⟨by omega, h⟩)
                · rintro (h | ⟨h, _⟩ | ⟨_, h⟩)
                  · exact .inl h
                  · omega
                  · exact .inr h
              · rw [if_neg c1]
                by_cases c2 : i = a.toNat
                · rw [if_pos c2, c2, List.mem_append, List.mem_singleton]
                  constructor
                  · rintro (h | h)
                    · exact .inl h
                    · exact .inr (.inl ⟨by omega, h⟩)
                  · rintro (h | ⟨_, h⟩ | ⟨h, _⟩)
                    · exact .inl h
                    · exact .inr h
                    · omega
                · rw [if_neg c2]
                  constructor
                  · exact .inl
                  · rintro (h | ⟨h, _⟩ | ⟨h, _⟩)
                    · exact h
                    · omega
                    · omega
            · intro i
              show (if i = b.toNat then nb b.toNat ++ [a] else if i = a.toNat then nb a.toNat ++ [b] else nb i).length ≤ k + 1
              have l1 := hlen i
              have l2 := hlen a.toNat
              have l3 := hlen b.toNat
              split
              · rw [List.length_append, List.length_singleton]; omega
              · split
                · rw [List.length_append, List.length_singleton]; omega
                · omega
            · intro y o e
              have za := hfr _ (List.mem_of_getElem? ga)
              have zb := hfr _ (List.mem_of_getElem? gb)
              rw [upd_ne (ne_of_none e zb), upd_ne (ne_of_none e za)]
              exact s2 y o e
      · rintro σ H2 ⟨x3, x4, nb, rfl, r2, he, hlen, s2⟩
        have few := tt.few
        rw [List.length_map] at he hlen
        rw [List.take_length] at he
        refine ⟨_, rfl, D, rfl, ⟨_, SqL.of r2.at_⟩, fun D2 hD2 => lc_list (K := K) (a := D) (xs := bs.map V.ref) (fun k H' => ∃ (ts : List Addr) (rs : Nat → List Int), H' D2 = some (.lst (ts.map V.ref)) ∧ ts.length = k ∧ (∀ (i : Nat) (a : Addr), ts[i]? = some a → H' a = some (.tup ((rs i).map V.int)) ∧ (rs i).Perm (nb i)) ∧ Same H2 H') ?_ ?_ ?_ ?_⟩
        · exact ⟨[], fun _ => [], upd_same, rfl, fun i a h => by simp at h, sNew (fun _ _ e => e) hD2⟩
        · rintro i H3 hi ⟨ts, rs, e1, hl, hr, s3⟩
          exact SqL.of (s3 _ _ r2.at_)
        · rintro i x H3 hx ⟨ts, rs, e1, hl, hrw, s3⟩
          obtain ⟨a, ha, rfl⟩ := map_inv hx
          refine ⟨rfl, ?_⟩
          refine ⟨_, rfl, a, nb i, rfl, SqL.of (s3 _ _ (r2.row i a ha)), Nat.lt_of_le_of_lt (hlen i) few, fun ns p pm pw hp => ?_⟩
          refine ⟨p, _, rfl, .inl ⟨SqL.of upd_same, fun t ht => ?_⟩⟩
          have hil : i < bs.length := (List.getElem?_eq_some_iff.mp ha).1
          have ntp : t ≠ p := fun e => by rw [e, upd_same] at ht; cases ht
          have ht3 : H3 t = none := by
            have z := ht
            rw [upd_ne ntp] at z
            exact z
          have nD2p : D2 ≠ p := ne_of_none e1 hp
          have nD2t : D2 ≠ t := ne_of_none e1 ht3
          refine ⟨ts.map V.ref, ?_, ?_, ts ++ [t], fun k => if k = i then ns else rs k, ?_, ?_, ?_, ?_⟩
          · rw [upd_ne nD2t, upd_ne nD2p]
            exact e1
          · rw [List.length_map, hl]
            refine Nat.lt_of_lt_of_le (m := 64) ?_ (by decide)
            rw [r2.len] at hil
            omega
          · rw [upd_same, List.map_append]
            rfl
          · rw [List.length_append, hl]
            rfl
          · intro k b hb
            show _ = some (HO.tup ((if k = i then ns else rs k).map V.int)) ∧ (if k = i then ns else rs k).Perm (nb k)
            by_cases c : k < ts.length
            · rw [List.getElem?_append_left c] at hb
              obtain ⟨z1, z2⟩ := hrw k b hb
              rw [if_neg (by omega)]
              refine ⟨?_, z2⟩
              rw [upd_ne (ne_of z1 e1 (fun z => by cases z)), upd_ne (ne_of_none z1 ht3), upd_ne (ne_of_none z1 hp)]
              exact z1
            · rw [List.getElem?_append_right (by omega)] at hb
              have ek : k = i := by
                have z := (List.getElem?_eq_some_iff.mp hb).1
                rw [List.length_singleton] at z
                omega
              subst ek
              rw [hl, Nat.sub_self] at hb
              obtain rfl : t = b := Option.some.inj hb
              rw [if_pos rfl]
              refine ⟨?_, pm⟩
              rw [upd_ne nD2t.symm, upd_same]
          · exact sNew (sNew' (sNew' s3 hp) (by rw [upd_ne ntp]; exact ht3)) hD2
        · rintro H3 ⟨ts, rs, e1, hl, hrw, s3⟩
          refine ⟨D2, _, rfl, .inl ⟨SqL.of e1, fun t ht => ?_⟩⟩
          have s4 : Same H3 (upd H3 t (.tup (ts.map V.ref))) := fun b o e => by rw [upd_ne (ne_of_none e ht)]; exact e
          rw [List.length_map, r2.len] at hl
          refine k t ts rs _ ⟨upd_same, hl, fun i a h => s4 _ _ (hrw i a h).1⟩ (fun i hi j => ?_) (fun b o e => s4 _ _ (s3 _ _ (s2 _ _ e)))
          have hit : i < ts.length := by rw [hl]; exact hi
          have pm := (hrw i _ (List.getElem?_eq_getElem hit)).2
          rw [pm.mem_iff]
          exact he i hi j
end
end Q

/-! Ways through a graph: the mathematics, in plain Lean. -/
namespace QM
inductive Rch (G : Nat → Nat → Prop) (s : Nat) : Nat → Nat → Prop
  | zero : Rch G s 0 s
  | succ {k u v : Nat} : Rch G s k u → G u v → Rch G s (k + 1) v
def Dist (G : Nat → Nat → Prop) (s v d : Nat) : Prop := Rch G s d v ∧ ∀ e, e < d → ¬ Rch G s e v
variable {G : Nat → Nat → Prop} {s : Nat}
theorem Dist.uniq {v d e : Nat} (h : Dist G s v d) (g : Dist G s v e) : d = e := by
  rcases Nat.lt_trichotomy d e with c | c | c
  · exact absurd h.1 (g.2 d c)
  · exact c
  · exact absurd g.1 (h.2 e c)
theorem Rch.dist {v k : Nat} (h : Rch G s k v) : ∃ d, d ≤ k ∧ Dist G s v d := by
  induction k using Nat.strongRecOn with
  | _ k ih =>
    by_cases c : ∃ e, e < k ∧ Rch G s e v
    · obtain ⟨e, he, r⟩ := c
      obtain ⟨d, hd, q⟩ := ih e he r
      exact ⟨d, Nat.le_trans hd (Nat.le_of_lt he), q⟩
    · exact ⟨k, Nat.le_refl _, h, fun e he r => c ⟨e, he, r⟩⟩
theorem Dist.zero : Dist G s s 0 := ⟨.zero, fun e he => absurd he (Nat.not_lt_zero e)⟩
theorem Dist.of_zero {v : Nat} (h : Dist G s v 0) : v = s := by
  have z := h.1
  cases z
  rfl
theorem Dist.pred {v t : Nat} (h : Dist G s v (t + 1)) : ∃ u, Dist G s u t ∧ G u v := by
  have z := h.1
  cases z with
  | succ r g => exact ⟨_, ⟨r, fun e he r' => h.2 (e + 1) (by omega) (.succ r' g)⟩, g⟩
theorem Dist.next {u v t : Nat} (no : ∀ d, d ≤ t → ¬ Dist G s v d) (h : Dist G s u t) (g : G u v) : Dist G s v (t + 1) := by
  refine ⟨.succ h.1 g, fun e he r => ?_⟩
  obtain ⟨d, hd, q⟩ := r.dist
  exact no d (by omega) q
theorem Dist.chain {v d : Nat} (h : Dist G s v d) : ∀ e, e ≤ d → ∃ u, Dist G s u e := by
  induction d generalizing v with
  | zero =>
    intro e he
    obtain rfl : e = 0 := by omega
    exact ⟨v, h⟩
  | succ d ih =>
    intro e he
    by_cases c : e = d + 1
    · exact ⟨v, by rw [c]; exact h⟩
    · obtain ⟨u, hu, _⟩ := h.pred
      exact ih hu e (by omega)
theorem Rch.front {a b k : Nat} (g : G a b) {c : Nat} (h : Rch G b k c) : Rch G a (k + 1) c := by
  induction h with
  | zero => exact .succ .zero g
  | succ _ e ih => exact .succ ih e
theorem Rch.back (sym : ∀ a b, G a b → G b a) {v k : Nat} (h : Rch G s k v) : Rch G v k s := by
  induction h with
  | zero => exact .zero
  | succ _ e ih => exact Rch.front (sym _ _ e) ih
theorem Dist.back (sym : ∀ a b, G a b → G b a) {v d : Nat} (h : Dist G s v d) : Dist G v s d := ⟨h.1.back sym, fun e he r => h.2 e he (r.back sym)⟩
theorem nodup_le : ∀ (n : Nat) (l : List Nat), l.Nodup → (∀ x, x ∈ l → x < n) → l.length ≤ n
  | 0, [], _, _ => Nat.le_refl _
  | 0, x :: _, _, h => absurd (h x List.mem_cons_self) (Nat.not_lt_zero _)
  | n + 1, l, hn, h => by
    by_cases c : n ∈ l
    · have e1 := List.length_erase_of_mem c
      have z := nodup_le n (l.erase n) (hn.erase n) fun x hx => by
        have h1 := h x (List.mem_of_mem_erase hx)
        have h2 : x ≠ n := fun e => by
          rw [e] at hx
          exact (List.Nodup.not_mem_erase hn) hx
        omega
      omega
    · have z := nodup_le n l hn fun x hx => by
        have h1 := h x hx
        have h2 : x ≠ n := fun e => c (by rw [← e]; exact hx)
        omega
      omega
/-- a way's length is less than how many there are -/
theorem Dist.lt {n v d : Nat} (hs : s < n) (hG : ∀ a b, G a b → b < n) (h : Dist G s v d) : d < n := by
  have key : ∀ e, e ≤ d + 1 → ∃ l : List Nat, l.length = e ∧ l.Nodup ∧ ∀ x, x ∈ l → x < n ∧ ∃ k, k < e ∧ Dist G s x k := by
    intro e
    induction e with
    | zero => exact fun _ => ⟨[], rfl, List.nodup_nil, fun x hx => absurd hx List.not_mem_nil⟩
    | succ e ih =>
      intro he
      obtain ⟨l, hl, hn, hx⟩ := ih (by omega)
      obtain ⟨u, hu⟩ := h.chain e (by omega)
      have un : u < n := by
        cases e with
        | zero => rw [hu.of_zero]; exact hs
        | succ e =>
          obtain ⟨_, _, g⟩ := hu.pred
          exact hG _ _ g
      refine ⟨u :: l, by rw [List.length_cons, hl], List.nodup_cons.mpr ⟨fun hm => ?_, hn⟩, fun x hm => ?_⟩
      · obtain ⟨_, k, hk, q⟩ := hx u hm
        have := q.uniq hu
        omega
      · rcases List.mem_cons.mp hm with rfl | hm
        · exact ⟨un, e, by omega, hu⟩
        · obtain ⟨z1, k, hk, q⟩ := hx x hm
          exact ⟨z1, k, by omega, q⟩
  obtain ⟨l, hl, hn, hx⟩ := key (d + 1) (Nat.le_refl _)
  have z := nodup_le n l hn fun x hm => (hx x hm).1
  omega
end QM

namespace Q
open PySem L2 QM
abbrev sSteps : Stmt := top 13
def nI (v : Nat) : V := .int (v : Int)
def nn (cs : List V) : Nat := cs.countP fun v => decide (v = .non)
theorem nn_set : ∀ {cs : List V} {v : Nat} {z : Int}, cs[v]? = some .non → nn (cs.set v (.int z)) + 1 = nn cs
  | [], _, _, h => by simp at h
  | c :: r, 0, z, h => by
    have e : c = .non := Option.some.inj h
    subst e
    show (V.int z :: r).countP _ + 1 = (V.non :: r).countP _
    rw [List.countP_cons_of_neg (by simp), List.countP_cons_of_pos (by simp)]
  | c :: r, v + 1, z, h => by
    have ih := nn_set (cs := r) (v := v) (z := z) h
    show (c :: r.set v (V.int z)).countP _ + 1 = (c :: r).countP _
    unfold nn at ih
    rw [List.countP_cons, List.countP_cons, ← ih]
    omega
section
variable {G : Nat → Nat → Prop} {s n t : Nat}
structure Lev (G : Nat → Nat → Prop) (s n t : Nat) (cs : List V) : Prop where
  len : cs.length = n
  cell : ∀ v, v < n → (∃ d, d ≤ t ∧ cs[v]? = some (nI d) ∧ Dist G s v d) ∨ (cs[v]? = some .non ∧ ∀ d, d ≤ t → ¬ Dist G s v d)
structure Mid (G : Nat → Nat → Prop) (s n t : Nat) (Dn : Nat → Prop) (N0 : Nat) (cs : List V) (cm : List Nat) : Prop where
  len : cs.length = n
  cell : ∀ v, v < n → (∃ d, d ≤ t ∧ cs[v]? = some (nI d) ∧ Dist G s v d) ∨ (cs[v]? = some (nI (t + 1)) ∧ Dist G s v (t + 1) ∧ v ∈ cm) ∨ (cs[v]? = some .non ∧ (∀ d, d ≤ t → ¬ Dist G s v d) ∧ ¬ Dn v)
  cmok : ∀ x, x ∈ cm → x < n ∧ Dist G s x (t + 1)
  cnt : nn cs + cm.length = N0
/-- all ways found -/
structure Cells (G : Nat → Nat → Prop) (s n : Nat) (cs : List V) : Prop where
  len : cs.length = n
  cell : ∀ v, v < n → (∃ d, cs[v]? = some (nI d) ∧ Dist G s v d) ∨ (cs[v]? = some .non ∧ ∀ d, ¬ Dist G s v d)
theorem Mid.mono {Dn Dn' : Nat → Prop} {N0 : Nat} {cs : List V} {cm : List Nat} (h : Mid G s n t Dn N0 cs cm) (k : ∀ v, v < n → Dn' v → Dn v) : Mid G s n t Dn' N0 cs cm :=
  ⟨h.len, fun v hv => by
    rcases h.cell v hv with a | a | ⟨a, b, c⟩
    · exact .inl a
    · exact .inr (.inl a)
    · exact .inr (.inr ⟨a, b, fun d => c (k v hv d)⟩), h.cmok, h.cnt⟩
theorem Mid.start {cs : List V} (h : Lev G s n t cs) : Mid G s n t (fun _ => False) (nn cs) cs [] :=
  ⟨h.len, fun v hv => by
    rcases h.cell v hv with a | ⟨a, b⟩
    · exact .inl a
    · exact .inr (.inr ⟨a, b, id⟩), fun x hx => absurd hx List.not_mem_nil, rfl⟩
theorem Mid.house {Dn : Nat → Prop} {N0 u : Nat} {cs : List V} {cm : List Nat} (h : Mid G s n t Dn N0 cs cm) (hu : u < n) (d : Dist G s u t) : cs[u]? = some (nI t) := by
  rcases h.cell u hu with ⟨e, _, a, b⟩ | ⟨_, b, _⟩ | ⟨_, b, _⟩
  · rw [d.uniq b]; exact a
  · have := d.uniq b
    omega
  · exact absurd d (b t (Nat.le_refl _))
theorem Mid.skip {Dn : Nat → Prop} {N0 v : Nat} {cs : List V} {cm : List Nat} {c : V} (h : Mid G s n t Dn N0 cs cm) (hc : cs[v]? = some c) (ne : c ≠ .non) : Mid G s n t (fun x => Dn x ∨ x = v) N0 cs cm :=
  ⟨h.len, fun x hx => by
    rcases h.cell x hx with a | a | ⟨a, b, k⟩
    · exact .inl a
    · exact .inr (.inl a)
    · refine .inr (.inr ⟨a, b, ?_⟩)
      rintro (z | z)
      · exact k z
      · rw [z, hc] at a
        exact ne (Option.some.inj a), h.cmok, h.cnt⟩
theorem Mid.more {Dn : Nat → Prop} {N0 u v : Nat} {cs : List V} {cm : List Nat} (h : Mid G s n t Dn N0 cs cm) (hv : v < n) (hc : cs[v]? = some .non) (d : Dist G s u t) (g : G u v) :
    Mid G s n t (fun x => Dn x ∨ x = v) N0 (cs.set v (nI (t + 1))) (cm ++ [v]) := by
  have hl : v < cs.length := by rw [h.len]; exact hv
  have no : ∀ d, d ≤ t → ¬ Dist G s v d := by
    rcases h.cell v hv with ⟨_, _, a, _⟩ | ⟨a, _⟩ | ⟨_, b, _⟩
    · rw [hc] at a; cases a
    · rw [hc] at a; cases a
    · exact b
  have dv : Dist G s v (t + 1) := Dist.next no d g
  refine ⟨by rw [List.length_set]; exact h.len, fun x hx => ?_, fun x hx => ?_, ?_⟩
  · by_cases e : v = x
    · subst e
      rw [List.getElem?_set_self hl]
      exact .inr (.inl ⟨rfl, dv, List.mem_append_right _ (List.mem_singleton.mpr rfl)⟩)
    · rw [List.getElem?_set_ne e]
      rcases h.cell x hx with a | ⟨a, b, c⟩ | ⟨a, b, k⟩
      · exact .inl a
      · exact .inr (.inl ⟨a, b, List.mem_append_left _ c⟩)
      · exact .inr (.inr ⟨a, b, fun z => z.elim k fun z => e z.symm⟩)
  · rcases List.mem_append.mp hx with hx | hx
    · exact h.cmok x hx
    · rw [List.mem_singleton.mp hx]
      exact ⟨hv, dv⟩
  · have z := nn_set (z := ((t + 1 : Nat) : Int)) hc
    have c := h.cnt
    rw [List.length_append, List.length_singleton]
    have e : nn (cs.set v (nI (t + 1))) = nn (cs.set v (.int ((t + 1 : Nat) : Int))) := rfl
    omega
theorem Mid.fin {Dn : Nat → Prop} {N0 : Nat} {cs : List V} {cm : List Nat} (h : Mid G s n t Dn N0 cs cm) (hG : ∀ a b, G a b → b < n) (all : ∀ u v, Dist G s u t → G u v → Dn v) :
    Lev G s n (t + 1) cs ∧ ∀ x, Dist G s x (t + 1) → x ∈ cm := by
  have key : ∀ v, v < n → Dist G s v (t + 1) → cs[v]? = some (nI (t + 1)) ∧ v ∈ cm := by
    intro v hv d
    rcases h.cell v hv with ⟨e, he, _, b⟩ | ⟨a, _, c⟩ | ⟨_, _, k⟩
    · have := d.uniq b
      omega
    · exact ⟨a, c⟩
    · obtain ⟨u, hu, g⟩ := d.pred
      exact absurd (all u v hu g) k
  refine ⟨⟨h.len, fun v hv => ?_⟩, fun x d => ?_⟩
  · rcases h.cell v hv with ⟨e, he, a, b⟩ | ⟨a, b, _⟩ | ⟨a, b, _⟩
    · exact .inl ⟨e, by omega, a, b⟩
    · exact .inl ⟨t + 1, Nat.le_refl _, a, b⟩
    · refine .inr ⟨a, fun d hd q => ?_⟩
      by_cases c : d ≤ t
      · exact b d c q
      · obtain rfl : d = t + 1 := by omega
        have z := (key v hv q).1
        rw [a] at z
        cases z
  · obtain ⟨u, hu, g⟩ := d.pred
    exact (key x (hG u x g) d).2
theorem Lev.all {cs : List V} (h : Lev G s n t cs) (no : ∀ x, ¬ Dist G s x t) : Cells G s n cs :=
  ⟨h.len, fun v hv => by
    rcases h.cell v hv with ⟨d, _, a, b⟩ | ⟨a, b⟩
    · exact .inl ⟨d, a, b⟩
    · refine .inr ⟨a, fun d q => ?_⟩
      by_cases c : d ≤ t
      · exact b d c q
      · obtain ⟨u, hu⟩ := q.chain t (by omega)
        exact no u hu⟩
theorem lev_zero (hs : s < n) : Lev G s n 0 ((List.replicate n V.non).set s (nI 0)) := by
  refine ⟨by rw [List.length_set, List.length_replicate], fun v hv => ?_⟩
  by_cases e : s = v
  · subst e
    rw [List.getElem?_set_self (by rw [List.length_replicate]; exact hs)]
    exact .inl ⟨0, Nat.le_refl _, rfl, .zero⟩
  · rw [List.getElem?_set_ne e, List.getElem?_replicate, if_pos hv]
    refine .inr ⟨rfl, fun d hd q => ?_⟩
    obtain rfl : d = 0 := by omega
    exact e q.of_zero.symm
end

def NbG (G : Nat → Nat → Prop) (n : Nat) (nb : Nat → List Int) : Prop := ∀ i, i < n → ∀ j : Int, j ∈ nb i ↔ ∃ v : Nat, j = (v : Int) ∧ G i v
def spSteps : Sp := fun vs H Q _ => ∃ (r : Addr) (bs : List Addr) (nb : Nat → List Int) (n : Nat) (G : Nat → Nat → Prop) (st : Nat), vs = [.ref r, .int (st : Int)] ∧ RowsT H r bs nb n ∧ n ≤ 40 ∧ st < n ∧ NbG G n nb ∧ (∀ a b, G a b → b < n) ∧
  ∀ (p : Addr) (cs : List V) (H' : Hp), H' p = some (.lst cs) → Cells G st n cs → Same H H' → Q (.ref p) H'
theorem ixN_nat {N v : Nat} (h : v < N) : ixN N (v : Int) = some v := by
  unfold ixN
  rw [if_pos (Int.natCast_nonneg v), if_pos (by omega), Int.toNat_natCast]
/-- between two turns of the waves -/
def stW (H : Hp) (r sp : Addr) (G : Nat → Nat → Prop) (st n m : Nat) (σ : L2.St) (H' : Hp) : Prop := ∃ (t : Nat) (re : Addr) (rs : List Nat) (cs : List V) (x4 x5 x6 : Option V),
  σ = [some (.ref r), some (.int (st : Int)), some (.ref sp), some (.ref re), x4, x5, x6] ∧ H' sp = some (.lst cs) ∧ H' re = some (.lst (rs.map nI)) ∧ sp ≠ re ∧ Lev G st n t cs ∧
    (∀ x, x ∈ rs → x < n ∧ Dist G st x t) ∧ (∀ x, Dist G st x t → x ∈ rs) ∧ Same H H' ∧ m = nn cs + (if rs.isEmpty = true then 0 else 1)
theorem size_ok {k : Nat} (h : k ≤ 64) : k < sizeLine := Nat.lt_of_le_of_lt h (by decide)
theorem size_le {k : Nat} (h : k ≤ 64) : k ≤ sizeLine := Nat.le_trans h (by decide)
theorem nn_le (cs : List V) : nn cs ≤ cs.length := List.countP_le_length
section
variable {P : Program} {w : World} {K : PySem.W.Frag} {mg : Str → Option Value} {base : Heap}
theorem scSteps : FnScope ["beside", "start", "steps", "reached", "coming", "house", "other"] ["beside", "start"] (defScope sSteps) := ⟨rfl, rfl, rfl, by decide +kernel, rfl, by decide +kernel, by decide +kernel⟩
theorem ok_steps {f : Addr} {fd : FuncData} (F : Fun K "steps_from" "steps_from" sSteps f fd) (B : Bts mg) : FnOk P w K mg base CX0 1 f fd ["beside", "start"] spSteps := by
  refine F.ok scSteps (fun vs H Q E h => ?_) (fun cdv A outer s H vs Q E hr h => ?_)
  · obtain ⟨r, bs, nb, n, G, st, rfl, _⟩ := h
    rfl
  · obtain ⟨r, bs, nb, n, G, st, rfl, rt, n40, hst, hnb, hG, k⟩ := h
    have nd := scSteps.nd
    refine ⟨_, pss_cons (ps_set (i := 2) nd rfl (.inl rfl) (pe_op op_rep (pe_lst (pa_cons pe_non pa_nil)) (pe_callB call_len_seq (by rfl) B.len PySem.boot_len (pa_cons (pv 0) pa_nil))))
      (pss_cons (ps_asg pe_int (pg_sub (pv 2) (pv 1) set_list))
      (pss_cons (ps_set (i := 3) nd rfl (.inl rfl) (pe_lst (pa_cons (pv 1) pa_nil)))
      (pss_cons (ps_while PassesOwn.never (pt_truth (pv 3) (fun _ => rfl))
        (pss_cons (ps_set (i := 4) nd rfl (.inl rfl) (pe_lst pa_nil))
        (pss_cons (ps_for PassesOwn.never rfl (pi_list (pv 3)) (pg_name (i := 5) nd rfl (.inl rfl))
          (pss_one (ps_for PassesOwn.never rfl (pi_tup (pe_ix ix_tup (pv 0) (pv 5) (fun _ _ => rfl))) (pg_name (i := 6) nd rfl (.inl rfl))
            (pss_one (ps_if (pt_cmp (pc_isN (pe_ix ix_list (pv 2) (pv 6) (fun _ _ => rfl))))
              (pss_cons (ps_asg (pe_op op_add (pe_ix ix_list (pv 2) (pv 5) (fun _ _ => rfl)) pe_int) (pg_sub (pv 2) (pv 6) set_list))
              (pss_one (ps_expr (pe_bm PySem.F.plainAttrs_list PySem.F.slot_list_append PySem.F.type_list_append mt_append (pv 4) (pa_cons (pv 6) pa_nil))))) pss_nil)))))
        (pss_one (ps_set (i := 3) nd rfl (.inl rfl) (pv 4))))))
      (pss_one (ps_ret (pv 2)))))), ?_⟩
    -- steps = [None] * len(beside); steps[start] = 0; reached = [start]
    refine ⟨(by show 1 ≤ sizeLine; decide), fun l hl => ?_⟩
    have sl : Same H (upd H l (.lst [.non])) := sNew (fun _ _ e => e) hl
    have el : (bs.map V.ref).length = n := by rw [List.length_map, rt.len]
    refine ⟨_, rfl, r, _, rfl, .inr (SqT.of (sl _ _ rt.at_)), l, _, _, rfl, rfl, upd_same, ?_, ?_, ?_, fun sp hsp => ?_⟩
    · omega
    · rw [el]; omega
    · rw [el]; exact size_le (by show 1 * (n : Int).toNat ≤ 64; omega)
    · have hsp0 : H sp = none := sNo sl hsp
      have ef : (List.replicate (((bs.map V.ref).length : Nat) : Int).toNat [V.non]).flatten = List.replicate n V.non := by
        rw [el, Int.toNat_natCast, List.flatten_replicate_singleton]
      rw [ef]
      refine ⟨_, rfl, _, rfl, sp, _, (st : Int), st, rfl, rfl, upd_same, ixN_nat (by rw [List.length_replicate]; exact hst), ?_⟩
      refine ⟨_, rfl, (by show 1 ≤ sizeLine; decide), fun re hre => ?_⟩
      have nsr : sp ≠ re := fun e => by rw [← e, upd_same] at hre; cases hre
      have s1 : Same H (upd (upd (upd H l (.lst [.non])) sp (.lst (List.replicate n V.non))) sp (.lst ((List.replicate n V.non).set st (.int 0)))) := sNew (sNew sl hsp0) hsp0
      have hre0 : H re = none := sNo s1 hre
      refine ⟨stW H r sp G st n, ⟨_, 0, re, [st], _, none, none, none, rfl, by rw [upd_ne nsr, upd_same]; rfl, upd_same, nsr, lev_zero hst, ?_, ?_, sNew s1 hre0, rfl⟩, ?_⟩
      · intro x hx
        rw [List.mem_singleton.mp hx]
        exact ⟨hst, .zero⟩
      · intro x d
        rw [d.of_zero]
        exact List.mem_singleton.mpr rfl
      · clear nsr s1 hre0 hre re ef sl hsp el
        rintro m σ H1 ⟨t, re, rs, cs, x4, x5, x6, rfl, e1, e2, nsr, lv, hin, hall, s1, em⟩
        cases hb : (!(rs.map nI).isEmpty) with
        | false =>
          have er : rs = [] := by
            cases rs with
            | nil => rfl
            | cons u v => exact absurd hb (by simp)
          subst er
          exact ⟨_, rfl, false, .inl ⟨_, SqL.of e2, rfl⟩, iteF ⟨_, rfl, k sp cs _ e1 (lv.all fun x d => absurd (hall x d) List.not_mem_nil) s1⟩⟩
        | true =>
          have er : rs.isEmpty = false := by
            cases rs with
            | nil => exact absurd hb (by simp)
            | cons u v => rfl
          rw [er, if_neg Bool.false_ne_true] at em
          refine ⟨_, rfl, true, .inl ⟨_, SqL.of e2, hb.symm⟩, iteT ⟨fun σ' H' => ∃ m', m' < m ∧ stW H r sp G st n m' σ' H', fun _ _ z => z, ?_⟩⟩
          -- coming = []
          refine ⟨Nat.zero_le _, fun co hco => ?_⟩
          have nsc : sp ≠ co := ne_of_none e1 hco
          have nrc : re ≠ co := ne_of_none e2 hco
          have hco0 : H co = none := sNo s1 hco
          refine ⟨_, rfl, re, rfl, ⟨_, SqL.of (by rw [upd_ne nrc]; exact e2)⟩, for_list (K := K) (a := re) (xs := rs.map nI) (fun i σ H' => ∃ (cs' : List V) (cm : List Nat) (x5 x6 : Option V),
            σ = [some (.ref r), some (.int (st : Int)), some (.ref sp), some (.ref re), some (.ref co), x5, x6] ∧ H' sp = some (.lst cs') ∧ H' co = some (.lst (cm.map nI)) ∧ H' re = some (.lst (rs.map nI)) ∧
              Mid G st n t (fun v => ∃ u ∈ rs.take i, G u v) (nn cs) cs' cm ∧ Same H H') ?_ ?_ ?_ ?_⟩
          · exact ⟨cs, [], x5, x6, rfl, by rw [upd_ne nsc]; exact e1, upd_same, by rw [upd_ne nrc]; exact e2, (Mid.start lv).mono (fun v hv ⟨u, hu, _⟩ => absurd hu (by simp)), sNew s1 hco0⟩
          · rintro i σ H2 hi ⟨cs', cm, y5, y6, rfl, f1, f2, f3, md, s2⟩
            exact SqL.of f3
          · rintro i x σ H2 hx ⟨cs', cm, y5, y6, rfl, f1, f2, f3, md, s2⟩
            obtain ⟨u, hu, rfl⟩ := map_inv hx
            obtain ⟨un, du⟩ := hin u (List.mem_of_getElem? hu)
            have ul : u < bs.length := by rw [rt.len]; exact un
            have gu : bs[u]? = some bs[u] := List.getElem?_eq_getElem ul
            refine ⟨_, rfl, _, rfl, r, _, (u : Int), _, rfl, rfl, SqT.of (s2 _ _ rt.at_), atI_nat (map_get gu), bs[u], rfl, ⟨_, SqT.of (s2 _ _ (rt.row u _ gu))⟩, for_tup (K := K) (a := bs[u]) (xs := (nb u).map V.int) (fun j σ H' => ∃ (cs' : List V) (cm : List Nat) (x6 : Option V),
              σ = [some (.ref r), some (.int (st : Int)), some (.ref sp), some (.ref re), some (.ref co), some (nI u), x6] ∧ H' sp = some (.lst cs') ∧ H' co = some (.lst (cm.map nI)) ∧ H' re = some (.lst (rs.map nI)) ∧
                Mid G st n t (fun v => (∃ u ∈ rs.take i, G u v) ∨ (v : Int) ∈ (nb u).take j) (nn cs) cs' cm ∧ Same H H') ?_ ?_ ?_ ?_⟩
            · exact ⟨cs', cm, _, rfl, f1, f2, f3, md.mono (fun v hv z => z.elim id fun z => absurd z (by simp)), s2⟩
            · rintro j σ H3 hj ⟨cs3, cm3, z6, rfl, g1, g2, g3, md3, s3⟩
              exact SqT.of (s3 _ _ (rt.row u _ gu))
            · rintro j y σ H3 hy ⟨cs3, cm3, z6, rfl, g1, g2, g3, md3, s3⟩
              obtain ⟨w, hw, rfl⟩ := map_inv hy
              obtain ⟨v, rfl, guv⟩ := (hnb u un w).mp (List.mem_of_getElem? hw)
              have vn : v < n := hG _ _ guv
              have vl : v < cs3.length := by rw [md3.len]; exact vn
              have hcv : cs3[v]? = some cs3[v] := List.getElem?_eq_getElem vl
              have hcu := md3.house un du
              have dn : ∀ x, ((∃ u ∈ rs.take i, G u x) ∨ (x : Int) ∈ (nb u).take (j + 1)) → ((∃ u ∈ rs.take i, G u x) ∨ (x : Int) ∈ (nb u).take j) ∨ x = v := by
                rintro x (z | z)
                · exact .inl (.inl z)
                · rcases (take_succ_mem hw).mp z with z | z
                  · exact .inl (.inr z)
                  · exact .inr (by omega)
              refine ⟨_, rfl, _, rfl, sp, cs3, (v : Int), _, rfl, rfl, SqL.of g1, atI_nat hcv, _, rfl, ite2 (fun c => ?_) (fun c => ?_)⟩
              · have ec : cs3[v] = .non := of_decide_eq_true c
                rw [ec] at hcv
                have cl : cm3.length ≤ 40 := by
                  have z := md3.cnt
                  have z2 := nn_le cs
                  rw [lv.len] at z2
                  omega
                refine ⟨_, rfl, _, rfl, sp, cs3, (u : Int), _, rfl, rfl, SqL.of g1, atI_nat hcu, _, _, rfl, rfl, _, rfl, _, rfl, sp, cs3, (v : Int), v, rfl, rfl, g1, ixN_nat vl, ?_⟩
                have g2' : upd H3 sp (.lst (cs3.set v (nI (t + 1)))) co = some (.lst (cm3.map nI)) := by rw [upd_ne nsc.symm]; exact g2
                refine ⟨_, rfl, .inl ⟨rfl, _, SqL.of g2'⟩, _, rfl, co, _, _, rfl, rfl, g2', ?_, ?_⟩
                · rw [List.length_map]
                  exact size_ok (by omega)
                · refine ⟨cs3.set v (nI (t + 1)), cm3 ++ [v], _, rfl, ?_, ?_, ?_, (md3.more vn hcv du guv).mono (fun x _ z => dn x z), ?_⟩
                  · rw [upd_ne nsc, upd_same]
                    rfl
                  · rw [upd_same, List.map_append]
                    rfl
                  · rw [upd_ne nrc, upd_ne nsr.symm]
                    exact g3
                  · exact sNew (sNew s3 hsp0) hco0
              · exact ⟨cs3, cm3, _, rfl, g1, g2, g3, (md3.skip hcv (fun e => c (decide_eq_true e))).mono (fun x _ z => dn x z), s3⟩
            · rintro σ H3 ⟨cs3, cm3, z6, rfl, g1, g2, g3, md3, s3⟩
              refine ⟨cs3, cm3, _, _, rfl, g1, g2, g3, md3.mono ?_, s3⟩
              rintro v hv ⟨u', hu', g⟩
              rcases (take_succ_mem hu).mp hu' with z | rfl
              · exact .inl ⟨u', z, g⟩
              · refine .inr ?_
                rw [List.length_map, List.take_length]
                exact (hnb u' un _).mpr ⟨v, rfl, g⟩
          · rintro σ H2 ⟨cs', cm, y5, y6, rfl, f1, f2, f3, md, s2⟩
            obtain ⟨lv2, all2⟩ := md.fin hG fun u v d g => ⟨u, by rw [List.length_map, List.take_length]; exact hall u d, g⟩
            refine ⟨_, rfl, nn cs' + (if cm.isEmpty = true then 0 else 1), ?_, t + 1, co, cm, cs', _, _, _, rfl, f1, f2, nsc, lv2, md.cmok, all2, s2, rfl⟩
            have z := md.cnt
            cases cm with
            | nil =>
              rw [if_pos (show ([] : List Nat).isEmpty = true from rfl)]
              rw [List.length_nil] at z
              omega
            | cons a b =>
              rw [if_neg (show ¬ ((a :: b).isEmpty = true) from Bool.false_ne_true)]
              rw [List.length_cons] at z
              omega
end
end Q

namespace Q
open PySem L2 QM
abbrev sWeb : Stmt := inClass (top 9) 0
abbrev sFar : Stmt := top 14
abbrev sWidth : Stmt := top 15
/-- the way from tie to tie -/
def GL (L : List (Addr × List Int)) (u v : Nat) : Prop := Edge L (u : Int) (v : Int)
structure TL (m : Int) (L : List (Addr × List Int)) : Prop where
  ok : ∀ p ∈ L, ∃ a b : Int, p.2 = [a, b] ∧ 0 ≤ a ∧ a < b ∧ b < m
  conn : ∀ h : Int, 1 ≤ h → h < m → ∃ p ∈ L, ∃ o : Int, p.2 = [o, h]
  m1 : 1 ≤ m
  m40 : m ≤ 40
section
variable {m : Int} {L : List (Addr × List Int)}
theorem Edge.sym {i j : Int} (h : Edge L i j) : Edge L j i := by
  obtain ⟨p, hp, e | e⟩ := h
  · exact ⟨p, hp, .inr e⟩
  · exact ⟨p, hp, .inl e⟩
theorem TL.in2 (T : TL m L) {i j : Int} (h : Edge L i j) : 0 ≤ j ∧ j < m := by
  obtain ⟨p, hp, e⟩ := h
  obtain ⟨a, b, e2, h0, h1, h2⟩ := T.ok p hp
  rw [e2] at e
  simp only [List.cons.injEq, and_true] at e
  omega
theorem TL.lt (T : TL m L) (a b : Nat) (h : GL L a b) : b < m.toNat := by
  have := T.in2 h
  omega
theorem TL.nb (T : TL m L) {nb : Nat → List Int} (h : NbOf L m.toNat nb) : NbG (GL L) m.toNat nb := fun i hi j => by
  rw [h i hi j]
  constructor
  · intro e
    have z := T.in2 e
    exact ⟨j.toNat, by omega, by show Edge L (i : Int) ((j.toNat : Nat) : Int); rw [Int.toNat_of_nonneg z.1]; exact e⟩
  · rintro ⟨v, rfl, e⟩
    exact e
theorem TL.sym (a b : Nat) (h : GL L a b) : GL L b a := Edge.sym h
theorem TL.from0 (T : TL m L) : ∀ v, v < m.toNat → ∃ k, Rch (GL L) 0 k v := by
  intro v
  induction v using Nat.strongRecOn with
  | _ v ih =>
    intro hv
    by_cases c : v = 0
    · exact ⟨0, by rw [c]; exact .zero⟩
    · obtain ⟨p, hp, o, e⟩ := T.conn (v : Int) (by omega) (by omega)
      obtain ⟨a, b, e2, h0, h1, h2⟩ := T.ok p hp
      rw [e2] at e
      simp only [List.cons.injEq, and_true] at e
      obtain ⟨k, hk⟩ := ih a.toNat (by omega) (by omega)
      refine ⟨k + 1, .succ hk ⟨p, hp, .inl ?_⟩⟩
      rw [e2, Int.toNat_of_nonneg h0, e.2]
theorem Rch.trans {G : Nat → Nat → Prop} {a b c j k : Nat} (h : Rch G a j b) (g : Rch G b k c) : ∃ i, Rch G a i c := by
  induction g with
  | zero => exact ⟨j, h⟩
  | succ _ e ih =>
    obtain ⟨i, hi⟩ := ih
    exact ⟨i + 1, .succ hi e⟩
theorem TL.dist (T : TL m L) {s v : Nat} (hs : s < m.toNat) (hv : v < m.toNat) : ∃ d, Dist (GL L) s v d := by
  obtain ⟨j, hj⟩ := T.from0 s hs
  obtain ⟨k, hk⟩ := T.from0 v hv
  obtain ⟨i, hi⟩ := Rch.trans (hj.back TL.sym) hk
  obtain ⟨d, _, q⟩ := hi.dist
  exact ⟨d, q⟩
/-- on a joined web each cell is an int -/
theorem TL.ints (T : TL m L) {s : Nat} {cs : List V} (hs : s < m.toNat) (h : Cells (GL L) s m.toNat cs) : ∃ ds : List Nat, cs = ds.map nI ∧ ds.length = m.toNat ∧ ∀ (v d : Nat), ds[v]? = some d → Dist (GL L) s v d := by
  have key : ∀ (cs : List V) (k : Nat), (∀ (v : Nat) (c : V), cs[v]? = some c → ∃ d, c = nI d ∧ Dist (GL L) s (v + k) d) → ∃ ds : List Nat, cs = ds.map nI ∧ ∀ (v d : Nat), ds[v]? = some d → Dist (GL L) s (v + k) d := by
    intro cs
    induction cs with
    | nil => exact fun _ _ => ⟨[], rfl, fun v d h => by simp at h⟩
    | cons c r ih =>
      intro k h
      obtain ⟨d, rfl, hd⟩ := h 0 c rfl
      obtain ⟨ds, rfl, hds⟩ := ih (k + 1) fun v c hc => by
        obtain ⟨d, e, q⟩ := h (v + 1) c (by simpa using hc)
        exact ⟨d, e, by rw [show v + (k + 1) = v + 1 + k by omega]; exact q⟩
      refine ⟨d :: ds, rfl, fun v e hv => ?_⟩
      cases v with
      | zero =>
        obtain rfl : d = e := Option.some.inj hv
        exact hd
      | succ v =>
        have z := hds v e (by simpa using hv)
        rw [show v + 1 + k = v + (k + 1) by omega]
        exact z
  obtain ⟨ds, e, hds⟩ := key cs 0 fun v c hc => by
    have hv : v < m.toNat := by
      have z := (List.getElem?_eq_some_iff.mp hc).1
      rw [h.len] at z
      exact z
    rcases h.cell v hv with ⟨d, a, b⟩ | ⟨_, b⟩
    · rw [hc] at a
      exact ⟨d, Option.some.inj a, b⟩
    · obtain ⟨d, q⟩ := T.dist hs hv
      exact absurd q (b d)
  refine ⟨ds, e, ?_, hds⟩
  have z := h.len
  rw [e, List.length_map] at z
  exact z
end
theorem no_none : ∀ ds : List Nat, inV .non (ds.map nI) = false
  | [] => rfl
  | d :: r => by
    have ih := no_none r
    unfold inV at ih ⊢
    rw [List.map_cons, List.any_cons, ih]
    rfl
theorem flat_nI : ∀ ds : List Nat, (ds.map nI).all flatV = true
  | [] => rfl
  | d :: r => by
    rw [List.map_cons, List.all_cons, flat_nI r]
    rfl
/-! ### a web's attributes -/
def wf (m : Int) (q r : Addr) : List (Str × V) := putF "_beside" (.ref r) (putF "ties" (.ref q) (putF "many" (.int m) []))
theorem ne_tm : ¬ (("ties" : Str) = "many") := by decide +kernel
theorem ne_bt : ¬ (("_beside" : Str) = "ties") := by decide +kernel
theorem ne_bm : ¬ (("_beside" : Str) = "many") := by decide +kernel
theorem wf_many (m : Int) (q r : Addr) : (wf m q r).lookup ("many" : Str) = some (.int m) := by
  unfold wf
  rw [lookup_putF, if_neg (fun e => ne_bm e.symm), lookup_putF, if_neg (fun e => ne_tm e.symm), lookup_putF, if_pos rfl]
theorem wf_ties (m : Int) (q r : Addr) : (wf m q r).lookup ("ties" : Str) = some (.ref q) := by
  unfold wf
  rw [lookup_putF, if_neg (fun e => ne_bt e.symm), lookup_putF, if_pos rfl]
theorem wf_beside (m : Int) (q r : Addr) : (wf m q r).lookup ("_beside" : Str) = some (.ref r) := by
  unfold wf
  rw [lookup_putF, if_pos rfl]
/-- what the top says of Web -/
structure WTxt (K : PySem.W.Frag) (mg : Str → Option Value) (C : Addr) : Prop where
  cl : Cls K C
  nM : NoAttr K C "many"
  nT : NoAttr K C "ties"
  nB : NoAttr K C "_beside"
  mgC : mg "Web" = some (.ref C)
  most : ∃ t, mg "MOST_HOUSES" = some (.int 40 t)
/-- a web stands at w -/
structure WebIn (C : Addr) (m : Int) (L : List (Addr × List Int)) (H : Hp) (w dx q r : Addr) (bs : List Addr) (nb : Nat → List Int) : Prop where
  at_ : H w = some (.ins C dx (wf m q r))
  rows : RowsT H r bs nb m.toNat
  nb : NbOf L m.toNat nb
def WebAt (C : Addr) (m : Int) (L : List (Addr × List Int)) (H : Hp) (w : Addr) : Prop := ∃ dx q r bs nb, WebIn C m L H w dx q r bs nb
theorem WebAt.same {C : Addr} {m : Int} {L : List (Addr × List Int)} {H H' : Hp} {w : Addr} (h : WebAt C m L H w) (s : Same H H') : WebAt C m L H' w := by
  obtain ⟨dx, q, r, bs, nb, x⟩ := h
  exact ⟨dx, q, r, bs, nb, s _ _ x.at_, x.rows.same s, x.nb⟩
theorem WebAt.ext {C : Addr} {m : Int} {L : List (Addr × List Int)} {H H' : Hp} {w p l : Addr} (h : WebAt C m L H w) (g : HandAt H p l) (s : Ext p H H') : WebAt C m L H' w := by
  obtain ⟨dx, q, r, bs, nb, x⟩ := h
  obtain ⟨xs, e⟩ := g.hp
  refine ⟨dx, q, r, bs, nb, s _ _ x.at_ (ne_of x.at_ e (fun z => by cases z)), ⟨s _ _ x.rows.at_ (ne_of x.rows.at_ e (fun z => by cases z)), x.rows.len, fun i a hi => ?_⟩, x.nb⟩
  have z := x.rows.row i a hi
  exact s _ _ z (ne_of z e (fun z => by cases z))
def spWeb (C : Addr) : Sp := fun vs H Q _ => ∃ (p dx : Addr) (m : Int) (q : Addr) (L : List (Addr × List Int)), vs = [.ref p, .int m, .ref q] ∧ H p = some (.ins C dx []) ∧ TiesAt m H q L ∧ 1 ≤ m ∧ m ≤ 40 ∧
  ∀ (r : Addr) (bs : List Addr) (nb : Nat → List Int) (H' : Hp), WebIn C m L H' p dx q r bs nb → Ext p H H' → Q .non H'
section
variable {P : Program} {w : World} {K : PySem.W.Frag} {mg : Str → Option Value} {base : Heap}
/-- the defs that a web leans on -/
structure WDefs (K : PySem.W.Frag) (mg : Str → Option Value) where
  fP : Addr
  dP : FuncData
  DP : Df K mg "is_plain_int" sPlain ["thing"] fP dP
  fN : Addr
  dN : FuncData
  DN : Df K mg "is_number_below" sNum ["limit", "thing"] fN dN
  fT : Addr
  dT : FuncData
  DT : Df K mg "is_tie" sTie ["many", "thing"] fT dT
  fF : Addr
  dF : FuncData
  DF : Df K mg "first_wrong_tie" sFirst ["many", "ties"] fF dF
  fB : Addr
  dB : FuncData
  DB : Df K mg "houses_beside" sBeside ["many", "ties"] fB dB
  fS : Addr
  dS : FuncData
  DS : Df K mg "steps_from" sSteps ["beside", "start"] fS dS
theorem scWeb : FnScope ["self", "many", "ties", "wrong", "beside"] ["self", "many", "ties"] (defScope sWeb) := ⟨rfl, rfl, rfl, by decide +kernel, rfl, by decide +kernel, by decide +kernel⟩
theorem ok_web {f C : Addr} {fd : FuncData} (F : Fun K "__init__" "Web.__init__" sWeb f fd) (B : Bts mg) (T : WTxt K mg C) (D : WDefs K mg) : FnOk P w K mg base CX0 5 f fd ["self", "many", "ties"] (spWeb C) := by
  have GP : FnOk P w K mg base CX0 1 D.fP D.dP ["thing"] (spPlain K) := ok_plain (x := "") (st := sPlain) D.DP.F B
  have GF : FnOk P w K mg base CX0 4 D.fF D.dF ["many", "ties"] spFirst := ok_first D.DF.F B D.DP D.DN D.DT
  have GB : FnOk P w K mg base CX0 1 D.fB D.dB ["many", "ties"] spBeside := ok_beside D.DB.F B
  have GS : FnOk P w K mg base CX0 1 D.fS D.dS ["beside", "start"] spSteps := ok_steps D.DS.F B
  refine F.ok scWeb (fun vs H Q E h => ?_) (fun cdv A outer s H vs Q E hr h => ?_)
  · obtain ⟨p, dx, m, q, L, rfl, _⟩ := h
    rfl
  · obtain ⟨p, dx, m, q, L, rfl, hp, tt, m1, m40, k⟩ := h
    have nd := scWeb.nd
    obtain ⟨tm, hmost⟩ := T.most
    have hr1 : Room 1 _ := hr.mono (by decide)
    refine ⟨_, pss_cons (ps_if (PW.pt (pw_or (pt_not (pt_val (pe_call GP hr1 rfl D.DP.m D.DP.k D.DP.b .nil pass0 (pa_cons (pv 1) pa_nil)))) (pw_or1 (pt_not (pt_chain op_le op_le pe_int (pv 1) (pe_glob (v := .int 40) rfl hmost ⟨_, rfl⟩)))))) pss_never pss_nil)
      (pss_cons (ps_if (pt_not (pt_val (pe_callB call_isi (by rfl) B.isinstance PyProof.Rows.boot_isinstance (pa_cons (pv 2) (pa_cons (pe_bltn (v := .ty "tuple") rfl B.tuple PyProof.Rows.boot_tuple rfl) pa_nil))))) pss_never pss_nil)
      (pss_cons (ps_set (i := 3) nd rfl (.inl rfl) (pe_call GF hr rfl D.DF.m D.DF.k D.DF.b .nil pass0 (pa_cons (pv 1) (pa_cons (pv 2) pa_nil))))
      (pss_cons (ps_if (pt_cmp (pc_notN (pv 3))) pss_never pss_nil)
      (pss_cons (ps_set (i := 4) nd rfl (.inl rfl) (pe_call GB hr1 rfl D.DB.m D.DB.k D.DB.b .nil pass0 (pa_cons (pv 1) (pa_cons (pv 2) pa_nil))))
      (pss_cons (ps_if (pt_cmpR op_in_seq pe_non (pe_call GS hr1 rfl D.DS.m D.DS.k D.DS.b .nil pass0 (pa_cons (pv 4) (pa_cons pe_int pa_nil))) rfl) pss_never pss_nil)
      (pss_cons (ps_fld (pv 0) (pv 1) rfl)
      (pss_cons (ps_fld (pv 0) (pv 2) rfl)
      (pss_one (ps_fld (pv 0) (pv 4) rfl))))))))), ?_⟩
    refine ⟨_, rfl, .int m, .type "int", true, false, rfl, .base (.int _), kInt_int, kBool_int, _, rfl, ?_⟩
    refine iteF ⟨_, rfl, _, _, rfl, rfl, _, rfl, ite2 (fun _ => ?_) (fun c => absurd (decide_eq_true m1) c)⟩
    refine ⟨_, _, rfl, rfl, _, rfl, ite2 (fun c => ?_) (fun _ => ?_)⟩
    · rw [decide_eq_true m40] at c
      exact absurd c (by decide)
    refine ⟨_, rfl, .ref q, .ty "tuple", .type "tuple", .type "tuple", true, rfl, .ty _, .base (.tup tt.at_), kit_ty (by decide +kernel), _, rfl, iteF ?_⟩
    refine ⟨_, rfl, _, rfl, m, q, L, rfl, tt, fun H1 s1 => ?_⟩
    refine ⟨_, rfl, _, rfl, ite2 (fun c => absurd c (by simp)) (fun _ => ?_)⟩
    refine ⟨_, rfl, _, rfl, m, q, L, rfl, m1, m40, tt.same s1, fun r bs nb H2 rt hnb s2 => ?_⟩
    have TT : TL m L := ⟨tt.ok, tt.conn, m1, m40⟩
    refine ⟨_, rfl, r, bs, nb, m.toNat, GL L, 0, rfl, rt, by omega, by omega, TT.nb hnb, TT.lt, fun sp cs H3 hsp cells s3 => ?_⟩
    obtain ⟨ds, rfl, _, _⟩ := TT.ints (by omega) cells
    refine ⟨sp, _, rfl, .inl (SqL.of hsp), rfl, flat_nI ds, _, rfl, ?_⟩
    have en : (if false = true then !inV V.non (ds.map nI) else inV V.non (ds.map nI)) = false := no_none ds
    rw [en]
    refine iteF ?_
    have s4 : Same H H3 := fun b o e => s3 _ _ (s2 _ _ (s1 _ _ e))
    refine ⟨_, rfl, _, rfl, p, C, dx, _, rfl, s4 _ _ hp, T.cl, T.nM, (by show 0 < 1000; decide), ?_⟩
    refine ⟨_, rfl, _, rfl, p, C, dx, _, rfl, upd_same, T.cl, T.nT, (by show 1 < 1000; decide), ?_⟩
    refine ⟨_, rfl, _, rfl, p, C, dx, _, rfl, upd_same, T.cl, T.nB, (by show 2 < 1000; decide), ?_⟩
    have rt3 := rt.same s3
    have np : ∀ {b : Addr} {xs : List V}, H3 b = some (.tup xs) → b ≠ p := fun e => ne_of e (s4 _ _ hp) (fun z => by cases z)
    refine k r bs nb _ ⟨upd_same, ⟨?_, rt3.len, fun i a hi => ?_⟩, hnb⟩ fun b o e nb => ?_
    · rw [upd_ne (np rt3.at_), upd_ne (np rt3.at_), upd_ne (np rt3.at_)]
      exact rt3.at_
    · have z := rt3.row i a hi
      rw [upd_ne (np z), upd_ne (np z), upd_ne (np z)]
      exact z
    · rw [upd_ne nb, upd_ne nb, upd_ne nb]
      exact s4 _ _ e
end
end Q

namespace Q
open PySem L2 QM
theorem pe_fldO {X : Cx} {e : Expr} {f : Str} {pos : Pos} {ta : TE} {K0 : PySem.W.Frag} (hK : X.K = K0) (he : PE X e ta) (hb : attributeBase e f X.env (eval e X.env) = eval e X.env) : PE X (.Attribute e f pos) (tFld K0 ta f) := by
  subst hK
  exact pe_fld he hb
def spFar (C : Addr) : Sp := fun vs H Q _ => ∃ (w : Addr) (m : Int) (L : List (Addr × List Int)) (a b : Nat), vs = [.ref w, .int (a : Int), .int (b : Int)] ∧ WebAt C m L H w ∧ TL m L ∧ a < m.toNat ∧ b < m.toNat ∧
  ∀ (d : Nat) (H' : Hp), Dist (GL L) a b d → Same H H' → Q (nI d) H'
/-- the greatest of all ways -/
def IsWidth (L : List (Addr × List Int)) (n W : Nat) : Prop := (∃ s v, s < n ∧ v < n ∧ Dist (GL L) s v W) ∧ ∀ s v d, s < n → v < n → Dist (GL L) s v d → d ≤ W
def spWidth (C : Addr) : Sp := fun vs H Q _ => ∃ (w : Addr) (m : Int) (L : List (Addr × List Int)), vs = [.ref w] ∧ WebAt C m L H w ∧ TL m L ∧ ∀ (W : Nat) (H' : Hp), IsWidth L m.toNat W → Same H H' → Q (nI W) H'
section
variable {P : Program} {w : World} {K : PySem.W.Frag} {mg : Str → Option Value} {base : Heap}
theorem scFar : FnScope ["web", "one", "other"] ["web", "one", "other"] (defScope sFar) := ⟨rfl, rfl, rfl, by decide +kernel, rfl, by decide +kernel, by decide +kernel⟩
theorem ok_far {f C : Addr} {fd : FuncData} (F : Fun K "far" "far" sFar f fd) (B : Bts mg) (T : WTxt K mg C) (D : WDefs K mg) : FnOk P w K mg base CX0 3 f fd ["web", "one", "other"] (spFar C) := by
  have GN : FnOk P w K mg base CX0 2 D.fN D.dN ["limit", "thing"] (spNum K) := ok_num D.DN.F B D.DP
  have GS : FnOk P w K mg base CX0 1 D.fS D.dS ["beside", "start"] spSteps := ok_steps D.DS.F B
  refine F.ok scFar (fun vs H Q E h => ?_) (fun cdv A outer s H vs Q E hr h => ?_)
  · obtain ⟨w, m, L, a, b, rfl, _⟩ := h
    rfl
  · obtain ⟨w, m, L, a, b, rfl, ⟨dx, q, r, bs, nb, x⟩, TT, ha, hb, k⟩ := h
    have hr1 : Room 1 _ := hr.mono (by decide)
    refine ⟨_, pss_cons (ps_if (PW.pt (pw_or (pt_not (pt_val (pe_call GN hr rfl D.DN.m D.DN.k D.DN.b .nil pass0 (pa_cons (pe_fld (pv 0) rfl) (pa_cons (pv 1) pa_nil)))))
        (pw_or1 (pt_not (pt_val (pe_call GN hr rfl D.DN.m D.DN.k D.DN.b .nil pass0 (pa_cons (pe_fld (pv 0) rfl) (pa_cons (pv 2) pa_nil)))))))) pss_never pss_nil)
      (pss_one (ps_ret (pe_ix ix_list (pe_call GS hr1 rfl D.DS.m D.DS.k D.DS.b .nil pass0 (pa_cons (pe_fld (pv 0) rfl) (pa_cons (pv 1) pa_nil))) (pv 2) (fun _ _ => rfl)))), ?_⟩
    have ea : (decide (0 ≤ (a : Int)) && decide ((a : Int) < m)) = true := by rw [decide_eq_true (by omega), decide_eq_true (by omega)]; rfl
    have eb : (decide (0 ≤ (b : Int)) && decide ((b : Int) < m)) = true := by rw [decide_eq_true (by omega), decide_eq_true (by omega)]; rfl
    refine ⟨_, rfl, w, C, dx, _, _, rfl, x.at_, T.cl, T.nM, wf_many _ _ _, _, rfl, m, _, rfl, .inl ⟨_, rfl, _, rfl, ?_⟩⟩
    rw [ea]
    refine iteF ⟨_, rfl, w, C, dx, _, _, rfl, x.at_, T.cl, T.nM, wf_many _ _ _, _, rfl, m, _, rfl, .inl ⟨_, rfl, _, rfl, ?_⟩⟩
    rw [eb]
    refine iteF ?_
    refine ⟨_, rfl, w, C, dx, _, _, rfl, x.at_, T.cl, T.nB, wf_beside _ _ _, _, rfl, r, bs, nb, m.toNat, GL L, a, rfl, x.rows, by have := TT.m40; omega, ha, TT.nb x.nb, TT.lt, fun sp cs H1 hsp cells s1 => ?_⟩
    obtain ⟨ds, rfl, hl, hds⟩ := TT.ints ha cells
    have hv : b < ds.length := by rw [hl]; exact hb
    have e : ds[b]? = some ds[b] := List.getElem?_eq_getElem hv
    refine ⟨_, rfl, sp, _, (b : Int), nI ds[b], rfl, rfl, SqL.of hsp, atI_nat (by rw [List.getElem?_map, e]; rfl), k _ _ (hds b _ e) s1⟩
theorem nI_map (ds : List Nat) : ds.map nI = (ds.map fun d : Nat => (d : Int)).map V.int := by
  rw [List.map_map]
  rfl
theorem max_of {ds : List Nat} {z : Int} (h : z ∈ ds.map fun d : Nat => (d : Int)) (g : ∀ y, y ∈ (ds.map fun d : Nat => (d : Int)) → y ≤ z) : ∃ d, d ∈ ds ∧ z = (d : Int) ∧ ∀ e, e ∈ ds → e ≤ d := by
  obtain ⟨d, hd, rfl⟩ := List.mem_map.mp h
  exact ⟨d, hd, rfl, fun e he => Int.ofNat_le.mp (g _ (List.mem_map_of_mem he))⟩
theorem scWidth : FnScope ["web", "house"] ["web"] (defScope sWidth) := ⟨rfl, rfl, rfl, by decide +kernel, rfl, by decide +kernel, by decide +kernel⟩
theorem ok_width {f C : Addr} {fd : FuncData} (F : Fun K "width" "width" sWidth f fd) (B : Bts mg) (T : WTxt K mg C) (D : WDefs K mg) : FnOk P w K mg base CX0 3 f fd ["web"] (spWidth C) := by
  have GS : FnOk P w K mg base CX0 1 D.fS D.dS ["beside", "start"] spSteps := ok_steps D.DS.F B
  refine F.ok scWidth (fun vs H Q E h => ?_) (fun cdv A outer s H vs Q E hr h => ?_)
  · obtain ⟨w, m, L, rfl, _⟩ := h
    rfl
  · obtain ⟨w, m, L, rfl, ⟨dx, q, r, bs, nb, x⟩, TT, k⟩ := h
    have nd := scWidth.nd
    have hr1 : Room 1 _ := hr.mono (by decide)
    refine ⟨_, pss_one (ps_ret (pe_callB (r := rMax K) (cr_max rfl) (by rfl) B.max PyProof.Rows.boot_max (pa_cons (pe_lc (own := [("house", 1)]) (g := gName 1) (tt := tYes) rfl nd (pi_range1 rfl B.range (pa_cons (pe_fld (pv 0) rfl) pa_nil))
        (blkOk_by (N := ["web", "house"]) (sc := defScope sWidth) (by decide +kernel)) (fun _ _ _ _ _ => pg_name (i := 1) nd rfl (.inl rfl)) (fun _ _ _ _ _ => pts_nil)
        (fun _ _ _ _ _ => pe_callB (r := rMax K) (cr_max rfl) (by rfl) B.max PyProof.Rows.boot_max (by exact (pa_cons (by exact (pe_call GS hr1 rfl D.DS.m D.DS.k D.DS.b .nil pass0 (by exact (pa_cons (pe_fldO (K0 := K) rfl (pv 0) rfl) (pa_cons (pv 1) pa_nil))))) pa_nil)))) pa_nil))), ?_⟩
    have m1 := TT.m1
    have m40 := TT.m40
    refine ⟨_, rfl, w, C, dx, _, _, rfl, x.at_, T.cl, T.nM, wf_many _ _ _, m, rfl, by omega, by omega, fun D0 hD => lc_range (lo := 0) (n := m.toNat) (fun i H' => ∃ ws : List Nat, H' D0 = some (.lst (ws.map nI)) ∧ ws.length = i ∧
      (∀ (j W : Nat), ws[j]? = some W → (∃ v, v < m.toNat ∧ Dist (GL L) j v W) ∧ ∀ v d, v < m.toNat → Dist (GL L) j v d → d ≤ W) ∧ Same H H') ?_ ?_ ?_⟩
    · exact ⟨[], upd_same, rfl, fun j W h => by simp at h, sNew (fun _ _ e => e) hD⟩
    · rintro i H1 hi ⟨ws, e1, hl, hw, s1⟩
      refine ⟨rfl, ?_⟩
      refine ⟨_, rfl, w, C, dx, _, _, rfl, s1 _ _ x.at_, T.cl, T.nB, wf_beside _ _ _, _, rfl, r, bs, nb, m.toNat, GL L, i, by rw [Int.zero_add]; rfl, x.rows.same s1, by omega, hi, TT.nb x.nb, TT.lt, fun sp cs H2 hsp cells s2 => ?_⟩
      obtain ⟨ds, rfl, hdl, hds⟩ := TT.ints hi cells
      have e2 := s2 _ _ e1
      refine ⟨sp, _, rfl, SqL.of (by rw [hsp, nI_map]), by rw [List.length_map, hdl]; omega, fun z hz hy => ?_⟩
      obtain ⟨d, hd, rfl, hmax⟩ := max_of hz hy
      refine ⟨_, e2, ?_, ws ++ [d], ?_, ?_, ?_, ?_⟩
      · rw [List.length_map, hl]
        exact size_ok (by omega)
      · rw [upd_same, List.map_append]
        rfl
      · rw [List.length_append, hl]
        rfl
      · intro j W hj
        by_cases c : j < ws.length
        · rw [List.getElem?_append_left c] at hj
          exact hw j W hj
        · rw [List.getElem?_append_right (by omega)] at hj
          have ej : j = i := by
            have z := (List.getElem?_eq_some_iff.mp hj).1
            rw [List.length_singleton] at z
            omega
          subst ej
          rw [hl, Nat.sub_self] at hj
          obtain rfl : d = W := Option.some.inj hj
          obtain ⟨v, hv, ev⟩ := List.getElem_of_mem hd
          have gv : ds[v]? = some d := by rw [List.getElem?_eq_getElem hv, ev]
          refine ⟨⟨v, by rw [hdl] at hv; exact hv, hds v d gv⟩, fun v' d' hv' q => ?_⟩
          have hv2 : v' < ds.length := by rw [hdl]; exact hv'
          have g2 : ds[v']? = some ds[v'] := List.getElem?_eq_getElem hv2
          rw [q.uniq (hds v' _ g2)]
          exact hmax _ (List.getElem_mem hv2)
      · exact sNew (fun b o e => s2 _ _ (s1 _ _ e)) hD
    · rintro H1 ⟨ws, e1, hl, hw, s1⟩
      refine ⟨D0, _, rfl, SqL.of (by rw [e1, nI_map]), by rw [List.length_map, hl]; omega, fun z hz hy => ?_⟩
      obtain ⟨d, hd, rfl, hmax⟩ := max_of hz hy
      refine k d _ ⟨?_, ?_⟩ s1
      · obtain ⟨j, hj, ej⟩ := List.getElem_of_mem hd
        have gj : ws[j]? = some d := by rw [List.getElem?_eq_getElem hj, ej]
        obtain ⟨⟨v, hv, q⟩, _⟩ := hw j d gj
        exact ⟨j, v, by rw [hl] at hj; exact hj, hv, q⟩
      · intro s v d' hs hv q
        have hs2 : s < ws.length := by rw [hl]; exact hs
        have gs : ws[s]? = some ws[s] := List.getElem?_eq_getElem hs2
        exact Nat.le_trans ((hw s _ gs).2 v d' hv q) (hmax _ (List.getElem_mem hs2))
end
end Q

namespace Q
open PySem L2 QM
abbrev sNear : Stmt := top 23
abbrev sWaves : Stmt := top 24
abbrev sInt : Stmt := top 20
abbrev sSame : Stmt := top 21
theorem op_is_ib {X : Cx} : OpR X (compareOp .Is) (fun x y H Q => ∃ (i : Int) (b : Bool), x = .int i ∧ y = .bl b ∧ Q (.bl false) H) := by
  intro pins s σ H x y v u Q I rx ry h
  obtain ⟨i, b, rfl, rfl, q⟩ := h
  obtain ⟨t, e⟩ := (show ∃ t, v = Value.int i t from rx)
  subst e
  cases (show u = Value.bool b from ry)
  exact wpAny_is_other rfl (fun z => nomatch z) ⟨.bl false, H, I, rfl, q⟩
/-- a pair as data -/
def pT (l : List Int) : PyData := .tuple (l.map .int)
theorem lay_ints : ∀ l : List Int, PyData.canLayAll0 (l.map PyData.int) = true
  | [] => by simp [PyData.canLayAll0]
  | a :: r => by
    have ih := lay_ints r
    simp only [List.map_cons, PyData.canLayAll0, PyData.canLay0, ih, Bool.and_self]
theorem lay_pT (l : List Int) : PyData.canLay0 (pT l) = true := by
  unfold pT
  simp only [PyData.canLay0, lay_ints]
theorem lay_all : ∀ L : List (Addr × List Int), PyData.canLayAll0 (L.map fun p => pT p.2) = true
  | [] => by simp [PyData.canLayAll0]
  | p :: r => by
    have ih := lay_all r
    simp only [List.map_cons, PyData.canLayAll0, lay_pT, ih, Bool.and_self]
theorem eqv_ints : ∀ x y : List Int, PyData.eqvAll (x.map PyData.int) (y.map PyData.int) = decide (x = y)
  | [], [] => by simp [PyData.eqvAll]
  | [], _ :: _ => by simp [PyData.eqvAll]
  | _ :: _, [] => by simp [PyData.eqvAll]
  | a :: x, b :: y => by
    have ih := eqv_ints x y
    simp only [List.map_cons, PyData.eqvAll, PyData.eqv, ih]
    by_cases c : a = b
    · subst c
      simp
    · simp [c]
theorem any_pT (l : List Int) : ∀ L : List (Addr × List Int), ((L.map fun p => pT p.2).any fun z => PyData.eqv z (pT l)) = decide (l ∈ L.map (·.2))
  | [] => by simp
  | p :: r => by
    have ih := any_pT l r
    rw [List.map_cons, List.any_cons, ih]
    unfold pT
    simp only [PyData.eqv, eqv_ints, List.map_cons, List.mem_cons]
    by_cases c : p.2 = l
    · simp [c]
    · have c' : ¬ l = p.2 := fun e => c e.symm
      simp [c, c']
theorem dp_ints {K : PySem.W.Frag} {H : Hp} : ∀ l : List Int, DpAll K H (l.map V.int) (l.map PyData.int)
  | [] => .nil
  | a :: r => .cons (.int a) (dp_ints r)
theorem dp_all {K : PySem.W.Frag} {H : Hp} : ∀ L : List (Addr × List Int), (∀ p ∈ L, H p.1 = some (.tup (p.2.map V.int))) → DpAll K H (L.map fun p => V.ref p.1) (L.map fun p => pT p.2)
  | [], _ => .nil
  | p :: r, h => .cons (.tup (SqT.of (h p List.mem_cons_self)) (dp_ints p.2)) (dp_all r fun q hq => h q (List.mem_cons_of_mem _ hq))
def rInP : R2 := fun x y H Q => ∃ (T q : Addr) (l : List Int) (L : List (Addr × List Int)), x = .ref T ∧ y = .ref q ∧ H T = some (.tup (l.map V.int)) ∧ H q = some (.tup (L.map fun p => V.ref p.1)) ∧ (∀ p ∈ L, H p.1 = some (.tup (p.2.map V.int))) ∧ Q (.bl (decide (l ∈ L.map (·.2)))) H
theorem depth_ints : ∀ l : List Int, PyData.depthAll (l.map PyData.int) = 0
  | [] => by simp [PyData.depthAll]
  | a :: r => by
    have ih := depth_ints r
    simp only [List.map_cons, PyData.depthAll, PyData.depth, ih, Nat.max_self]
theorem depth_pT (l : List Int) : (pT l).depth = 1 := by
  unfold pT
  simp only [PyData.depth, depth_ints]
theorem op_inP {X : Cx} (hu : X.A.units + 64 < cLine) : OpR X (compareOp .In) rInP := by
  intro pins s σ H x y v u Q I rx ry h
  obtain ⟨T, q, l, L, rfl, rfl, hT, hq, hp, k⟩ := h
  obtain ⟨as, r1⟩ := Dp.reads I (pT l) _ v (.tup (SqT.of hT) (dp_ints l)) rx
  obtain ⟨bs, r2⟩ := Dp.reads I (.tuple (L.map fun p => pT p.2)) _ u (.tup (SqT.of hq) (dp_all L hp)) ry
  refine SeqAt.in_tuple_reads r2 r1 (lay_all L) (lay_pT l) ?_ ?_
  · rw [depth_pT]
    have z := Nat.min_le_right (PyData.depthAll (L.map fun p => pT p.2)) 1
    omega
  · rw [any_pT]
    exact ⟨.bl _, H, I, rfl, k⟩
end Q

namespace Q
open PySem L2 QM
def spNear : Sp := fun vs H Q _ => ∃ (m : Int) (q : Addr) (L : List (Addr × List Int)), vs = [.int m, .ref q] ∧ 1 ≤ m ∧ m ≤ 40 ∧ TiesAt m H q L ∧ ∀ (r : Addr) (bs : List Addr) (nb : Nat → List Int) (H' : Hp), RowsL H' r bs nb m.toNat → NbOf L m.toNat nb → H r = none → (∀ a ∈ bs, H a = none) → Same H H' → Q (.ref r) H'
def spSame : Sp := fun vs H Q _ => ∃ a b : Int, vs = [.int a, .int b] ∧ Q (.bl (decide (a = b))) H
theorem edge_mem {m : Int} {L : List (Addr × List Int)} (T : ∀ p ∈ L, ∃ a b : Int, p.2 = [a, b] ∧ 0 ≤ a ∧ a < b ∧ b < m) (i j : Int) :
    Edge L i j ↔ [if j < i then j else i, if j > i then j else i] ∈ L.map (·.2) := by
  rw [List.mem_map]
  constructor
  · rintro ⟨p, hp, e⟩
    obtain ⟨a, b, e2, h0, h1, h2⟩ := T p hp
    refine ⟨p, hp, ?_⟩
    rw [e2] at e ⊢
    simp only [List.cons.injEq, and_true] at e ⊢
    rcases e with ⟨rfl, rfl⟩ | ⟨rfl, rfl⟩
    · rw [if_neg (by omega), if_pos (by omega)]
      exact ⟨rfl, rfl⟩
    · rw [if_pos (by omega), if_neg (by omega)]
      exact ⟨rfl, rfl⟩
  · rintro ⟨p, hp, e⟩
    refine ⟨p, hp, ?_⟩
    rw [e]
    simp only [List.cons.injEq, and_true]
    by_cases c : j < i
    · rw [if_pos c, if_neg (by omega)]
      exact .inr ⟨rfl, rfl⟩
    · rw [if_neg c]
      by_cases c2 : j > i
      · rw [if_pos c2]
        exact .inl ⟨rfl, rfl⟩
      · rw [if_neg c2]
        exact .inl ⟨rfl, by omega⟩
section
variable {P : Program} {w : World} {K : PySem.W.Frag} {mg : Str → Option Value} {base : Heap}
theorem scInt : FnScope ["thing"] ["thing"] (defScope sInt) := ⟨rfl, rfl, rfl, by decide +kernel, rfl, by decide +kernel, by decide +kernel⟩
theorem ok_int {f : Addr} {fd : FuncData} (F : Fun K "_law_is_integer" "_law_is_integer" sInt f fd) (B : Bts mg) : FnOk P w K mg base CX0 1 f fd ["thing"] (spPlain K) := by
  refine F.ok scInt (fun vs H Q E h => ?_) (fun cdv A outer s H vs Q E hr h => ?_)
  · obtain ⟨v, t, b, c, rfl, _⟩ := h
    rfl
  · obtain ⟨v, t, b, c, rfl, ty, kb, kc, k⟩ := h
    refine ⟨_, pss_one (ps_ret (pe_and (pe_callB call_isi (by rfl) B.isinstance PyProof.Rows.boot_isinstance (pa_cons (pv 0) (pa_cons (pe_bltn (v := .ty "int") rfl B.int PyProof.Rows.boot_int rfl) pa_nil)))
      (pe_one (pe_not (pe_callB call_isi (by rfl) B.isinstance PyProof.Rows.boot_isinstance (pa_cons (pv 0) (pa_cons (pe_bltn (v := .ty "bool") rfl B.bool (by decide +kernel) rfl) pa_nil))))))), ?_⟩
    refine ⟨_, rfl, v, .ty "int", t, .type "int", b, rfl, .ty _, ty, kb, _, rfl, ?_⟩
    cases b with
    | false => exact iteF k
    | true => exact iteT ⟨_, rfl, v, .ty "bool", t, .type "bool", c, rfl, .ty _, ty, kc, _, rfl, k⟩
theorem scSame : FnScope ["actual", "due", "one", "other"] ["actual", "due"] (defScope sSame) := ⟨rfl, rfl, rfl, by decide +kernel, rfl, by decide +kernel, by decide +kernel⟩
theorem ok_same {f fI : Addr} {fd fdI : FuncData} (F : Fun K "_law_same" "_law_same" sSame f fd) (B : Bts mg) (DI : Df K mg "_law_is_integer" sInt ["thing"] fI fdI) : FnOk P w K mg base CX0 2 f fd ["actual", "due"] spSame := by
  have GI : FnOk P w K mg base CX0 1 fI fdI ["thing"] (spPlain K) := ok_int DI.F B
  refine F.ok scSame (fun vs H Q E h => ?_) (fun cdv A outer s H vs Q E hr h => ?_)
  · obtain ⟨a, b, rfl, _⟩ := h
    rfl
  · obtain ⟨a, b, rfl, k⟩ := h
    refine ⟨_, pss_cons (ps_if (pt_cmp (pc_isN (pv 1))) pss_never pss_nil)
      (pss_cons (ps_if (pt_cmpR op_is_ib (pv 1) pe_bl (nomark _)) pss_never pss_nil)
      (pss_cons (ps_if (pt_cmpR op_is_ib (pv 1) pe_bl (nomark _)) pss_never pss_nil)
      (pss_cons (ps_if (pt_val (pe_callB call_isi (by rfl) B.isinstance PyProof.Rows.boot_isinstance (pa_cons (pv 1) (pa_cons (pe_bltn (v := .ty "int") rfl B.int PyProof.Rows.boot_int rfl) pa_nil))))
        (pss_one (ps_ret (pe_and (pe_call GI hr rfl DI.m DI.k DI.b .nil pass0 (pa_cons (pv 0) pa_nil)) (pe_one (pe_cmpR op_eq (pv 0) (pv 1) (nomark _)))))) pss_nil)
      pss_never))), ?_⟩
    refine ⟨_, rfl, _, rfl, ite2 (fun c => absurd c (by simp)) (fun _ => ?_)⟩
    refine ⟨_, rfl, b, true, rfl, rfl, _, rfl, iteF ?_⟩
    refine ⟨_, rfl, b, false, rfl, rfl, _, rfl, iteF ?_⟩
    refine ⟨_, rfl, .int b, .ty "int", .type "int", .type "int", true, rfl, .ty _, .base (.int _), kInt_int, _, rfl, iteT ?_⟩
    refine ⟨_, rfl, .int a, .type "int", true, false, rfl, .base (.int _), kInt_int, kBool_int, _, rfl, iteT ?_⟩
    refine ⟨_, rfl, _, rfl, rfl, ?_⟩
    have e : decide (V.int a = V.int b) = decide (a = b) := by
      by_cases c : a = b
      · rw [c, decide_eq_true rfl, decide_eq_true rfl]
      · rw [decide_eq_false c, decide_eq_false (fun z => c (V.int.inj z))]
    show Q (V.bl (decide (V.int a = V.int b))) H
    rw [e]
    exact k
theorem scNear : FnScope ["many", "ties", "house", "found", "other"] ["many", "ties"] (defScope sNear) := ⟨rfl, rfl, rfl, by decide +kernel, rfl, by decide +kernel, by decide +kernel⟩
theorem ok_near {f : Addr} {fd : FuncData} (F : Fun K "_law_near" "_law_near" sNear f fd) (B : Bts mg) : FnOk P w K mg base CX0 1 f fd ["many", "ties"] spNear := by
  refine F.ok scNear (fun vs H Q E h => ?_) (fun cdv A outer s H vs Q E hr h => ?_)
  · obtain ⟨m, q, L, rfl, _⟩ := h
    rfl
  · obtain ⟨m, q, L, rfl, m1, m40, tt, k⟩ := h
    have nd := scNear.nd
    have hu := hr.units
    refine ⟨_, pss_cons (ps_setLc (i := 3) (own := [("house", 2)]) (g := gName 2) (tt := tYes) rfl nd rfl rfl (sw_true rfl rfl rfl (by decide +kernel)) (pi_range1 rfl B.range (pa_cons (pv 0) pa_nil))
        (blkOk_by (N := ["many", "ties", "house", "found", "other"]) (sc := defScope sNear) (by decide +kernel)) (fun _ _ _ _ _ => pg_name (i := 2) nd rfl (.inl rfl)) (fun _ _ _ _ _ => pts_nil) (fun _ _ _ _ _ => pe_lst pa_nil))
      (pss_cons (ps_for PassesOwn.never rfl (pi_range1 rfl B.range (pa_cons (pv 0) pa_nil)) (pg_name (i := 2) nd rfl (.inl rfl))
        (pss_one (ps_for PassesOwn.never rfl (pi_range1 rfl B.range (pa_cons (pv 0) pa_nil)) (pg_name (i := 4) nd rfl (.inl rfl))
          (pss_one (ps_if (pt_cmpR (op_inP hu) (pe_tup (pa_cons (pe_callB (call_min2 rfl) (by rfl) B.min PyProof.Rows.boot_min (pa_cons (pv 2) (pa_cons (pv 4) pa_nil))) (pa_cons (pe_callB (call_max2 rfl) (by rfl) B.max PyProof.Rows.boot_max (pa_cons (pv 2) (pa_cons (pv 4) pa_nil))) pa_nil))) (pv 1) rfl)
            (pss_one (ps_expr (pe_bm PySem.F.plainAttrs_list PySem.F.slot_list_append PySem.F.type_list_append mt_append (pe_ix ix_list (pv 3) (pv 2) (fun _ _ => rfl)) (pa_cons (pv 4) pa_nil)))) pss_nil)))))
      (pss_one (ps_ret (pv 3)))), ?_⟩
    refine ⟨_, rfl, m, rfl, by omega, by omega, fun D hD => lc_range (lo := 0) (n := m.toNat) (fun i H' => ∃ bs : List Addr, H' D = some (.lst (bs.map V.ref)) ∧ bs.length = i ∧ bs.Nodup ∧ D ∉ bs ∧ (∀ a ∈ bs, H' a = some (.lst []) ∧ H a = none) ∧ Same H H') ?_ ?_ ?_⟩
    · exact ⟨[], upd_same, rfl, List.nodup_nil, List.not_mem_nil, fun a ha => absurd ha List.not_mem_nil, sNew (fun _ _ e => e) hD⟩
    · rintro i H1 hi ⟨bs, e1, hl, hn, hd, hb, s1⟩
      refine ⟨rfl, Nat.zero_le _, fun a ha => ?_⟩
      have nDa : D ≠ a := ne_of_none e1 ha
      have ea : upd H1 a (.lst []) D = some (.lst (bs.map V.ref)) := by rw [upd_ne nDa]; exact e1
      have na : a ∉ bs := fun hm => by
        rw [(hb a hm).1] at ha
        cases ha
      refine ⟨_, ea, ?_, bs ++ [a], ?_, ?_, nd_snoc hn na, ?_, ?_, sNew (sNew' s1 ha) hD⟩
      · rw [List.length_map, hl]
        exact size_ok (by omega)
      · rw [upd_same, List.map_append]
        rfl
      · rw [List.length_append, hl]
        rfl
      · intro hm
        rcases List.mem_append.mp hm with hm | hm
        · exact hd hm
        · exact nDa (List.mem_singleton.mp hm)
      · intro b hm
        rcases List.mem_append.mp hm with hm | hm
        · refine ⟨?_, (hb b hm).2⟩
          rw [upd_ne (fun e => hd (by rw [← e]; exact hm)), upd_ne (fun e => na (by rw [← e]; exact hm))]
          exact (hb b hm).1
        · obtain rfl := List.mem_singleton.mp hm
          refine ⟨?_, sNo s1 ha⟩
          rw [upd_ne nDa.symm, upd_same]
    · rintro H1 ⟨bs, e1, hl, hn, hd, hb, s1⟩
      have r1 : RowsL H1 D bs (fun _ => []) m.toNat := ⟨e1, hl, hn, hd, fun i a hi => (hb a (List.mem_of_getElem? hi)).1⟩
      have hfr : ∀ a ∈ bs, H a = none := fun a ha => (hb a ha).2
      clear e1 hl hn hd hb
      refine ⟨_, rfl, m, rfl, by omega, by omega, for_range (lo := 0) (n := m.toNat) (fun h σ H' => ∃ (x2 x4 : Option V) (nb : Nat → List Int), σ = [some (.int m), some (.ref q), x2, some (.ref D), x4] ∧ RowsL H' D bs nb m.toNat ∧
        (∀ i : Nat, i < h → ∀ j : Int, j ∈ nb i ↔ Edge L (i : Int) j) ∧ (∀ i, h ≤ i → nb i = []) ∧ Same H H') ?_ ?_ ?_⟩
      · exact ⟨none, none, _, rfl, r1, fun i hi => absurd hi (Nat.not_lt_zero _), fun i _ => rfl, s1⟩
      · rintro h σ H2 hh ⟨x2, x4, nb, rfl, r2, he, hem, s2⟩
        refine ⟨_, rfl, m, rfl, by omega, by omega, for_range (lo := 0) (n := m.toNat) (fun o σ H' => ∃ (x4 : Option V) (nb : Nat → List Int), σ = [some (.int m), some (.ref q), some (.int (h : Int)), some (.ref D), x4] ∧ RowsL H' D bs nb m.toNat ∧
          (∀ i : Nat, i < h → ∀ j : Int, j ∈ nb i ↔ Edge L (i : Int) j) ∧ (∀ i, h + 1 ≤ i → nb i = []) ∧ (∀ j : Int, j ∈ nb h ↔ Edge L (h : Int) j ∧ j < o) ∧ (nb h).length ≤ o ∧ Same H H') ?_ ?_ ?_⟩
        · refine ⟨x4, nb, by rw [Int.zero_add]; rfl, r2, he, fun i hi => hem i (by omega), fun j => ?_, by rw [hem h (Nat.le_refl _)]; exact Nat.zero_le _, s2⟩
          rw [hem h (Nat.le_refl _)]
          refine ⟨fun z => absurd z List.not_mem_nil, fun ⟨⟨p, hp, z⟩, z2⟩ => ?_⟩
          obtain ⟨a, b, e2, h0, h1, h2⟩ := tt.ok p hp
          rw [e2] at z
          simp only [List.cons.injEq, and_true] at z
          omega
        · rintro o σ H3 ho ⟨x4, nb, rfl, r3, he, hem, hrow, hlen, s3⟩
          rw [Int.zero_add]
          refine ⟨_, rfl, _, rfl, _, _, rfl, _, rfl, _, rfl, _, _, rfl, (by show 2 ≤ sizeLine; decide), fun T hT => ?_⟩
          have s4 : Same H3 (upd H3 T (.tup [.int (if (o : Int) < (h : Int) then (o : Int) else (h : Int)), .int (if (o : Int) > (h : Int) then (o : Int) else (h : Int))])) := sNew (fun _ _ e => e) hT
          have s5 : Same H (upd H3 T (.tup [.int (if (o : Int) < (h : Int) then (o : Int) else (h : Int)), .int (if (o : Int) > (h : Int) then (o : Int) else (h : Int))])) := fun b u e => s4 _ _ (s3 _ _ e)
          refine ⟨_, rfl, T, q, [if (o : Int) < (h : Int) then (o : Int) else (h : Int), if (o : Int) > (h : Int) then (o : Int) else (h : Int)], L, rfl, rfl, upd_same, s5 _ _ tt.at_, fun p hp => s5 _ _ (tt.tup p hp), _, rfl, ?_⟩
          have r4 : RowsL (upd H3 T (.tup [.int (if (o : Int) < (h : Int) then (o : Int) else (h : Int)), .int (if (o : Int) > (h : Int) then (o : Int) else (h : Int))])) D bs nb m.toNat := ⟨s4 _ _ r3.at_, r3.len, r3.nd, r3.nD, fun i a hi => s4 _ _ (r3.row i a hi)⟩
          have em := edge_mem tt.ok (h : Int) (o : Int)
          refine ite2 (fun c => ?_) (fun c => ?_)
          · have ed : Edge L (h : Int) (o : Int) := em.mpr (of_decide_eq_true c)
            have hl : h < bs.length := by rw [r3.len]; exact hh
            have gh : bs[h]? = some bs[h] := List.getElem?_eq_getElem hl
            have rh := r4.row _ _ gh
            refine ⟨_, rfl, _, rfl, D, _, (h : Int), _, rfl, rfl, SqL.of r4.at_, atI_nat (map_get gh), .inl ⟨rfl, _, SqL.of rh⟩, _, rfl, bs[h], _, _, rfl, rfl, rh, ?_, ?_⟩
            · rw [List.length_map]
              exact size_ok (by omega)
            · refine ⟨_, _, rfl, r4.add (j := (o : Int)) gh, fun i hi j => ?_, fun i hi => ?_, fun j => ?_, ?_, ?_⟩
              · show j ∈ (if i = h then nb h ++ [(o : Int)] else nb i) ↔ _
                rw [if_neg (by omega)]
                exact he i hi j
              · show (if i = h then nb h ++ [(o : Int)] else nb i) = []
                rw [if_neg (by omega)]
                exact hem i hi
              · show j ∈ (if h = h then nb h ++ [(o : Int)] else nb h) ↔ _
                rw [if_pos rfl, List.mem_append, List.mem_singleton, hrow]
                constructor
                · rintro (⟨z1, z2⟩ | rfl)
                  · exact ⟨z1, by omega⟩
                  · exact ⟨ed, by omega⟩
                · rintro ⟨z1, z2⟩
                  by_cases c2 : j < o
                  · exact .inl ⟨z1, c2⟩
                  · exact .inr (by omega)
              · show (if h = h then nb h ++ [(o : Int)] else nb h).length ≤ o + 1
                rw [if_pos rfl, List.length_append, List.length_singleton]
                omega
              · exact sNew s5 (hfr _ (List.getElem_mem hl))
          · refine ⟨_, nb, rfl, r4, he, hem, fun j => ?_, by omega, s5⟩
            rw [hrow]
            constructor
            · rintro ⟨z1, z2⟩
              exact ⟨z1, by omega⟩
            · rintro ⟨z1, z2⟩
              refine ⟨z1, ?_⟩
              by_cases c2 : j < o
              · exact c2
              · have e : j = o := by omega
                rw [e] at z1
                exact absurd (decide_eq_true (em.mp z1)) c
        · rintro σ H3 ⟨x4, nb, rfl, r3, he, hem, hrow, hlen, s3⟩
          refine ⟨_, x4, nb, rfl, r3, fun i hi j => ?_, hem, s3⟩
          by_cases c : i < h
          · exact he i c j
          · obtain rfl : i = h := by omega
            rw [hrow]
            refine ⟨And.left, fun z => ⟨z, ?_⟩⟩
            obtain ⟨p, hp, z⟩ := z
            obtain ⟨a, b, e2, h0, h1, h2⟩ := tt.ok p hp
            rw [e2] at z
            simp only [List.cons.injEq, and_true] at z
            omega
      · rintro σ H2 ⟨x2, x4, nb, rfl, r2, he, hem, s2⟩
        exact ⟨_, rfl, k D bs nb _ r2 he hD hfr s2⟩
end
end Q

namespace Q
open PySem L2 QM
def spWaves : Sp := fun vs H Q _ => ∃ (r : Addr) (bs : List Addr) (nb : Nat → List Int) (n : Nat) (G : Nat → Nat → Prop) (st : Nat), vs = [.ref r, .int (st : Int)] ∧ RowsL H r bs nb n ∧ n ≤ 40 ∧ st < n ∧ NbG G n nb ∧ (∀ a b, G a b → b < n) ∧
  ∀ (p : Addr) (cs : List V) (H' : Hp), H' p = some (.lst cs) → Cells G st n cs → Same H H' → H p = none → Q (.ref p) H'
theorem RowsL.same {H H' : Hp} {D : Addr} {bs : List Addr} {nb : Nat → List Int} {n : Nat} (h : RowsL H D bs nb n) (s : Same H H') : RowsL H' D bs nb n := ⟨s _ _ h.at_, h.len, h.nd, h.nD, fun i a e => s _ _ (h.row i a e)⟩
theorem Mid.is {G : Nat → Nat → Prop} {s n t u N0 : Nat} {Dn : Nat → Prop} {cs : List V} {cm : List Nat} (h : Mid G s n t Dn N0 cs cm) (hu : u < n) (e : cs[u]? = some (nI t)) : Dist G s u t := by
  rcases h.cell u hu with ⟨d, hd, a, b⟩ | ⟨a, _, _⟩ | ⟨a, _, _⟩
  · rw [e] at a
    have z : (t : Int) = (d : Int) := V.int.inj (Option.some.inj a)
    have z2 : t = d := by omega
    rw [z2]
    exact b
  · rw [e] at a
    have z : (t : Int) = ((t + 1 : Nat) : Int) := V.int.inj (Option.some.inj a)
    omega
  · rw [e] at a
    cases a
theorem Lev.full {G : Nat → Nat → Prop} {s n : Nat} {cs : List V} (h : Lev G s n n cs) (hs : s < n) (hG : ∀ a b, G a b → b < n) : Cells G s n cs :=
  ⟨h.len, fun v hv => by
    rcases h.cell v hv with ⟨d, _, a, b⟩ | ⟨a, b⟩
    · exact .inl ⟨d, a, b⟩
    · exact .inr ⟨a, fun d q => b d (Nat.le_of_lt (q.lt hs hG)) q⟩⟩
theorem scal_cell {c : V} {i : Int} (h : c = .non ∨ ∃ d : Nat, c = nI d) : scal c (.int i) = true := by
  rcases h with rfl | ⟨d, rfl⟩ <;> rfl
section
variable {P : Program} {w : World} {K : PySem.W.Frag} {mg : Str → Option Value} {base : Heap}
theorem scWaves : FnScope ["near", "house", "found", "steps", "here", "other"] ["near", "house"] (defScope sWaves) := ⟨rfl, rfl, rfl, by decide +kernel, rfl, by decide +kernel, by decide +kernel⟩
theorem ok_waves {f : Addr} {fd : FuncData} (F : Fun K "_law_waves" "_law_waves" sWaves f fd) (B : Bts mg) : FnOk P w K mg base CX0 1 f fd ["near", "house"] spWaves := by
  refine F.ok scWaves (fun vs H Q E h => ?_) (fun cdv A outer s H vs Q E hr h => ?_)
  · obtain ⟨r, bs, nb, n, G, st, rfl, _⟩ := h
    rfl
  · obtain ⟨r, bs, nb, n, G, st, rfl, rt, n40, hst, hnb, hG, k⟩ := h
    have nd := scWaves.nd
    refine ⟨_, pss_cons (ps_set (i := 2) nd rfl (.inl rfl) (pe_op op_rep (pe_lst (pa_cons pe_non pa_nil)) (pe_callB call_len_seq (by rfl) B.len PySem.boot_len (pa_cons (pv 0) pa_nil))))
      (pss_cons (ps_asg pe_int (pg_sub (pv 2) (pv 1) set_list))
      (pss_cons (ps_for PassesOwn.never rfl (pi_range1 rfl B.range (pa_cons (pe_callB call_len_seq (by rfl) B.len PySem.boot_len (pa_cons (pv 0) pa_nil)) pa_nil)) (pg_name (i := 3) nd rfl (.inl rfl))
        (pss_one (ps_for PassesOwn.never rfl (pi_range1 rfl B.range (pa_cons (pe_callB call_len_seq (by rfl) B.len PySem.boot_len (pa_cons (pv 0) pa_nil)) pa_nil)) (pg_name (i := 4) nd rfl (.inl rfl))
          (pss_one (ps_if (pt_cmpR op_eq (pe_ix ix_list (pv 2) (pv 4) (fun _ _ => rfl)) (pv 3) (nomark _))
            (pss_one (ps_for PassesOwn.never rfl (pi_list (pe_ix ix_list (pv 0) (pv 4) (fun _ _ => rfl))) (pg_name (i := 5) nd rfl (.inl rfl))
              (pss_one (ps_if (pt_cmp (pc_isN (pe_ix ix_list (pv 2) (pv 5) (fun _ _ => rfl))))
                (pss_one (ps_asg (pe_op op_add (pv 3) pe_int) (pg_sub (pv 2) (pv 5) set_list))) pss_nil)))) pss_nil)))))
      (pss_one (ps_ret (pv 2))))), ?_⟩
    have el : ((bs.map V.ref).length : Int) = (n : Int) := by rw [List.length_map, rt.len]
    refine ⟨(by show 1 ≤ sizeLine; decide), fun l hl => ?_⟩
    have sl : Same H (upd H l (.lst [.non])) := sNew (fun _ _ e => e) hl
    refine ⟨_, rfl, r, _, rfl, .inl (SqL.of (sl _ _ rt.at_)), l, _, _, rfl, rfl, upd_same, ?_, ?_, ?_, fun fo hfo => ?_⟩
    · omega
    · rw [el]; omega
    · rw [el]; exact size_le (by show 1 * (n : Int).toNat ≤ 64; omega)
    have hfo0 : H fo = none := sNo sl hfo
    have ef : (List.replicate (((bs.map V.ref).length : Nat) : Int).toNat [V.non]).flatten = List.replicate n V.non := by
      rw [el, Int.toNat_natCast, List.flatten_replicate_singleton]
    rw [ef]
    refine ⟨_, rfl, _, rfl, fo, _, (st : Int), st, rfl, rfl, upd_same, ixN_nat (by rw [List.length_replicate]; exact hst), ?_⟩
    have s1 : Same H (upd (upd (upd H l (.lst [.non])) fo (.lst (List.replicate n V.non))) fo (.lst ((List.replicate n V.non).set st (.int 0)))) := sNew (sNew sl hfo0) hfo0
    refine ⟨_, rfl, r, _, rfl, .inl (SqL.of (s1 _ _ rt.at_)), _, rfl, by omega, by omega, ?_⟩
    have en : ((bs.map V.ref).length : Int).toNat = n := by rw [el, Int.toNat_natCast]
    rw [en]
    refine for_range (lo := 0) (n := n) (fun t σ H' => ∃ (cs : List V) (x3 x4 x5 : Option V), σ = [some (.ref r), some (.int (st : Int)), some (.ref fo), x3, x4, x5] ∧ H' fo = some (.lst cs) ∧ Lev G st n t cs ∧ Same H H') ?_ ?_ ?_
    · exact ⟨_, none, none, none, rfl, by rw [upd_same]; rfl, lev_zero hst, s1⟩
    · rintro t σ H1 ht ⟨cs, x3, x4, x5, rfl, e1, lv, s2⟩
      rw [Int.zero_add]
      refine ⟨_, rfl, r, _, rfl, .inl (SqL.of (s2 _ _ rt.at_)), _, rfl, by omega, by omega, ?_⟩
      rw [en]
      refine for_range (lo := 0) (n := n) (fun h σ H' => ∃ (cs' : List V) (cm : List Nat) (x4 x5 : Option V), σ = [some (.ref r), some (.int (st : Int)), some (.ref fo), some (nI t), x4, x5] ∧ H' fo = some (.lst cs') ∧
        Mid G st n t (fun v => ∃ u, u < h ∧ Dist G st u t ∧ G u v) (nn cs) cs' cm ∧ Same H H') ?_ ?_ ?_
      · exact ⟨cs, [], _, _, rfl, e1, (Mid.start lv).mono (fun v hv ⟨u, hu, _⟩ => absurd hu (Nat.not_lt_zero _)), s2⟩
      · rintro h σ H2 hh ⟨cs', cm, y4, y5, rfl, f1, md, s3⟩
        rw [Int.zero_add]
        have hl : h < cs'.length := by rw [md.len]; exact hh
        have gh : cs'[h]? = some cs'[h] := List.getElem?_eq_getElem hl
        have kind : cs'[h] = .non ∨ ∃ d : Nat, cs'[h] = nI d := by
          rcases md.cell h hh with ⟨d, _, a, _⟩ | ⟨a, _, _⟩ | ⟨a, _, _⟩
          · rw [gh] at a; exact .inr ⟨d, Option.some.inj a⟩
          · rw [gh] at a; exact .inr ⟨_, Option.some.inj a⟩
          · rw [gh] at a; exact .inl (Option.some.inj a)
        refine ⟨_, rfl, _, rfl, fo, cs', (h : Int), _, rfl, rfl, SqL.of f1, atI_nat gh, _, rfl, scal_cell kind, _, rfl, ite2 (fun c => ?_) (fun c => ?_)⟩
        · have ec : cs'[h] = nI t := of_decide_eq_true c
          rw [ec] at gh
          have du : Dist G st h t := md.is hh gh
          have ul : h < bs.length := by rw [rt.len]; exact hh
          have gu : bs[h]? = some bs[h] := List.getElem?_eq_getElem ul
          refine ⟨_, rfl, _, rfl, r, _, (h : Int), _, rfl, rfl, SqL.of (s3 _ _ rt.at_), atI_nat (map_get gu), bs[h], rfl, ⟨_, SqL.of (s3 _ _ (rt.row h _ gu))⟩, for_list (K := K) (a := bs[h]) (xs := (nb h).map V.int) (fun j σ H' => ∃ (cs' : List V) (cm : List Nat) (x5 : Option V),
            σ = [some (.ref r), some (.int (st : Int)), some (.ref fo), some (nI t), some (nI h), x5] ∧ H' fo = some (.lst cs') ∧ Mid G st n t (fun v => (∃ u, u < h ∧ Dist G st u t ∧ G u v) ∨ (v : Int) ∈ (nb h).take j) (nn cs) cs' cm ∧ Same H H') ?_ ?_ ?_ ?_⟩
          · exact ⟨cs', cm, _, rfl, f1, md.mono (fun v hv z => z.elim id fun z => absurd z (by simp)), s3⟩
          · rintro j σ H3 hj ⟨cs3, cm3, z5, rfl, g1, md3, s4⟩
            exact SqL.of (s4 _ _ (rt.row h _ gu))
          · rintro j y σ H3 hy ⟨cs3, cm3, z5, rfl, g1, md3, s4⟩
            obtain ⟨w, hw, rfl⟩ := map_inv hy
            obtain ⟨v, rfl, guv⟩ := (hnb h hh w).mp (List.mem_of_getElem? hw)
            have vn : v < n := hG _ _ guv
            have vl : v < cs3.length := by rw [md3.len]; exact vn
            have hcv : cs3[v]? = some cs3[v] := List.getElem?_eq_getElem vl
            have dn : ∀ x, ((∃ u, u < h ∧ Dist G st u t ∧ G u x) ∨ (x : Int) ∈ (nb h).take (j + 1)) → ((∃ u, u < h ∧ Dist G st u t ∧ G u x) ∨ (x : Int) ∈ (nb h).take j) ∨ x = v := by
              rintro x (z | z)
              · exact .inl (.inl z)
              · rcases (take_succ_mem hw).mp z with z | z
                · exact .inl (.inr z)
                · exact .inr (by omega)
            refine ⟨_, rfl, _, rfl, fo, cs3, (v : Int), _, rfl, rfl, SqL.of g1, atI_nat hcv, _, rfl, ite2 (fun c => ?_) (fun c => ?_)⟩
            · have ev : cs3[v] = .non := of_decide_eq_true c
              rw [ev] at hcv
              refine ⟨_, rfl, _, _, rfl, rfl, _, rfl, _, rfl, fo, cs3, (v : Int), v, rfl, rfl, g1, ixN_nat vl, ?_⟩
              refine ⟨cs3.set v (nI (t + 1)), cm3 ++ [v], _, rfl, ?_, (md3.more vn hcv du guv).mono (fun x _ z => dn x z), sNew s4 hfo0⟩
              rw [upd_same]
              rfl
            · exact ⟨cs3, cm3, _, rfl, g1, (md3.skip hcv (fun e => c (decide_eq_true e))).mono (fun x _ z => dn x z), s4⟩
          · rintro σ H3 ⟨cs3, cm3, z5, rfl, g1, md3, s4⟩
            refine ⟨cs3, cm3, _, _, rfl, g1, md3.mono ?_, s4⟩
            rintro v hv ⟨u', hu', du', g⟩
            by_cases c : u' < h
            · exact .inl ⟨u', c, du', g⟩
            · obtain rfl : u' = h := by omega
              refine .inr ?_
              rw [List.length_map, List.take_length]
              exact (hnb u' hh _).mpr ⟨v, rfl, g⟩
        · refine ⟨cs', cm, _, _, rfl, f1, md.mono ?_, s3⟩
          rintro v hv ⟨u', hu', du', g⟩
          by_cases c2 : u' < h
          · exact ⟨u', c2, du', g⟩
          · obtain rfl : u' = h := by omega
            have z := md.house hh du'
            rw [gh] at z
            exact absurd (decide_eq_true (Option.some.inj z)) c
      · rintro σ H2 ⟨cs', cm, y4, y5, rfl, f1, md, s3⟩
        have un : ∀ u, Dist G st u t → u < n := fun u d => by
          cases t with
          | zero => rw [d.of_zero]; exact hst
          | succ t =>
            obtain ⟨_, _, g⟩ := d.pred
            exact hG _ _ g
        obtain ⟨lv2, _⟩ := md.fin hG fun u v d g => ⟨u, un u d, d, g⟩
        exact ⟨cs', _, _, _, rfl, f1, lv2, s3⟩
    · rintro σ H1 ⟨cs, x3, x4, x5, rfl, e1, lv, s2⟩
      exact ⟨_, rfl, k fo cs _ e1 (lv.full hst hG) s2 hfo0⟩
end
end Q

namespace Q
open PySem L2 QM
abbrev sLaw : Stmt := top 25
def spLaw (K : PySem.W.Frag) : Sp := fun vs H Q _ => ∃ (a : Addr) (ns : List Int), vs = [.ref a] ∧ SqL K H a (ns.map V.int) ∧ ns.length ≤ 63 ∧ ∀ H', Q (.bl true) H'
theorem HandAt.same {H H' : Hp} {p l : Addr} (h : HandAt H p l) (s : Same H H') : HandAt H' p l := by
  obtain ⟨ns, i, r, z, c, x⟩ := h
  exact ⟨ns, i, r, z, c, s _ _ x.at_, s _ _ x.lst, x.len, x.r0, x.s0, x.s1⟩
theorem RowsL.but {H H' : Hp} {D p : Addr} {bs : List Addr} {nb : Nat → List Int} {n : Nat} (h : RowsL H D bs nb n) (b : But p H H') (n1 : D ≠ p) (n2 : ∀ a ∈ bs, a ≠ p) : RowsL H' D bs nb n :=
  ⟨by rw [b D n1]; exact h.at_, h.len, h.nd, h.nD, fun i a e => by rw [b a (n2 a (List.mem_of_getElem? e))]; exact h.row i a e⟩
theorem IsWidth.uniq {L : List (Addr × List Int)} {n V1 V2 : Nat} (h : IsWidth L n V1) (g : IsWidth L n V2) : V1 = V2 := by
  obtain ⟨⟨s, v, hs, hv, d⟩, u⟩ := h
  obtain ⟨⟨s', v', hs', hv', d'⟩, u'⟩ := g
  exact Nat.le_antisymm (u' _ _ _ hs hv d) (u _ _ _ hs' hv' d')
/-- the defs that the law itself calls -/
structure LDefs (K : PySem.W.Frag) (mg : Str → Option Value) where
  fH : Addr
  dH : FuncData
  DH : Df K mg "_law_hand" sHand ["script"] fH dH
  fT : Addr
  dT : FuncData
  DT : Df K mg "_law_take" sTake ["hand", "many"] fT dT
  fP : Addr
  dP : FuncData
  DP : Df K mg "_law_pick" sPick ["hand", "things"] fP dP
  fI : Addr
  dI : FuncData
  DI : Df K mg "_law_is_integer" sInt ["thing"] fI dI
  fS : Addr
  dS : FuncData
  DS : Df K mg "_law_same" sSame ["actual", "due"] fS dS
  fR : Addr
  dR : FuncData
  DR : Df K mg "_law_ties" sTies ["hand", "many"] fR dR
  fN : Addr
  dN : FuncData
  DN : Df K mg "_law_near" sNear ["many", "ties"] fN dN
  fV : Addr
  dV : FuncData
  DV : Df K mg "_law_waves" sWaves ["near", "house"] fV dV
  fF : Addr
  dF : FuncData
  DF : Df K mg "far" sFar ["web", "one", "other"] fF dF
  fW : Addr
  dW : FuncData
  DW : Df K mg "width" sWidth ["web"] fW dW
section
variable {P : Program} {w : World} {K : PySem.W.Frag} {mg : Str → Option Value} {base : Heap}
theorem scLaw : FnScope ["script", "hand", "many", "ties", "web", "near", "most", "house", "k", "one", "other", "due"] ["script"] (defScope sLaw) := ⟨rfl, rfl, rfl, by decide +kernel, rfl, by decide +kernel, by decide +kernel⟩
theorem ok_law {f C fM : Addr} {fd fdM : FuncData} (F : Fun K "law" "law" sLaw f fd) (B : Bts mg) (T : WTxt K mg C) (M : Mk K C fM) (FM : Fun K "__init__" "Web.__init__" sWeb fM fdM) (bM : Binds K fdM ["self", "many", "ties"] []) (D : WDefs K mg) (E1 : LDefs K mg) :
    FnOk P w K mg base CX0 7 f fd ["script"] (spLaw K) := by
  have GH : FnOk P w K mg base CX0 1 E1.fH E1.dH ["script"] (spHand K) := ok_hand E1.DH.F B
  have GT : FnOk P w K mg base CX0 1 E1.fT E1.dT ["hand", "many"] spTake := ok_take E1.DT.F B
  have GP : FnOk P w K mg base CX0 2 E1.fP E1.dP ["hand", "things"] (spPick K) := ok_pick E1.DP.F B E1.DT
  have GR : FnOk P w K mg base CX0 2 E1.fR E1.dR ["hand", "many"] (spTies K) := ok_ties E1.DR.F B E1.DT
  have GM : FnOk P w K mg base CX0 5 fM fdM ["self", "many", "ties"] (spWeb C) := ok_web FM B T D
  have GN : FnOk P w K mg base CX0 1 E1.fN E1.dN ["many", "ties"] spNear := ok_near E1.DN.F B
  have GV : FnOk P w K mg base CX0 1 E1.fV E1.dV ["near", "house"] spWaves := ok_waves E1.DV.F B
  have GS : FnOk P w K mg base CX0 2 E1.fS E1.dS ["actual", "due"] spSame := ok_same E1.DS.F B E1.DI
  have GF : FnOk P w K mg base CX0 3 E1.fF E1.dF ["web", "one", "other"] (spFar C) := ok_far E1.DF.F B T D
  have GW : FnOk P w K mg base CX0 3 E1.fW E1.dW ["web"] (spWidth C) := ok_width E1.DW.F B T D
  refine F.ok scLaw (fun vs H Q E h => ?_) (fun cdv A outer s H vs Q E hr h => ?_)
  · obtain ⟨a, ns, rfl, _⟩ := h
    rfl
  · obtain ⟨a, ns, rfl, hS, hlen, k⟩ := h
    have nd := scLaw.nd
    have hr1 : Room 1 _ := hr.mono (by decide)
    have hr2 : Room 2 _ := hr.mono (by decide)
    have hr3 : Room 3 _ := hr.mono (by decide)
    refine ⟨_, pss_cons (ps_set (i := 1) nd rfl (.inl rfl) (pe_call GH hr1 rfl E1.DH.m E1.DH.k E1.DH.b .nil pass0 (pa_cons (pv 0) pa_nil)))
      (pss_cons (ps_set (i := 2) nd rfl (.inl rfl) (pe_op op_add pe_int (pe_call GT hr1 rfl E1.DT.m E1.DT.k E1.DT.b .nil pass0 (pa_cons (pv 1) (pa_cons (pe_call GP hr2 rfl E1.DP.m E1.DP.k E1.DP.b .nil pass0 (pa_cons (pv 1) (pa_cons (pe_lst (pa_cons pe_int (pa_cons pe_int (pa_cons pe_int (pa_cons pe_int (pa_cons pe_int pa_nil)))))) pa_nil))) pa_nil)))))
      (pss_cons (ps_set (i := 3) nd rfl (.inl rfl) (pe_call GR hr2 rfl E1.DR.m E1.DR.k E1.DR.b .nil pass0 (pa_cons (pv 1) (pa_cons (pv 2) pa_nil))))
      (pss_cons (ps_set (i := 4) nd rfl (.inl rfl) (pe_make M GM hr rfl T.mgC bM .nil pass0 (pa_cons (pv 2) (pa_cons (pv 3) pa_nil))))
      (pss_cons (ps_set (i := 5) nd rfl (.inl rfl) (pe_call GN hr1 rfl E1.DN.m E1.DN.k E1.DN.b .nil pass0 (pa_cons (pv 2) (pa_cons (pv 3) pa_nil))))
      (pss_cons (ps_set (i := 6) nd rfl (.inl rfl) pe_int)
      (C8.pss_cut (ps_for PassesOwn.never rfl (pi_range1 rfl B.range (pa_cons (pv 2) pa_nil)) (pg_name (i := 7) nd rfl (.inl rfl))
        (pss_one (ps_set (i := 6) nd rfl (.inl rfl) (pe_callB (cr_max rfl) (by rfl) B.max PyProof.Rows.boot_max (pa_cons (pe_op op_cat (pe_lst (pa_cons (pv 6) pa_nil)) (pe_call GV hr1 rfl E1.DV.m E1.DV.k E1.DV.b .nil pass0 (pa_cons (pv 5) (pa_cons (pv 7) pa_nil)))) pa_nil)))))
      (pss_cons (ps_if (pt_not (pt_val (pe_call GS hr2 rfl E1.DS.m E1.DS.k E1.DS.b .nil pass0 (pa_cons (pe_call GW hr3 rfl E1.DW.m E1.DW.k E1.DW.b .nil pass0 (pa_cons (pv 4) pa_nil)) (pa_cons (pv 6) pa_nil))))) pss_never pss_nil)
      (pss_cons (ps_for PassesOwn.never rfl (pi_range1 rfl B.range (pa_cons pe_int pa_nil)) (pg_name (i := 8) nd rfl (.inl rfl))
        (pss_cons (ps_set (i := 9) nd rfl (.inl rfl) (pe_call GT hr1 rfl E1.DT.m E1.DT.k E1.DT.b .nil pass0 (pa_cons (pv 1) (pa_cons (pv 2) pa_nil))))
        (pss_cons (ps_set (i := 10) nd rfl (.inl rfl) (pe_call GT hr1 rfl E1.DT.m E1.DT.k E1.DT.b .nil pass0 (pa_cons (pv 1) (pa_cons (pv 2) pa_nil))))
        (pss_cons (ps_set (i := 11) nd rfl (.inl rfl) (pe_ix ix_list (pe_call GV hr1 rfl E1.DV.m E1.DV.k E1.DV.b .nil pass0 (pa_cons (pv 5) (pa_cons (pv 9) pa_nil))) (pv 10) (fun _ _ => rfl)))
        (pss_one (ps_if (PW.pt (pw_or (pt_not (pt_val (pe_call GS hr2 rfl E1.DS.m E1.DS.k E1.DS.b .nil pass0 (pa_cons (pe_call GF hr3 rfl E1.DF.m E1.DF.k E1.DF.b .nil pass0 (pa_cons (pv 4) (pa_cons (pv 9) (pa_cons (pv 10) pa_nil)))) (pa_cons (pv 11) pa_nil)))))
          (pw_or1 (pt_not (pt_val (pe_call GS hr2 rfl E1.DS.m E1.DS.k E1.DS.b .nil pass0 (pa_cons (pe_call GF hr3 rfl E1.DF.m E1.DF.k E1.DF.b .nil pass0 (pa_cons (pv 4) (pa_cons (pv 10) (pa_cons (pv 9) pa_nil)))) (pa_cons (pv 11) pa_nil)))))))) pss_never pss_nil))))))
      (pss_one (ps_ret pe_bl)))))))))), ?_⟩
    -- hand, many, ties
    refine ⟨_, rfl, a, ns, rfl, hS, hlen, fun p l H1 g1 hp0 hl0 s1 => ?_⟩
    refine ⟨_, rfl, _, rfl, (by show 5 ≤ sizeLine; decide), fun t ht => ?_⟩
    refine ⟨p, l, t, _, rfl, g1.new ht, upd_same, (g1.ne ht).1, (by decide), (by decide), fun v H2 hv g2 b2 => ?_⟩
    obtain ⟨m0, rfl, z2, z40⟩ : ∃ m0 : Int, v = .int m0 ∧ 2 ≤ m0 ∧ m0 ≤ 40 := by
      simp only [List.mem_cons, List.not_mem_nil, or_false] at hv
      rcases hv with rfl | rfl | rfl | rfl | rfl <;> exact ⟨_, rfl, by decide, by decide⟩
    refine ⟨p, l, m0, rfl, g2, by omega, by omega, fun d H3 d0 d1 g3 b3 => ?_⟩
    refine ⟨_, _, rfl, rfl, ?_⟩
    obtain ⟨m, em, m1, m40⟩ : ∃ m : Int, 1 + d = m ∧ 1 ≤ m ∧ m ≤ 40 := ⟨1 + d, rfl, by omega, by omega⟩
    have ev : (fun i j : Int => V.int (i + j)) 1 d = V.int m := by rw [← em]
    show gName 2 ((fun i j : Int => V.int (i + j)) 1 d) _ _ _
    rw [ev]
    refine ⟨_, rfl, _, rfl, p, l, m, rfl, g3, m1, m40, fun q L H4 tt g4 x4 => ?_⟩
    have TT : TL m L := ⟨tt.ok, tt.conn, m1, m40⟩
    -- web
    refine ⟨_, rfl, _, rfl, fun x dx nx ndx nex => ?_⟩
    have sx : Same H4 (upd (upd H4 dx (.own x)) x (.ins C dx [])) := sNew (sNew (fun _ _ e => e) ndx) nx
    refine ⟨x, dx, m, q, L, rfl, upd_same, tt.same sx, m1, m40, fun r bs nb H5 wi x5 => ⟨rfl, ?_⟩⟩
    have s45 : Same H4 H5 := fun b o e => x5 b o (sx b o e) (ne_of_none e nx)
    have g5 : HandAt H5 p l := g4.same s45
    have w5 : WebAt C m L H5 x := ⟨dx, q, r, bs, nb, wi⟩
    refine ⟨_, rfl, _, rfl, m, q, L, rfl, m1, m40, tt.same s45, fun nr nbs nnb H6 nrow nnbof nrf nbf s6 => ?_⟩
    have g6 : HandAt H6 p l := g5.same s6
    have w6 : WebAt C m L H6 x := w5.same s6
    have nrp : nr ≠ p := by
      obtain ⟨xs, e⟩ := g5.hp
      exact (ne_of_none e nrf).symm
    have nbp : ∀ a ∈ nbs, a ≠ p := by
      obtain ⟨xs, e⟩ := g5.hp
      exact fun a ha => (ne_of_none e (nbf a ha)).symm
    refine ⟨fun σ H' => ∃ (W : Nat) (x7 : Option V), σ = [some (.ref a), some (.ref p), some (.int m), some (.ref q), some (.ref x), some (.ref nr), some (nI W), x7, none, none, none, none] ∧ IsWidth L m.toNat W ∧ Same H6 H', ?_, ?_⟩
    · refine ⟨_, rfl, m, rfl, by omega, by omega, for_range (lo := 0) (n := m.toNat) (fun i σ H' => ∃ (W : Nat) (x7 : Option V), σ = [some (.ref a), some (.ref p), some (.int m), some (.ref q), some (.ref x), some (.ref nr), some (nI W), x7, none, none, none, none] ∧
        (W = 0 ∨ ∃ s v, s < i ∧ v < m.toNat ∧ Dist (GL L) s v W) ∧ (∀ s v d, s < i → v < m.toNat → Dist (GL L) s v d → d ≤ W) ∧ Same H6 H') ?_ ?_ ?_⟩
      · exact ⟨0, none, rfl, .inl rfl, fun s v d hs => absurd hs (Nat.not_lt_zero _), fun _ _ e => e⟩
      · rintro i σ H7 hi ⟨W, x7, rfl, hex, hall, s7⟩
        rw [Int.zero_add]
        refine ⟨_, rfl, (by show 1 ≤ sizeLine; decide), fun ml hml => ?_⟩
        have s8 : Same H7 (upd H7 ml (.lst [nI W])) := sNew (fun _ _ e => e) hml
        refine ⟨_, rfl, _, rfl, nr, nbs, nnb, m.toNat, GL L, i, rfl, (nrow.same s7).same s8, by omega, hi, TT.nb nnbof, TT.lt, fun wp cs H8 hwp cells s9 hwn => ?_⟩
        obtain ⟨ds, rfl, hdl, hds⟩ := TT.ints hi cells
        refine ⟨ml, wp, _, _, rfl, rfl, s9 _ _ upd_same, hwp, ?_, fun cp hcp => ?_⟩
        · rw [List.length_map, hdl]
          exact size_le (by show 1 + m.toNat ≤ 64; omega)
        · have ec : [nI W] ++ ds.map nI = ((W :: ds).map fun d : Nat => (d : Int)).map V.int := by
            rw [← nI_map]
            rfl
          refine ⟨cp, _, rfl, SqL.of (by rw [upd_same, ec]), by rw [List.length_map]; exact Nat.succ_pos _, fun z hz hy => ?_⟩
          obtain ⟨d, hd, rfl, hmax⟩ := max_of hz hy
          refine ⟨d, _, rfl, ?_, ?_, ?_⟩
          · rcases List.mem_cons.mp hd with rfl | hd
            · rcases hex with rfl | ⟨s, v, hs, hv, q⟩
              · exact .inl rfl
              · exact .inr ⟨s, v, by omega, hv, q⟩
            · obtain ⟨v, hv, ed⟩ := List.getElem_of_mem hd
              have gv : ds[v]? = some d := by rw [List.getElem?_eq_getElem hv, ed]
              exact .inr ⟨i, v, by omega, by rw [hdl] at hv; exact hv, hds v d gv⟩
          · intro s v d' hs hv q
            by_cases c : s < i
            · exact Nat.le_trans (hall s v d' c hv q) (hmax W List.mem_cons_self)
            · obtain rfl : s = i := by omega
              have hv2 : v < ds.length := by rw [hdl]; exact hv
              have g2 : ds[v]? = some ds[v] := List.getElem?_eq_getElem hv2
              rw [q.uniq (hds v _ g2)]
              exact hmax _ (List.mem_cons_of_mem _ (List.getElem_mem hv2))
          · exact fun b o e => by
              have z := s9 _ _ (s8 _ _ (s7 _ _ e))
              rw [upd_ne (ne_of_none z hcp)]
              exact z
      · rintro σ H7 ⟨W, x7, rfl, hex, hall, s7⟩
        refine ⟨W, x7, rfl, ⟨?_, hall⟩, s7⟩
        rcases hex with rfl | ⟨s, v, hs, hv, q⟩
        · exact ⟨0, 0, by omega, by omega, .zero⟩
        · exact ⟨s, v, hs, hv, q⟩
    · rintro σ H7 ⟨W, x7, rfl, hw, s7⟩
      have g7 : HandAt H7 p l := g6.same s7
      have w7 : WebAt C m L H7 x := w6.same s7
      have n7 := nrow.same s7
      refine ⟨_, rfl, x, m, L, rfl, w7, TT, fun W2 H8 hw2 s8 => ?_⟩
      obtain rfl := hw.uniq hw2
      refine ⟨_, rfl, (W : Int), (W : Int), rfl, _, rfl, ?_⟩
      rw [decide_eq_true rfl]
      refine iteF ?_
      refine ⟨6, rfl, by decide, by decide, for_range (lo := 0) (n := 6) (fun i σ H' => ∃ (x7 x8 x9 x10 x11 : Option V), σ = [some (.ref a), some (.ref p), some (.int m), some (.ref q), some (.ref x), some (.ref nr), some (nI W), x7, x8, x9, x10, x11] ∧
        HandAt H' p l ∧ WebAt C m L H' x ∧ RowsL H' nr nbs nnb m.toNat) ?_ ?_ ?_⟩
      · exact ⟨x7, none, none, none, none, rfl, g7.same s8, w7.same s8, n7.same s8⟩
      · rintro i σ H9 hi ⟨x7, x8, x9, x10, x11, rfl, g9, w9, n9⟩
        refine ⟨_, rfl, _, rfl, p, l, m, rfl, g9, by omega, by omega, fun one H10 o0 o1 g10 b10 => ?_⟩
        have w10 := w9.ext g9 (Ext.rfl'.but b10)
        have n10 := n9.but b10 nrp nbp
        refine ⟨_, rfl, _, rfl, p, l, m, rfl, g10, by omega, by omega, fun oth H11 t0 t1 g11 b11 => ?_⟩
        have w11 := w10.ext g10 (Ext.rfl'.but b11)
        have n11 := n10.but b11 nrp nbp
        obtain ⟨u, rfl⟩ : ∃ u : Nat, one = (u : Int) := ⟨one.toNat, by omega⟩
        obtain ⟨v, rfl⟩ : ∃ v : Nat, oth = (v : Int) := ⟨oth.toNat, by omega⟩
        have hu : u < m.toNat := by omega
        have hv : v < m.toNat := by omega
        refine ⟨_, rfl, _, rfl, nr, nbs, nnb, m.toNat, GL L, u, rfl, n11, by omega, hu, TT.nb nnbof, TT.lt, fun wp cs H12 hwp cells s12 hwn => ?_⟩
        obtain ⟨ds, rfl, hdl, hds⟩ := TT.ints hu cells
        have hv2 : v < ds.length := by rw [hdl]; exact hv
        have gv : ds[v]? = some ds[v] := List.getElem?_eq_getElem hv2
        refine ⟨_, rfl, wp, _, (v : Int), nI ds[v], rfl, rfl, SqL.of hwp, atI_nat (by rw [List.getElem?_map, gv]; rfl), ?_⟩
        have dd := hds v _ gv
        refine ⟨_, rfl, _, rfl, _, rfl, x, m, L, u, v, rfl, w11.same s12, TT, hu, hv, fun d1 H13 e1 s13 => ?_⟩
        obtain rfl := e1.uniq dd
        refine ⟨_, rfl, (ds[v] : Int), (ds[v] : Int), rfl, _, rfl, ?_⟩
        rw [decide_eq_true rfl]
        refine iteF ⟨_, rfl, _, rfl, _, rfl, x, m, L, v, u, rfl, (w11.same s12).same s13, TT, hv, hu, fun d2 H14 e2 s14 => ?_⟩
        obtain rfl := (e2.back TL.sym).uniq dd
        refine ⟨_, rfl, (ds[v] : Int), (ds[v] : Int), rfl, _, rfl, ?_⟩
        rw [decide_eq_true rfl]
        refine iteF ⟨_, _, _, _, _, rfl, ((g11.same s12).same s13).same s14, ((w11.same s12).same s13).same s14, ((n11.same s12).same s13).same s14⟩
      · rintro σ H9 ⟨x7, x8, x9, x10, x11, rfl, g9, w9, n9⟩
        exact k _
end
end Q

namespace Q
open PySem L2 QM
theorem all_mk {l : PySem.W.OpenLaw} {w : World} {K : PySem.W.Frag} {h : Heap} {mg : Str → Option Value} {fa C fM : Addr} (X : K.In h) (G : h.Ns mainGlobals mg) (hfa : mg "law" = some (.ref fa)) {tm : Tok}
    {odM anM : Option Addr} {slM : Array (Option Value)} {ocM kVM dcM pmM cdM ctM : Value}
    {f0 : Addr} {od0 an0 : Option Addr} {sl0 : Array (Option Value)} {oc0 kV0 dc0 pm0 cd0 ct0 : Value}
    {f1 : Addr} {od1 an1 : Option Addr} {sl1 : Array (Option Value)} {oc1 kV1 dc1 pm1 cd1 ct1 : Value}
    {f2 : Addr} {od2 an2 : Option Addr} {sl2 : Array (Option Value)} {oc2 kV2 dc2 pm2 cd2 ct2 : Value}
    {f3 : Addr} {od3 an3 : Option Addr} {sl3 : Array (Option Value)} {oc3 kV3 dc3 pm3 cd3 ct3 : Value}
    {f4 : Addr} {od4 an4 : Option Addr} {sl4 : Array (Option Value)} {oc4 kV4 dc4 pm4 cd4 ct4 : Value}
    {f5 : Addr} {od5 an5 : Option Addr} {sl5 : Array (Option Value)} {oc5 kV5 dc5 pm5 cd5 ct5 : Value}
    {f6 : Addr} {od6 an6 : Option Addr} {sl6 : Array (Option Value)} {oc6 kV6 dc6 pm6 cd6 ct6 : Value}
    {f7 : Addr} {od7 an7 : Option Addr} {sl7 : Array (Option Value)} {oc7 kV7 dc7 pm7 cd7 ct7 : Value}
    {f8 : Addr} {od8 an8 : Option Addr} {sl8 : Array (Option Value)} {oc8 kV8 dc8 pm8 cd8 ct8 : Value}
    {f9 : Addr} {od9 an9 : Option Addr} {sl9 : Array (Option Value)} {oc9 kV9 dc9 pm9 cd9 ct9 : Value}
    {f10 : Addr} {od10 an10 : Option Addr} {sl10 : Array (Option Value)} {oc10 kV10 dc10 pm10 cd10 ct10 : Value}
    {f11 : Addr} {od11 an11 : Option Addr} {sl11 : Array (Option Value)} {oc11 kV11 dc11 pm11 cd11 ct11 : Value}
    {f12 : Addr} {od12 an12 : Option Addr} {sl12 : Array (Option Value)} {oc12 kV12 dc12 pm12 cd12 ct12 : Value}
    {f13 : Addr} {od13 an13 : Option Addr} {sl13 : Array (Option Value)} {oc13 kV13 dc13 pm13 cd13 ct13 : Value}
    {f14 : Addr} {od14 an14 : Option Addr} {sl14 : Array (Option Value)} {oc14 kV14 dc14 pm14 cd14 ct14 : Value}
    {f15 : Addr} {od15 an15 : Option Addr} {sl15 : Array (Option Value)} {oc15 kV15 dc15 pm15 cd15 ct15 : Value}
    {f16 : Addr} {od16 an16 : Option Addr} {sl16 : Array (Option Value)} {oc16 kV16 dc16 pm16 cd16 ct16 : Value}
    (aC : PySem.W.nsIn K mainGlobals "Web" = some (some (.ref C)))
    (aO : PySem.W.nsIn K mainGlobals "MOST_HOUSES" = some (some (.int 40 tm)))
    (aM : PySem.W.findIn K (.ref C) "__init__" = some (some (.ref fM)))
    (iM : PySem.W.isFn K (.ref fM) = true)
    (lM : K.lookup fM = some ⟨ocM, odM, .func (PySem.W.fnOf "__init__" "Web.__init__" (defArgs sWeb) (defBody sWeb) (defScope sWeb) .none kVM dcM pmM anM cdM ctM), slM⟩)
    (cM : PySem.W.codeIn K cdM "Web.__init__" = true)
    (kM : PySem.W.keepIn K (.ref fM) = true)
    (a0 : PySem.W.nsIn K mainGlobals "is_plain_int" = some (some (.ref f0)))
    (l0 : K.lookup f0 = some ⟨oc0, od0, .func (PySem.W.fnOf "is_plain_int" "is_plain_int" (defArgs sPlain) (defBody sPlain) (defScope sPlain) .none kV0 dc0 pm0 an0 cd0 ct0), sl0⟩)
    (c0 : PySem.W.codeIn K cd0 "is_plain_int" = true)
    (k0 : PySem.W.keepIn K (.ref f0) = true)
    (a1 : PySem.W.nsIn K mainGlobals "is_number_below" = some (some (.ref f1)))
    (l1 : K.lookup f1 = some ⟨oc1, od1, .func (PySem.W.fnOf "is_number_below" "is_number_below" (defArgs sNum) (defBody sNum) (defScope sNum) .none kV1 dc1 pm1 an1 cd1 ct1), sl1⟩)
    (c1 : PySem.W.codeIn K cd1 "is_number_below" = true)
    (k1 : PySem.W.keepIn K (.ref f1) = true)
    (a2 : PySem.W.nsIn K mainGlobals "is_tie" = some (some (.ref f2)))
    (l2 : K.lookup f2 = some ⟨oc2, od2, .func (PySem.W.fnOf "is_tie" "is_tie" (defArgs sTie) (defBody sTie) (defScope sTie) .none kV2 dc2 pm2 an2 cd2 ct2), sl2⟩)
    (c2 : PySem.W.codeIn K cd2 "is_tie" = true)
    (k2 : PySem.W.keepIn K (.ref f2) = true)
    (a3 : PySem.W.nsIn K mainGlobals "first_wrong_tie" = some (some (.ref f3)))
    (l3 : K.lookup f3 = some ⟨oc3, od3, .func (PySem.W.fnOf "first_wrong_tie" "first_wrong_tie" (defArgs sFirst) (defBody sFirst) (defScope sFirst) .none kV3 dc3 pm3 an3 cd3 ct3), sl3⟩)
    (c3 : PySem.W.codeIn K cd3 "first_wrong_tie" = true)
    (k3 : PySem.W.keepIn K (.ref f3) = true)
    (a4 : PySem.W.nsIn K mainGlobals "houses_beside" = some (some (.ref f4)))
    (l4 : K.lookup f4 = some ⟨oc4, od4, .func (PySem.W.fnOf "houses_beside" "houses_beside" (defArgs sBeside) (defBody sBeside) (defScope sBeside) .none kV4 dc4 pm4 an4 cd4 ct4), sl4⟩)
    (c4 : PySem.W.codeIn K cd4 "houses_beside" = true)
    (k4 : PySem.W.keepIn K (.ref f4) = true)
    (a5 : PySem.W.nsIn K mainGlobals "steps_from" = some (some (.ref f5)))
    (l5 : K.lookup f5 = some ⟨oc5, od5, .func (PySem.W.fnOf "steps_from" "steps_from" (defArgs sSteps) (defBody sSteps) (defScope sSteps) .none kV5 dc5 pm5 an5 cd5 ct5), sl5⟩)
    (c5 : PySem.W.codeIn K cd5 "steps_from" = true)
    (k5 : PySem.W.keepIn K (.ref f5) = true)
    (a6 : PySem.W.nsIn K mainGlobals "_law_hand" = some (some (.ref f6)))
    (l6 : K.lookup f6 = some ⟨oc6, od6, .func (PySem.W.fnOf "_law_hand" "_law_hand" (defArgs sHand) (defBody sHand) (defScope sHand) .none kV6 dc6 pm6 an6 cd6 ct6), sl6⟩)
    (c6 : PySem.W.codeIn K cd6 "_law_hand" = true)
    (k6 : PySem.W.keepIn K (.ref f6) = true)
    (a7 : PySem.W.nsIn K mainGlobals "_law_take" = some (some (.ref f7)))
    (l7 : K.lookup f7 = some ⟨oc7, od7, .func (PySem.W.fnOf "_law_take" "_law_take" (defArgs sTake) (defBody sTake) (defScope sTake) .none kV7 dc7 pm7 an7 cd7 ct7), sl7⟩)
    (c7 : PySem.W.codeIn K cd7 "_law_take" = true)
    (k7 : PySem.W.keepIn K (.ref f7) = true)
    (a8 : PySem.W.nsIn K mainGlobals "_law_pick" = some (some (.ref f8)))
    (l8 : K.lookup f8 = some ⟨oc8, od8, .func (PySem.W.fnOf "_law_pick" "_law_pick" (defArgs sPick) (defBody sPick) (defScope sPick) .none kV8 dc8 pm8 an8 cd8 ct8), sl8⟩)
    (c8 : PySem.W.codeIn K cd8 "_law_pick" = true)
    (k8 : PySem.W.keepIn K (.ref f8) = true)
    (a9 : PySem.W.nsIn K mainGlobals "_law_is_integer" = some (some (.ref f9)))
    (l9 : K.lookup f9 = some ⟨oc9, od9, .func (PySem.W.fnOf "_law_is_integer" "_law_is_integer" (defArgs sInt) (defBody sInt) (defScope sInt) .none kV9 dc9 pm9 an9 cd9 ct9), sl9⟩)
    (c9 : PySem.W.codeIn K cd9 "_law_is_integer" = true)
    (k9 : PySem.W.keepIn K (.ref f9) = true)
    (a10 : PySem.W.nsIn K mainGlobals "_law_same" = some (some (.ref f10)))
    (l10 : K.lookup f10 = some ⟨oc10, od10, .func (PySem.W.fnOf "_law_same" "_law_same" (defArgs sSame) (defBody sSame) (defScope sSame) .none kV10 dc10 pm10 an10 cd10 ct10), sl10⟩)
    (c10 : PySem.W.codeIn K cd10 "_law_same" = true)
    (k10 : PySem.W.keepIn K (.ref f10) = true)
    (a11 : PySem.W.nsIn K mainGlobals "_law_ties" = some (some (.ref f11)))
    (l11 : K.lookup f11 = some ⟨oc11, od11, .func (PySem.W.fnOf "_law_ties" "_law_ties" (defArgs sTies) (defBody sTies) (defScope sTies) .none kV11 dc11 pm11 an11 cd11 ct11), sl11⟩)
    (c11 : PySem.W.codeIn K cd11 "_law_ties" = true)
    (k11 : PySem.W.keepIn K (.ref f11) = true)
    (a12 : PySem.W.nsIn K mainGlobals "_law_near" = some (some (.ref f12)))
    (l12 : K.lookup f12 = some ⟨oc12, od12, .func (PySem.W.fnOf "_law_near" "_law_near" (defArgs sNear) (defBody sNear) (defScope sNear) .none kV12 dc12 pm12 an12 cd12 ct12), sl12⟩)
    (c12 : PySem.W.codeIn K cd12 "_law_near" = true)
    (k12 : PySem.W.keepIn K (.ref f12) = true)
    (a13 : PySem.W.nsIn K mainGlobals "_law_waves" = some (some (.ref f13)))
    (l13 : K.lookup f13 = some ⟨oc13, od13, .func (PySem.W.fnOf "_law_waves" "_law_waves" (defArgs sWaves) (defBody sWaves) (defScope sWaves) .none kV13 dc13 pm13 an13 cd13 ct13), sl13⟩)
    (c13 : PySem.W.codeIn K cd13 "_law_waves" = true)
    (k13 : PySem.W.keepIn K (.ref f13) = true)
    (a14 : PySem.W.nsIn K mainGlobals "far" = some (some (.ref f14)))
    (l14 : K.lookup f14 = some ⟨oc14, od14, .func (PySem.W.fnOf "far" "far" (defArgs sFar) (defBody sFar) (defScope sFar) .none kV14 dc14 pm14 an14 cd14 ct14), sl14⟩)
    (c14 : PySem.W.codeIn K cd14 "far" = true)
    (k14 : PySem.W.keepIn K (.ref f14) = true)
    (a15 : PySem.W.nsIn K mainGlobals "width" = some (some (.ref f15)))
    (l15 : K.lookup f15 = some ⟨oc15, od15, .func (PySem.W.fnOf "width" "width" (defArgs sWidth) (defBody sWidth) (defScope sWidth) .none kV15 dc15 pm15 an15 cd15 ct15), sl15⟩)
    (c15 : PySem.W.codeIn K cd15 "width" = true)
    (k15 : PySem.W.keepIn K (.ref f15) = true)
    (a16 : PySem.W.nsIn K mainGlobals "law" = some (some (.ref f16)))
    (l16 : K.lookup f16 = some ⟨oc16, od16, .func (PySem.W.fnOf "law" "law" (defArgs sLaw) (defBody sLaw) (defScope sLaw) .none kV16 dc16 pm16 an16 cd16 ct16), sl16⟩)
    (c16 : PySem.W.codeIn K cd16 "law" = true)
    (k16 : PySem.W.keepIn K (.ref f16) = true)
    (pg : PySem.W.plainGet K C Str.empty = true)
    (hd : PySem.W.hasDictIn K C = true)
    (po : PySem.W.plainOver K C = true)
    (sa : PySem.W.findIn K (.ref C) "__setattr__" = some (some (.builtin "object.__setattr__")))
    (mk : PySem.W.makesIn K C = true)
    (kc : PySem.W.keepIn K (.ref C) = true)
    (n1 : PySem.W.findIn K (.ref C) "many" = some none)
    (n2 : PySem.W.findIn K (.ref C) "ties" = some none)
    (n3 : PySem.W.findIn K (.ref C) "_beside" = some none)
    (z_len : PySem.W.nsIn K mainGlobals "len" = some none)
    (z_int : PySem.W.nsIn K mainGlobals "int" = some none)
    (z_list : PySem.W.nsIn K mainGlobals "list" = some none)
    (z_range : PySem.W.nsIn K mainGlobals "range" = some none)
    (z_min : PySem.W.nsIn K mainGlobals "min" = some none)
    (z_max : PySem.W.nsIn K mainGlobals "max" = some none)
    (z_tuple : PySem.W.nsIn K mainGlobals "tuple" = some none)
    (z_sorted : PySem.W.nsIn K mainGlobals "sorted" = some none)
    (z_set : PySem.W.nsIn K mainGlobals "set" = some none)
    (z_isinstance : PySem.W.nsIn K mainGlobals "isinstance" = some none)
    (z_enumerate : PySem.W.nsIn K mainGlobals "enumerate" = some none)
    (z_bool : PySem.W.nsIn K mainGlobals "bool" = some none)
    : ∃ fd : FuncData, (∀ (s : Shared) (v : Value), BindsTo s fd ⟨[v], []⟩ [("script", v)]) ∧ ∀ base : Heap, K.In base → base.Ns mainGlobals mg → FnOk l.prog w K mg base CX0 7 fa fd ["script"] (spLaw K) := by
  have e := hfa.symm.trans (PySem.W.mg_of X G a16)
  cases e
  have T : WTxt K mg C := ⟨⟨pg, hd, po, sa⟩, n1, n2, n3, PySem.W.mg_of X G aC, ⟨tm, PySem.W.mg_of X G aO⟩⟩
  have B : Bts mg := ⟨PySem.W.mg_none_of X G z_len, PySem.W.mg_none_of X G z_int, PySem.W.mg_none_of X G z_list, PySem.W.mg_none_of X G z_range, PySem.W.mg_none_of X G z_min, PySem.W.mg_none_of X G z_max, PySem.W.mg_none_of X G z_tuple, PySem.W.mg_none_of X G z_sorted, PySem.W.mg_none_of X G z_set, PySem.W.mg_none_of X G z_isinstance, PySem.W.mg_none_of X G z_enumerate, PySem.W.mg_none_of X G z_bool⟩
  have FM := fun_mk (st := sWeb) lM cM kM
  have bM := FM.binds (ps := ["self", "many", "ties"]) fun _ _ _ _ _ _ us hl => match us, hl with | [_, _, _], _ => rfl
  have F0 := fun_mk (st := sPlain) l0 c0 k0
  have D0 : Df K mg "is_plain_int" sPlain ["thing"] f0 _ := ⟨F0, PySem.W.mg_of X G a0, F0.binds (ps := ["thing"]) fun _ _ _ _ _ _ us hl => match us, hl with | [_], _ => rfl⟩
  have F1 := fun_mk (st := sNum) l1 c1 k1
  have D1 : Df K mg "is_number_below" sNum ["limit", "thing"] f1 _ := ⟨F1, PySem.W.mg_of X G a1, F1.binds (ps := ["limit", "thing"]) fun _ _ _ _ _ _ us hl => match us, hl with | [_, _], _ => rfl⟩
  have F2 := fun_mk (st := sTie) l2 c2 k2
  have D2 : Df K mg "is_tie" sTie ["many", "thing"] f2 _ := ⟨F2, PySem.W.mg_of X G a2, F2.binds (ps := ["many", "thing"]) fun _ _ _ _ _ _ us hl => match us, hl with | [_, _], _ => rfl⟩
  have F3 := fun_mk (st := sFirst) l3 c3 k3
  have D3 : Df K mg "first_wrong_tie" sFirst ["many", "ties"] f3 _ := ⟨F3, PySem.W.mg_of X G a3, F3.binds (ps := ["many", "ties"]) fun _ _ _ _ _ _ us hl => match us, hl with | [_, _], _ => rfl⟩
  have F4 := fun_mk (st := sBeside) l4 c4 k4
  have D4 : Df K mg "houses_beside" sBeside ["many", "ties"] f4 _ := ⟨F4, PySem.W.mg_of X G a4, F4.binds (ps := ["many", "ties"]) fun _ _ _ _ _ _ us hl => match us, hl with | [_, _], _ => rfl⟩
  have F5 := fun_mk (st := sSteps) l5 c5 k5
  have D5 : Df K mg "steps_from" sSteps ["beside", "start"] f5 _ := ⟨F5, PySem.W.mg_of X G a5, F5.binds (ps := ["beside", "start"]) fun _ _ _ _ _ _ us hl => match us, hl with | [_, _], _ => rfl⟩
  have F6 := fun_mk (st := sHand) l6 c6 k6
  have D6 : Df K mg "_law_hand" sHand ["script"] f6 _ := ⟨F6, PySem.W.mg_of X G a6, F6.binds (ps := ["script"]) fun _ _ _ _ _ _ us hl => match us, hl with | [_], _ => rfl⟩
  have F7 := fun_mk (st := sTake) l7 c7 k7
  have D7 : Df K mg "_law_take" sTake ["hand", "many"] f7 _ := ⟨F7, PySem.W.mg_of X G a7, F7.binds (ps := ["hand", "many"]) fun _ _ _ _ _ _ us hl => match us, hl with | [_, _], _ => rfl⟩
  have F8 := fun_mk (st := sPick) l8 c8 k8
  have D8 : Df K mg "_law_pick" sPick ["hand", "things"] f8 _ := ⟨F8, PySem.W.mg_of X G a8, F8.binds (ps := ["hand", "things"]) fun _ _ _ _ _ _ us hl => match us, hl with | [_, _], _ => rfl⟩
  have F9 := fun_mk (st := sInt) l9 c9 k9
  have D9 : Df K mg "_law_is_integer" sInt ["thing"] f9 _ := ⟨F9, PySem.W.mg_of X G a9, F9.binds (ps := ["thing"]) fun _ _ _ _ _ _ us hl => match us, hl with | [_], _ => rfl⟩
  have F10 := fun_mk (st := sSame) l10 c10 k10
  have D10 : Df K mg "_law_same" sSame ["actual", "due"] f10 _ := ⟨F10, PySem.W.mg_of X G a10, F10.binds (ps := ["actual", "due"]) fun _ _ _ _ _ _ us hl => match us, hl with | [_, _], _ => rfl⟩
  have F11 := fun_mk (st := sTies) l11 c11 k11
  have D11 : Df K mg "_law_ties" sTies ["hand", "many"] f11 _ := ⟨F11, PySem.W.mg_of X G a11, F11.binds (ps := ["hand", "many"]) fun _ _ _ _ _ _ us hl => match us, hl with | [_, _], _ => rfl⟩
  have F12 := fun_mk (st := sNear) l12 c12 k12
  have D12 : Df K mg "_law_near" sNear ["many", "ties"] f12 _ := ⟨F12, PySem.W.mg_of X G a12, F12.binds (ps := ["many", "ties"]) fun _ _ _ _ _ _ us hl => match us, hl with | [_, _], _ => rfl⟩
  have F13 := fun_mk (st := sWaves) l13 c13 k13
  have D13 : Df K mg "_law_waves" sWaves ["near", "house"] f13 _ := ⟨F13, PySem.W.mg_of X G a13, F13.binds (ps := ["near", "house"]) fun _ _ _ _ _ _ us hl => match us, hl with | [_, _], _ => rfl⟩
  have F14 := fun_mk (st := sFar) l14 c14 k14
  have D14 : Df K mg "far" sFar ["web", "one", "other"] f14 _ := ⟨F14, PySem.W.mg_of X G a14, F14.binds (ps := ["web", "one", "other"]) fun _ _ _ _ _ _ us hl => match us, hl with | [_, _, _], _ => rfl⟩
  have F15 := fun_mk (st := sWidth) l15 c15 k15
  have D15 : Df K mg "width" sWidth ["web"] f15 _ := ⟨F15, PySem.W.mg_of X G a15, F15.binds (ps := ["web"]) fun _ _ _ _ _ _ us hl => match us, hl with | [_], _ => rfl⟩
  have DD : WDefs K mg := ⟨_, _, D0, _, _, D1, _, _, D2, _, _, D3, _, _, D4, _, _, D5⟩
  have EE : LDefs K mg := ⟨_, _, D6, _, _, D7, _, _, D8, _, _, D9, _, _, D10, _, _, D11, _, _, D12, _, _, D13, _, _, D14, _, _, D15⟩
  exact ⟨PySem.W.fnOf "law" "law" (defArgs sLaw) (defBody sLaw) (defScope sLaw) .none kV16 dc16 pm16 an16 cd16 ct16, fun s v => .of_eq rfl, fun base _ _ =>
    ok_law (fun_mk (st := sLaw) l16 c16 k16) B T ⟨mk, aM, iM, kc⟩ FM bM DD EE⟩
theorem walk {l : PySem.W.OpenLaw} {q : Program} {loose : List Str} {XP : (Str → Option Value) → Heap → Prop} {YP : World → Heap → Prop} {d : DefRec} {K : Params → PySem.W.Frag} (hn : l.most = some 63) (hdf : d.params.defaults = [])
    (hY : ∀ (w : World) (h : Heap), YP w h → (K w.params).In h)
    (F : ∀ (w : World) (mg : Str → Option Value) (fa : Addr) (h : Heap), (K w.params).In h → h.Ns mainGlobals mg → mg d.name = some (.ref fa) →
      ∃ fd : FuncData, (∀ (s : Shared) (u : Value), BindsTo s fd ⟨[u], []⟩ [("script", u)]) ∧ ∀ base : Heap, (K w.params).In base → base.Ns mainGlobals mg → FnOk l.prog w (K w.params) mg base CX0 7 fa fd ["script"] (spLaw (K w.params))) :
    PySem.W.WalkO q loose XP YP l.row.toRowW d [] (fun f vs => PySem.call f vs) :=
  L2.walk_of (n := 63) (k := 7) (x := "script") (CX := fun _ => CX0) (sp := fun w => spLaw (K w.params)) hn (by decide) hdf ⟨rfl, by decide, by decide⟩ hY F (fun _ _ a ns hl _ hS => ⟨a, ns, rfl, hS, hl, fun _ => rfl⟩) fun _ _ _ _ _ z => z
end Q
open PySem PySem.W PyProof.Rows in
set_option maxRecDepth 100000 in
set_option maxHeartbeats 0 in
theorem PySem.Challenge.cw_sameround_k02_whole_ways_by_own_waves_holds : PySem.Challenge.rw_sameround_k02_whole_ways_by_own_waves.Holds := by
  w_on; o_law; k_head; (case hw => w_witness2)
  k_fill
  refine Q.walk (l := PySem.Challenge.rw_sameround_k02_whole_ways_by_own_waves) rfl rfl (fun w h Y => PySem.W.kIn_of Y) ?F
  case F =>
    intro w mg fa h KX G hmg
    refine' Q.all_mk KX G hmg ?aC ?aO ?aM ?iM ?lM ?cM ?kM ?a0 ?l0 ?c0 ?k0 ?a1 ?l1 ?c1 ?k1 ?a2 ?l2 ?c2 ?k2 ?a3 ?l3 ?c3 ?k3 ?a4 ?l4 ?c4 ?k4 ?a5 ?l5 ?c5 ?k5 ?a6 ?l6 ?c6 ?k6 ?a7 ?l7 ?c7 ?k7 ?a8 ?l8 ?c8 ?k8 ?a9 ?l9 ?c9 ?k9 ?a10 ?l10 ?c10 ?k10 ?a11 ?l11 ?c11 ?k11 ?a12 ?l12 ?c12 ?k12 ?a13 ?l13 ?c13 ?k13 ?a14 ?l14 ?c14 ?k14 ?a15 ?l15 ?c15 ?k15 ?a16 ?l16 ?c16 ?k16 ?pg ?hd ?po ?sa ?mk ?kc ?n1 ?n2 ?n3 ?z_len ?z_int ?z_list ?z_range ?z_min ?z_max ?z_tuple ?z_sorted ?z_set ?z_isinstance ?z_enumerate ?z_bool
    (case aC => k_is)
    (case aO => k_is)
    (case aM => k_is)
    (case iM => k_is)
    (case lM => k_is)
    (case cM => k_is)
    (case kM => k_is)
    (case a0 => k_is)
    (case l0 => k_is)
    (case c0 => k_is)
    (case k0 => k_is)
    (case a1 => k_is)
    (case l1 => k_is)
    (case c1 => k_is)
    (case k1 => k_is)
    (case a2 => k_is)
    (case l2 => k_is)
    (case c2 => k_is)
    (case k2 => k_is)
    (case a3 => k_is)
    (case l3 => k_is)
    (case c3 => k_is)
    (case k3 => k_is)
    (case a4 => k_is)
    (case l4 => k_is)
    (case c4 => k_is)
    (case k4 => k_is)
    (case a5 => k_is)
    (case l5 => k_is)
    (case c5 => k_is)
    (case k5 => k_is)
    (case a6 => k_is)
    (case l6 => k_is)
    (case c6 => k_is)
    (case k6 => k_is)
    (case a7 => k_is)
    (case l7 => k_is)
    (case c7 => k_is)
    (case k7 => k_is)
    (case a8 => k_is)
    (case l8 => k_is)
    (case c8 => k_is)
    (case k8 => k_is)
    (case a9 => k_is)
    (case l9 => k_is)
    (case c9 => k_is)
    (case k9 => k_is)
    (case a10 => k_is)
    (case l10 => k_is)
    (case c10 => k_is)
    (case k10 => k_is)
    (case a11 => k_is)
    (case l11 => k_is)
    (case c11 => k_is)
    (case k11 => k_is)
    (case a12 => k_is)
    (case l12 => k_is)
    (case c12 => k_is)
    (case k12 => k_is)
    (case a13 => k_is)
    (case l13 => k_is)
    (case c13 => k_is)
    (case k13 => k_is)
    (case a14 => k_is)
    (case l14 => k_is)
    (case c14 => k_is)
    (case k14 => k_is)
    (case a15 => k_is)
    (case l15 => k_is)
    (case c15 => k_is)
    (case k15 => k_is)
    (case a16 => k_is)
    (case l16 => k_is)
    (case c16 => k_is)
    (case k16 => k_is)
    (case pg => k_is)
    (case hd => k_is)
    (case po => k_is)
    (case sa => k_is)
    (case mk => k_is)
    (case kc => k_is)
    (case n1 => k_is)
    (case n2 => k_is)
    (case n3 => k_is)
    (case z_len => k_is)
    (case z_int => k_is)
    (case z_list => k_is)
    (case z_range => k_is)
    (case z_min => k_is)
    (case z_max => k_is)
    (case z_tuple => k_is)
    (case z_sorted => k_is)
    (case z_set => k_is)
    (case z_isinstance => k_is)
    (case z_enumerate => k_is)
    (case z_bool => k_is)

