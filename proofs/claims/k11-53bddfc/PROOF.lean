import PyProof.Rows.All
import Wide.All
import OpenK.AllK
import Wide.FinOn
import HandS.ForMost
import HandS.Codes
import HandS.TupSets
import HandS.TupLe
import HandS.IsInst
import HandS.Wide
import HandS.SortRule
import PyProof.P3In
import KE.GoesMore
import PyProof.Draws
import PyProof.EnumMake
import HandS.SortInts
import HandS.Walk
import HandS.Zip
import HandS.DictTup
import HandS.DictSubView
import HandS.Conv
import KE.KDictWalk
import KE.KDictList
import HandS.WordsDict
import HandS.TupAny
import HandS.TupMul
import KE.DatumOrd
import KE.KTupSum
import HandS.SortKw
import HandS.CallLocal
import HandS.ForExc
import HandS.ExcInit
import HandS.ExcField
import HandS.TryMany
import HandS.Style
import HandS.OwnEq
import PySem.Challenge.RW_sameround_k11_whole_keepers_judged
set_option Elab.async false
set_option linter.all false
set_option maxRecDepth 100000
set_option maxHeartbeats 8000000
namespace Q
open PySem L2
def top (i : Nat) : Stmt := PySem.Challenge.pw_sameround_k11_whole_keepers_judged.main.body.getD i (.Pass ⟨0, 0, 0, 0⟩)
abbrev sHand : Stmt := top 29
abbrev sDraw : Stmt := top 30
/-- what the built-in names still are -/
structure Bts (mg : Str → Option Value) : Prop where
  len : mg "len" = none
  int : mg "int" = none
  list : mg "list" = none
  range : mg "range" = none
  min : mg "min" = none
  max : mg "max" = none
  tuple : mg "tuple" = none
  sorted : mg "sorted" = none
  set : mg "set" = none
  isinstance : mg "isinstance" = none
  enumerate : mg "enumerate" = none
  bool : mg "bool" = none

def HL (l : Addr) (i : Nat) (r s c : Int) : List V := [.ref l, .int (i : Int), .int r, .int s, .int c]
/-- the drawing hand at p -/
structure HandX (H : Hp) (p l : Addr) (ns : List Int) (i : Nat) (r s c : Int) : Prop where
  at_ : H p = some (.lst (HL l i r s c))
  lst : H l = some (.lst (ns.map V.int))
  len : ns.length ≤ 63
  r0 : 0 ≤ r
  s0 : 0 ≤ s
  s1 : s < 2147483647
def HandAt (H : Hp) (p l : Addr) : Prop := ∃ ns i r s c, HandX H p l ns i r s c
/-- nothing is otherwise but at p -/
def But (p : Addr) (H H' : Hp) : Prop := ∀ b, b ≠ p → H' b = H b
theorem But.rfl' {p : Addr} {H : Hp} : But p H H := fun _ _ => rfl
theorem But.upd {p : Addr} {H H' : Hp} {o : HO} (h : But p H H') : But p H (upd H' p o) := fun b hb => by rw [upd_ne hb]; exact h b hb
theorem But.trans {p : Addr} {H H1 H2 : Hp} (h : But p H H1) (g : But p H1 H2) : But p H H2 := fun b hb => (g b hb).trans (h b hb)
theorem HandX.np {H : Hp} {p l : Addr} {ns : List Int} {i : Nat} {r s c : Int} (h : HandX H p l ns i r s c) : l ≠ p := fun e => by
  have h1 := h.at_
  rw [← e, h.lst] at h1
  have h2 := HO.lst.inj (Option.some.inj h1)
  cases ns with
  | nil => exact absurd h2 (by simp [HL])
  | cons a t =>
    rw [List.map_cons] at h2
    exact V.noConfusion (List.cons.inj h2).1
theorem HandX.put {H H' : Hp} {p l : Addr} {ns : List Int} {i i' : Nat} {r s c r' s' c' : Int} (h : HandX H p l ns i r s c) (e : H' p = some (.lst (HL l i' r' s' c'))) (b : But p H H') (h0 : 0 ≤ r') (h1 : 0 ≤ s') (h2 : s' < 2147483647) : HandX H' p l ns i' r' s' c' :=
  ⟨e, by rw [b l h.np]; exact h.lst, h.len, h0, h1, h2⟩
def spHand (K : PySem.W.Frag) : Sp := fun vs H Q _ => ∃ (a : Addr) (ns : List Int), vs = [.ref a] ∧ SqL K H a (ns.map V.int) ∧ ns.length ≤ 63 ∧
  ∀ (p l : Addr) (H' : Hp), HandAt H' p l → H p = none → H l = none → Same H H' → Q (.ref p) H'
def spDraw : Sp := fun vs H Q _ => ∃ (p l : Addr) (m : Int), vs = [.ref p, .int m] ∧ HandAt H p l ∧ 0 < m ∧ m < 1099511627776 ∧ ∀ (d : Int) (H' : Hp), 0 ≤ d → d < m → HandAt H' p l → But p H H' → Q (.int d) H'
section
variable {P : Program} {w : World} {K : PySem.W.Frag} {mg : Str → Option Value} {base : Heap}
theorem sT0 {H H1 H2 : Hp} (a : Same H H1) (b : Same H1 H2) : Same H H2 := fun c o h => b c o (a c o h)
theorem cut_most (xs : List V) {n : Nat} (h : xs.length ≤ n) : cutV xs none (some (n : Int)) = xs := by
  unfold cutV
  rw [HT.sIx_nat, HT.sIx_none, Nat.min_eq_right h, Nat.sub_zero]
  show (xs.drop 0).take xs.length = xs
  rw [List.drop_zero]
  exact List.take_length
theorem scHand : FnScope ["script", "cell"] ["script"] (defScope sHand) := ⟨rfl, rfl, rfl, by decide +kernel, rfl, by decide +kernel, by decide +kernel⟩
theorem ok_hand {f : Addr} {fd : FuncData} (F : Fun K "_law_hand" "_law_hand" sHand f fd) (B : Bts mg) : FnOk P w K mg base CX0 1 f fd ["script"] (spHand K) := by
  refine F.ok scHand (fun vs H Q E h => ?_) (fun cdv A outer s H vs Q E hr h => ?_)
  · obtain ⟨a, ns, rfl, _⟩ := h
    rfl
  · obtain ⟨a, ns, rfl, hS, hlen, k⟩ := h
    have nd := scHand.nd
    have hc63 : cutV (ns.map V.int) none (some 63) = ns.map V.int := cut_most _ (n := 63) (by rw [List.length_map]; omega)
    refine ⟨_, pss_one (ps_ret (pe_lst (pa_cons (pe_lc (own := [("cell", 1)]) (g := gName 1) (tt := tYes) rfl nd (pi_list (pe_slice sl_list (pv 0) po_none (po_some pe_int)))
        (blkOk_by (N := ["script", "cell"]) (sc := defScope sHand) (by decide +kernel)) (fun _ _ _ _ _ => pg_name (i := 1) nd rfl (.inl rfl)) (fun _ _ _ _ _ => pts_nil) (fun _ _ _ _ _ => pe_callTy call_int1 (by rfl) B.int PyProof.Rows.boot_int (pa_cons (pv 1) pa_nil)))
      (pa_cons pe_int (pa_cons pe_int (pa_cons (pe_op op_add pe_int (pe_callB call_len_seq (by rfl) B.len PySem.boot_len (pa_cons (pe_slice sl_list (pv 0) po_none (po_some pe_int)) pa_nil))) (pa_cons pe_int pa_nil))))))), ?_⟩
    refine ⟨_, rfl, 63, rfl, a, _, rfl, hS, fun t ht => ?_⟩
    rw [hc63]
    have sS : ∀ {H' : Hp}, Same H H' → SqL K H' a (ns.map V.int) := fun s => by
      rcases hS with (e | ⟨ob, e⟩) | k
      · exact .inl (.inl (s _ _ e))
      · exact .inl (.inr ⟨ob, s _ _ e⟩)
      · exact .inr k
    have s1 : Same H (upd H t (.lst (ns.map V.int))) := fun b o e => by rw [upd_ne (ne_of_none e ht)]; exact e
    have et : (upd H t (.lst (ns.map V.int))) t = some (.lst (ns.map V.int)) := upd_same
    revert s1 et
    generalize upd H t (.lst (ns.map V.int)) = H1
    intro s1 et
    refine ⟨t, rfl, ⟨_, SqL.of et⟩, fun l hl => lc_list (K := K) (a := t) (xs := ns.map V.int) (fun i H' => H' l = some (.lst ((ns.take i).map V.int)) ∧ Same H1 H') ?_ ?_ ?_ ?_⟩
    · exact ⟨upd_same, fun b o e => by rw [upd_ne (ne_of_none e hl)]; exact e⟩
    · rintro i H2 hi ⟨_, s2⟩
      exact SqL.of (s2 _ _ et)
    · rintro i x H2 hx ⟨el, s2⟩
      rw [List.getElem?_map] at hx
      obtain ⟨z, hz, rfl⟩ : ∃ z, ns[i]? = some z ∧ V.int z = x := by
        cases e : ns[i]? with
        | none => rw [e] at hx; cases hx
        | some z => rw [e] at hx; exact ⟨z, rfl, Option.some.inj hx⟩
      refine ⟨rfl, _, rfl, .inl ⟨z, rfl, _, el, ?_, ?_, ?_⟩⟩
      · rw [List.length_map, List.length_take]
        exact Nat.lt_of_le_of_lt (show min i ns.length ≤ 63 by omega) (by decide)
      · rw [upd_same, List.take_add_one, hz, List.map_append]
        rfl
      · intro b o e
        by_cases hb : b = l
        · rw [hb] at e
          rw [e] at hl
          cases hl
        · rw [upd_ne hb]
          exact s2 b o e
    · rintro H2 ⟨el, s2⟩
      rw [List.length_map, List.take_length] at el
      have s3 := sT0 s1 s2
      refine ⟨_, rfl, 63, rfl, a, _, rfl, sS s3, fun t2 ht2 => ?_⟩
      rw [hc63]
      refine ⟨t2, _, rfl, .inl (SqL.of upd_same), _, _, rfl, rfl, (by show 5 ≤ sizeLine; decide), fun p hp => ?_⟩
      have s4 := sT0 s3 (show Same H2 (upd H2 t2 (.lst (ns.map V.int))) from fun b o e => by rw [upd_ne (ne_of_none e ht2)]; exact e)
      have el4 : (upd H2 t2 (.lst (ns.map V.int))) l = some (.lst (ns.map V.int)) := by rw [upd_ne (ne_of_none el ht2)]; exact el
      have hl0 : H l = none := by
        cases z : H l with
        | none => rfl
        | some o => rw [s1 _ _ z] at hl; cases hl
      have hp0 : H p = none := by
        cases z : H p with
        | none => rfl
        | some o => rw [s4 _ _ z] at hp; cases hp
      have npl : p ≠ l := fun e => by rw [e, el4] at hp; cases hp
      have e63 : (1 : Int) + ((ns.map V.int).length : Int) = 1 + (ns.length : Int) := by rw [List.length_map]
      refine k p l _ ⟨ns, 0, 0, 1 + (ns.length : Int), 0, ?_, ?_, hlen, by decide, by omega, by omega⟩ hp0 hl0 fun b o e => ?_
      · rw [upd_same]
        show some (HO.lst [V.ref l, .int 0, .int 0, .int (1 + ((ns.map V.int).length : Int)), .int 0]) = _
        rw [e63]
        rfl
      · rw [upd_ne npl.symm]
        exact el4
      · rw [upd_ne (ne_of_none e hp0)]
        exact s4 _ _ e
theorem scDraw : FnScope ["hand", "many", "cell", "digit", "number"] ["hand", "many"] (defScope sDraw) := ⟨rfl, rfl, rfl, by decide +kernel, rfl, by decide +kernel, by decide +kernel⟩
theorem ok_draw {f : Addr} {fd : FuncData} (F : Fun K "_law_draw" "_law_draw" sDraw f fd) (B : Bts mg) : FnOk P w K mg base CX0 1 f fd ["hand", "many"] spDraw := by
  refine F.ok scDraw (fun vs H Q E h => ?_) (fun cdv A outer s H vs Q E hr h => ?_)
  · obtain ⟨p, l, m, rfl, _⟩ := h
    rfl
  · obtain ⟨p, l, m, rfl, ⟨ns, i, r, s, c, x1⟩, hm0, hm1, k⟩ := h
    have nd := scDraw.nd
    refine ⟨_, C8.pss_cut (ps_if (PW.pt (pw_and (pt_cmpR op_eq (pe_ix ix_list (pv 0) pe_int (fun _ _ => rfl)) pe_int (nomark _))
            (pw_and1 (pt_cmpR op_lt (pe_ix ix_list (pv 0) pe_int (fun _ _ => rfl)) (pe_callB call_len_seq (by rfl) B.len PySem.boot_len (pa_cons (pe_ix ix_list (pv 0) pe_int (fun _ _ => rfl)) pa_nil)) (nomark _)))))
          (pss_cons (ps_set (i := 2) nd rfl (.inl rfl) (pe_ix ix_list (pe_ix ix_list (pv 0) pe_int (fun _ _ => rfl)) (pe_ix ix_list (pv 0) pe_int (fun _ _ => rfl)) (fun _ _ => rfl)))
          (pss_cons (ps_asg (pe_op op_add (pe_ix ix_list (pv 0) pe_int (fun _ _ => rfl)) pe_int) (pg_sub (pv 0) pe_int set_list))
          (pss_cons (ps_asg (pe_op op_mod (pe_callTy call_int1 (by rfl) B.int PyProof.Rows.boot_int (pa_cons (pe_op op_add (pe_op op_add (pe_op op_mul (pe_ix ix_list (pv 0) pe_int (fun _ _ => rfl)) pe_int) (pe_op op_mul (pv 2) pe_int)) pe_int) pa_nil)) pe_int) (pg_sub (pv 0) pe_int set_list))
          (pss_one (ps_if (pt_cmpR op_ge (pv 2) (pe_op op_pow pe_int pe_int) (nomark _))
            (pss_one (ps_asg (pv 2) (pg_sub (pv 0) pe_int set_list))) pss_nil)))))
          pss_nil)
      (pss_cons (ps_if (pt_cmpR op_gt (pe_ix ix_list (pv 0) pe_int (fun _ _ => rfl)) pe_int (nomark _))
          (pss_cons (ps_set (i := 3) nd rfl (.inl rfl) (pe_op op_mod (pe_callTy call_int1 (by rfl) B.int PyProof.Rows.boot_int (pa_cons (pe_ix ix_list (pv 0) pe_int (fun _ _ => rfl)) pa_nil)) (pv 1)))
          (pss_cons (ps_asg (pe_op op_fdivW (pe_ix ix_list (pv 0) pe_int (fun _ _ => rfl)) (pv 1)) (pg_sub (pv 0) pe_int set_list))
          (pss_one (ps_ret (pv 3)))))
          pss_nil)
      (pss_cons (ps_asg (pe_op op_add (pe_ix ix_list (pv 0) pe_int (fun _ _ => rfl)) pe_int) (pg_sub (pv 0) pe_int set_list))
      (pss_cons (ps_set (i := 4) nd rfl (.inl rfl) (pe_op op_mod (pe_callTy call_int1 (by rfl) B.int PyProof.Rows.boot_int (pa_cons (pe_op op_mul (pe_callTy call_int1 (by rfl) B.int PyProof.Rows.boot_int (pa_cons (pe_op op_add (pe_ix ix_list (pv 0) pe_int (fun _ _ => rfl)) (pe_op op_mul pe_int (pe_ix ix_list (pv 0) pe_int (fun _ _ => rfl)))) pa_nil)) pe_int) pa_nil)) pe_int))
      (pss_cons (ps_set (i := 4) nd rfl (.inl rfl) (pe_op op_mod (pe_callTy call_int1 (by rfl) B.int PyProof.Rows.boot_int (pa_cons (pe_op op_mul (pv 4) (pe_op op_add (pe_op op_fdiv (pv 4) pe_int) pe_int)) pa_nil)) pe_int))
      (pss_cons (ps_set (i := 4) nd rfl (.inl rfl) (pe_op op_mod (pe_callTy call_int1 (by rfl) B.int PyProof.Rows.boot_int (pa_cons (pe_op op_mul (pv 4) (pe_op op_add (pe_op op_fdiv (pv 4) pe_int) pe_int)) pa_nil)) pe_int))
      (pss_one (ps_ret (pe_op op_mod (pe_callTy call_int1 (by rfl) B.int PyProof.Rows.boot_int (pa_cons (pe_op op_fdiv (pv 4) pe_int) pa_nil)) (pv 1))))))))), ?_⟩
    have b1 : But p H H := But.rfl'
    have six : ∀ {H' : Hp} {i : Nat} {r s c : Int}, HandX H' p l ns i r s c → SqL K H' p (HL l i r s c) := fun y => SqL.of y.at_
    refine ⟨fun σ H2 => ∃ x2 i r s c, σ = [some (.ref p), some (.int m), x2, none, none] ∧ HandX H2 p l ns i r s c ∧ But p H H2, ?_, ?_⟩
    · refine ⟨_, rfl, p, _, 2, _, rfl, rfl, SqL.of x1.at_, rfl, rfl, _, rfl, ?_⟩
      refine ite2 (fun _ => ?_) (fun _ => ?_)
      · refine ⟨_, rfl, p, _, 1, _, rfl, rfl, SqL.of x1.at_, rfl, _, rfl, p, _, 0, _, rfl, rfl, SqL.of x1.at_, rfl, l, _, rfl, .inl (SqL.of x1.lst), _, _, rfl, rfl, _, rfl, ?_⟩
        refine ite2 (fun c2 => ?_) (fun _ => ?_)
        · have hi : i < ns.length := by
            have z := of_decide_eq_true c2
            rw [List.length_map] at z
            omega
          have hg : atI (ns.map V.int) (i : Int) = some (V.int ns[i]) := atI_nat (by rw [List.getElem?_map, List.getElem?_eq_getElem hi]; rfl)
          refine ⟨_, rfl, p, _, 0, _, rfl, rfl, SqL.of x1.at_, rfl, _, rfl, p, _, 1, _, rfl, rfl, SqL.of x1.at_, rfl, l, _, _, _, rfl, rfl, SqL.of x1.lst, hg, ?_⟩
          refine ⟨_, rfl, p, _, 1, _, rfl, rfl, SqL.of x1.at_, rfl, _, _, rfl, rfl, _, rfl, p, _, 1, 1, rfl, rfl, x1.at_, rfl, ?_⟩
          have e1 : ((i : Int) + 1) = ((i + 1 : Nat) : Int) := by omega
          have b2 : But p H (upd H p (.lst (HL l (i + 1) r s c))) := b1.upd
          have x2 : HandX (upd H p (.lst (HL l (i + 1) r s c))) p l ns (i + 1) r s c := x1.put upd_same But.rfl'.upd x1.r0 x1.s0 x1.s1
          have eH : upd H p (.lst ((HL l i r s c).set 1 (V.int ((i : Int) + 1)))) = upd H p (.lst (HL l (i + 1) r s c)) := by
            rw [e1]
            rfl
          rw [eH]
          revert b2 x2
          generalize upd H p (.lst (HL l (i + 1) r s c)) = H2
          intro b2 x2
          refine ⟨_, rfl, p, _, 3, _, rfl, rfl, SqL.of x2.at_, rfl, _, _, rfl, rfl, .inr ⟨by decide, by decide⟩, _, rfl, _, _, rfl, rfl, .inr ⟨by decide, by decide⟩, _, _, rfl, rfl, _, _, rfl, rfl, .inl ⟨_, rfl, ?_⟩⟩
          refine ⟨_, _, rfl, rfl, (by decide : (0 : Int) < 2147483629), _, rfl, p, _, 3, 3, rfl, rfl, x2.at_, rfl, ?_⟩
          have z0 : 0 ≤ (s * 69621 + ns[i] * 16 + 11) % 2147483629 := Int.emod_nonneg _ (by decide)
          have z1 : (s * 69621 + ns[i] * 16 + 11) % 2147483629 < 2147483629 := Int.emod_lt_of_pos _ (by decide)
          have b3 : But p H (upd H2 p (.lst (HL l (i + 1) r ((s * 69621 + ns[i] * 16 + 11) % 2147483629) c))) := b2.upd
          have x3 : HandX (upd H2 p (.lst (HL l (i + 1) r ((s * 69621 + ns[i] * 16 + 11) % 2147483629) c))) p l ns (i + 1) r ((s * 69621 + ns[i] * 16 + 11) % 2147483629) c := x2.put upd_same But.rfl'.upd x2.r0 z0 (by omega)
          show tSeq _ _ _ _ (upd H2 p (.lst (HL l (i + 1) r ((s * 69621 + ns[i] * 16 + 11) % 2147483629) c)))
          revert b3 x3
          generalize upd H2 p (.lst (HL l (i + 1) r ((s * 69621 + ns[i] * 16 + 11) % 2147483629) c)) = H3
          generalize (s * 69621 + ns[i] * 16 + 11) % 2147483629 = s3
          intro b3 x3
          refine ⟨_, rfl, _, _, rfl, rfl, ⟨by decide, by decide, by decide⟩, _, _, rfl, rfl, _, rfl, ?_⟩
          refine ite2 (fun c3 => ?_) (fun _ => ?_)
          · refine ⟨_, rfl, _, rfl, p, _, 2, 2, rfl, rfl, x3.at_, rfl, ?_⟩
            refine ⟨_, i + 1, ns[i], s3, c, rfl, x3.put upd_same But.rfl'.upd ?_ x3.s0 x3.s1, b3.upd⟩
            have z := of_decide_eq_true c3
            refine Int.le_trans ?_ z
            decide
          · exact ⟨_, i + 1, r, s3, c, rfl, x3, b3⟩
        · exact ⟨_, i, r, s, c, rfl, x1, b1⟩
      · exact ⟨_, i, r, s, c, rfl, x1, b1⟩
    · rintro σ H2 ⟨x2, i, r, s, c, rfl, y1, c1⟩
      refine ⟨_, rfl, p, _, 2, _, rfl, rfl, SqL.of y1.at_, rfl, _, _, rfl, rfl, _, rfl, ?_⟩
      refine ite2 (fun _ => ?_) (fun _ => ?_)
      · refine ⟨_, rfl, p, _, 2, _, rfl, rfl, SqL.of y1.at_, rfl, .inl ⟨_, rfl, ?_⟩⟩
        refine ⟨_, rfl, _, _, rfl, rfl, hm0, ?_⟩
        refine ⟨_, rfl, p, _, 2, _, rfl, rfl, SqL.of y1.at_, rfl, ?_⟩
        refine ⟨_, rfl, _, _, rfl, rfl, wide_div (b := 40) hm0 (by omega) (by decide) (by decide), _, rfl, p, _, 2, 2, rfl, rfl, y1.at_, rfl, ?_⟩
        refine ⟨_, rfl, k _ _ (Int.emod_nonneg _ (by omega)) (Int.emod_lt_of_pos _ hm0) ⟨ns, i, _, s, c, y1.put upd_same But.rfl'.upd (Int.ediv_nonneg y1.r0 (by omega)) y1.s0 y1.s1⟩ c1.upd⟩
      · refine ⟨_, rfl, p, _, 4, _, rfl, rfl, SqL.of y1.at_, rfl, _, _, rfl, rfl, _, rfl, p, _, 4, 4, rfl, rfl, y1.at_, rfl, ?_⟩
        have b2 : But p H (upd H2 p (.lst (HL l i r s (c + 1)))) := c1.upd
        have y2 : HandX (upd H2 p (.lst (HL l i r s (c + 1)))) p l ns i r s (c + 1) := y1.put upd_same But.rfl'.upd y1.r0 y1.s0 y1.s1
        show tSeq _ _ _ _ (upd H2 p (.lst (HL l i r s (c + 1))))
        revert b2 y2
        generalize upd H2 p (.lst (HL l i r s (c + 1))) = H3
        intro b2 y2
        refine ⟨_, rfl, p, _, 3, _, rfl, rfl, SqL.of y2.at_, rfl, _, rfl, p, _, 4, _, rfl, rfl, SqL.of y2.at_, rfl, _, _, rfl, rfl, .inl ⟨by decide, by decide⟩, _, _, rfl, rfl, .inl ⟨_, rfl, _, _, rfl, rfl, .inr ⟨by decide, by decide⟩, .inl ⟨_, rfl, ?_⟩⟩⟩
        refine ⟨_, _, rfl, rfl, (by decide : (0 : Int) < 2147483647), ?_⟩
        have z0 : 0 ≤ ((s + 7919 * (c + 1)) * 48271) % 2147483647 := Int.emod_nonneg _ (by decide)
        have z1 : ((s + 7919 * (c + 1)) * 48271) % 2147483647 < 2147483647 := Int.emod_lt_of_pos _ (by decide)
        revert z0 z1
        generalize ((s + 7919 * (c + 1)) * 48271) % 2147483647 = s2
        intro z0 z1
        refine ⟨_, rfl, _, rfl, _, _, rfl, rfl, ⟨by decide, by decide⟩, _, _, rfl, rfl, _, _, rfl, rfl, .inl ⟨by omega, by omega⟩, .inl ⟨_, rfl, ?_⟩⟩
        refine ⟨_, _, rfl, rfl, (by decide : (0 : Int) < 2147483647), ?_⟩
        have q0 : 0 ≤ (s2 * (s2 / 1009 + 69621)) % 2147483647 := Int.emod_nonneg _ (by decide)
        have q1 : (s2 * (s2 / 1009 + 69621)) % 2147483647 < 2147483647 := Int.emod_lt_of_pos _ (by decide)
        revert q0 q1
        generalize (s2 * (s2 / 1009 + 69621)) % 2147483647 = n1
        intro q0 q1
        refine ⟨_, rfl, _, rfl, _, _, rfl, rfl, ⟨by decide, by decide⟩, _, _, rfl, rfl, _, _, rfl, rfl, .inl ⟨by omega, by omega⟩, .inl ⟨_, rfl, ?_⟩⟩
        refine ⟨_, _, rfl, rfl, (by decide : (0 : Int) < 2147483399), ?_⟩
        refine ⟨_, rfl, _, _, rfl, rfl, ⟨by decide, by decide⟩, .inl ⟨_, rfl, ?_⟩⟩
        refine ⟨_, rfl, _, _, rfl, rfl, hm0, ?_⟩
        exact k _ _ (Int.emod_nonneg _ (by omega)) (Int.emod_lt_of_pos _ hm0) ⟨ns, i, r, s, c + 1, y2⟩ b2
end
end Q

namespace Q
open PySem L2
/-- a def of the text: where it stands, how it is called -/
structure Df (K : PySem.W.Frag) (mg : Str → Option Value) (x : Str) (st : Stmt) (ps : List Str) (f : Addr) (fd : FuncData) : Prop where
  F : Fun K x x st f fd
  m : mg x = some (.ref f)
  b : Binds K fd ps []
theorem Df.k {K : PySem.W.Frag} {mg : Str → Option Value} {x : Str} {st : Stmt} {ps : List Str} {f : Addr} {fd : FuncData} (D : Df K mg x st ps f fd) : PySem.W.keepIn K (.ref f) = true := D.F.kp
theorem HandAt.stay {H : Hp} {p l q : Addr} {o : HO} (h : HandAt H p l) (n1 : q ≠ p) (n2 : q ≠ l) : HandAt (L2.upd H q o) p l := by
  obtain ⟨ns, i, r, s, c, x⟩ := h
  exact ⟨ns, i, r, s, c, (upd_ne n1.symm).trans x.at_, (upd_ne n2.symm).trans x.lst, x.len, x.r0, x.s0, x.s1⟩
theorem HandAt.new {H : Hp} {p l q : Addr} {o : HO} (h : HandAt H p l) (n : H q = none) : HandAt (L2.upd H q o) p l := by
  obtain ⟨ns, i, r, s, c, x⟩ := id h
  exact h.stay (fun e => by rw [e, x.at_] at n; cases n) (fun e => by rw [e, x.lst] at n; cases n)
/-- all that stood stands, but for p -/
def Ext (p : Addr) (H H' : Hp) : Prop := ∀ b o, H b = some o → b ≠ p → H' b = some o
theorem Ext.rfl' {p : Addr} {H : Hp} : Ext p H H := fun _ _ e _ => e
theorem Ext.trans {p : Addr} {H H1 H2 : Hp} (h : Ext p H H1) (g : Ext p H1 H2) : Ext p H H2 := fun b o e n => g b o (h b o e n) n
theorem Ext.but {p : Addr} {H H1 H2 : Hp} (h : Ext p H H1) (g : But p H1 H2) : Ext p H H2 := fun b o e n => by rw [g b n]; exact h b o e n
theorem Ext.upd {p q : Addr} {o : HO} {H H1 : Hp} (h : Ext p H H1) (n : H1 q = none) : Ext p H (L2.upd H1 q o) := fun b u e nb => by
  rw [upd_ne (ne_of_none (h b u e nb) n)]; exact h b u e nb
theorem min_ok {X : Int} (h : 0 ≤ X ∧ X ≤ 20) : 0 ≤ (if 1 < X then 1 else X) ∧ (if 1 < X then 1 else X) ≤ 20 := by
  split <;> omega
theorem HandAt.hp {H : Hp} {p l : Addr} (h : HandAt H p l) : ∃ xs, H p = Option.some (HO.lst (V.ref l :: xs)) := by
  obtain ⟨ns, i, r, s, c, x⟩ := h
  exact ⟨_, x.at_⟩
theorem HandAt.hl {H : Hp} {p l : Addr} (h : HandAt H p l) : ∃ ns : List Int, H l = some (.lst (ns.map V.int)) ∧ l ≠ p := by
  obtain ⟨ns, i, r, s, c, x⟩ := h
  exact ⟨_, x.lst, x.np⟩
theorem HandAt.ne {H : Hp} {p l q : Addr} (h : HandAt H p l) (n : H q = none) : q ≠ p ∧ q ≠ l := by
  obtain ⟨ns, i, r, s, c, x⟩ := h
  exact ⟨fun e => (by rw [e, x.at_] at n; cases n), fun e => (by rw [e, x.lst] at n; cases n)⟩
/-- a list at f of tuples of two ints -/
structure Pairs (m : Int) (H : Hp) (f : Addr) (ks : List (Addr × List Int)) : Prop where
  at_ : H f = some (.lst (ks.map fun p => V.ref p.1))
  tup : ∀ p ∈ ks, H p.1 = some (.tup (p.2.map V.int))
  ok : ∀ p ∈ ks, ∃ a b : Int, p.2 = [a, b] ∧ 0 ≤ a ∧ a < b ∧ b < m
theorem Pairs.but {m : Int} {H H' : Hp} {f p : Addr} {ks : List (Addr × List Int)} {l : Addr} (h : Pairs m H f ks) (g : HandAt H p l) (b : But p H H') (n : f ≠ p) : Pairs m H' f ks := by
  refine ⟨by rw [b f n]; exact h.at_, fun q hq => ?_, h.ok⟩
  obtain ⟨xs, e⟩ := g.hp
  rw [b q.1 (ne_of (h.tup q hq) e (fun z => by cases z))]
  exact h.tup q hq
theorem Pairs.add {m : Int} {H : Hp} {f t : Addr} {ks : List (Addr × List Int)} {a b : Int} (h : Pairs m H f ks) (ht : H t = none) (h0 : 0 ≤ a) (h1 : a < b) (h2 : b < m) :
    Pairs m (upd (upd H t (.tup [.int a, .int b])) f (.lst ((ks.map fun p => V.ref p.1) ++ [.ref t]))) f (ks ++ [(t, [a, b])]) := by
  have ntf : t ≠ f := fun e => by rw [e, h.at_] at ht; cases ht
  refine ⟨by rw [upd_same, List.map_append]; rfl, fun q hq => ?_, fun q hq => ?_⟩
  · rcases List.mem_append.mp hq with hq | hq
    · rw [upd_ne (ne_of (h.tup q hq) h.at_ (fun z => by cases z)), upd_ne (ne_of_none (h.tup q hq) ht)]
      exact h.tup q hq
    · obtain rfl := List.mem_singleton.mp hq
      rw [upd_ne ntf, upd_same]
      rfl
  · rcases List.mem_append.mp hq with hq | hq
    · exact h.ok q hq
    · obtain rfl := List.mem_singleton.mp hq
      exact ⟨a, b, rfl, h0, h1, h2⟩
/-- the order of pairs -/
def ltP (x y : List Int) : Prop := ∃ a b c d : Int, x = [a, b] ∧ y = [c, d] ∧ (a < c ∨ (a = c ∧ b < d))
/-- ties as they are drawn: ascending, joined -/
structure TiesAt (m : Int) (H : Hp) (q : Addr) (L : List (Addr × List Int)) : Prop where
  at_ : H q = some (.tup (L.map fun p => V.ref p.1))
  tup : ∀ p ∈ L, H p.1 = some (.tup (p.2.map V.int))
  ok : ∀ p ∈ L, ∃ a b : Int, p.2 = [a, b] ∧ 0 ≤ a ∧ a < b ∧ b < m
  asc : L.Pairwise (fun x y => ltP x.2 y.2)
  few : L.length < 1000
  conn : ∀ h : Int, 1 ≤ h → h < m → ∃ p ∈ L, ∃ o : Int, p.2 = [o, h]
/-- the same, perhaps not joined -/
structure TiesN (m : Int) (H : Hp) (q : Addr) (L : List (Addr × List Int)) : Prop where
  at_ : H q = some (.tup (L.map fun p => V.ref p.1))
  tup : ∀ p ∈ L, H p.1 = some (.tup (p.2.map V.int))
  ok : ∀ p ∈ L, ∃ a b : Int, p.2 = [a, b] ∧ 0 ≤ a ∧ a < b ∧ b < m
  asc : L.Pairwise (fun x y => ltP x.2 y.2)
  few : L.length < 1000
theorem TiesAt.n {m : Int} {H : Hp} {q : Addr} {L : List (Addr × List Int)} (h : TiesAt m H q L) : TiesN m H q L := ⟨h.at_, h.tup, h.ok, h.asc, h.few⟩
end Q

namespace Q
open PySem L2
theorem sN {H : Hp} {q : Addr} {o : HO} (n : H q = none) : Same H (upd H q o) := fun b u e => by
  rw [upd_ne (ne_of_none e n)]; exact e
theorem sT {H H1 H2 : Hp} (a : Same H H1) (b : Same H1 H2) : Same H H2 := fun c o h => b c o (a c o h)
theorem HandAt.same {H H' : Hp} {p l : Addr} (h : HandAt H p l) (s : Same H H') : HandAt H' p l := by
  obtain ⟨ns, i, r, z, c, x⟩ := h
  exact ⟨ns, i, r, z, c, s _ _ x.at_, s _ _ x.lst, x.len, x.r0, x.s0, x.s1⟩
theorem Ext.same {p : Addr} {H H1 H2 : Hp} (h : Ext p H H1) (s : Same H1 H2) : Ext p H H2 := fun b o e n => s _ _ (h b o e n)
/-- a pair as data -/
def pT (l : List Int) : PyData := .tuple (l.map .int)
theorem lay_ints : ∀ l : List Int, PyData.canLayAll0 (l.map PyData.int) = true
  | [] => by simp [PyData.canLayAll0]
  | a :: r => by
    have ih := lay_ints r
    simp only [List.map_cons, PyData.canLayAll0, PyData.canLay0, ih, Bool.and_self]
theorem lay_pT (l : List Int) : PyData.canLay0 (pT l) = true := by
  unfold pT
  simp only [PyData.canLay0, lay_ints]
theorem lay_all : ∀ L : List (Addr × List Int), PyData.canLayAll0 (L.map fun p => pT p.2) = true
  | [] => by simp [PyData.canLayAll0]
  | p :: r => by
    have ih := lay_all r
    simp only [List.map_cons, PyData.canLayAll0, lay_pT, ih, Bool.and_self]
theorem eqv_ints : ∀ x y : List Int, PyData.eqvAll (x.map PyData.int) (y.map PyData.int) = decide (x = y)
  | [], [] => by simp [PyData.eqvAll]
  | [], _ :: _ => by simp [PyData.eqvAll]
  | _ :: _, [] => by simp [PyData.eqvAll]
  | a :: x, b :: y => by
    have ih := eqv_ints x y
    simp only [List.map_cons, PyData.eqvAll, PyData.eqv, ih]
    by_cases c : a = b
    · subst c
      simp
    · simp [c]
theorem any_pT (l : List Int) : ∀ L : List (Addr × List Int), ((L.map fun p => pT p.2).any fun z => PyData.eqv z (pT l)) = decide (l ∈ L.map (·.2))
  | [] => by simp
  | p :: r => by
    have ih := any_pT l r
    rw [List.map_cons, List.any_cons, ih]
    unfold pT
    simp only [PyData.eqv, eqv_ints, List.map_cons, List.mem_cons]
    by_cases c : p.2 = l
    · simp [c]
    · have c' : ¬ l = p.2 := fun e => c e.symm
      simp [c, c']
theorem dp_ints {K : PySem.W.Frag} {H : Hp} : ∀ l : List Int, DpAll K H (l.map V.int) (l.map PyData.int)
  | [] => .nil
  | a :: r => .cons (.int a) (dp_ints r)
theorem dp_all {K : PySem.W.Frag} {H : Hp} : ∀ L : List (Addr × List Int), (∀ p ∈ L, H p.1 = some (.tup (p.2.map V.int))) → DpAll K H (L.map fun p => V.ref p.1) (L.map fun p => pT p.2)
  | [], _ => .nil
  | p :: r, h => .cons (.tup (SqT.of (h p List.mem_cons_self)) (dp_ints p.2)) (dp_all r fun q hq => h q (List.mem_cons_of_mem _ hq))
def rInP : R2 := fun x y H Q => ∃ (T q : Addr) (l : List Int) (L : List (Addr × List Int)), x = .ref T ∧ y = .ref q ∧ H T = some (.tup (l.map V.int)) ∧ H q = some (.tup (L.map fun p => V.ref p.1)) ∧ (∀ p ∈ L, H p.1 = some (.tup (p.2.map V.int))) ∧ Q (.bl (decide (l ∈ L.map (·.2)))) H
theorem depth_ints : ∀ l : List Int, PyData.depthAll (l.map PyData.int) = 0
  | [] => by simp [PyData.depthAll]
  | a :: r => by
    have ih := depth_ints r
    simp only [List.map_cons, PyData.depthAll, PyData.depth, ih, Nat.max_self]
theorem depth_pT (l : List Int) : (pT l).depth = 1 := by
  unfold pT
  simp only [PyData.depth, depth_ints]
theorem op_inP {X : Cx} (hu : X.A.units + 64 < cLine) : OpR X (compareOp .In) rInP := by
  intro pins s σ H x y v u Q I rx ry h
  obtain ⟨T, q, l, L, rfl, rfl, hT, hq, hp, k⟩ := h
  obtain ⟨as, r1⟩ := Dp.reads I (pT l) _ v (.tup (SqT.of hT) (dp_ints l)) rx
  obtain ⟨bs, r2⟩ := Dp.reads I (.tuple (L.map fun p => pT p.2)) _ u (.tup (SqT.of hq) (dp_all L hp)) ry
  refine SeqAt.in_tuple_reads r2 r1 (lay_all L) (lay_pT l) ?_ ?_
  · rw [depth_pT]
    have z := Nat.min_le_right (PyData.depthAll (L.map fun p => pT p.2)) 1
    omega
  · rw [any_pT]
    exact ⟨.bl _, H, I, rfl, k⟩

/-- x not in ys: a tuple of ints, a list of such -/
def rNotInPL : R2 := fun x y H Q => ∃ (T q : Addr) (l : List Int) (L : List (Addr × List Int)), x = .ref T ∧ y = .ref q ∧ H T = some (.tup (l.map V.int)) ∧ H q = some (.lst (L.map fun p => V.ref p.1)) ∧ (∀ p ∈ L, H p.1 = some (.tup (p.2.map V.int))) ∧ Q (.bl (!decide (l ∈ L.map (·.2)))) H
theorem op_notInPL {X : Cx} (hu : X.A.units + 64 < cLine) : OpR X (compareOp .NotIn) rNotInPL := by
  intro pins s σ H x y v u Q I rx ry h
  obtain ⟨T, q, l, L, rfl, rfl, hT, hq, hp, k⟩ := h
  obtain ⟨as, r1⟩ := Dp.reads I (pT l) _ v (.tup (SqT.of hT) (dp_ints l)) rx
  obtain ⟨bs, r2⟩ := Dp.reads I (.list (L.map fun p => pT p.2)) _ u (.lst (SqL.of hq) (dp_all L hp)) ry
  refine SeqAt.notIn_list_reads r2 r1 (lay_all L) (lay_pT l) ?_ ?_
  · rw [depth_pT]
    have z := Nat.min_le_right (PyData.depthAll (L.map fun p => pT p.2)) 1
    omega
  · rw [any_pT]
    exact ⟨.bl _, H, I, rfl, k⟩
/-! ### the drawn web -/
abbrev sLWeb : Stmt := top 34
/-- the pair that stands at v -/
def kH (H : Hp) (v : V) : Int × Int := match v with
  | .ref a => match H a with
    | some (.tup [.int i, .int j]) => (i, j)
    | _ => (0, 0)
  | _ => (0, 0)
theorem kH_at {H : Hp} {a : Addr} {i j : Int} (e : H a = some (.tup [.int i, .int j])) : kH H (.ref a) = (i, j) := by
  show (match H a with | some (.tup [.int i, .int j]) => (i, j) | _ => (0, 0)) = _
  rw [e]
def spLWeb : Sp := fun vs H Q _ => ∃ (p l : Addr) (most : Int), vs = [.ref p, .int most] ∧ HandAt H p l ∧ 1 ≤ most ∧ most ≤ 40 ∧
  ∀ (W q : Addr) (m : Int) (L : List (Addr × List Int)) (H' : Hp), 1 ≤ m → m ≤ most → TiesAt m H' q L → H' W = some (.tup [.int m, .ref q]) → HandAt H' p l → Ext p H H' → Q (.ref W) H'
def adH (v : V) : Addr := match v with
  | .ref a => a
  | _ => mainGlobals
def pH (H : Hp) (v : V) : Addr × List Int := (adH v, [(kH H v).1, (kH H v).2])
theorem pH_at {m : Int} {H : Hp} {f : Addr} {ks : List (Addr × List Int)} (pr : Pairs m H f ks) {q : Addr × List Int} (hq : q ∈ ks) : pH H (.ref q.1) = q := by
  obtain ⟨a, b, e, _⟩ := pr.ok q hq
  have t := pr.tup q hq
  rw [e] at t
  have z : kH H (.ref q.1) = (a, b) := kH_at t
  show (q.1, [(kH H (.ref q.1)).1, (kH H (.ref q.1)).2]) = q
  rw [z, ← e]
/-- what was sorted, as pairs -/
theorem sorted_back {m : Int} {H : Hp} {f : Addr} {ks : List (Addr × List Int)} (pr : Pairs m H f ks) {ys : List V} (pm : ys.Perm (ks.map fun p => V.ref p.1)) (sr : SrtO.Srtd (L2.ltP (kH H)) ys) :
    ∃ L : List (Addr × List Int), ys = L.map (fun p => V.ref p.1) ∧ (∀ p ∈ L, p ∈ ks) ∧ (∀ q ∈ ks, q ∈ L) ∧ L.length = ks.length ∧ L.Pairwise (fun x y => ¬ ltP y.2 x.2) := by
  have back : ∀ v ∈ ys, ∃ q ∈ ks, v = .ref q.1 := fun v hv => by
    obtain ⟨q, hq, e⟩ := List.mem_map.mp (pm.mem_iff.mp hv)
    exact ⟨q, hq, e.symm⟩
  refine ⟨ys.map (pH H), ?_, fun p hp => ?_, fun q hq => ?_, ?_, ?_⟩
  · rw [List.map_map]
    refine (List.map_id ys).symm.trans (List.map_congr_left fun v hv => ?_)
    obtain ⟨q, hq, rfl⟩ := back v hv
    show V.ref q.1 = V.ref (pH H (.ref q.1)).1
    rw [pH_at pr hq]
  · obtain ⟨v, hv, rfl⟩ := List.mem_map.mp hp
    obtain ⟨q, hq, rfl⟩ := back v hv
    rw [pH_at pr hq]
    exact hq
  · have hv : V.ref q.1 ∈ ys := pm.mem_iff.mpr (List.mem_map.mpr ⟨q, hq, rfl⟩)
    have z : pH H (V.ref q.1) ∈ ys.map (pH H) := List.mem_map.mpr ⟨_, hv, rfl⟩
    rw [pH_at pr hq] at z
    exact z
  · rw [List.length_map, pm.length_eq, List.length_map]
  · rw [List.pairwise_map]
    refine List.Pairwise.imp (fun {x y} h => ?_) sr
    rintro ⟨a, b, c, d, e1, e2, hh⟩
    have f1 : [(kH H y).1, (kH H y).2] = [a, b] := e1
    have f2 : [(kH H x).1, (kH H x).2] = [c, d] := e2
    simp only [List.cons.injEq, and_true] at f1 f2
    have z : SrtO.lexB (kH H y) (kH H x) = true := SrtO.lexB_iff.mpr (by rw [f1.1, f1.2, f2.1, f2.2]; exact hh)
    rw [show SrtO.lexB (kH H y) (kH H x) = false from h] at z
    cases z
theorem cut_last (xs : List V) : cutV xs (some (-1)) none = xs.drop (xs.length - 1) := by
  unfold cutV
  rw [HT.sIx_none]
  have e : HT.sIx xs.length 0 (some (-1)) = xs.length - 1 := by
    show (if (-1 : Int) < 0 then (-1 + (xs.length : Int)).toNat else min (-1 : Int).toNat xs.length) = _
    rw [if_pos (by decide)]
    omega
  rw [e]
  exact List.take_of_length_le (by rw [List.length_drop]; exact Nat.le_refl _)
theorem ltP_trans {x y z : List Int} (h : ltP x y) (g : ltP y z) : ltP x z := by
  obtain ⟨a, b, c, d, rfl, rfl, h⟩ := h
  obtain ⟨c', d', e, f, e1, rfl, g⟩ := g
  simp only [List.cons.injEq, and_true] at e1
  obtain ⟨rfl, rfl⟩ := e1
  exact ⟨a, b, e, f, rfl, rfl, by omega⟩
theorem ltP_of {a b c d : Int} (n : ¬ ltP [c, d] [a, b]) (ne : ([c, d] : List Int) ≠ [a, b]) : ltP [a, b] [c, d] := by
  refine ⟨a, b, c, d, rfl, rfl, ?_⟩
  by_cases h : a < c ∨ (a = c ∧ b < d)
  · exact h
  · have h1 : ¬ (c < a ∨ (c = a ∧ d < b)) := fun z => n ⟨c, d, a, b, rfl, rfl, z⟩
    have e1 : c = a := by omega
    have e2 : d = b := by omega
    exact absurd (by rw [e1, e2]) ne
/-- each thing once, of what ascends -/
structure Once (m : Int) (H : Hp) (f : Addr) (L F : List (Addr × List Int)) (i : Nat) : Prop where
  pr : Pairs m H f F
  sub : ∀ p ∈ F, p ∈ L.take i
  all : ∀ p ∈ L.take i, ∃ q ∈ F, q.2 = p.2
  asc : F.Pairwise (fun x y => ltP x.2 y.2)
  len : F.length ≤ i
  last : ∀ p, 0 < i → L[i - 1]? = some p → ∃ F0 q, F = F0 ++ [q] ∧ q.2 = p.2
section
variable {P : Program} {w : World} {K : PySem.W.Frag} {mg : Str → Option Value} {base : Heap}
theorem scLWeb : FnScope ["hand", "most", "many", "ties", "house", "turn", "one", "other", "found", "tie"] ["hand", "most"] (defScope sLWeb) := ⟨rfl, rfl, rfl, by decide +kernel, rfl, by decide +kernel, by decide +kernel⟩
theorem ok_lweb {f fT : Addr} {fd fdT : FuncData} (F : Fun K "_law_web" "_law_web" sLWeb f fd) (B : Bts mg) (DT : Df K mg "_law_draw" sDraw ["hand", "many"] fT fdT) : FnOk P w K mg base CX0 2 f fd ["hand", "most"] spLWeb := by
  have GT : FnOk P w K mg base CX0 1 fT fdT ["hand", "many"] spDraw := ok_draw DT.F B
  refine F.ok scLWeb (fun vs H Q E h => ?_) (fun cdv A outer s H vs Q E hr h => ?_)
  · obtain ⟨p, l, m, rfl, _⟩ := h
    rfl
  · obtain ⟨p, l, most, rfl, hh, hm1, hm40, k⟩ := h
    have nd := scLWeb.nd
    have hu := hr.units
    refine ⟨_, pss_cons (ps_set (i := 2) nd rfl (.inl rfl) (pe_op op_add pe_int (pe_call GT hr rfl DT.m DT.k DT.b .nil pass0 (pa_cons (pv 0) (pa_cons (pv 1) pa_nil)))))
      (pss_cons (ps_set (i := 3) nd rfl (.inl rfl) (pe_lst pa_nil))
      (pss_cons (ps_for PassesOwn.never rfl (pi_range2 rfl B.range (pa_cons pe_int (pa_cons (pv 2) pa_nil))) (pg_name (i := 4) nd rfl (.inl rfl))
        (pss_cons (ps_expr (pe_bm PySem.F.plainAttrs_list PySem.F.slot_list_append PySem.F.type_list_append mt_append (pv 3) (pa_cons (pe_tup (pa_cons (pe_call GT hr rfl DT.m DT.k DT.b .nil pass0 (pa_cons (pv 0) (pa_cons (pv 4) pa_nil))) (pa_cons (pv 4) pa_nil))) pa_nil)))
        (pss_one (ps_if (pt_cmpR op_eq (pe_call GT hr rfl DT.m DT.k DT.b .nil pass0 (pa_cons (pv 0) (pa_cons pe_int pa_nil))) pe_int (nomark _))
          (pss_one (ps_expr (pe_bm PySem.F.plainAttrs_list PySem.F.slot_list_append PySem.F.type_list_append mt_append (pv 3) (pa_cons (pe_tup (pa_cons (pe_call GT hr rfl DT.m DT.k DT.b .nil pass0 (pa_cons (pv 0) (pa_cons (pv 4) pa_nil))) (pa_cons (pv 4) pa_nil))) pa_nil)))) pss_nil))))
      (pss_cons (ps_for PassesOwn.never rfl (pi_range1 rfl B.range (pa_cons (pe_call GT hr rfl DT.m DT.k DT.b .nil pass0 (pa_cons (pv 0) (pa_cons (pe_op op_add (pv 2) pe_int) pa_nil))) pa_nil)) (pg_name (i := 5) nd rfl (.inl rfl))
        (pss_cons (ps_set (i := 6) nd rfl (.inl rfl) (pe_call GT hr rfl DT.m DT.k DT.b .nil pass0 (pa_cons (pv 0) (pa_cons (pv 2) pa_nil))))
        (pss_cons (ps_set (i := 7) nd rfl (.inl rfl) (pe_call GT hr rfl DT.m DT.k DT.b .nil pass0 (pa_cons (pv 0) (pa_cons (pv 2) pa_nil))))
        (pss_one (ps_if (pt_cmpR op_lt (pv 6) (pv 7) (nomark _))
          (pss_one (ps_expr (pe_bm PySem.F.plainAttrs_list PySem.F.slot_list_append PySem.F.type_list_append mt_append (pv 3) (pa_cons (pe_tup (pa_cons (pv 6) (pa_cons (pv 7) pa_nil))) pa_nil)))) pss_nil)))))
      (pss_cons (ps_set (i := 8) nd rfl (.inl rfl) (pe_lst pa_nil))
      (pss_cons (ps_for PassesOwn.never rfl (pi_list (pe_callB cr_sortedPO (by rfl) B.sorted PyProof.Rows.boot_sorted (pa_cons (pv 3) pa_nil))) (pg_name (i := 9) nd rfl (.inl rfl))
        (pss_one (ps_if (pt_cmpR (op_notInPL hu) (pv 9) (pe_slice sl_list (pv 8) (po_some (pe_un un_neg pe_int)) po_none) rfl)
          (pss_one (ps_expr (pe_bm PySem.F.plainAttrs_list PySem.F.slot_list_append PySem.F.type_list_append mt_append (pv 8) (pa_cons (pv 9) pa_nil)))) pss_nil)))
      (pss_one (ps_ret (pe_tup (pa_cons (pv 2) (pa_cons (pe_callTy call_tuple_of (by rfl) B.tuple PyProof.Rows.boot_tuple (pa_cons (pv 8) pa_nil)) pa_nil)))))))))), ?_⟩
    refine ⟨_, rfl, _, rfl, p, l, most, rfl, hh, by omega, by omega, fun d H1 d0 d1 g1 b1 => ?_⟩
    refine ⟨_, _, rfl, rfl, ?_⟩
    obtain ⟨m, em⟩ : ∃ m : Int, 1 + d = m := ⟨_, rfl⟩
    show gName 2 (V.int (1 + d)) _ _ _
    rw [em]
    have m1 : 1 ≤ m := by omega
    have mm : m ≤ most := by omega
    have x1 : Ext p H H1 := Ext.rfl'.but b1
    refine ⟨Nat.zero_le _, fun fo hf0 => ?_⟩
    obtain ⟨npf, nlf⟩ := g1.ne hf0
    have x0 : Ext p H (upd H1 fo (.lst [])) := x1.upd hf0
    have hh0 : HandAt (upd H1 fo (.lst [])) p l := g1.new hf0
    have pr0 : Pairs m (upd H1 fo (.lst [])) fo [] := ⟨upd_same, fun q hq => absurd hq List.not_mem_nil, fun q hq => absurd hq List.not_mem_nil⟩
    have fo0 : H fo = none := by
      cases z : H fo with
      | none => rfl
      | some o =>
        by_cases c : fo = p
        · exact absurd c npf
        · rw [b1 fo c, z] at hf0
          cases hf0
    -- one more tie
    have put : ∀ {H3 : Hp} {ks : List (Addr × List Int)} {t : Addr} {a b : Int}, Pairs m H3 fo ks → HandAt H3 p l → Ext p H H3 → H3 t = none → 0 ≤ a → a < b → b < m →
        Pairs m (upd (upd H3 t (.tup [.int a, .int b])) fo (.lst ((ks.map fun p => V.ref p.1) ++ [.ref t]))) fo (ks ++ [(t, [a, b])]) ∧ HandAt (upd (upd H3 t (.tup [.int a, .int b])) fo (.lst ((ks.map fun p => V.ref p.1) ++ [.ref t]))) p l ∧ Ext p H (upd (upd H3 t (.tup [.int a, .int b])) fo (.lst ((ks.map fun p => V.ref p.1) ++ [.ref t]))) :=
      fun pr g x ht h0 h1 h2 => ⟨pr.add ht h0 h1 h2, (g.new ht).stay npf nlf, fun b o e nb => by rw [upd_ne (ne_of_none e fo0)]; exact (x.upd ht) b o e nb⟩
    refine ⟨_, rfl, 1, m, rfl, ⟨by decide, by decide, by omega, by omega⟩, for_range (lo := 1) (n := (m - 1).toNat) (fun i σ H' => ∃ (x4 : Option V) (ks : List (Addr × List Int)), σ = [some (.ref p), some (.int most), some (.int m), some (.ref fo), x4, none, none, none, none, none] ∧ Pairs m H' fo ks ∧ ks.length ≤ 2 * i ∧ (∀ h : Int, 1 ≤ h → h ≤ (i : Int) → ∃ q ∈ ks, ∃ o : Int, q.2 = [o, h]) ∧ HandAt H' p l ∧ Ext p H H') ?_ ?_ ?_⟩
    · exact ⟨none, [], rfl, pr0, Nat.le_refl _, fun h a b => by omega, hh0, x0⟩
    · rintro i σ H2 hi ⟨x4, ks, rfl, pr2, hl, hc, g2, x2⟩
      refine ⟨_, rfl, .inl ⟨rfl, _, SqL.of pr2.at_⟩, _, rfl, _, rfl, p, l, 1 + (i : Int), rfl, g2, by omega, by omega, fun o H3 o0 o1 g3 b3 => ?_⟩
      have pr3 := pr2.but g2 b3 npf
      have x3 := x2.but b3
      refine ⟨_, rfl, (by show 2 ≤ sizeLine; decide), fun t ht => ?_⟩
      have ntf : fo ≠ t := ne_of_none pr3.at_ ht
      refine ⟨fo, _, _, rfl, rfl, (by rw [upd_ne ntf]; exact pr3.at_), ?_, ?_⟩
      · rw [List.length_map]
        exact Nat.lt_of_lt_of_le (show ks.length < 1000 by omega) (by decide)
      obtain ⟨pr4, g4, x4'⟩ := put pr3 g3 x3 ht o0 o1 (show 1 + (i : Int) < m by omega)
      have hc4 : ∀ h : Int, 1 ≤ h → h ≤ ((i + 1 : Nat) : Int) → ∃ q ∈ ks ++ [(t, [o, 1 + (i : Int)])], ∃ o : Int, q.2 = [o, h] := fun h a b => by
        by_cases e : h ≤ (i : Int)
        · obtain ⟨q, hq, z⟩ := hc h a e
          exact ⟨q, List.mem_append_left _ hq, z⟩
        · have e2 : h = 1 + (i : Int) := by omega
          exact ⟨_, List.mem_append_right _ (List.mem_singleton.mpr rfl), o, by rw [e2]⟩
      have hl4 : (ks ++ [(t, [o, 1 + (i : Int)])]).length ≤ 2 * i + 1 := by
        rw [List.length_append]
        show ks.length + 1 ≤ _
        omega
      show tSeq _ _ _ _ (upd (upd H3 t (.tup [.int o, .int (1 + (i : Int))])) fo (.lst ((ks.map fun p => V.ref p.1) ++ [.ref t])))
      revert pr4 g4 x4' hc4 hl4
      generalize upd (upd H3 t (.tup [.int o, .int (1 + (i : Int))])) fo (.lst ((ks.map fun p => V.ref p.1) ++ [.ref t])) = H4
      generalize ks ++ [(t, [o, 1 + (i : Int)])] = ks4
      intro pr4 g4 x4' hc4 hl4
      refine ⟨_, rfl, p, l, 3, rfl, g4, by decide, by decide, fun d3 H5 e0 e1 g5 b5 => ?_⟩
      have pr5 := pr4.but g4 b5 npf
      have x5 := x4'.but b5
      refine ⟨rfl, _, rfl, ite2 (fun _ => ?_) (fun _ => ?_)⟩
      · refine ⟨_, rfl, .inl ⟨rfl, _, SqL.of pr5.at_⟩, _, rfl, _, rfl, p, l, 1 + (i : Int), rfl, g5, by omega, by omega, fun o' H6 o0' o1' g6 b6 => ?_⟩
        have pr6 := pr5.but g5 b6 npf
        have x6 := x5.but b6
        refine ⟨_, rfl, (by show 2 ≤ sizeLine; decide), fun t' ht' => ?_⟩
        have ntf' : fo ≠ t' := ne_of_none pr6.at_ ht'
        refine ⟨fo, _, _, rfl, rfl, (by rw [upd_ne ntf']; exact pr6.at_), ?_, ?_⟩
        · rw [List.length_map]
          exact Nat.lt_of_lt_of_le (show ks4.length < 1000 by omega) (by decide)
        obtain ⟨pr7, g7, x7⟩ := put pr6 g6 x6 ht' o0' o1' (show 1 + (i : Int) < m by omega)
        refine ⟨_, _, rfl, pr7, ?_, fun h a b => ?_, g7, x7⟩
        · rw [List.length_append]
          show ks4.length + 1 ≤ _
          omega
        · obtain ⟨q, hq, z⟩ := hc4 h a b
          exact ⟨q, List.mem_append_left _ hq, z⟩
      · exact ⟨_, ks4, rfl, pr5, by omega, hc4, g5, x5⟩
    rintro σ H2 ⟨x4, ks, rfl, pr2, hl, hc, g2, x2⟩
    have hc' : ∀ h : Int, 1 ≤ h → h < m → ∃ q ∈ ks, ∃ o : Int, q.2 = [o, h] := fun h a b => hc h a (by omega)
    clear hc
    refine ⟨_, rfl, _, rfl, _, _, rfl, rfl, p, l, m + 1, rfl, g2, by omega, by omega, fun d2 H3 e0 e1 g3 b3 => ?_⟩
    have pr3 := pr2.but g2 b3 npf
    have x3 := x2.but b3
    refine ⟨d2, rfl, by omega, by omega, for_range (lo := 0) (n := d2.toNat) (fun i σ H' => ∃ (x5 x6 x7 : Option V) (ks : List (Addr × List Int)), σ = [some (.ref p), some (.int most), some (.int m), some (.ref fo), x4, x5, x6, x7, none, none] ∧ Pairs m H' fo ks ∧ ks.length ≤ 80 + i ∧ (∀ h : Int, 1 ≤ h → h < m → ∃ q ∈ ks, ∃ o : Int, q.2 = [o, h]) ∧ HandAt H' p l ∧ Ext p H H') ?_ ?_ ?_⟩
    · exact ⟨none, none, none, ks, rfl, pr3, by omega, hc', g3, x3⟩
    · rintro i σ H4 hi ⟨x5, x6, x7, ks, rfl, pr4, hl, hc, g4, x4'⟩
      refine ⟨_, rfl, _, rfl, p, l, m, rfl, g4, by omega, by omega, fun a H5 a0 a1 g5 b5 => ?_⟩
      refine ⟨_, rfl, _, rfl, p, l, m, rfl, g5, by omega, by omega, fun b H6 c0 c1 g6 b6 => ?_⟩
      have pr6 := (pr4.but g4 b5 npf).but g5 b6 npf
      have x6' := (x4'.but b5).but b6
      refine ⟨_, rfl, _, rfl, _, _, rfl, rfl, _, rfl, ite2 (fun c => ?_) (fun _ => ?_)⟩
      · have hab : a < b := of_decide_eq_true c
        refine ⟨_, rfl, .inl ⟨rfl, _, SqL.of pr6.at_⟩, _, rfl, _, rfl, (by show 2 ≤ sizeLine; decide), fun t ht => ?_⟩
        have ntf : fo ≠ t := ne_of_none pr6.at_ ht
        refine ⟨fo, _, _, rfl, rfl, (by rw [upd_ne ntf]; exact pr6.at_), ?_, ?_⟩
        · rw [List.length_map]
          exact Nat.lt_of_lt_of_le (show ks.length < 1000 by omega) (by decide)
        obtain ⟨pr7, g7, x7'⟩ := put pr6 g6 x6' ht a0 hab c1
        refine ⟨_, _, _, _, rfl, pr7, ?_, fun h u v => ?_, g7, x7'⟩
        · rw [List.length_append]
          show ks.length + 1 ≤ _
          omega
        · obtain ⟨q, hq, z⟩ := hc h u v
          exact ⟨q, List.mem_append_left _ hq, z⟩
      · exact ⟨_, _, _, ks, rfl, pr6, by omega, hc, g6, x6'⟩
    clear hl hc' pr2 pr3 g2 g3 x2 x3 b3 ks
    rintro σ H4 ⟨x5, x6, x7, ks, rfl, pr4, hl, hc, g4, x4'⟩
    have hl' : ks.length ≤ 121 := by omega
    refine ⟨Nat.zero_le _, fun f2 hf2 => ?_⟩
    have pr5 : Pairs m (upd H4 f2 (.lst [])) fo ks := ⟨by rw [upd_ne (ne_of_none pr4.at_ hf2)]; exact pr4.at_, fun q hq => by rw [upd_ne (ne_of_none (pr4.tup q hq) hf2)]; exact pr4.tup q hq, pr4.ok⟩
    have g5 : HandAt (upd H4 f2 (.lst [])) p l := g4.new hf2
    have x5' : Ext p H (upd H4 f2 (.lst [])) := x4'.upd hf2
    have ef2 : (upd H4 f2 (.lst [])) f2 = some (.lst []) := upd_same
    obtain ⟨np2, nl2⟩ := g4.ne hf2
    have f20 : ∀ {b : Addr} {o : HO}, H b = some o → b ≠ p → b ≠ f2 := fun e nb => ne_of_none (x4' _ _ e nb) hf2
    revert pr5 g5 x5' ef2
    generalize upd H4 f2 (.lst []) = H5
    intro pr5 g5 x5' ef2
    refine ⟨_, rfl, fo, ks.map (fun p => V.ref p.1), kH H5, rfl, SqL.of pr5.at_, fun x hx => ?_, fun ys sp sr sb hsp => ?_⟩
    · obtain ⟨q, hq, rfl⟩ := List.mem_map.mp hx
      obtain ⟨a, b, e, _⟩ := pr5.ok q hq
      have t := pr5.tup q hq
      rw [e] at t
      refine ⟨q.1, rfl, ?_⟩
      rw [kH_at t]
      exact t
    obtain ⟨L, rfl, sub, sup, hlen, pw⟩ := sorted_back pr5 sb.perm sr
    have esp : (upd H5 sp (.lst (L.map fun p => V.ref p.1))) sp = some (.lst (L.map fun p => V.ref p.1)) := upd_same
    have s6 : Same H5 (upd H5 sp (.lst (L.map fun p => V.ref p.1))) := sN hsp
    have nsf : sp ≠ f2 := fun e => by rw [e, ef2] at hsp; cases hsp
    revert esp s6
    generalize upd H5 sp (.lst (L.map fun p => V.ref p.1)) = H6
    intro esp s6
    refine ⟨sp, rfl, ⟨_, SqL.of esp⟩, for_list (K := K) (a := sp) (xs := L.map fun p => V.ref p.1) (fun i σ H' => ∃ (x9 : Option V) (F : List (Addr × List Int)), σ = [some (.ref p), some (.int most), some (.int m), some (.ref fo), x4, x5, x6, x7, some (.ref f2), x9] ∧ Once m H' f2 L F i ∧ (∀ p ∈ L, H' p.1 = some (.tup (p.2.map V.int))) ∧ H' sp = some (.lst (L.map fun p => V.ref p.1)) ∧ HandAt H' p l ∧ Ext p H H') ?_ ?_ ?_ ?_⟩
    · exact ⟨none, [], rfl, ⟨⟨s6 _ _ ef2, fun q hq => absurd hq List.not_mem_nil, fun q hq => absurd hq List.not_mem_nil⟩, fun q hq => absurd hq List.not_mem_nil, fun q hq => absurd hq (by simp), .nil, Nat.le_refl _, fun q h => absurd h (by decide)⟩, fun q hq => s6 _ _ (pr5.tup q (sub q hq)), esp, g5.same s6, x5'.same s6⟩
    · rintro i σ H7 hi ⟨x9, F, rfl, on, tl, e7, g7, x7'⟩
      exact SqL.of e7
    · rintro i v σ H7 hv ⟨x9, F, rfl, on, tl, e7, g7, x7'⟩
      rw [List.getElem?_map] at hv
      obtain ⟨q, hq, rfl⟩ : ∃ q, L[i]? = some q ∧ V.ref q.1 = v := by
        cases z : L[i]? with
        | none => rw [z] at hv; cases hv
        | some q => rw [z] at hv; exact ⟨q, rfl, Option.some.inj hv⟩
      have hqL : q ∈ L := List.mem_of_getElem? hq
      have hiL : i < L.length := (List.getElem?_eq_some_iff.mp hq).1
      obtain ⟨a, b, eq2, a0, ab, bm⟩ := pr5.ok q (sub q hqL)
      refine ⟨_, rfl, _, rfl, _, rfl, -1, rfl, f2, _, rfl, SqL.of on.pr.at_, fun z hz => ?_⟩
      rw [cut_last, List.length_map, ← List.map_drop]
      have s8 : Same H7 (upd H7 z (.lst ((F.drop (F.length - 1)).map fun p => V.ref p.1))) := sN hz
      have ez : (upd H7 z (.lst ((F.drop (F.length - 1)).map fun p => V.ref p.1))) z = some (.lst ((F.drop (F.length - 1)).map fun p => V.ref p.1)) := upd_same
      revert s8 ez
      generalize upd H7 z (.lst ((F.drop (F.length - 1)).map fun p => V.ref p.1)) = H8
      intro s8 ez
      refine ⟨q.1, z, q.2, F.drop (F.length - 1), rfl, rfl, s8 _ _ (tl q hqL), ez, fun r hr2 => s8 _ _ (on.pr.tup r (List.mem_of_mem_drop hr2)), _, rfl, ?_⟩
      have tk : L.take (i + 1) = L.take i ++ [q] := by
        rw [List.take_add_one, hq]
        rfl
      have tl8 : ∀ p ∈ L, H8 p.1 = some (.tup (p.2.map V.int)) := fun p hp => s8 _ _ (tl p hp)
      have pr8 : Pairs m H8 f2 F := ⟨s8 _ _ on.pr.at_, fun r hr2 => s8 _ _ (on.pr.tup r hr2), on.pr.ok⟩
      -- what is the last one
      have key : (q.2 ∈ (F.drop (F.length - 1)).map (·.2) → ∃ F0 r, F = F0 ++ [r] ∧ r.2 = q.2) ∧ (¬ q.2 ∈ (F.drop (F.length - 1)).map (·.2) → ∀ r ∈ F, ltP r.2 q.2) := by
        by_cases c0 : i = 0
        · have eF : F = [] := List.eq_nil_of_length_eq_zero (by have := on.len; omega)
          rw [eF]
          exact ⟨fun h => absurd h (by simp), fun _ r hr2 => absurd hr2 List.not_mem_nil⟩
        · obtain ⟨pv', hpv⟩ : ∃ pv', L[i - 1]? = some pv' := ⟨_, List.getElem?_eq_getElem (by omega)⟩
          obtain ⟨F0, r0, eF, e0⟩ := on.last pv' (by omega) hpv
          have ed : F.drop (F.length - 1) = [r0] := by
            rw [eF, List.length_append]
            show (F0 ++ [r0]).drop (F0.length + 1 - 1) = _
            rw [Nat.add_sub_cancel, List.drop_left]
          rw [ed]
          refine ⟨fun h => ⟨F0, r0, eF, ?_⟩, fun h => ?_⟩
          · simp only [List.map_cons, List.map_nil, List.mem_singleton] at h
            exact h.symm
          · simp only [List.map_cons, List.map_nil, List.mem_singleton] at h
            have npw : ¬ ltP q.2 r0.2 := by
              rw [e0]
              have z := List.pairwise_iff_getElem.mp pw (i - 1) i (by omega) hiL (by omega)
              rw [(List.getElem?_eq_some_iff.mp hpv).2, (List.getElem?_eq_some_iff.mp hq).2] at z
              exact z
            obtain ⟨c', d', er, _⟩ := on.pr.ok r0 (by rw [eF]; exact List.mem_append_right _ (List.mem_singleton.mpr rfl))
            have lt0 : ltP r0.2 q.2 := by
              rw [er, eq2] at npw h ⊢
              exact ltP_of npw h
            intro r hr2
            have as := on.asc
            rw [eF, List.pairwise_append] at as
            rw [eF] at hr2
            rcases List.mem_append.mp hr2 with hr2 | hr2
            · exact ltP_trans (as.2.2 r hr2 r0 (List.mem_singleton.mpr rfl)) lt0
            · rw [List.mem_singleton.mp hr2]
              exact lt0
      refine ite2 (fun c => ?_) (fun c => ?_)
      · have nin : ¬ q.2 ∈ (F.drop (F.length - 1)).map (·.2) := fun h => by
          rw [decide_eq_true h] at c
          cases c
        have lt := key.2 nin
        refine ⟨_, rfl, .inl ⟨rfl, _, SqL.of pr8.at_⟩, _, rfl, f2, _, _, rfl, rfl, pr8.at_, ?_, ?_⟩
        · rw [List.length_map]
          exact Nat.lt_of_lt_of_le (show F.length < 1000 by have := on.len; omega) (by decide)
        have nt : ∀ r ∈ L, r.1 ≠ f2 := fun r hr2 => ne_of (tl8 r hr2) pr8.at_ (fun z => by cases z)
        have nF : ∀ r ∈ F, r.1 ≠ f2 := fun r hr2 => ne_of (pr8.tup r hr2) pr8.at_ (fun z => by cases z)
        refine ⟨_, F ++ [q], rfl, ⟨⟨?_, fun r hr2 => ?_, fun r hr2 => ?_⟩, fun r hr2 => ?_, fun r hr2 => ?_, ?_, ?_, fun r _ hr2 => ?_⟩, fun r hr2 => ?_, ?_, ?_, ?_⟩
        · rw [upd_same, List.map_append]
          rfl
        · rcases List.mem_append.mp hr2 with hr2 | hr2
          · rw [upd_ne (nF r hr2)]
            exact pr8.tup r hr2
          · rw [List.mem_singleton.mp hr2, upd_ne (nt q hqL)]
            exact tl8 q hqL
        · rcases List.mem_append.mp hr2 with hr2 | hr2
          · exact pr8.ok r hr2
          · rw [List.mem_singleton.mp hr2]
            exact pr5.ok q (sub q hqL)
        · rw [tk]
          rcases List.mem_append.mp hr2 with hr2 | hr2
          · exact List.mem_append_left _ (on.sub r hr2)
          · exact List.mem_append_right _ hr2
        · rw [tk] at hr2
          rcases List.mem_append.mp hr2 with hr2 | hr2
          · obtain ⟨y, hy, e⟩ := on.all r hr2
            exact ⟨y, List.mem_append_left _ hy, e⟩
          · exact ⟨r, List.mem_append_right _ hr2, rfl⟩
        · rw [List.pairwise_append]
          exact ⟨on.asc, List.pairwise_singleton _ _, fun r hr2 y hy => by rw [List.mem_singleton.mp hy]; exact lt r hr2⟩
        · rw [List.length_append]
          show F.length + 1 ≤ i + 1
          have := on.len
          omega
        · rw [Nat.add_sub_cancel, hq] at hr2
          cases hr2
          exact ⟨F, q, rfl, rfl⟩
        · rw [upd_ne (nt r hr2)]
          exact tl8 r hr2
        · rw [upd_ne nsf]
          exact s8 _ _ e7
        · exact (g7.same s8).stay (Ne.symm np2.symm) (Ne.symm nl2.symm)
        · exact fun b' o e nb => by
            rw [upd_ne (f20 e nb)]
            exact s8 _ _ (x7' b' o e nb)
      · have inn : q.2 ∈ (F.drop (F.length - 1)).map (·.2) := by
          by_cases h : q.2 ∈ (F.drop (F.length - 1)).map (·.2)
          · exact h
          · rw [decide_eq_false h] at c
            exact absurd rfl c
        obtain ⟨F0, r0, eF, e0⟩ := key.1 inn
        refine ⟨_, F, rfl, ⟨pr8, fun r hr2 => ?_, fun r hr2 => ?_, on.asc, Nat.le_succ_of_le on.len, fun r _ hr2 => ?_⟩, tl8, s8 _ _ e7, g7.same s8, x7'.same s8⟩
        · rw [tk]
          exact List.mem_append_left _ (on.sub r hr2)
        · rw [tk] at hr2
          rcases List.mem_append.mp hr2 with hr2 | hr2
          · exact on.all r hr2
          · rw [List.mem_singleton.mp hr2]
            exact ⟨r0, by rw [eF]; exact List.mem_append_right _ (List.mem_singleton.mpr rfl), e0⟩
        · rw [Nat.add_sub_cancel, hq] at hr2
          cases hr2
          exact ⟨F0, r0, eF, e0⟩
    · rintro σ H7 ⟨x9, F, rfl, on, tl, e7, g7, x7'⟩
      rw [List.length_map] at on
      refine ⟨_, rfl, _, rfl, f2, _, rfl, .inl ⟨SqL.of on.pr.at_, fun t ht => ?_⟩⟩
      refine ⟨(by show 2 ≤ sizeLine; decide), fun W hW => ?_⟩
      have s8 := sT (sN (o := .tup (F.map fun p => V.ref p.1)) ht) (sN (o := .tup [.int m, .ref t]) hW)
      refine k W t m F _ m1 mm ⟨sN hW _ _ upd_same, fun q hq => s8 _ _ (on.pr.tup q hq), on.pr.ok, on.asc, Nat.lt_of_le_of_lt on.len (by omega), fun h u v => ?_⟩ upd_same (g7.same s8) (x7'.same s8)
      obtain ⟨q, hq, o, e⟩ := hc h u v
      obtain ⟨r, hr2, e2⟩ := on.all q (by rw [List.take_length]; exact sup q hq)
      exact ⟨r, hr2, o, e2.trans e⟩
end
end Q

/-! enumerate over a tuple -/
namespace Q
open PySem L2 PySem.Spec PyProof.Rows
open AutoSeq1 (wpAny_loadPart')
theorem en_new (tp : Addr) (xs : Array Value) (n : Nat) (dc : Option Addr) (sl : Array (Option Value)) :
    Meets (Builtin.«enumerate.__new__» ⟨[.type "enumerate", .ref tp], []⟩) (fun _ R s => s.heap.get? tp = some { cls := .type "tuple", dict := dc, data := .seq xs n, slots := sl } ∧ R (.ok (.ret (.ref (s.heap.push { cls := .type "tuple_iterator", data := .fields #[.ref tp, .int 0 0] }).objs.size)))
      { s with heap := (s.heap.push { cls := .type "tuple_iterator", data := .fields #[.ref tp, .int 0 0] }).push { cls := .type "enumerate", data := .fields #[.none, .bool false, .ref s.heap.objs.size, rawInt 0, .none, .none] } }) :=
  .of_wp fun P' w' A' R' s' h' => by
    obtain ⟨h0, g0, d0, t0, o0⟩ := s'
    obtain ⟨a1, a2⟩ := h'
    have zs := sub_enumerate
    have zt : Heap.IsTuple (Shared.heap ⟨h0, g0, d0, t0, o0⟩) tp xs := ⟨_, a1, rfl, n, rfl⟩
    wp_walk using wpAny_loadPart' a1
    refine wpAny_stack_any fun _ => wpAny_pure ?_
    split
    · rename_i c _ _ _ _ _
      cases (c == Value.type "enumerate")
      · wp_walk using wpAny_loadPart' a1, wpAny_pyIter_tuple zt
        exact ⟨_, rfl, a2⟩
      · wp_walk using wpAny_loadPart' a1, wpAny_pyIter_tuple zt
        exact ⟨_, rfl, a2⟩
    · wp_walk using wpAny_loadPart' a1, wpAny_pyIter_tuple zt
      exact ⟨_, rfl, a2⟩
theorem en_call {prog : Program} {w : World} {A : Around} {E : Value → Shared → Prop} {s : Shared} {tp : Addr} {xs : Array Value} {Q : Value → Shared → Prop} (ht : s.heap.IsTuple tp xs)
    (k : ∀ h', IsEnum h' (s.heap.objs.size + 1) s.heap.objs.size 0 .none → h'.IsTupleIter s.heap.objs.size tp 0 → (∀ b o, s.heap.get? b = some o → h'.get? b = some o) → Q (.ref (s.heap.objs.size + 1)) { s with heap := h' }) :
    wpAny (model prog w) A (call (.type "enumerate") [.ref tp]) Q E s := by
  obtain ⟨⟨c, dc, dt, sl⟩, a1, ac, n, ad⟩ := ht
  have ac' : c = .type "tuple" := ac
  have ad' : dt = .seq xs n := ad
  subst ac' ad'
  refine callType_new F.called_enumerate (by decide) (F.typeCall_enumerate_1 _) (F.newCall_enumerate_1 _) (fun ob => F.args_object_init_2 ob _) F.entry_enumerate_new (en_new tp xs n dc sl) ⟨a1, ?_⟩
  have sz : (s.heap.push { cls := .type "tuple_iterator", data := .fields #[.ref tp, .int 0 0] }).objs.size = s.heap.objs.size + 1 := Heap.size_push ..
  show _ ∧ _
  rw [sz]
  have en : IsEnum ((s.heap.push { cls := .type "tuple_iterator", data := .fields #[.ref tp, .int 0 0] }).push { cls := .type "enumerate", data := .fields #[.none, .bool false, .ref s.heap.objs.size, rawInt 0, .none, .none] }) (s.heap.objs.size + 1) s.heap.objs.size 0 .none := by
    have q := Heap.get?_push_size (s.heap.push { cls := .type "tuple_iterator", data := .fields #[.ref tp, .int 0 0] }) (o := { cls := .type "enumerate", data := .fields #[.none, .bool false, .ref s.heap.objs.size, rawInt 0, .none, .none] }) rfl
    rw [sz] at q
    exact q
  exact ⟨⟨_, en, rfl⟩, k _ en ⟨_, Heap.get?_push_of_some _ (Heap.get?_push_size _ rfl), rfl, rfl⟩ fun b o x => Heap.get?_push_of_some _ (Heap.get?_push_of_some _ x)⟩
/-- the tuple at a, each item in a new pair behind its number -/
def ItEt (K : PySem.W.Frag) (a : Addr) : It :=
  ⟨fun i H => ∃ (xs : List V) (x : V), SqT K H a xs ∧ xs[i]? = some x, fun i H v H' => ∃ T x, v = .ref T ∧ H T = none ∧ H' = upd H T (.tup [.int (i : Nat), x]) ∧ ∀ ys, SqT K H a ys → ys[i]? = some x, fun i H => ∃ xs : List V, SqT K H a xs ∧ xs.length = i⟩
theorem D_of {prog : Program} {w : World} {A : Around} (hh : A.handled = none) {it a : Addr} (n : a ≠ it) (items : Array Value) : Draws prog w A.in1 it [it, a] items.size (fun i v => items[i]? = some v) (fun i h => h.IsTupleIter it a i ∧ h.IsTuple a items) :=
  Draws.tuple (A := A.in1) hh it a n items
theorem en_turn {P : Program} {w : World} {K : PySem.W.Frag} {elts : List Expr} {kk : Nat} {tpos : Pos} (a e it : Addr) :
    Turn P w K (.Tuple elts kk tpos) (ItEt K a) [e, it] e (fun i h => (∃ u, IsEnum h e it ((i : Nat) : Int) u) ∧ h.IsTupleIter it a i ∧ e ≠ it ∧ a ≠ it ∧ a ≠ e) where
  mem := List.mem_cons_self
  obj := fun i h st b hb => by
    obtain ⟨⟨u, he⟩, ⟨o, ho, hc, hd⟩, _⟩ := st
    rcases List.mem_cons.mp hb with z | z
    · rw [z]; exact ⟨_, he, fun v q => nomatch q⟩
    · rw [List.mem_singleton.mp z]; exact ⟨o, ho, fun v q => by rw [hd] at q; cases q⟩
  keep := fun i h h' st k => let ⟨⟨u, he⟩, hi, n1, n2⟩ := st; ⟨⟨u, k e List.mem_cons_self _ he⟩, hi.at fun o q => k it (List.mem_cons_of_mem _ (List.mem_singleton.mpr rfl)) o q, n1, n2⟩
  item := by
    intro X eP ew eK hc i pins s σ H E I hf st hg
    subst eP ew eK
    obtain ⟨⟨u0, he⟩, hit, n1, n2, n3⟩ := st
    obtain ⟨xs, x, hq, hx⟩ := hg
    obtain ⟨its, rv, tp, hz⟩ := I.tuple hq
    obtain ⟨u, hu, ru⟩ := rv.get hx
    have lt : i < its.toArray.size := by
      have z := (List.getElem?_eq_some_iff.mp hu).1
      simpa using z
    have le : e < s.heap.objs.size := Heap.lt_size he
    have li : it < s.heap.objs.size := by obtain ⟨_, q, _⟩ := hit; exact Heap.lt_size q
    refine wpAny_pyNext_enum_itemD (D_of (I.ok.hd hc) n2 its.toArray) he ⟨hit, tp⟩ lt n1 (fun z => ?_) fun y h' tk hy ho hs' hT hsz hk => ?_
    · rcases List.mem_cons.mp z with z | z
      · exact n1 z
      · exact n3 (List.mem_singleton.mp z).symm
    have ey : y = u := by
      have z : its.toArray[i]? = some y := hy
      rw [List.getElem?_toArray, hu] at z
      exact (Option.some.inj z).symm
    subst ey
    refine ⟨_, rfl, wpAny_letOwnedTupleGo_enum (s := { s with heap := h', toks := tk + 1 }) ho fun h2 he2 sb => ?_⟩
    have hT2 : h2.get? s.heap.objs.size = some { cls := .type "tuple", data := .seq #[.int i tk, y] } := (sb.2 _ (Nat.ne_of_gt le)).trans hT
    have new : ObjOk X.prog X.w (upd H s.heap.objs.size (.tup [.int (i : Nat), x])) h2 s.heap.objs.size (.tup [.int (i : Nat), x]) :=
      ⟨by show 2 ≤ sizeLine; decide, [.int i tk, y], .cons ⟨_, rfl⟩ (.cons ru .nil), ⟨_, hT2, rfl, _, rfl⟩⟩
    have I1 : Inv X pins σ (upd H s.heap.objs.size (.tup [.int (i : Nat), x])) { s with heap := h2, toks := tk + 1 } :=
      I.turnedNew (ch := [e, it]) (fun b ob hb q => (sb.2 b (fun z => hb (by rw [z]; exact List.mem_cons_self))).trans (hk b ob (fun z => hb (by rw [z]; exact List.mem_cons_self)) (fun z => hb (by rw [z]; exact List.mem_cons_of_mem _ (List.mem_singleton.mpr rfl))) q)) hf (Nat.le_refl _) new
    refine ⟨.ref s.heap.objs.size, _, I1, rfl, ⟨_, x, rfl, I.hok.fresh (Nat.le_refl _), rfl, fun ys hy => by rw [I.tuple_inj hy hq]; exact hx⟩, ⟨⟨y, ?_⟩, hs'.1.at fun o q => (sb.2 it (Ne.symm n1)).trans q, n1, n2, n3⟩, fun b hb => ?_⟩
    · have e1 : ((i + 1 : Nat) : Int) = (i : Int) + 1 := by omega
      rw [e1]
      exact he2
    · have hb2 : b < s.heap.objs.size := by
        rcases List.mem_cons.mp hb with z | z
        · rw [z]; exact le
        · rw [List.mem_singleton.mp z]; exact li
      rw [upd_ne (Nat.ne_of_lt hb2)]
      exact (hf b hb).1
  done := by
    intro X eP ew eK hc i pins s σ H E I hf st hg
    subst eP ew eK
    obtain ⟨⟨u0, he⟩, hit, n1, n2, n3⟩ := st
    obtain ⟨xs, hq, hx⟩ := hg
    obtain ⟨its, rv, tp, hz⟩ := I.tuple hq
    obtain ⟨f0, f1, f2, f3, f4, f5⟩ := hf it (List.mem_cons_of_mem _ (List.mem_singleton.mpr rfl))
    have ls : xs.length = its.length := rv.length
    have ei : i = its.toArray.size := by
      rw [List.size_toArray]
      omega
    exact wpAny_pyNext_enum_endD (D_of (I.ok.hd hc) n2 its.toArray) he ⟨by rw [← ei]; exact hit, tp⟩ fun h' eb => ⟨rfl, I.turned (t' := s.toks) (fun b o hb q => eb b o hb q) f0 f1 f3 f4 f5⟩
  self := fun A i s Q E st h => let ⟨⟨_, he⟩, _⟩ := st; wpAny_pyIter_enum he h
def iEnT (K : PySem.W.Frag) (ta : TA) : TI := fun σ H R => ta σ H fun vs H1 => ∃ a xs, vs = [.ref a] ∧ SqT K H1 a xs ∧ R (ItEt K a) H1
theorem pi_enumT {X : Cx} {e : Expr} {ta : TA} {p pos tpos : Pos} {elts : List Expr} {kk : Nat} (hg : Gl X "enumerate") (hm : X.mg "enumerate" = none) (ha : PA X [e] ta) (hs : starEach [e] X.env = [(false, eval e X.env)] := by rfl) :
    PI X (.Tuple elts kk tpos) (.Call (.Name "enumerate" p) [e] [] pos) (iEnT X.K ta) := by
  refine ⟨fun pins s σ H R I h => ?_⟩
  refine Call_ (ld_blt I hg hm boot_enumerate (PyProof.Rows.callWith_type1 (thn (ha.run pos pins s σ H _ I h) fun us s1 ⟨vs, H1, I1, r1, q1⟩ => ?_) hs rfl))
  obtain ⟨a, xs, rfl, hq, q⟩ := q1
  cases r1 with
  | cons r rr =>
    cases rr
    cases r
    obtain ⟨its, rv, tp, hz⟩ := I1.tuple hq
    have la : a < s1.heap.objs.size := by obtain ⟨o, z, _⟩ := tp; exact Heap.lt_size z
    refine en_call tp fun h' he hit hk => wpAny_pyIter_enum he ?_
    have I2 : Inv X pins σ H1 { s1 with heap := h' } := I1.kept (t' := s1.toks) hk
    refine ⟨s1.heap.objs.size + 1, [s1.heap.objs.size + 1, s1.heap.objs.size], _, _, H1, rfl, I2, en_turn a (s1.heap.objs.size + 1) s1.heap.objs.size, ⟨⟨.none, he⟩, hit, Nat.succ_ne_self _, Nat.ne_of_lt la, Nat.ne_of_lt (Nat.lt_succ_of_lt la)⟩, fun b hb => ?_, q⟩
    have hle : s1.heap.objs.size ≤ b := by
      rcases List.mem_cons.mp hb with z | z
      · rw [z]; exact Nat.le_add_right _ _
      · rw [List.mem_singleton.mp z]; exact Nat.le_refl _
    exact I1.fpOk hle (I1.hok.fresh hle)
theorem for_enT {K : PySem.W.Frag} {a : Addr} {xs : List V} {g : TG} {tb : TS} {D : Ends} {σ : L2.St} {H : Hp} (Pv : Nat → L2.St → Hp → Prop) (h0 : Pv 0 σ H) (hl : ∀ i σ H, i ≤ xs.length → Pv i σ H → SqT K H a xs)
    (hs : ∀ (i : Nat) (x : V) (T : Addr) (σ : L2.St) (H : Hp), xs[i]? = some x → Pv i σ H → H T = none → g (.ref T) σ (upd H T (.tup [.int (i : Nat), x])) fun σ2 H2 => tb { D with nx := Pv (i + 1), ct := Pv (i + 1), bk := D.nx } σ2 H2) (hd : ∀ σ H, Pv xs.length σ H → D.nx σ H) :
    ∃ W : Nat → Nat → L2.St → Hp → Prop, (∃ m, W 0 m σ H) ∧ ∀ i m σ H, W i m σ H →
      ((ItEt K a).stop i H ∧ D.nx σ H) ∨ ((ItEt K a).go i H ∧ ∃ N : L2.St → Hp → Prop, (∀ σ' H', N σ' H' → ∃ m', m' < m ∧ W (i + 1) m' σ' H') ∧ ∀ v H', (ItEt K a).yld i H v H' → g v σ H' fun σ2 H2 => tb { D with nx := N, ct := N, bk := D.nx } σ2 H2) := by
  refine ⟨fun i m σ H => m = xs.length - i ∧ i ≤ xs.length ∧ Pv i σ H, ⟨xs.length, by omega, Nat.zero_le _, h0⟩, ?_⟩
  rintro i m σ H ⟨em, hi, p⟩
  have q := hl i σ H hi p
  by_cases lt : i < xs.length
  · refine .inr ⟨⟨xs, xs[i], q, List.getElem?_eq_getElem lt⟩, Pv (i + 1), fun σ' H' p' => ⟨xs.length - (i + 1), by omega, rfl, lt, p'⟩, ?_⟩
    rintro v H' ⟨T, x, rfl, hT, rfl, hx⟩
    exact hs i x T σ H (hx xs q) p hT
  · have e : i = xs.length := by omega
    subst e
    exact .inl ⟨⟨xs, q, rfl⟩, hd σ H p⟩
end Q

namespace Q
open PySem L2
abbrev sPlain : Stmt := top 6
abbrev sNum : Stmt := top 7
abbrev sTie : Stmt := top 12
abbrev sFirst : Stmt := top 13
abbrev kInt (K : PySem.W.Frag) (t : Value) (b : Bool) : Prop := PySem.W.kitOne K t (.type "int") = some b
abbrev kBool (K : PySem.W.Frag) (t : Value) (b : Bool) : Prop := PySem.W.kitOne K t (.type "bool") = some b
def spPlain (K : PySem.W.Frag) : Sp := fun vs H Q _ => ∃ (v : V) (t : Value) (b c : Bool), vs = [v] ∧ TyX K H v t ∧ kInt K t b ∧ kBool K t c ∧ Q (.bl (b && !c)) H
def NoInt (K : PySem.W.Frag) (H : Hp) (v : V) : Prop := ∃ (t : Value) (b c : Bool), TyX K H v t ∧ kInt K t b ∧ kBool K t c ∧ (b && !c) = false
def spNum (K : PySem.W.Frag) : Sp := fun vs H Q _ => ∃ (n : Int) (v : V), vs = [.int n, v] ∧ ((∃ i : Int, v = .int i ∧ Q (.bl (decide (0 ≤ i) && decide (i < n))) H) ∨ (NoInt K H v ∧ Q (.bl false) H))
def spTie : Sp := fun vs H Q _ => ∃ (m : Int) (t : Addr) (a b : Int), vs = [.int m, .ref t] ∧ H t = some (.tup [.int a, .int b]) ∧ 0 ≤ a ∧ a < b ∧ b < m ∧ Q (.bl true) H
def spFirst : Sp := fun vs H Q _ => ∃ (m : Int) (q : Addr) (L : List (Addr × List Int)), vs = [.int m, .ref q] ∧ TiesAt m H q L ∧ ∀ H', Same H H' → Q .non H'
theorem kInt_int {K : PySem.W.Frag} : kInt K (.type "int") true := kit_ty (by decide +kernel)
theorem kBool_int {K : PySem.W.Frag} : kBool K (.type "int") false := kit_ty (by decide +kernel)
section
variable {P : Program} {w : World} {K : PySem.W.Frag} {mg : Str → Option Value} {base : Heap}
theorem scPlain : FnScope ["thing"] ["thing"] (defScope sPlain) := ⟨rfl, rfl, rfl, by decide +kernel, rfl, by decide +kernel, by decide +kernel⟩
theorem ok_plain {f : Addr} {fd : FuncData} {x : Str} {st : Stmt} (F : Fun K "is_plain_int" "is_plain_int" sPlain f fd) (B : Bts mg) : FnOk P w K mg base CX0 1 f fd ["thing"] (spPlain K) := by
  refine F.ok scPlain (fun vs H Q E h => ?_) (fun cdv A outer s H vs Q E hr h => ?_)
  · obtain ⟨v, t, b, c, rfl, _⟩ := h
    rfl
  · obtain ⟨v, t, b, c, rfl, ty, kb, kc, k⟩ := h
    refine ⟨_, pss_one (ps_ret (pe_and (pe_callB call_isi (by rfl) B.isinstance PyProof.Rows.boot_isinstance (pa_cons (pv 0) (pa_cons (pe_bltn (v := .ty "int") rfl B.int PyProof.Rows.boot_int rfl) pa_nil)))
      (pe_one (pe_not (pe_callB call_isi (by rfl) B.isinstance PyProof.Rows.boot_isinstance (pa_cons (pv 0) (pa_cons (pe_bltn (v := .ty "bool") rfl B.bool (by decide +kernel) rfl) pa_nil))))))), ?_⟩
    refine ⟨_, rfl, v, .ty "int", t, .type "int", b, rfl, .ty _, ty, kb, _, rfl, ?_⟩
    cases b with
    | false => exact iteF k
    | true => exact iteT ⟨_, rfl, v, .ty "bool", t, .type "bool", c, rfl, .ty _, ty, kc, _, rfl, k⟩
theorem scNum : FnScope ["limit", "thing"] ["limit", "thing"] (defScope sNum) := ⟨rfl, rfl, rfl, by decide +kernel, rfl, by decide +kernel, by decide +kernel⟩
theorem ok_num {f fP : Addr} {fd fdP : FuncData} (F : Fun K "is_number_below" "is_number_below" sNum f fd) (B : Bts mg) (DP : Df K mg "is_plain_int" sPlain ["thing"] fP fdP) : FnOk P w K mg base CX0 2 f fd ["limit", "thing"] (spNum K) := by
  have GP : FnOk P w K mg base CX0 1 fP fdP ["thing"] (spPlain K) := ok_plain (x := "") (st := sPlain) DP.F B
  refine F.ok scNum (fun vs H Q E h => ?_) (fun cdv A outer s H vs Q E hr h => ?_)
  · obtain ⟨n, v, rfl, _⟩ := h
    rfl
  · obtain ⟨n, v, rfl, h⟩ := h
    refine ⟨_, pss_one (ps_ret (pe_and (pe_call GP hr rfl DP.m DP.k DP.b .nil pass0 (pa_cons (pv 1) pa_nil)) (pe_one (pe_chain op_le op_lt pe_int (pv 1) (pv 0))))), ?_⟩
    rcases h with ⟨i, rfl, k⟩ | ⟨⟨t, b, c, ty, kb, kc, e⟩, k⟩
    · refine ⟨_, rfl, .int i, .type "int", true, false, rfl, .base (.int _), kInt_int, kBool_int, _, rfl, iteT ?_⟩
      refine ⟨_, rfl, _, _, rfl, rfl, _, rfl, ?_⟩
      by_cases c : (0 : Int) ≤ i
      · rw [decide_eq_true c] at k ⊢
        exact iteT ⟨_, rfl, _, _, rfl, rfl, k⟩
      · rw [decide_eq_false c] at k ⊢
        exact iteF k
    · refine ⟨_, rfl, v, t, b, c, rfl, ty, kb, kc, _, rfl, ?_⟩
      rw [e]
      exact iteF k
theorem scTie : FnScope ["many", "thing", "low", "high"] ["many", "thing"] (defScope sTie) := ⟨rfl, rfl, rfl, by decide +kernel, rfl, by decide +kernel, by decide +kernel⟩
theorem ok_tie {f fP fN : Addr} {fd fdP fdN : FuncData} (F : Fun K "is_tie" "is_tie" sTie f fd) (B : Bts mg) (DP : Df K mg "is_plain_int" sPlain ["thing"] fP fdP) (DN : Df K mg "is_number_below" sNum ["limit", "thing"] fN fdN) : FnOk P w K mg base CX0 3 f fd ["many", "thing"] spTie := by
  have GN : FnOk P w K mg base CX0 2 fN fdN ["limit", "thing"] (spNum K) := ok_num DN.F B DP
  refine F.ok scTie (fun vs H Q E h => ?_) (fun cdv A outer s H vs Q E hr h => ?_)
  · obtain ⟨m, t, a, b, rfl, _⟩ := h
    rfl
  · obtain ⟨m, t, a, b, rfl, ht, h0, h1, h2, k⟩ := h
    have nd := scTie.nd
    refine ⟨_, pss_cons (ps_if (PW.pt (pw_or (pt_not (pt_val (pe_callB call_isi (by rfl) B.isinstance PyProof.Rows.boot_isinstance (pa_cons (pv 1) (pa_cons (pe_bltn (v := .ty "tuple") rfl B.tuple PyProof.Rows.boot_tuple rfl) pa_nil)))))
        (pw_or1 (pt_cmpR op_ne (pe_callB call_len_seq (by rfl) B.len PySem.boot_len (pa_cons (pv 1) pa_nil)) pe_int (nomark _))))) pss_never pss_nil)
      (pss_cons (ps_asg (pv 1) (pg_tup rfl (pgs_cons (pg_name (i := 2) nd rfl (.inl rfl)) (pgs_cons (pg_name (i := 3) nd rfl (.inl rfl)) pgs_nil))))
      (pss_one (ps_ret (pe_and (pe_call GN hr rfl DN.m DN.k DN.b .nil pass0 (pa_cons (pv 0) (pa_cons (pv 2) pa_nil)))
        (pe_and (pe_call GN hr rfl DN.m DN.k DN.b .nil pass0 (pa_cons (pv 0) (pa_cons (pv 3) pa_nil))) (pe_one (pe_cmpR op_lt (pv 2) (pv 3) (nomark _)))))))), ?_⟩
    refine ⟨_, rfl, .ref t, .ty "tuple", .type "tuple", .type "tuple", true, rfl, .ty _, .base (.tup ht), kit_ty (by decide +kernel), _, rfl, ?_⟩
    refine iteF ⟨_, rfl, t, _, rfl, .inr (SqT.of ht), rfl, _, rfl, ?_⟩
    refine iteF ?_
    refine ⟨_, rfl, t, _, rfl, SqT.of ht, rfl, _, _, rfl, _, _, rfl, rfl, ?_⟩
    refine ⟨_, rfl, _, rfl, m, _, rfl, .inl ⟨a, rfl, ?_⟩⟩
    rw [decide_eq_true h0, decide_eq_true (show a < m by omega)]
    refine ⟨_, rfl, iteT ?_⟩
    refine ⟨_, rfl, _, rfl, m, _, rfl, .inl ⟨b, rfl, ?_⟩⟩
    rw [decide_eq_true (show 0 ≤ b by omega), decide_eq_true h2]
    refine ⟨_, rfl, iteT ?_⟩
    refine ⟨_, rfl, _, rfl, _, _, rfl, rfl, ?_⟩
    have z : Q (V.bl (decide (a < b))) H := by
      rw [decide_eq_true h1]
      exact k
    exact z
theorem not_le_of {a b c d : Int} (h : ltP [c, d] [a, b]) : Ob.lexAt (fun j => decide (([a, b] : List Int).getD j 0 = ([c, d] : List Int).getD j 0)) (fun j => decide (([a, b] : List Int).getD j 0 ≤ ([c, d] : List Int).getD j 0)) (decide (([a, b] : List Int).length ≤ ([c, d] : List Int).length)) 0 (min ([a, b] : List Int).length ([c, d] : List Int).length) = false := by
  obtain ⟨x, y, z, u, e1, e2, h⟩ := h
  simp only [List.cons.injEq, and_true] at e1 e2
  obtain ⟨rfl, rfl⟩ := e1
  obtain ⟨rfl, rfl⟩ := e2
  show (if decide (a = c) = true then (if decide (b = d) = true then decide ((2 : Nat) ≤ 2) else decide (b ≤ d)) else decide (a ≤ c)) = false
  rcases h with h | ⟨h1, h2⟩
  · rw [decide_eq_false (show ¬ a = c by omega), if_neg Bool.false_ne_true]
    exact decide_eq_false (by omega)
  · rw [decide_eq_true (show a = c by omega), if_pos rfl, decide_eq_false (show ¬ b = d by omega), if_neg Bool.false_ne_true]
    exact decide_eq_false (by omega)
/-- what stood ahead of item i -/
def ahd (L : List (Addr × List Int)) : Nat → List Int
  | 0 => []
  | i + 1 => match L[i]? with
    | some p => p.2
    | none => []
theorem TiesAt.same {m : Int} {H H' : Hp} {q : Addr} {L : List (Addr × List Int)} (h : TiesAt m H q L) (s : Same H H') : TiesAt m H' q L :=
  ⟨s _ _ h.at_, fun p hp => s _ _ (h.tup p hp), h.ok, h.asc, h.few, h.conn⟩
theorem ahd_lt {L : List (Addr × List Int)} (asc : L.Pairwise (fun x y => ltP x.2 y.2)) {i : Nat} {p : Addr × List Int} (h : L[i + 1]? = some p) : ltP (ahd L (i + 1)) p.2 := by
  have h1 := (List.getElem?_eq_some_iff.mp h).1
  have e : L[i]? = some L[i] := List.getElem?_eq_getElem (by omega)
  have e2 := (List.getElem?_eq_some_iff.mp h).2
  show ltP (match L[i]? with | some p => p.2 | none => []) p.2
  rw [e]
  have z := List.pairwise_iff_getElem.mp asc i (i + 1) (by omega) h1 (by omega)
  rw [e2] at z
  exact z
theorem scFirst : FnScope ["many", "ties", "ahead", "at", "tie"] ["many", "ties"] (defScope sFirst) := ⟨rfl, rfl, rfl, by decide +kernel, rfl, by decide +kernel, by decide +kernel⟩
theorem ok_first {f fP fN fT : Addr} {fd fdP fdN fdT : FuncData} (F : Fun K "first_wrong_tie" "first_wrong_tie" sFirst f fd) (B : Bts mg) (DP : Df K mg "is_plain_int" sPlain ["thing"] fP fdP) (DN : Df K mg "is_number_below" sNum ["limit", "thing"] fN fdN)
    (DT : Df K mg "is_tie" sTie ["many", "thing"] fT fdT) : FnOk P w K mg base CX0 4 f fd ["many", "ties"] spFirst := by
  have GT : FnOk P w K mg base CX0 3 fT fdT ["many", "thing"] spTie := ok_tie DT.F B DP DN
  refine F.ok scFirst (fun vs H Q E h => ?_) (fun cdv A outer s H vs Q E hr h => ?_)
  · obtain ⟨m, q, L, rfl, _⟩ := h
    rfl
  · obtain ⟨m, q, L, rfl, tt, k⟩ := h
    have nd := scFirst.nd
    have hu := hr.units0
    refine ⟨_, pss_cons (ps_set (i := 2) nd rfl (.inl rfl) (pe_tup pa_nil))
      (pss_cons (ps_for PassesOwn.never rfl (pi_enumT rfl B.enumerate (pa_cons (pv 1) pa_nil)) (pg_tup rfl (pgs_cons (pg_name (i := 3) nd rfl (.inl rfl)) (pgs_cons (pg_name (i := 4) nd rfl (.inl rfl)) pgs_nil)))
        (pss_cons (ps_if (PW.pt (pw_or (pt_not (pt_val (pe_call GT hr rfl DT.m DT.k DT.b .nil pass0 (pa_cons (pv 0) (pa_cons (pv 4) pa_nil))))) (pw_or1 (pt_cmpR (op_leT hu) (pv 4) (pv 2) (nomark _))))) pss_never pss_nil)
        (pss_one (ps_set (i := 2) nd rfl (.inl rfl) (pv 4)))))
      (pss_one (ps_ret pe_non))), ?_⟩
    refine ⟨Nat.zero_le _, fun ah hah => ?_⟩
    have s0 : Same H (upd H ah (.tup [])) := fun b o e => by rw [upd_ne (ne_of_none e hah)]; exact e
    refine ⟨_, rfl, q, _, rfl, SqT.of (s0 _ _ tt.at_), for_enT (a := q) (xs := L.map fun p => V.ref p.1) (fun i σ H' => ∃ ah x3 x4, σ = [some (.int m), some (.ref q), some (.ref ah), x3, x4] ∧ Same H H' ∧ H' ah = some (.tup ((ahd L i).map V.int))) ?_ ?_ ?_ ?_⟩
    · exact ⟨ah, none, none, rfl, s0, upd_same⟩
    · rintro i σ H1 hi ⟨ah, x3, x4, rfl, s1, e⟩
      exact SqT.of (s1 _ _ tt.at_)
    · rintro i x T σ H1 hx ⟨ah, x3, x4, rfl, s1, e⟩ hT
      have s2 : Same H1 (upd H1 T (.tup [.int (i : Nat), x])) := fun b o e => by rw [upd_ne (ne_of_none e hT)]; exact e
      obtain ⟨p, hp, rfl⟩ : ∃ p, L[i]? = some p ∧ V.ref p.1 = x := by
        rw [List.getElem?_map] at hx
        cases z : L[i]? with
        | none => rw [z] at hx; cases hx
        | some p => rw [z] at hx; exact ⟨p, rfl, Option.some.inj hx⟩
      have hm : p ∈ L := List.mem_of_getElem? hp
      obtain ⟨a, b, e2, a0, ab, bm⟩ := tt.ok p hm
      have ht2 := s2 _ _ (s1 _ _ (tt.tup p hm))
      refine ⟨T, _, rfl, SqT.of upd_same, rfl, _, _, rfl, _, _, rfl, rfl, ?_⟩
      have ht3 := ht2
      rw [e2] at ht3
      refine ⟨_, rfl, _, rfl, m, p.1, a, b, rfl, ht3, a0, ab, bm, _, rfl, ?_⟩
      refine iteF ⟨_, rfl, _, rfl, p.1, ah, [a, b], ahd L i, rfl, rfl, SqT.of ht3, SqT.of (s2 _ _ e), _, rfl, ?_⟩
      have fl : Ob.lexAt (fun j => decide (([a, b] : List Int).getD j 0 = (ahd L i).getD j 0)) (fun j => decide (([a, b] : List Int).getD j 0 ≤ (ahd L i).getD j 0)) (decide (([a, b] : List Int).length ≤ (ahd L i).length)) 0 (min ([a, b] : List Int).length (ahd L i).length) = false := by
        cases i with
        | zero => rfl
        | succ i =>
          have z := ahd_lt tt.asc hp
          rw [e2] at z
          have z' := z
          obtain ⟨c, d, _, _, e3, _⟩ := z'
          rw [e3] at z ⊢
          exact not_le_of z
      rw [fl]
      refine iteF ⟨_, rfl, p.1, _, _, rfl, fun b o e => s2 _ _ (s1 _ _ e), ?_⟩
      have eah : ahd L (i + 1) = p.2 := by
        show (match L[i]? with | some p => p.2 | none => []) = p.2
        rw [hp]
      rw [eah]
      exact ht2
    · rintro σ H1 ⟨ah, x3, x4, rfl, s1, e⟩
      exact k _ s1
end
end Q

/-! Ways through a graph: the mathematics, in plain Lean. -/
namespace QM
inductive Rch (G : Nat → Nat → Prop) (s : Nat) : Nat → Nat → Prop
  | zero : Rch G s 0 s
  | succ {k u v : Nat} : Rch G s k u → G u v → Rch G s (k + 1) v
def Dist (G : Nat → Nat → Prop) (s v d : Nat) : Prop := Rch G s d v ∧ ∀ e, e < d → ¬ Rch G s e v
variable {G : Nat → Nat → Prop} {s : Nat}
theorem Dist.uniq {v d e : Nat} (h : Dist G s v d) (g : Dist G s v e) : d = e := by
  rcases Nat.lt_trichotomy d e with c | c | c
  · exact absurd h.1 (g.2 d c)
  · exact c
  · exact absurd g.1 (h.2 e c)
theorem Rch.dist {v k : Nat} (h : Rch G s k v) : ∃ d, d ≤ k ∧ Dist G s v d := by
  induction k using Nat.strongRecOn with
  | _ k ih =>
    by_cases c : ∃ e, e < k ∧ Rch G s e v
    · obtain ⟨e, he, r⟩ := c
      obtain ⟨d, hd, q⟩ := ih e he r
      exact ⟨d, Nat.le_trans hd (Nat.le_of_lt he), q⟩
    · exact ⟨k, Nat.le_refl _, h, fun e he r => c ⟨e, he, r⟩⟩
theorem Dist.zero : Dist G s s 0 := ⟨.zero, fun e he => absurd he (Nat.not_lt_zero e)⟩
theorem Dist.of_zero {v : Nat} (h : Dist G s v 0) : v = s := by
  have z := h.1
  cases z
  rfl
theorem Dist.pred {v t : Nat} (h : Dist G s v (t + 1)) : ∃ u, Dist G s u t ∧ G u v := by
  have z := h.1
  cases z with
  | succ r g => exact ⟨_, ⟨r, fun e he r' => h.2 (e + 1) (by omega) (.succ r' g)⟩, g⟩
theorem Dist.next {u v t : Nat} (no : ∀ d, d ≤ t → ¬ Dist G s v d) (h : Dist G s u t) (g : G u v) : Dist G s v (t + 1) := by
  refine ⟨.succ h.1 g, fun e he r => ?_⟩
  obtain ⟨d, hd, q⟩ := r.dist
  exact no d (by omega) q
theorem Dist.chain {v d : Nat} (h : Dist G s v d) : ∀ e, e ≤ d → ∃ u, Dist G s u e := by
  induction d generalizing v with
  | zero =>
    intro e he
    obtain rfl : e = 0 := by omega
    exact ⟨v, h⟩
  | succ d ih =>
    intro e he
    by_cases c : e = d + 1
    · exact ⟨v, by rw [c]; exact h⟩
    · obtain ⟨u, hu, _⟩ := h.pred
      exact ih hu e (by omega)
theorem Rch.front {a b k : Nat} (g : G a b) {c : Nat} (h : Rch G b k c) : Rch G a (k + 1) c := by
  induction h with
  | zero => exact .succ .zero g
  | succ _ e ih => exact .succ ih e
theorem Rch.back (sym : ∀ a b, G a b → G b a) {v k : Nat} (h : Rch G s k v) : Rch G v k s := by
  induction h with
  | zero => exact .zero
  | succ _ e ih => exact Rch.front (sym _ _ e) ih
theorem Dist.back (sym : ∀ a b, G a b → G b a) {v d : Nat} (h : Dist G s v d) : Dist G v s d := ⟨h.1.back sym, fun e he r => h.2 e he (r.back sym)⟩
theorem nodup_le : ∀ (n : Nat) (l : List Nat), l.Nodup → (∀ x, x ∈ l → x < n) → l.length ≤ n
  | 0, [], _, _ => Nat.le_refl _
  | 0, x :: _, _, h => absurd (h x List.mem_cons_self) (Nat.not_lt_zero _)
  | n + 1, l, hn, h => by
    by_cases c : n ∈ l
    · have e1 := List.length_erase_of_mem c
      have z := nodup_le n (l.erase n) (hn.erase n) fun x hx => by
        have h1 := h x (List.mem_of_mem_erase hx)
        have h2 : x ≠ n := fun e => by
          rw [e] at hx
          exact (List.Nodup.not_mem_erase hn) hx
        omega
      omega
    · have z := nodup_le n l hn fun x hx => by
        have h1 := h x hx
        have h2 : x ≠ n := fun e => c (by rw [← e]; exact hx)
        omega
      omega
/-- a way's length is less than how many there are -/
theorem Dist.lt {n v d : Nat} (hs : s < n) (hG : ∀ a b, G a b → b < n) (h : Dist G s v d) : d < n := by
  have key : ∀ e, e ≤ d + 1 → ∃ l : List Nat, l.length = e ∧ l.Nodup ∧ ∀ x, x ∈ l → x < n ∧ ∃ k, k < e ∧ Dist G s x k := by
    intro e
    induction e with
    | zero => exact fun _ => ⟨[], rfl, List.nodup_nil, fun x hx => absurd hx List.not_mem_nil⟩
    | succ e ih =>
      intro he
      obtain ⟨l, hl, hn, hx⟩ := ih (by omega)
      obtain ⟨u, hu⟩ := h.chain e (by omega)
      have un : u < n := by
        cases e with
        | zero => rw [hu.of_zero]; exact hs
        | succ e =>
          obtain ⟨_, _, g⟩ := hu.pred
          exact hG _ _ g
      refine ⟨u :: l, by rw [List.length_cons, hl], List.nodup_cons.mpr ⟨fun hm => ?_, hn⟩, fun x hm => ?_⟩
      · obtain ⟨_, k, hk, q⟩ := hx u hm
        have := q.uniq hu
        omega
      · rcases List.mem_cons.mp hm with rfl | hm
        · exact ⟨un, e, by omega, hu⟩
        · obtain ⟨z1, k, hk, q⟩ := hx x hm
          exact ⟨z1, k, by omega, q⟩
  obtain ⟨l, hl, hn, hx⟩ := key (d + 1) (Nat.le_refl _)
  have z := nodup_le n l hn fun x hm => (hx x hm).1
  omega
end QM

namespace Q
open PySem L2
abbrev sBeside : Stmt := top 14
def Edge (L : List (Addr × List Int)) (i j : Int) : Prop := ∃ p ∈ L, p.2 = [i, j] ∨ p.2 = [j, i]
/-- a list at D of n lists of ints -/
structure RowsL (H : Hp) (D : Addr) (bs : List Addr) (nb : Nat → List Int) (n : Nat) : Prop where
  at_ : H D = some (.lst (bs.map V.ref))
  len : bs.length = n
  nd : bs.Nodup
  nD : D ∉ bs
  row : ∀ (i : Nat) (a : Addr), bs[i]? = some a → H a = some (.lst ((nb i).map V.int))
theorem nd_get {l : List Addr} (h : l.Nodup) {i j : Nat} {a : Addr} (h1 : l[i]? = some a) (h2 : l[j]? = some a) : i = j := by
  obtain ⟨l1, e1⟩ := List.getElem?_eq_some_iff.mp h1
  obtain ⟨l2, e2⟩ := List.getElem?_eq_some_iff.mp h2
  rcases Nat.lt_trichotomy i j with c | c | c
  · exact absurd (e1.trans e2.symm) (List.pairwise_iff_getElem.mp h i j l1 l2 c)
  · exact c
  · exact absurd (e2.trans e1.symm) (List.pairwise_iff_getElem.mp h j i l2 l1 c)
theorem RowsL.add {H : Hp} {D : Addr} {bs : List Addr} {nb : Nat → List Int} {n i : Nat} {a : Addr} {j : Int} (h : RowsL H D bs nb n) (hi : bs[i]? = some a) :
    RowsL (upd H a (.lst ((nb i).map V.int ++ [.int j]))) D bs (fun k => if k = i then nb i ++ [j] else nb k) n := by
  have hm : a ∈ bs := List.mem_of_getElem? hi
  refine ⟨by rw [upd_ne (fun e => h.nD (by rw [e]; exact hm))]; exact h.at_, h.len, h.nd, h.nD, fun k b hk => ?_⟩
  show upd H a _ b = some (.lst ((if k = i then nb i ++ [j] else nb k).map V.int))
  by_cases e : b = a
  · subst e
    have ek := nd_get h.nd hk hi
    rw [if_pos ek, upd_same, List.map_append]
    rfl
  · have nk : ¬ k = i := fun ek => by
      rw [ek, hi] at hk
      exact e (Option.some.inj hk).symm
    rw [if_neg nk, upd_ne e]
    exact h.row k b hk
/-- a tuple at r of tuples of ints: the neighbours -/
structure RowsT (H : Hp) (r : Addr) (bs : List Addr) (nb : Nat → List Int) (n : Nat) : Prop where
  at_ : H r = some (.tup (bs.map V.ref))
  len : bs.length = n
  row : ∀ (i : Nat) (a : Addr), bs[i]? = some a → H a = some (.tup ((nb i).map V.int))
theorem RowsT.same {H H' : Hp} {r : Addr} {bs : List Addr} {nb : Nat → List Int} {n : Nat} (h : RowsT H r bs nb n) (s : Same H H') : RowsT H' r bs nb n := ⟨s _ _ h.at_, h.len, fun i a e => s _ _ (h.row i a e)⟩
def NbOf (L : List (Addr × List Int)) (n : Nat) (nb : Nat → List Int) : Prop := ∀ (i : Nat), i < n → ∀ j : Int, j ∈ nb i ↔ Edge L (i : Int) j
theorem sNew {H H1 : Hp} {p : Addr} {o : HO} (s : Same H H1) (n : H p = none) : Same H (upd H1 p o) := fun b u e => by
  rw [upd_ne (ne_of_none e n)]; exact s b u e
theorem sNew' {H H1 : Hp} {p : Addr} {o : HO} (s : Same H H1) (n : H1 p = none) : Same H (upd H1 p o) := fun b u e => by
  rw [upd_ne (ne_of_none (s b u e) n)]; exact s b u e
theorem sNo {H H1 : Hp} {p : Addr} (s : Same H H1) (n : H1 p = none) : H p = none := by
  cases e : H p with
  | none => rfl
  | some o =>
    rw [s _ _ e] at n
    cases n
/-- the rows ascend -/
def NbA (n : Nat) (nb : Nat → List Int) : Prop := ∀ i : Nat, i < n → (nb i).Pairwise (· < ·)
theorem asc_sort {l : List Int} (h : l.Pairwise (· ≤ ·)) (n : l.Nodup) : l.Pairwise (· < ·) := by
  induction l with
  | nil => exact .nil
  | cons a r ih =>
    rw [List.pairwise_cons] at h ⊢
    rw [List.nodup_cons] at n
    refine ⟨fun y hy => ?_, ih h.2 n.2⟩
    have := h.1 y hy
    have ne : a ≠ y := fun e => n.1 (by rw [e]; exact hy)
    omega
theorem asc_uniq : ∀ {l r : List Int}, l.Pairwise (· < ·) → r.Pairwise (· < ·) → (∀ j, j ∈ l ↔ j ∈ r) → l = r
  | [], [], _, _, _ => rfl
  | [], b :: _, _, _, h => absurd ((h b).mpr List.mem_cons_self) List.not_mem_nil
  | a :: _, [], _, _, h => absurd ((h a).mp List.mem_cons_self) List.not_mem_nil
  | a :: l, b :: r, h1, h2, h => by
    rw [List.pairwise_cons] at h1 h2
    have ha := (h a).mp List.mem_cons_self
    have hb := (h b).mpr List.mem_cons_self
    have e : a = b := by
      rcases List.mem_cons.mp ha with e | ha
      · exact e
      · rcases List.mem_cons.mp hb with e | hb
        · exact e.symm
        · have := h2.1 a ha
          have := h1.1 b hb
          omega
    subst e
    rw [asc_uniq h1.2 h2.2 fun j => ?_]
    constructor
    · intro hj
      rcases List.mem_cons.mp ((h j).mp (List.mem_cons_of_mem _ hj)) with e | z
      · have := h1.1 j hj
        omega
      · exact z
    · intro hj
      rcases List.mem_cons.mp ((h j).mpr (List.mem_cons_of_mem _ hj)) with e | z
      · have := h2.1 j hj
        omega
      · exact z
def spBeside : Sp := fun vs H Q _ => ∃ (m : Int) (q : Addr) (L : List (Addr × List Int)), vs = [.int m, .ref q] ∧ 1 ≤ m ∧ m ≤ 40 ∧ TiesN m H q L ∧ ∀ (r : Addr) (bs : List Addr) (nb : Nat → List Int) (H' : Hp), RowsT H' r bs nb m.toNat → NbOf L m.toNat nb → NbA m.toNat nb → Same H H' → Q (.ref r) H'
theorem get_cast {ns : List V} {i : Int} {v : V} (h0 : 0 ≤ i) (h : ns[i.toNat]? = some v) : atI ns i = some v := by
  have z := atI_nat h
  rw [Int.toNat_of_nonneg h0] at z
  exact z
theorem map_get {l : List Addr} {i : Nat} {a : Addr} (h : l[i]? = some a) : (l.map V.ref)[i]? = some (V.ref a) := by
  rw [List.getElem?_map, h]
  rfl
theorem map_inv {α : Type} {f : α → V} {l : List α} {i : Nat} {v : V} (h : (l.map f)[i]? = some v) : ∃ a, l[i]? = some a ∧ v = f a := by
  rw [List.getElem?_map] at h
  cases e : l[i]? with
  | none => rw [e] at h; cases h
  | some a => rw [e] at h; exact ⟨a, rfl, (Option.some.inj h).symm⟩
theorem take_succ_mem {α : Type} {l : List α} {k : Nat} {x y : α} (h : l[k]? = some x) : y ∈ l.take (k + 1) ↔ y ∈ l.take k ∨ y = x := by
  rw [List.take_succ, h]
  simp
def rTupO (K : PySem.W.Frag) : List V → Hp → VK → Prop := fun xs H Q => ∃ (p : Addr) (ys : List V), xs = [.ref p] ∧ ((SqL K H p ys ∧ ∀ l, H l = none → Q (.ref l) (upd H l (.tup ys))) ∨ (SqT K H p ys ∧ Q (.ref p) H))
theorem cr_tupO {X : Cx} : CallR X (.type "tuple") (rTupO X.K) := call_tuple_of
section
variable {P : Program} {w : World} {K : PySem.W.Frag} {mg : Str → Option Value} {base : Heap}
theorem scBeside : FnScope ["many", "ties", "beside", "low", "high", "_", "houses"] ["many", "ties"] (defScope sBeside) := ⟨rfl, rfl, rfl, by decide +kernel, rfl, by decide +kernel, by decide +kernel⟩
theorem ok_beside {f : Addr} {fd : FuncData} (F : Fun K "houses_beside" "houses_beside" sBeside f fd) (B : Bts mg) : FnOk P w K mg base CX0 1 f fd ["many", "ties"] spBeside := by
  refine F.ok scBeside (fun vs H Q E h => ?_) (fun cdv A outer s H vs Q E hr h => ?_)
  · obtain ⟨m, q, L, rfl, _⟩ := h
    rfl
  · obtain ⟨m, q, L, rfl, m1, m40, tt, k⟩ := h
    have nd := scBeside.nd
    refine ⟨_, pss_cons (ps_setLc (i := 2) (own := [("_", 5)]) (g := gName 5) (tt := tYes) rfl nd rfl rfl (sw_true rfl rfl rfl (by decide +kernel)) (pi_range1 rfl B.range (pa_cons (pv 0) pa_nil))
        (blkOk_by (N := ["many", "ties", "beside", "low", "high", "_", "houses"]) (sc := defScope sBeside) (by decide +kernel)) (fun _ _ _ _ _ => pg_name (i := 5) nd rfl (.inl rfl)) (fun _ _ _ _ _ => pts_nil) (fun _ _ _ _ _ => pe_lst pa_nil))
      (pss_cons (ps_for PassesOwn.never rfl (pi_tup (pv 1)) (pg_tup rfl (pgs_cons (pg_name (i := 3) nd rfl (.inl rfl)) (pgs_cons (pg_name (i := 4) nd rfl (.inl rfl)) pgs_nil)))
        (pss_cons (ps_expr (pe_bm PySem.F.plainAttrs_list PySem.F.slot_list_append PySem.F.type_list_append mt_append (pe_ix ix_list (pv 2) (pv 3) (fun _ _ => rfl)) (pa_cons (pv 4) pa_nil)))
        (pss_one (ps_expr (pe_bm PySem.F.plainAttrs_list PySem.F.slot_list_append PySem.F.type_list_append mt_append (pe_ix ix_list (pv 2) (pv 4) (fun _ _ => rfl)) (pa_cons (pv 3) pa_nil))))))
      (pss_one (ps_ret (pe_callTy call_tuple_of (by rfl) B.tuple PyProof.Rows.boot_tuple (pa_cons (pe_lc (own := [("houses", 6)]) (g := gName 6) (tt := tYes) rfl nd (pi_list (pv 2))
        (blkOk_by (N := ["many", "ties", "beside", "low", "high", "_", "houses"]) (sc := defScope sBeside) (by decide +kernel)) (fun _ _ _ _ _ => pg_name (i := 6) nd rfl (.inl rfl)) (fun _ _ _ _ _ => pts_nil)
        (fun _ _ _ _ _ => pe_callTy (r := rTupO K) cr_tupO (by rfl) B.tuple PyProof.Rows.boot_tuple (pa_cons (pe_callB (r := rSorted K) cr_sorted (by rfl) B.sorted PyProof.Rows.boot_sorted (pa_cons (pv 6) pa_nil)) pa_nil))) pa_nil))))), ?_⟩
    -- beside = [[] for _ in range(many)]
    refine ⟨_, rfl, m, rfl, by omega, by omega, fun D hD => lc_range (lo := 0) (n := m.toNat) (fun i H' => ∃ bs : List Addr, H' D = some (.lst (bs.map V.ref)) ∧ bs.length = i ∧ bs.Nodup ∧ D ∉ bs ∧ (∀ a ∈ bs, H' a = some (.lst []) ∧ H a = none) ∧ Same H H') ?_ ?_ ?_⟩
    · exact ⟨[], upd_same, rfl, List.nodup_nil, List.not_mem_nil, fun a ha => absurd ha List.not_mem_nil, sNew (fun _ _ e => e) hD⟩
    · rintro i H1 hi ⟨bs, e1, hl, hn, hd, hb, s1⟩
      refine ⟨rfl, Nat.zero_le _, fun a ha => ?_⟩
      have nDa : D ≠ a := ne_of_none e1 ha
      have ea : upd H1 a (.lst []) D = some (.lst (bs.map V.ref)) := by rw [upd_ne nDa]; exact e1
      have na : a ∉ bs := fun hm => by
        rw [(hb a hm).1] at ha
        cases ha
      refine ⟨_, ea, ?_, bs ++ [a], ?_, ?_, ?_, ?_, ?_, ?_⟩
      · rw [List.length_map, hl]
        exact Nat.lt_of_lt_of_le (m := 64) (by omega) (by decide)
      · rw [upd_same, List.map_append]
        rfl
      · rw [List.length_append, hl]
        rfl
      · exact nd_snoc hn na
      · intro hm
        rcases List.mem_append.mp hm with hm | hm
        · exact hd hm
        · exact nDa (List.mem_singleton.mp hm)
      · intro b hm
        rcases List.mem_append.mp hm with hm | hm
        · refine ⟨?_, (hb b hm).2⟩
          rw [upd_ne (fun e => hd (by rw [← e]; exact hm)), upd_ne (fun e => na (by rw [← e]; exact hm))]
          exact (hb b hm).1
        · obtain rfl := List.mem_singleton.mp hm
          refine ⟨?_, sNo s1 ha⟩
          rw [upd_ne nDa.symm, upd_same]
      · exact sNew (sNew' s1 ha) hD
    · rintro H1 ⟨bs, e1, hl, hn, hd, hb, s1⟩
      have r1 : RowsL H1 D bs (fun _ => []) m.toNat := ⟨e1, hl, hn, hd, fun i a hi => (hb a (List.mem_of_getElem? hi)).1⟩
      have hfr : ∀ a ∈ bs, H a = none := fun a ha => (hb a ha).2
      clear e1 hl hn hd hb
      refine ⟨_, rfl, q, rfl, ⟨_, SqT.of (s1 _ _ tt.at_)⟩, for_tup (K := K) (a := q) (xs := L.map fun p => V.ref p.1) (fun k σ H' => ∃ x3 x4 nb, σ = [some (.int m), some (.ref q), some (.ref D), x3, x4, none, none] ∧ RowsL H' D bs nb m.toNat ∧ (∀ i : Nat, i < m.toNat → ∀ j : Int, j ∈ nb i ↔ Edge (L.take k) (i : Int) j) ∧ (∀ i, (nb i).length ≤ k) ∧ (∀ i, (nb i).Nodup) ∧ Same H H') ?_ ?_ ?_ ?_⟩
      · exact ⟨none, none, _, rfl, r1, fun i hi j => ⟨fun h => absurd h List.not_mem_nil, fun ⟨p, hp, _⟩ => absurd hp (by simp)⟩, fun i => Nat.le_refl _, fun i => List.nodup_nil, s1⟩
      · rintro k σ H2 hk ⟨x3, x4, nb, rfl, r2, he, hlen, hnod, s2⟩
        exact SqT.of (s2 _ _ tt.at_)
      · rintro k x σ H2 hx ⟨x3, x4, nb, rfl, r2, he, hlen, hnod, s2⟩
        obtain ⟨p, hp, rfl⟩ := map_inv hx
        have hk64 : k < 1000 := Nat.lt_of_lt_of_le (List.getElem?_eq_some_iff.mp hp).1 (Nat.le_of_lt tt.few)
        obtain ⟨a, b, e2, a0, ab, bm⟩ := tt.ok p (List.mem_of_getElem? hp)
        have ht := s2 _ _ (tt.tup p (List.mem_of_getElem? hp))
        rw [e2] at ht
        have la : a.toNat < bs.length := by rw [r2.len]; omega
        have lb : b.toNat < bs.length := by rw [r2.len]; omega
        have ga : bs[a.toNat]? = some bs[a.toNat] := List.getElem?_eq_getElem la
        have gb : bs[b.toNat]? = some bs[b.toNat] := List.getElem?_eq_getElem lb
        refine ⟨p.1, _, rfl, SqT.of ht, rfl, _, _, rfl, _, _, rfl, rfl, ?_⟩
        have ra := r2.row _ _ ga
        refine ⟨_, rfl, _, rfl, D, _, a, _, rfl, rfl, SqL.of r2.at_, get_cast a0 (map_get ga), .inl ⟨rfl, _, SqL.of ra⟩, _, rfl, bs[a.toNat], _, _, rfl, rfl, ra, ?_, ?_⟩
        · rw [List.length_map]
          exact Nat.lt_of_le_of_lt (hlen _) (Nat.lt_of_lt_of_le hk64 (by decide))
        · have r3 := r2.add (j := b) ga
          have rb := r3.row _ _ gb
          have nab : ¬ b.toNat = a.toNat := by omega
          rw [if_neg nab] at rb
          refine ⟨_, rfl, _, rfl, D, _, b, _, rfl, rfl, SqL.of r3.at_, get_cast (by omega) (map_get gb), .inl ⟨rfl, _, SqL.of rb⟩, _, rfl, bs[b.toNat], _, _, rfl, rfl, rb, ?_, ?_⟩
          · rw [List.length_map]
            exact Nat.lt_of_le_of_lt (hlen _) (Nat.lt_of_lt_of_le hk64 (by decide))
          · have r4 := r3.add (j := a) gb
            simp only [if_neg nab] at r4
            refine ⟨_, _, _, rfl, r4, ?_, ?_, ?nod, ?_⟩
            · intro i hi j
              have hz := he i hi j
              show j ∈ (if i = b.toNat then nb b.toNat ++ [a] else if i = a.toNat then nb a.toNat ++ [b] else nb i) ↔ _
              have ste : Edge (L.take (k + 1)) (i : Int) j ↔ Edge (L.take k) (i : Int) j ∨ (((i : Int) = a ∧ j = b) ∨ ((i : Int) = b ∧ j = a)) := by
                constructor
                · rintro ⟨y, hy, e⟩
                  rcases (take_succ_mem hp).mp hy with hy | rfl
                  · exact .inl ⟨y, hy, e⟩
                  · rw [e2] at e
                    simp only [List.cons.injEq, and_true] at e
                    omega
                · rintro (⟨y, hy, e⟩ | h)
                  · exact ⟨y, (take_succ_mem hp).mpr (.inl hy), e⟩
                  · refine ⟨p, (take_succ_mem hp).mpr (.inr rfl), ?_⟩
                    rw [e2]
                    simp only [List.cons.injEq, and_true]
                    omega
              rw [ste, ← hz]
              by_cases c1 : i = b.toNat
              · rw [if_pos c1, c1, List.mem_append, List.mem_singleton]
                constructor
                · rintro (h | h)
                  · exact .inl h
                  · exact .inr (.inr ⟨by omega, h⟩)
                · rintro (h | ⟨h, _⟩ | ⟨_, h⟩)
                  · exact .inl h
                  · omega
                  · exact .inr h
              · rw [if_neg c1]
                by_cases c2 : i = a.toNat
                · rw [if_pos c2, c2, List.mem_append, List.mem_singleton]
                  constructor
                  · rintro (h | h)
                    · exact .inl h
                    · exact .inr (.inl ⟨by omega, h⟩)
                  · rintro (h | ⟨_, h⟩ | ⟨h, _⟩)
                    · exact .inl h
                    · exact .inr h
                    · omega
                · rw [if_neg c2]
                  constructor
                  · exact .inl
                  · rintro (h | ⟨h, _⟩ | ⟨h, _⟩)
                    · exact h
                    · omega
                    · omega
            · intro i
              show (if i = b.toNat then nb b.toNat ++ [a] else if i = a.toNat then nb a.toNat ++ [b] else nb i).length ≤ k + 1
              have l1 := hlen i
              have l2 := hlen a.toNat
              have l3 := hlen b.toNat
              split
              · rw [List.length_append, List.length_singleton]; omega
              · split
                · rw [List.length_append, List.length_singleton]; omega
                · omega
            case nod =>
              have fresh : ∀ {u v : Int}, (([u, v] : List Int) = [a, b] ∨ ([u, v] : List Int) = [b, a]) → 0 ≤ u → u < m → v ∉ nb u.toNat := fun {u v} huv u0 um hv => by
                obtain ⟨y, hy, e⟩ := (he u.toNat (by omega) v).mp hv
                rw [Int.toNat_of_nonneg u0] at e
                have hlt : ltP y.2 p.2 := by
                  obtain ⟨j, hj, ej⟩ := List.mem_take_iff_getElem.mp hy
                  have hkl := (List.getElem?_eq_some_iff.mp hp)
                  obtain ⟨hkl, ek⟩ := hkl
                  have z := List.pairwise_iff_getElem.mp tt.asc j k (by omega) hkl (by omega)
                  rw [ej, ek] at z
                  exact z
                obtain ⟨y1, y2, z1, z2, ey, ep, hz⟩ := hlt
                obtain ⟨c1, c2, ey2, _, c12, _⟩ := tt.ok y (List.mem_of_mem_take hy)
                rw [e2] at ep
                rw [ey] at e ey2
                simp only [List.cons.injEq, and_true] at e ep ey2 huv
                omega
              intro i
              show (if i = b.toNat then nb b.toNat ++ [a] else if i = a.toNat then nb a.toNat ++ [b] else nb i).Nodup
              have nda : (nb b.toNat ++ [a]).Nodup := nd_snoc (hnod _) (fresh (.inr rfl) (by omega) (by omega))
              have ndb : (nb a.toNat ++ [b]).Nodup := nd_snoc (hnod _) (fresh (.inl rfl) (by omega) (by omega))
              split
              · exact nda
              · split
                · exact ndb
                · exact hnod i
            · intro y o e
              have za := hfr _ (List.mem_of_getElem? ga)
              have zb := hfr _ (List.mem_of_getElem? gb)
              rw [upd_ne (ne_of_none e zb), upd_ne (ne_of_none e za)]
              exact s2 y o e
      · rintro σ H2 ⟨x3, x4, nb, rfl, r2, he, hlen, hnod, s2⟩
        rw [List.length_map] at he hlen
        rw [List.take_length] at he
        have nbl : ∀ i, i < m.toNat → (nb i).length ≤ 40 := fun i hi => by
          have inr : ∀ x ∈ nb i, 0 ≤ x ∧ x < m := fun x hx => by
            obtain ⟨p, hp, e⟩ := (he i hi x).mp hx
            obtain ⟨a, b, e2, h0, h1, h2⟩ := tt.ok p hp
            rw [e2] at e
            simp only [List.cons.injEq, and_true] at e
            omega
          have z := QM.nodup_le 40 ((nb i).map Int.toNat) (by
            refine List.pairwise_map.mpr ((hnod i).imp_of_mem fun {a b'} ha hb c e => ?_)
            have h1 := inr a ha
            have h2 := inr b' hb
            exact c (by omega)) fun x hx => by
            obtain ⟨y, hy, rfl⟩ := List.mem_map.mp hx
            have := inr y hy
            omega
          rw [List.length_map] at z
          exact z
        refine ⟨_, rfl, D, rfl, ⟨_, SqL.of r2.at_⟩, fun D2 hD2 => lc_list (K := K) (a := D) (xs := bs.map V.ref) (fun k H' => ∃ (ts : List Addr) (rs : Nat → List Int), H' D2 = some (.lst (ts.map V.ref)) ∧ ts.length = k ∧ (∀ (i : Nat) (a : Addr), ts[i]? = some a → H' a = some (.tup ((rs i).map V.int)) ∧ (rs i).Perm (nb i) ∧ (rs i).Pairwise (· ≤ ·)) ∧ Same H2 H') ?_ ?_ ?_ ?_⟩
        · exact ⟨[], fun _ => [], upd_same, rfl, fun i a h => by simp at h, sNew (fun _ _ e => e) hD2⟩
        · rintro i H3 hi ⟨ts, rs, e1, hl, hr, s3⟩
          exact SqL.of (s3 _ _ r2.at_)
        · rintro i x H3 hx ⟨ts, rs, e1, hl, hrw, s3⟩
          obtain ⟨a, ha, rfl⟩ := map_inv hx
          refine ⟨rfl, ?_⟩
          refine ⟨_, rfl, a, nb i, rfl, SqL.of (s3 _ _ (r2.row i a ha)), Nat.lt_of_le_of_lt (nbl i (by rw [← r2.len]; exact (List.getElem?_eq_some_iff.mp ha).1)) (by decide), fun ns p pm pw hp => ?_⟩
          refine ⟨p, _, rfl, .inl ⟨SqL.of upd_same, fun t ht => ?_⟩⟩
          have hil : i < bs.length := (List.getElem?_eq_some_iff.mp ha).1
          have ntp : t ≠ p := fun e => by rw [e, upd_same] at ht; cases ht
          have ht3 : H3 t = none := by
            have z := ht
            rw [upd_ne ntp] at z
            exact z
          have nD2p : D2 ≠ p := ne_of_none e1 hp
          have nD2t : D2 ≠ t := ne_of_none e1 ht3
          refine ⟨ts.map V.ref, ?_, ?_, ts ++ [t], fun k => if k = i then ns else rs k, ?_, ?_, ?_, ?_⟩
          · rw [upd_ne nD2t, upd_ne nD2p]
            exact e1
          · rw [List.length_map, hl]
            refine Nat.lt_of_lt_of_le (m := 64) ?_ (by decide)
            rw [r2.len] at hil
            omega
          · rw [upd_same, List.map_append]
            rfl
          · rw [List.length_append, hl]
            rfl
          · intro k b hb
            show _ = some (HO.tup ((if k = i then ns else rs k).map V.int)) ∧ (if k = i then ns else rs k).Perm (nb k) ∧ (if k = i then ns else rs k).Pairwise (· ≤ ·)
            by_cases c : k < ts.length
            · rw [List.getElem?_append_left c] at hb
              obtain ⟨z1, z2⟩ := hrw k b hb
              rw [if_neg (by omega)]
              refine ⟨?_, z2⟩
              rw [upd_ne (ne_of z1 e1 (fun z => by cases z)), upd_ne (ne_of_none z1 ht3), upd_ne (ne_of_none z1 hp)]
              exact z1
            · rw [List.getElem?_append_right (by omega)] at hb
              have ek : k = i := by
                have z := (List.getElem?_eq_some_iff.mp hb).1
                rw [List.length_singleton] at z
                omega
              subst ek
              rw [hl, Nat.sub_self] at hb
              obtain rfl : t = b := Option.some.inj hb
              rw [if_pos rfl]
              refine ⟨?_, pm, pw⟩
              rw [upd_ne nD2t.symm, upd_same]
          · exact sNew (sNew' (sNew' s3 hp) (by rw [upd_ne ntp]; exact ht3)) hD2
        · rintro H3 ⟨ts, rs, e1, hl, hrw, s3⟩
          refine ⟨D2, _, rfl, .inl ⟨SqL.of e1, fun t ht => ?_⟩⟩
          have s4 : Same H3 (upd H3 t (.tup (ts.map V.ref))) := fun b o e => by rw [upd_ne (ne_of_none e ht)]; exact e
          rw [List.length_map, r2.len] at hl
          refine k t ts rs _ ⟨upd_same, hl, fun i a h => s4 _ _ (hrw i a h).1⟩ (fun i hi j => ?_) (fun i hi => ?asc) (fun b o e => s4 _ _ (s3 _ _ (s2 _ _ e)))
          case asc =>
            have hit : i < ts.length := by rw [hl]; exact hi
            obtain ⟨_, pm, pw⟩ := hrw i _ (List.getElem?_eq_getElem hit)
            exact asc_sort pw (pm.nodup_iff.mpr (hnod i))
          have hit : i < ts.length := by rw [hl]; exact hi
          have pm := (hrw i _ (List.getElem?_eq_getElem hit)).2.1
          rw [pm.mem_iff]
          exact he i hi j
end
end Q

namespace Q
open PySem L2 QM
abbrev sSteps : Stmt := top 15
def nI (v : Nat) : V := .int (v : Int)
def nn (cs : List V) : Nat := cs.countP fun v => decide (v = .non)
theorem nn_set : ∀ {cs : List V} {v : Nat} {z : Int}, cs[v]? = some .non → nn (cs.set v (.int z)) + 1 = nn cs
  | [], _, _, h => by simp at h
  | c :: r, 0, z, h => by
    have e : c = .non := Option.some.inj h
    subst e
    show (V.int z :: r).countP _ + 1 = (V.non :: r).countP _
    rw [List.countP_cons_of_neg (by simp), List.countP_cons_of_pos (by simp)]
  | c :: r, v + 1, z, h => by
    have ih := nn_set (cs := r) (v := v) (z := z) h
    show (c :: r.set v (V.int z)).countP _ + 1 = (c :: r).countP _
    unfold nn at ih
    rw [List.countP_cons, List.countP_cons, ← ih]
    omega
section
variable {G : Nat → Nat → Prop} {s n t : Nat}
structure Lev (G : Nat → Nat → Prop) (s n t : Nat) (cs : List V) : Prop where
  len : cs.length = n
  cell : ∀ v, v < n → (∃ d, d ≤ t ∧ cs[v]? = some (nI d) ∧ Dist G s v d) ∨ (cs[v]? = some .non ∧ ∀ d, d ≤ t → ¬ Dist G s v d)
structure Mid (G : Nat → Nat → Prop) (s n t : Nat) (Dn : Nat → Prop) (N0 : Nat) (cs : List V) (cm : List Nat) : Prop where
  len : cs.length = n
  cell : ∀ v, v < n → (∃ d, d ≤ t ∧ cs[v]? = some (nI d) ∧ Dist G s v d) ∨ (cs[v]? = some (nI (t + 1)) ∧ Dist G s v (t + 1) ∧ v ∈ cm) ∨ (cs[v]? = some .non ∧ (∀ d, d ≤ t → ¬ Dist G s v d) ∧ ¬ Dn v)
  cmok : ∀ x, x ∈ cm → x < n ∧ Dist G s x (t + 1)
  cnt : nn cs + cm.length = N0
/-- all ways found -/
structure Cells (G : Nat → Nat → Prop) (s n : Nat) (cs : List V) : Prop where
  len : cs.length = n
  cell : ∀ v, v < n → (∃ d, cs[v]? = some (nI d) ∧ Dist G s v d) ∨ (cs[v]? = some .non ∧ ∀ d, ¬ Dist G s v d)
theorem Mid.mono {Dn Dn' : Nat → Prop} {N0 : Nat} {cs : List V} {cm : List Nat} (h : Mid G s n t Dn N0 cs cm) (k : ∀ v, v < n → Dn' v → Dn v) : Mid G s n t Dn' N0 cs cm :=
  ⟨h.len, fun v hv => by
    rcases h.cell v hv with a | a | ⟨a, b, c⟩
    · exact .inl a
    · exact .inr (.inl a)
    · exact .inr (.inr ⟨a, b, fun d => c (k v hv d)⟩), h.cmok, h.cnt⟩
theorem Mid.start {cs : List V} (h : Lev G s n t cs) : Mid G s n t (fun _ => False) (nn cs) cs [] :=
  ⟨h.len, fun v hv => by
    rcases h.cell v hv with a | ⟨a, b⟩
    · exact .inl a
    · exact .inr (.inr ⟨a, b, id⟩), fun x hx => absurd hx List.not_mem_nil, rfl⟩
theorem Mid.house {Dn : Nat → Prop} {N0 u : Nat} {cs : List V} {cm : List Nat} (h : Mid G s n t Dn N0 cs cm) (hu : u < n) (d : Dist G s u t) : cs[u]? = some (nI t) := by
  rcases h.cell u hu with ⟨e, _, a, b⟩ | ⟨_, b, _⟩ | ⟨_, b, _⟩
  · rw [d.uniq b]; exact a
  · have := d.uniq b
    omega
  · exact absurd d (b t (Nat.le_refl _))
theorem Mid.skip {Dn : Nat → Prop} {N0 v : Nat} {cs : List V} {cm : List Nat} {c : V} (h : Mid G s n t Dn N0 cs cm) (hc : cs[v]? = some c) (ne : c ≠ .non) : Mid G s n t (fun x => Dn x ∨ x = v) N0 cs cm :=
  ⟨h.len, fun x hx => by
    rcases h.cell x hx with a | a | ⟨a, b, k⟩
    · exact .inl a
    · exact .inr (.inl a)
    · refine .inr (.inr ⟨a, b, ?_⟩)
      rintro (z | z)
      · exact k z
      · rw [z, hc] at a
        exact ne (Option.some.inj a), h.cmok, h.cnt⟩
theorem Mid.more {Dn : Nat → Prop} {N0 u v : Nat} {cs : List V} {cm : List Nat} (h : Mid G s n t Dn N0 cs cm) (hv : v < n) (hc : cs[v]? = some .non) (d : Dist G s u t) (g : G u v) :
    Mid G s n t (fun x => Dn x ∨ x = v) N0 (cs.set v (nI (t + 1))) (cm ++ [v]) := by
  have hl : v < cs.length := by rw [h.len]; exact hv
  have no : ∀ d, d ≤ t → ¬ Dist G s v d := by
    rcases h.cell v hv with ⟨_, _, a, _⟩ | ⟨a, _⟩ | ⟨_, b, _⟩
    · rw [hc] at a; cases a
    · rw [hc] at a; cases a
    · exact b
  have dv : Dist G s v (t + 1) := Dist.next no d g
  refine ⟨by rw [List.length_set]; exact h.len, fun x hx => ?_, fun x hx => ?_, ?_⟩
  · by_cases e : v = x
    · subst e
      rw [List.getElem?_set_self hl]
      exact .inr (.inl ⟨rfl, dv, List.mem_append_right _ (List.mem_singleton.mpr rfl)⟩)
    · rw [List.getElem?_set_ne e]
      rcases h.cell x hx with a | ⟨a, b, c⟩ | ⟨a, b, k⟩
      · exact .inl a
      · exact .inr (.inl ⟨a, b, List.mem_append_left _ c⟩)
      · exact .inr (.inr ⟨a, b, fun z => z.elim k fun z => e z.symm⟩)
  · rcases List.mem_append.mp hx with hx | hx
    · exact h.cmok x hx
    · rw [List.mem_singleton.mp hx]
      exact ⟨hv, dv⟩
  · have z := nn_set (z := ((t + 1 : Nat) : Int)) hc
    have c := h.cnt
    rw [List.length_append, List.length_singleton]
    have e : nn (cs.set v (nI (t + 1))) = nn (cs.set v (.int ((t + 1 : Nat) : Int))) := rfl
    omega
theorem Mid.fin {Dn : Nat → Prop} {N0 : Nat} {cs : List V} {cm : List Nat} (h : Mid G s n t Dn N0 cs cm) (hG : ∀ a b, G a b → b < n) (all : ∀ u v, Dist G s u t → G u v → Dn v) :
    Lev G s n (t + 1) cs ∧ ∀ x, Dist G s x (t + 1) → x ∈ cm := by
  have key : ∀ v, v < n → Dist G s v (t + 1) → cs[v]? = some (nI (t + 1)) ∧ v ∈ cm := by
    intro v hv d
    rcases h.cell v hv with ⟨e, he, _, b⟩ | ⟨a, _, c⟩ | ⟨_, _, k⟩
    · have := d.uniq b
      omega
    · exact ⟨a, c⟩
    · obtain ⟨u, hu, g⟩ := d.pred
      exact absurd (all u v hu g) k
  refine ⟨⟨h.len, fun v hv => ?_⟩, fun x d => ?_⟩
  · rcases h.cell v hv with ⟨e, he, a, b⟩ | ⟨a, b, _⟩ | ⟨a, b, _⟩
    · exact .inl ⟨e, by omega, a, b⟩
    · exact .inl ⟨t + 1, Nat.le_refl _, a, b⟩
    · refine .inr ⟨a, fun d hd q => ?_⟩
      by_cases c : d ≤ t
      · exact b d c q
      · obtain rfl : d = t + 1 := by omega
        have z := (key v hv q).1
        rw [a] at z
        cases z
  · obtain ⟨u, hu, g⟩ := d.pred
    exact (key x (hG u x g) d).2
theorem Lev.all {cs : List V} (h : Lev G s n t cs) (no : ∀ x, ¬ Dist G s x t) : Cells G s n cs :=
  ⟨h.len, fun v hv => by
    rcases h.cell v hv with ⟨d, _, a, b⟩ | ⟨a, b⟩
    · exact .inl ⟨d, a, b⟩
    · refine .inr ⟨a, fun d q => ?_⟩
      by_cases c : d ≤ t
      · exact b d c q
      · obtain ⟨u, hu⟩ := q.chain t (by omega)
        exact no u hu⟩
theorem lev_zero (hs : s < n) : Lev G s n 0 ((List.replicate n V.non).set s (nI 0)) := by
  refine ⟨by rw [List.length_set, List.length_replicate], fun v hv => ?_⟩
  by_cases e : s = v
  · subst e
    rw [List.getElem?_set_self (by rw [List.length_replicate]; exact hs)]
    exact .inl ⟨0, Nat.le_refl _, rfl, .zero⟩
  · rw [List.getElem?_set_ne e, List.getElem?_replicate, if_pos hv]
    refine .inr ⟨rfl, fun d hd q => ?_⟩
    obtain rfl : d = 0 := by omega
    exact e q.of_zero.symm
end

def NbG (G : Nat → Nat → Prop) (n : Nat) (nb : Nat → List Int) : Prop := ∀ i, i < n → ∀ j : Int, j ∈ nb i ↔ ∃ v : Nat, j = (v : Int) ∧ G i v
def spSteps : Sp := fun vs H Q _ => ∃ (r : Addr) (bs : List Addr) (nb : Nat → List Int) (n : Nat) (G : Nat → Nat → Prop) (st : Nat), vs = [.ref r, .int (st : Int)] ∧ RowsT H r bs nb n ∧ n ≤ 40 ∧ st < n ∧ NbG G n nb ∧ (∀ a b, G a b → b < n) ∧
  ∀ (p : Addr) (cs : List V) (H' : Hp), H' p = some (.lst cs) → Cells G st n cs → Same H H' → Q (.ref p) H'
theorem ixN_nat {N v : Nat} (h : v < N) : ixN N (v : Int) = some v := by
  unfold ixN
  rw [if_pos (Int.natCast_nonneg v), if_pos (by omega), Int.toNat_natCast]
/-- between two turns of the waves -/
def stW (H : Hp) (r sp : Addr) (G : Nat → Nat → Prop) (st n m : Nat) (σ : L2.St) (H' : Hp) : Prop := ∃ (t : Nat) (re : Addr) (rs : List Nat) (cs : List V) (x4 x5 x6 : Option V),
  σ = [some (.ref r), some (.int (st : Int)), some (.ref sp), some (.ref re), x4, x5, x6] ∧ H' sp = some (.lst cs) ∧ H' re = some (.lst (rs.map nI)) ∧ sp ≠ re ∧ Lev G st n t cs ∧
    (∀ x, x ∈ rs → x < n ∧ Dist G st x t) ∧ (∀ x, Dist G st x t → x ∈ rs) ∧ Same H H' ∧ m = nn cs + (if rs.isEmpty = true then 0 else 1)
theorem size_ok {k : Nat} (h : k ≤ 64) : k < sizeLine := Nat.lt_of_le_of_lt h (by decide)
theorem size_le {k : Nat} (h : k ≤ 64) : k ≤ sizeLine := Nat.le_trans h (by decide)
theorem nn_le (cs : List V) : nn cs ≤ cs.length := List.countP_le_length
section
variable {P : Program} {w : World} {K : PySem.W.Frag} {mg : Str → Option Value} {base : Heap}
theorem scSteps : FnScope ["beside", "start", "steps", "reached", "coming", "house", "other"] ["beside", "start"] (defScope sSteps) := ⟨rfl, rfl, rfl, by decide +kernel, rfl, by decide +kernel, by decide +kernel⟩
theorem ok_steps {f : Addr} {fd : FuncData} (F : Fun K "steps_from" "steps_from" sSteps f fd) (B : Bts mg) : FnOk P w K mg base CX0 1 f fd ["beside", "start"] spSteps := by
  refine F.ok scSteps (fun vs H Q E h => ?_) (fun cdv A outer s H vs Q E hr h => ?_)
  · obtain ⟨r, bs, nb, n, G, st, rfl, _⟩ := h
    rfl
  · obtain ⟨r, bs, nb, n, G, st, rfl, rt, n40, hst, hnb, hG, k⟩ := h
    have nd := scSteps.nd
    refine ⟨_, pss_cons (ps_set (i := 2) nd rfl (.inl rfl) (pe_op op_rep (pe_lst (pa_cons pe_non pa_nil)) (pe_callB call_len_seq (by rfl) B.len PySem.boot_len (pa_cons (pv 0) pa_nil))))
      (pss_cons (ps_asg pe_int (pg_sub (pv 2) (pv 1) set_list))
      (pss_cons (ps_set (i := 3) nd rfl (.inl rfl) (pe_lst (pa_cons (pv 1) pa_nil)))
      (pss_cons (ps_while PassesOwn.never (pt_truth (pv 3) (fun _ => rfl))
        (pss_cons (ps_set (i := 4) nd rfl (.inl rfl) (pe_lst pa_nil))
        (pss_cons (ps_for PassesOwn.never rfl (pi_list (pv 3)) (pg_name (i := 5) nd rfl (.inl rfl))
          (pss_one (ps_for PassesOwn.never rfl (pi_tup (pe_ix ix_tup (pv 0) (pv 5) (fun _ _ => rfl))) (pg_name (i := 6) nd rfl (.inl rfl))
            (pss_one (ps_if (pt_cmp (pc_isN (pe_ix ix_list (pv 2) (pv 6) (fun _ _ => rfl))))
              (pss_cons (ps_asg (pe_op op_add (pe_ix ix_list (pv 2) (pv 5) (fun _ _ => rfl)) pe_int) (pg_sub (pv 2) (pv 6) set_list))
              (pss_one (ps_expr (pe_bm PySem.F.plainAttrs_list PySem.F.slot_list_append PySem.F.type_list_append mt_append (pv 4) (pa_cons (pv 6) pa_nil))))) pss_nil)))))
        (pss_one (ps_set (i := 3) nd rfl (.inl rfl) (pv 4))))))
      (pss_one (ps_ret (pv 2)))))), ?_⟩
    -- steps = [None] * len(beside); steps[start] = 0; reached = [start]
    refine ⟨(by show 1 ≤ sizeLine; decide), fun l hl => ?_⟩
    have sl : Same H (upd H l (.lst [.non])) := sNew (fun _ _ e => e) hl
    have el : (bs.map V.ref).length = n := by rw [List.length_map, rt.len]
    refine ⟨_, rfl, r, _, rfl, .inr (SqT.of (sl _ _ rt.at_)), l, _, _, rfl, rfl, upd_same, ?_, ?_, ?_, fun sp hsp => ?_⟩
    · omega
    · rw [el]; omega
    · rw [el]; exact size_le (by show 1 * (n : Int).toNat ≤ 64; omega)
    · have hsp0 : H sp = none := sNo sl hsp
      have ef : (List.replicate (((bs.map V.ref).length : Nat) : Int).toNat [V.non]).flatten = List.replicate n V.non := by
        rw [el, Int.toNat_natCast, List.flatten_replicate_singleton]
      rw [ef]
      refine ⟨_, rfl, _, rfl, sp, _, (st : Int), st, rfl, rfl, upd_same, ixN_nat (by rw [List.length_replicate]; exact hst), ?_⟩
      refine ⟨_, rfl, (by show 1 ≤ sizeLine; decide), fun re hre => ?_⟩
      have nsr : sp ≠ re := fun e => by rw [← e, upd_same] at hre; cases hre
      have s1 : Same H (upd (upd (upd H l (.lst [.non])) sp (.lst (List.replicate n V.non))) sp (.lst ((List.replicate n V.non).set st (.int 0)))) := sNew (sNew sl hsp0) hsp0
      have hre0 : H re = none := sNo s1 hre
      refine ⟨stW H r sp G st n, ⟨_, 0, re, [st], _, none, none, none, rfl, by rw [upd_ne nsr, upd_same]; rfl, upd_same, nsr, lev_zero hst, ?_, ?_, sNew s1 hre0, rfl⟩, ?_⟩
      · intro x hx
        rw [List.mem_singleton.mp hx]
        exact ⟨hst, .zero⟩
      · intro x d
        rw [d.of_zero]
        exact List.mem_singleton.mpr rfl
      · clear nsr s1 hre0 hre re ef sl hsp el
        rintro m σ H1 ⟨t, re, rs, cs, x4, x5, x6, rfl, e1, e2, nsr, lv, hin, hall, s1, em⟩
        cases hb : (!(rs.map nI).isEmpty) with
        | false =>
          have er : rs = [] := by
            cases rs with
            | nil => rfl
            | cons u v => exact absurd hb (by simp)
          subst er
          exact ⟨_, rfl, false, .inl ⟨_, SqL.of e2, rfl⟩, iteF ⟨_, rfl, k sp cs _ e1 (lv.all fun x d => absurd (hall x d) List.not_mem_nil) s1⟩⟩
        | true =>
          have er : rs.isEmpty = false := by
            cases rs with
            | nil => exact absurd hb (by simp)
            | cons u v => rfl
          rw [er, if_neg Bool.false_ne_true] at em
          refine ⟨_, rfl, true, .inl ⟨_, SqL.of e2, hb.symm⟩, iteT ⟨fun σ' H' => ∃ m', m' < m ∧ stW H r sp G st n m' σ' H', fun _ _ z => z, ?_⟩⟩
          -- coming = []
          refine ⟨Nat.zero_le _, fun co hco => ?_⟩
          have nsc : sp ≠ co := ne_of_none e1 hco
          have nrc : re ≠ co := ne_of_none e2 hco
          have hco0 : H co = none := sNo s1 hco
          refine ⟨_, rfl, re, rfl, ⟨_, SqL.of (by rw [upd_ne nrc]; exact e2)⟩, for_list (K := K) (a := re) (xs := rs.map nI) (fun i σ H' => ∃ (cs' : List V) (cm : List Nat) (x5 x6 : Option V),
            σ = [some (.ref r), some (.int (st : Int)), some (.ref sp), some (.ref re), some (.ref co), x5, x6] ∧ H' sp = some (.lst cs') ∧ H' co = some (.lst (cm.map nI)) ∧ H' re = some (.lst (rs.map nI)) ∧
              Mid G st n t (fun v => ∃ u ∈ rs.take i, G u v) (nn cs) cs' cm ∧ Same H H') ?_ ?_ ?_ ?_⟩
          · exact ⟨cs, [], x5, x6, rfl, by rw [upd_ne nsc]; exact e1, upd_same, by rw [upd_ne nrc]; exact e2, (Mid.start lv).mono (fun v hv ⟨u, hu, _⟩ => absurd hu (by simp)), sNew s1 hco0⟩
          · rintro i σ H2 hi ⟨cs', cm, y5, y6, rfl, f1, f2, f3, md, s2⟩
            exact SqL.of f3
          · rintro i x σ H2 hx ⟨cs', cm, y5, y6, rfl, f1, f2, f3, md, s2⟩
            obtain ⟨u, hu, rfl⟩ := map_inv hx
            obtain ⟨un, du⟩ := hin u (List.mem_of_getElem? hu)
            have ul : u < bs.length := by rw [rt.len]; exact un
            have gu : bs[u]? = some bs[u] := List.getElem?_eq_getElem ul
            refine ⟨_, rfl, _, rfl, r, _, (u : Int), _, rfl, rfl, SqT.of (s2 _ _ rt.at_), atI_nat (map_get gu), bs[u], rfl, ⟨_, SqT.of (s2 _ _ (rt.row u _ gu))⟩, for_tup (K := K) (a := bs[u]) (xs := (nb u).map V.int) (fun j σ H' => ∃ (cs' : List V) (cm : List Nat) (x6 : Option V),
              σ = [some (.ref r), some (.int (st : Int)), some (.ref sp), some (.ref re), some (.ref co), some (nI u), x6] ∧ H' sp = some (.lst cs') ∧ H' co = some (.lst (cm.map nI)) ∧ H' re = some (.lst (rs.map nI)) ∧
                Mid G st n t (fun v => (∃ u ∈ rs.take i, G u v) ∨ (v : Int) ∈ (nb u).take j) (nn cs) cs' cm ∧ Same H H') ?_ ?_ ?_ ?_⟩
            · exact ⟨cs', cm, _, rfl, f1, f2, f3, md.mono (fun v hv z => z.elim id fun z => absurd z (by simp)), s2⟩
            · rintro j σ H3 hj ⟨cs3, cm3, z6, rfl, g1, g2, g3, md3, s3⟩
              exact SqT.of (s3 _ _ (rt.row u _ gu))
            · rintro j y σ H3 hy ⟨cs3, cm3, z6, rfl, g1, g2, g3, md3, s3⟩
              obtain ⟨w, hw, rfl⟩ := map_inv hy
              obtain ⟨v, rfl, guv⟩ := (hnb u un w).mp (List.mem_of_getElem? hw)
              have vn : v < n := hG _ _ guv
              have vl : v < cs3.length := by rw [md3.len]; exact vn
              have hcv : cs3[v]? = some cs3[v] := List.getElem?_eq_getElem vl
              have hcu := md3.house un du
              have dn : ∀ x, ((∃ u ∈ rs.take i, G u x) ∨ (x : Int) ∈ (nb u).take (j + 1)) → ((∃ u ∈ rs.take i, G u x) ∨ (x : Int) ∈ (nb u).take j) ∨ x = v := by
                rintro x (z | z)
                · exact .inl (.inl z)
                · rcases (take_succ_mem hw).mp z with z | z
                  · exact .inl (.inr z)
                  · exact .inr (by omega)
              refine ⟨_, rfl, _, rfl, sp, cs3, (v : Int), _, rfl, rfl, SqL.of g1, atI_nat hcv, _, rfl, ite2 (fun c => ?_) (fun c => ?_)⟩
              · have ec : cs3[v] = .non := of_decide_eq_true c
                rw [ec] at hcv
                have cl : cm3.length ≤ 40 := by
                  have z := md3.cnt
                  have z2 := nn_le cs
                  rw [lv.len] at z2
                  omega
                refine ⟨_, rfl, _, rfl, sp, cs3, (u : Int), _, rfl, rfl, SqL.of g1, atI_nat hcu, _, _, rfl, rfl, _, rfl, _, rfl, sp, cs3, (v : Int), v, rfl, rfl, g1, ixN_nat vl, ?_⟩
                have g2' : upd H3 sp (.lst (cs3.set v (nI (t + 1)))) co = some (.lst (cm3.map nI)) := by rw [upd_ne nsc.symm]; exact g2
                refine ⟨_, rfl, .inl ⟨rfl, _, SqL.of g2'⟩, _, rfl, co, _, _, rfl, rfl, g2', ?_, ?_⟩
                · rw [List.length_map]
                  exact size_ok (by omega)
                · refine ⟨cs3.set v (nI (t + 1)), cm3 ++ [v], _, rfl, ?_, ?_, ?_, (md3.more vn hcv du guv).mono (fun x _ z => dn x z), ?_⟩
                  · rw [upd_ne nsc, upd_same]
                    rfl
                  · rw [upd_same, List.map_append]
                    rfl
                  · rw [upd_ne nrc, upd_ne nsr.symm]
                    exact g3
                  · exact sNew (sNew s3 hsp0) hco0
              · exact ⟨cs3, cm3, _, rfl, g1, g2, g3, (md3.skip hcv (fun e => c (decide_eq_true e))).mono (fun x _ z => dn x z), s3⟩
            · rintro σ H3 ⟨cs3, cm3, z6, rfl, g1, g2, g3, md3, s3⟩
              refine ⟨cs3, cm3, _, _, rfl, g1, g2, g3, md3.mono ?_, s3⟩
              rintro v hv ⟨u', hu', g⟩
              rcases (take_succ_mem hu).mp hu' with z | rfl
              · exact .inl ⟨u', z, g⟩
              · refine .inr ?_
                rw [List.length_map, List.take_length]
                exact (hnb u' un _).mpr ⟨v, rfl, g⟩
          · rintro σ H2 ⟨cs', cm, y5, y6, rfl, f1, f2, f3, md, s2⟩
            obtain ⟨lv2, all2⟩ := md.fin hG fun u v d g => ⟨u, by rw [List.length_map, List.take_length]; exact hall u d, g⟩
            refine ⟨_, rfl, nn cs' + (if cm.isEmpty = true then 0 else 1), ?_, t + 1, co, cm, cs', _, _, _, rfl, f1, f2, nsc, lv2, md.cmok, all2, s2, rfl⟩
            have z := md.cnt
            cases cm with
            | nil =>
              rw [if_pos (show ([] : List Nat).isEmpty = true from rfl)]
              rw [List.length_nil] at z
              omega
            | cons a b =>
              rw [if_neg (show ¬ ((a :: b).isEmpty = true) from Bool.false_ne_true)]
              rw [List.length_cons] at z
              omega
end
end Q

namespace Q
open PySem L2 QM
abbrev sWeb : Stmt := inClass (top 11) 0
abbrev sFar : Stmt := top 9999
/-- the way from tie to tie -/
def GL (L : List (Addr × List Int)) (u v : Nat) : Prop := Edge L (u : Int) (v : Int)
structure TL (m : Int) (L : List (Addr × List Int)) : Prop where
  ok : ∀ p ∈ L, ∃ a b : Int, p.2 = [a, b] ∧ 0 ≤ a ∧ a < b ∧ b < m
  conn : ∀ h : Int, 1 ≤ h → h < m → ∃ p ∈ L, ∃ o : Int, p.2 = [o, h]
  m1 : 1 ≤ m
  m40 : m ≤ 40
section
variable {m : Int} {L : List (Addr × List Int)}
theorem Edge.sym {i j : Int} (h : Edge L i j) : Edge L j i := by
  obtain ⟨p, hp, e | e⟩ := h
  · exact ⟨p, hp, .inr e⟩
  · exact ⟨p, hp, .inl e⟩
theorem TL.in2 (T : TL m L) {i j : Int} (h : Edge L i j) : 0 ≤ j ∧ j < m := by
  obtain ⟨p, hp, e⟩ := h
  obtain ⟨a, b, e2, h0, h1, h2⟩ := T.ok p hp
  rw [e2] at e
  simp only [List.cons.injEq, and_true] at e
  omega
theorem TL.lt (T : TL m L) (a b : Nat) (h : GL L a b) : b < m.toNat := by
  have := T.in2 h
  omega
theorem TL.nb (T : TL m L) {nb : Nat → List Int} (h : NbOf L m.toNat nb) : NbG (GL L) m.toNat nb := fun i hi j => by
  rw [h i hi j]
  constructor
  · intro e
    have z := T.in2 e
    exact ⟨j.toNat, by omega, by show Edge L (i : Int) ((j.toNat : Nat) : Int); rw [Int.toNat_of_nonneg z.1]; exact e⟩
  · rintro ⟨v, rfl, e⟩
    exact e
theorem TL.sym (a b : Nat) (h : GL L a b) : GL L b a := Edge.sym h
theorem TL.from0 (T : TL m L) : ∀ v, v < m.toNat → ∃ k, Rch (GL L) 0 k v := by
  intro v
  induction v using Nat.strongRecOn with
  | _ v ih =>
    intro hv
    by_cases c : v = 0
    · exact ⟨0, by rw [c]; exact .zero⟩
    · obtain ⟨p, hp, o, e⟩ := T.conn (v : Int) (by omega) (by omega)
      obtain ⟨a, b, e2, h0, h1, h2⟩ := T.ok p hp
      rw [e2] at e
      simp only [List.cons.injEq, and_true] at e
      obtain ⟨k, hk⟩ := ih a.toNat (by omega) (by omega)
      refine ⟨k + 1, .succ hk ⟨p, hp, .inl ?_⟩⟩
      rw [e2, Int.toNat_of_nonneg h0, e.2]
theorem Rch.trans {G : Nat → Nat → Prop} {a b c j k : Nat} (h : Rch G a j b) (g : Rch G b k c) : ∃ i, Rch G a i c := by
  induction g with
  | zero => exact ⟨j, h⟩
  | succ _ e ih =>
    obtain ⟨i, hi⟩ := ih
    exact ⟨i + 1, .succ hi e⟩
theorem TL.dist (T : TL m L) {s v : Nat} (hs : s < m.toNat) (hv : v < m.toNat) : ∃ d, Dist (GL L) s v d := by
  obtain ⟨j, hj⟩ := T.from0 s hs
  obtain ⟨k, hk⟩ := T.from0 v hv
  obtain ⟨i, hi⟩ := Rch.trans (hj.back TL.sym) hk
  obtain ⟨d, _, q⟩ := hi.dist
  exact ⟨d, q⟩
/-- on a joined web each cell is an int -/
theorem TL.ints (T : TL m L) {s : Nat} {cs : List V} (hs : s < m.toNat) (h : Cells (GL L) s m.toNat cs) : ∃ ds : List Nat, cs = ds.map nI ∧ ds.length = m.toNat ∧ ∀ (v d : Nat), ds[v]? = some d → Dist (GL L) s v d := by
  have key : ∀ (cs : List V) (k : Nat), (∀ (v : Nat) (c : V), cs[v]? = some c → ∃ d, c = nI d ∧ Dist (GL L) s (v + k) d) → ∃ ds : List Nat, cs = ds.map nI ∧ ∀ (v d : Nat), ds[v]? = some d → Dist (GL L) s (v + k) d := by
    intro cs
    induction cs with
    | nil => exact fun _ _ => ⟨[], rfl, fun v d h => by simp at h⟩
    | cons c r ih =>
      intro k h
      obtain ⟨d, rfl, hd⟩ := h 0 c rfl
      obtain ⟨ds, rfl, hds⟩ := ih (k + 1) fun v c hc => by
        obtain ⟨d, e, q⟩ := h (v + 1) c (by simpa using hc)
        exact ⟨d, e, by rw [show v + (k + 1) = v + 1 + k by omega]; exact q⟩
      refine ⟨d :: ds, rfl, fun v e hv => ?_⟩
      cases v with
      | zero =>
        obtain rfl : d = e := Option.some.inj hv
        exact hd
      | succ v =>
        have z := hds v e (by simpa using hv)
        rw [show v + 1 + k = v + (k + 1) by omega]
        exact z
  obtain ⟨ds, e, hds⟩ := key cs 0 fun v c hc => by
    have hv : v < m.toNat := by
      have z := (List.getElem?_eq_some_iff.mp hc).1
      rw [h.len] at z
      exact z
    rcases h.cell v hv with ⟨d, a, b⟩ | ⟨_, b⟩
    · rw [hc] at a
      exact ⟨d, Option.some.inj a, b⟩
    · obtain ⟨d, q⟩ := T.dist hs hv
      exact absurd q (b d)
  refine ⟨ds, e, ?_, hds⟩
  have z := h.len
  rw [e, List.length_map] at z
  exact z
end
theorem no_none : ∀ ds : List Nat, inV .non (ds.map nI) = false
  | [] => rfl
  | d :: r => by
    have ih := no_none r
    unfold inV at ih ⊢
    rw [List.map_cons, List.any_cons, ih]
    rfl
theorem flat_nI : ∀ ds : List Nat, (ds.map nI).all flatV = true
  | [] => rfl
  | d :: r => by
    rw [List.map_cons, List.all_cons, flat_nI r]
    rfl
/-! ### a web's attributes -/
def wf (m : Int) (q r : Addr) : List (Str × V) := putF "_beside" (.ref r) (putF "ties" (.ref q) (putF "many" (.int m) []))
theorem ne_tm : ¬ (("ties" : Str) = "many") := by decide +kernel
theorem ne_bt : ¬ (("_beside" : Str) = "ties") := by decide +kernel
theorem ne_bm : ¬ (("_beside" : Str) = "many") := by decide +kernel
theorem wf_many (m : Int) (q r : Addr) : (wf m q r).lookup ("many" : Str) = some (.int m) := by
  unfold wf
  rw [lookup_putF, if_neg (fun e => ne_bm e.symm), lookup_putF, if_neg (fun e => ne_tm e.symm), lookup_putF, if_pos rfl]
theorem wf_ties (m : Int) (q r : Addr) : (wf m q r).lookup ("ties" : Str) = some (.ref q) := by
  unfold wf
  rw [lookup_putF, if_neg (fun e => ne_bt e.symm), lookup_putF, if_pos rfl]
theorem wf_beside (m : Int) (q r : Addr) : (wf m q r).lookup ("_beside" : Str) = some (.ref r) := by
  unfold wf
  rw [lookup_putF, if_pos rfl]
/-- what the top says of Web -/
structure WTxt (K : PySem.W.Frag) (mg : Str → Option Value) (C : Addr) : Prop where
  cl : Cls K C
  nM : NoAttr K C "many"
  nT : NoAttr K C "ties"
  nB : NoAttr K C "_beside"
  mgC : mg "Web" = some (.ref C)
  most : ∃ t, mg "MOST_HOUSES" = some (.int 40 t)
/-- a web stands at w -/
structure WebIn (C : Addr) (m : Int) (L : List (Addr × List Int)) (H : Hp) (w dx q r : Addr) (bs : List Addr) (nb : Nat → List Int) : Prop where
  at_ : H w = some (.ins C dx (wf m q r))
  rows : RowsT H r bs nb m.toNat
  asc : NbA m.toNat nb
  nb : NbOf L m.toNat nb
def WebAt (C : Addr) (m : Int) (L : List (Addr × List Int)) (H : Hp) (w : Addr) : Prop := ∃ dx q r bs nb, WebIn C m L H w dx q r bs nb
theorem WebAt.same {C : Addr} {m : Int} {L : List (Addr × List Int)} {H H' : Hp} {w : Addr} (h : WebAt C m L H w) (s : Same H H') : WebAt C m L H' w := by
  obtain ⟨dx, q, r, bs, nb, x⟩ := h
  exact ⟨dx, q, r, bs, nb, s _ _ x.at_, x.rows.same s, x.asc, x.nb⟩
theorem WebAt.ext {C : Addr} {m : Int} {L : List (Addr × List Int)} {H H' : Hp} {w p l : Addr} (h : WebAt C m L H w) (g : HandAt H p l) (s : Ext p H H') : WebAt C m L H' w := by
  obtain ⟨dx, q, r, bs, nb, x⟩ := h
  obtain ⟨xs, e⟩ := g.hp
  refine ⟨dx, q, r, bs, nb, s _ _ x.at_ (ne_of x.at_ e (fun z => by cases z)), ⟨s _ _ x.rows.at_ (ne_of x.rows.at_ e (fun z => by cases z)), x.rows.len, fun i a hi => ?_⟩, x.asc, x.nb⟩
  have z := x.rows.row i a hi
  exact s _ _ z (ne_of z e (fun z => by cases z))
def spWeb (C : Addr) : Sp := fun vs H Q _ => ∃ (p dx : Addr) (m : Int) (q : Addr) (L : List (Addr × List Int)), vs = [.ref p, .int m, .ref q] ∧ H p = some (.ins C dx []) ∧ TiesAt m H q L ∧ 1 ≤ m ∧ m ≤ 40 ∧
  ∀ (r : Addr) (bs : List Addr) (nb : Nat → List Int) (H' : Hp), WebIn C m L H' p dx q r bs nb → Ext p H H' → Q .non H'
section
variable {P : Program} {w : World} {K : PySem.W.Frag} {mg : Str → Option Value} {base : Heap}
/-- the defs that a web leans on -/
structure WDefs (K : PySem.W.Frag) (mg : Str → Option Value) where
  fP : Addr
  dP : FuncData
  DP : Df K mg "is_plain_int" sPlain ["thing"] fP dP
  fN : Addr
  dN : FuncData
  DN : Df K mg "is_number_below" sNum ["limit", "thing"] fN dN
  fT : Addr
  dT : FuncData
  DT : Df K mg "is_tie" sTie ["many", "thing"] fT dT
  fF : Addr
  dF : FuncData
  DF : Df K mg "first_wrong_tie" sFirst ["many", "ties"] fF dF
  fB : Addr
  dB : FuncData
  DB : Df K mg "houses_beside" sBeside ["many", "ties"] fB dB
  fS : Addr
  dS : FuncData
  DS : Df K mg "steps_from" sSteps ["beside", "start"] fS dS
theorem scWeb : FnScope ["self", "many", "ties", "wrong", "beside"] ["self", "many", "ties"] (defScope sWeb) := ⟨rfl, rfl, rfl, by decide +kernel, rfl, by decide +kernel, by decide +kernel⟩
theorem ok_web {f C : Addr} {fd : FuncData} (F : Fun K "__init__" "Web.__init__" sWeb f fd) (B : Bts mg) (T : WTxt K mg C) (D : WDefs K mg) : FnOk P w K mg base CX0 5 f fd ["self", "many", "ties"] (spWeb C) := by
  have GP : FnOk P w K mg base CX0 1 D.fP D.dP ["thing"] (spPlain K) := ok_plain (x := "") (st := sPlain) D.DP.F B
  have GF : FnOk P w K mg base CX0 4 D.fF D.dF ["many", "ties"] spFirst := ok_first D.DF.F B D.DP D.DN D.DT
  have GB : FnOk P w K mg base CX0 1 D.fB D.dB ["many", "ties"] spBeside := ok_beside D.DB.F B
  have GS : FnOk P w K mg base CX0 1 D.fS D.dS ["beside", "start"] spSteps := ok_steps D.DS.F B
  refine F.ok scWeb (fun vs H Q E h => ?_) (fun cdv A outer s H vs Q E hr h => ?_)
  · obtain ⟨p, dx, m, q, L, rfl, _⟩ := h
    rfl
  · obtain ⟨p, dx, m, q, L, rfl, hp, tt, m1, m40, k⟩ := h
    have nd := scWeb.nd
    obtain ⟨tm, hmost⟩ := T.most
    have hr1 : Room 1 _ := hr.mono (by decide)
    refine ⟨_, pss_cons (ps_if (PW.pt (pw_or (pt_not (pt_val (pe_call GP hr1 rfl D.DP.m D.DP.k D.DP.b .nil pass0 (pa_cons (pv 1) pa_nil)))) (pw_or1 (pt_not (pt_chain op_le op_le pe_int (pv 1) (pe_glob (v := .int 40) rfl hmost ⟨_, rfl⟩)))))) pss_never pss_nil)
      (pss_cons (ps_if (pt_not (pt_val (pe_callB call_isi (by rfl) B.isinstance PyProof.Rows.boot_isinstance (pa_cons (pv 2) (pa_cons (pe_bltn (v := .ty "tuple") rfl B.tuple PyProof.Rows.boot_tuple rfl) pa_nil))))) pss_never pss_nil)
      (pss_cons (ps_set (i := 3) nd rfl (.inl rfl) (pe_call GF hr rfl D.DF.m D.DF.k D.DF.b .nil pass0 (pa_cons (pv 1) (pa_cons (pv 2) pa_nil))))
      (pss_cons (ps_if (pt_cmp (pc_notN (pv 3))) pss_never pss_nil)
      (pss_cons (ps_set (i := 4) nd rfl (.inl rfl) (pe_call GB hr1 rfl D.DB.m D.DB.k D.DB.b .nil pass0 (pa_cons (pv 1) (pa_cons (pv 2) pa_nil))))
      (pss_cons (ps_if (pt_cmpR op_in_seq pe_non (pe_call GS hr1 rfl D.DS.m D.DS.k D.DS.b .nil pass0 (pa_cons (pv 4) (pa_cons pe_int pa_nil))) rfl) pss_never pss_nil)
      (pss_cons (ps_fld (pv 0) (pv 1) rfl)
      (pss_cons (ps_fld (pv 0) (pv 2) rfl)
      (pss_one (ps_fld (pv 0) (pv 4) rfl))))))))), ?_⟩
    refine ⟨_, rfl, .int m, .type "int", true, false, rfl, .base (.int _), kInt_int, kBool_int, _, rfl, ?_⟩
    refine iteF ⟨_, rfl, _, _, rfl, rfl, _, rfl, ite2 (fun _ => ?_) (fun c => absurd (decide_eq_true m1) c)⟩
    refine ⟨_, _, rfl, rfl, _, rfl, ite2 (fun c => ?_) (fun _ => ?_)⟩
    · rw [decide_eq_true m40] at c
      exact absurd c (by decide)
    refine ⟨_, rfl, .ref q, .ty "tuple", .type "tuple", .type "tuple", true, rfl, .ty _, .base (.tup tt.at_), kit_ty (by decide +kernel), _, rfl, iteF ?_⟩
    refine ⟨_, rfl, _, rfl, m, q, L, rfl, tt, fun H1 s1 => ?_⟩
    refine ⟨_, rfl, _, rfl, ite2 (fun c => absurd c (by simp)) (fun _ => ?_)⟩
    refine ⟨_, rfl, _, rfl, m, q, L, rfl, m1, m40, (tt.same s1).n, fun r bs nb H2 rt hnb hasc s2 => ?_⟩
    have TT : TL m L := ⟨tt.ok, tt.conn, m1, m40⟩
    refine ⟨_, rfl, r, bs, nb, m.toNat, GL L, 0, rfl, rt, by omega, by omega, TT.nb hnb, TT.lt, fun sp cs H3 hsp cells s3 => ?_⟩
    obtain ⟨ds, rfl, _, _⟩ := TT.ints (by omega) cells
    refine ⟨sp, _, rfl, .inl (SqL.of hsp), rfl, flat_nI ds, _, rfl, ?_⟩
    have en : (if false = true then !inV V.non (ds.map nI) else inV V.non (ds.map nI)) = false := no_none ds
    rw [en]
    refine iteF ?_
    have s4 : Same H H3 := fun b o e => s3 _ _ (s2 _ _ (s1 _ _ e))
    refine ⟨_, rfl, _, rfl, p, C, dx, _, rfl, s4 _ _ hp, T.cl, T.nM, (by show 0 < 1000; decide), ?_⟩
    refine ⟨_, rfl, _, rfl, p, C, dx, _, rfl, upd_same, T.cl, T.nT, (by show 1 < 1000; decide), ?_⟩
    refine ⟨_, rfl, _, rfl, p, C, dx, _, rfl, upd_same, T.cl, T.nB, (by show 2 < 1000; decide), ?_⟩
    have rt3 := rt.same s3
    have np : ∀ {b : Addr} {xs : List V}, H3 b = some (.tup xs) → b ≠ p := fun e => ne_of e (s4 _ _ hp) (fun z => by cases z)
    refine k r bs nb _ ⟨upd_same, ⟨?_, rt3.len, fun i a hi => ?_⟩, hasc, hnb⟩ fun b o e nb => ?_
    · rw [upd_ne (np rt3.at_), upd_ne (np rt3.at_), upd_ne (np rt3.at_)]
      exact rt3.at_
    · have z := rt3.row i a hi
      rw [upd_ne (np z), upd_ne (np z), upd_ne (np z)]
      exact z
    · rw [upd_ne nb, upd_ne nb, upd_ne nb]
      exact s4 _ _ e
end
end Q

namespace Q
open PySem L2
abbrev sLBes : Stmt := top 35
/-- the other ends, behind and ahead -/
def endB (h : Int) : List Int → Option Int
  | [a, b] => if a = h then some b else none
  | _ => none
def endA (h : Int) : List Int → Option Int
  | [a, b] => if b = h then some a else none
  | _ => none
def fB (h : Int) (L : List (Addr × List Int)) : List Int := L.filterMap fun p => endB h p.2
def fA (h : Int) (L : List (Addr × List Int)) : List Int := L.filterMap fun p => endA h p.2
theorem fB_mem {h j : Int} {L : List (Addr × List Int)} : j ∈ fB h L ↔ ∃ p ∈ L, p.2 = [h, j] := by
  unfold fB
  rw [List.mem_filterMap]
  constructor
  · rintro ⟨p, hp, e⟩
    refine ⟨p, hp, ?_⟩
    obtain ⟨ad, l⟩ := p
    match l, e with
    | [a, b], e =>
      have e' : (if a = h then some b else none) = some j := e
      by_cases c : a = h
      · rw [if_pos c] at e'
        cases e'
        rw [c]
      · rw [if_neg c] at e'
        cases e'
  · rintro ⟨p, hp, e⟩
    refine ⟨p, hp, ?_⟩
    rw [e]
    show (if h = h then some j else none) = _
    rw [if_pos rfl]
theorem fA_mem {h j : Int} {L : List (Addr × List Int)} : j ∈ fA h L ↔ ∃ p ∈ L, p.2 = [j, h] := by
  unfold fA
  rw [List.mem_filterMap]
  constructor
  · rintro ⟨p, hp, e⟩
    refine ⟨p, hp, ?_⟩
    obtain ⟨ad, l⟩ := p
    match l, e with
    | [a, b], e =>
      have e' : (if b = h then some a else none) = some j := e
      by_cases c : b = h
      · rw [if_pos c] at e'
        cases e'
        rw [c]
      · rw [if_neg c] at e'
        cases e'
  · rintro ⟨p, hp, e⟩
    refine ⟨p, hp, ?_⟩
    rw [e]
    show (if h = h then some j else none) = _
    rw [if_pos rfl]
theorem fB_asc {h : Int} {L : List (Addr × List Int)} (asc : L.Pairwise (fun x y => ltP x.2 y.2)) : (fB h L).Pairwise (· < ·) := by
  unfold fB
  rw [List.pairwise_filterMap]
  refine asc.imp fun {p q} hpq b1 e1 b2 e2 => ?_
  obtain ⟨a, b, c, d, ep, eq, hh⟩ := hpq
  have e1' : endB h p.2 = some b1 := e1
  have e2' : endB h q.2 = some b2 := e2
  rw [ep] at e1'
  rw [eq] at e2'
  have f1 : (if a = h then some b else none) = some b1 := e1'
  have f2 : (if c = h then some d else none) = some b2 := e2'
  by_cases c1 : a = h
  · by_cases c2 : c = h
    · rw [if_pos c1] at f1
      rw [if_pos c2] at f2
      cases f1
      cases f2
      omega
    · rw [if_neg c2] at f2
      cases f2
  · rw [if_neg c1] at f1
    cases f1
theorem fA_asc {h : Int} {L : List (Addr × List Int)} (asc : L.Pairwise (fun x y => ltP x.2 y.2)) : (fA h L).Pairwise (· < ·) := by
  unfold fA
  rw [List.pairwise_filterMap]
  refine asc.imp fun {p q} hpq b1 e1 b2 e2 => ?_
  obtain ⟨a, b, c, d, ep, eq, hh⟩ := hpq
  have e1' : endA h p.2 = some b1 := e1
  have e2' : endA h q.2 = some b2 := e2
  rw [ep] at e1'
  rw [eq] at e2'
  have f1 : (if b = h then some a else none) = some b1 := e1'
  have f2 : (if d = h then some c else none) = some b2 := e2'
  by_cases c1 : b = h
  · by_cases c2 : d = h
    · rw [if_pos c1] at f1
      rw [if_pos c2] at f2
      cases f1
      cases f2
      omega
    · rw [if_neg c2] at f2
      cases f2
  · rw [if_neg c1] at f1
    cases f1
theorem asc_of_nd {l : List Int} (h : l.Pairwise (· ≤ ·)) (n : l.Nodup) : l.Pairwise (· < ·) := (List.Pairwise.and h n).imp fun {a b} ⟨h1, h2⟩ => by omega
theorem dec_i (a b : Int) : decide (V.int a = V.int b) = decide (a = b) := by
  by_cases c : a = b
  · rw [c, decide_eq_true rfl, decide_eq_true rfl]
  · rw [decide_eq_false c, decide_eq_false fun z => c (V.int.inj z)]
/-- a drawn web at W -/
def LWeb (H : Hp) (W q : Addr) (m : Int) (L : List (Addr × List Int)) : Prop := H W = some (.tup [.int m, .ref q]) ∧ TiesAt m H q L
theorem LWeb.same {H H' : Hp} {W q : Addr} {m : Int} {L : List (Addr × List Int)} (h : LWeb H W q m L) (s : Same H H') : LWeb H' W q m L := ⟨s _ _ h.1, h.2.same s⟩
def spLBes : Sp := fun vs H Q _ => ∃ (W q : Addr) (m h : Int) (L : List (Addr × List Int)), vs = [.ref W, .int h] ∧ LWeb H W q m L ∧
  ∀ (p : Addr) (ns : List Int) (H' : Hp), Same H H' → H p = none → H' p = some (.lst (ns.map V.int)) → ns.Pairwise (· < ·) → (∀ j, j ∈ ns ↔ Edge L h j) → Q (.ref p) H'
section
variable {P : Program} {w : World} {K : PySem.W.Frag} {mg : Str → Option Value} {base : Heap}
theorem scLBes : FnScope ["web", "house", "a", "b"] ["web", "house"] (defScope sLBes) := ⟨rfl, rfl, rfl, by decide +kernel, rfl, by decide +kernel, by decide +kernel⟩
theorem ok_lbes {f : Addr} {fd : FuncData} (F : Fun K "_law_beside" "_law_beside" sLBes f fd) (B : Bts mg) : FnOk P w K mg base CX0 1 f fd ["web", "house"] spLBes := by
  refine F.ok scLBes (fun vs H Q E h => ?_) (fun cdv A outer s H vs Q E hr h => ?_)
  · obtain ⟨W, q, m, h, L, rfl, _⟩ := h
    rfl
  · obtain ⟨W, q, m, h, L, rfl, ⟨hW, tt⟩, k⟩ := h
    have nd := scLBes.nd
    have rs : Same H H := fun _ _ e => e
    refine ⟨_, pss_one (ps_ret (pe_callB cr_sortedI (by rfl) B.sorted PyProof.Rows.boot_sorted (pa_cons (pe_op op_cat
      (pe_lc (own := [("a", 2), ("b", 3)]) (g := gTup K 2 (gCons (gName 2) (gCons (gName 3) gNil))) rfl nd (pi_tup (pe_ix ix_tup (pv 0) pe_int (fun _ _ => rfl)))
        (blkOk_by (N := ["web", "house", "a", "b"]) (sc := defScope sLBes) (by decide +kernel)) (fun _ _ _ _ _ => pg_tup rfl (pgs_cons (pg_name (i := 2) nd rfl (.inl rfl)) (pgs_cons (pg_name (i := 3) nd rfl (.inl rfl)) pgs_nil))) (fun _ _ _ _ _ => pts_one (pt_cmpR op_eq (pv 2) (pv 1) (nomark _))) (fun _ _ _ _ _ => pv 3))
      (pe_lc (own := [("a", 2), ("b", 3)]) (g := gTup K 2 (gCons (gName 2) (gCons (gName 3) gNil))) rfl nd (pi_tup (pe_ix ix_tup (pv 0) pe_int (fun _ _ => rfl)))
        (blkOk_by (N := ["web", "house", "a", "b"]) (sc := defScope sLBes) (by decide +kernel)) (fun _ _ _ _ _ => pg_tup rfl (pgs_cons (pg_name (i := 2) nd rfl (.inl rfl)) (pgs_cons (pg_name (i := 3) nd rfl (.inl rfl)) pgs_nil))) (fun _ _ _ _ _ => pts_one (pt_cmpR op_eq (pv 3) (pv 1) (nomark _))) (fun _ _ _ _ _ => pv 2))) pa_nil))), ?_⟩
    have eq0 : atI [V.int m, V.ref q] 1 = some (V.ref q) := rfl
    refine ⟨_, rfl, W, _, 1, _, rfl, rfl, SqT.of hW, eq0, q, rfl, ⟨_, SqT.of tt.at_⟩, fun D1 hD1 => lc_tup (K := K) (a := q) (xs := L.map fun p => V.ref p.1) (fun i H' => H' D1 = some (.lst ((fB h (L.take i)).map V.int)) ∧ Same H H') ?_ ?_ ?_ ?_⟩
    · exact ⟨upd_same, sN hD1⟩
    · rintro i H1 hi ⟨_, s1⟩
      exact SqT.of (s1 _ _ tt.at_)
    · rintro i v H1 hv ⟨eD, s1⟩
      obtain ⟨p, hp, rfl⟩ := map_inv hv
      have hm := List.mem_of_getElem? hp
      have hi : i < L.length := (List.getElem?_eq_some_iff.mp hp).1
      obtain ⟨a, b, e2, _⟩ := tt.ok p hm
      have ht := s1 _ _ (tt.tup p hm)
      rw [e2] at ht
      have tk : fB h (L.take (i + 1)) = fB h (L.take i) ++ (if a = h then [b] else []) := by
        unfold fB
        rw [List.take_add_one, hp, List.filterMap_append]
        show _ ++ List.filterMap (fun p : Addr × List Int => endB h p.2) [p] = _
        rw [List.filterMap_cons, e2]
        by_cases c : a = h
        · rw [show endB h [a, b] = some b from if_pos c, if_pos c]
          rfl
        · rw [show endB h [a, b] = none from if_neg c, if_neg c]
          rfl
      have lb : (fB h (L.take i)).length ≤ i := by
        unfold fB
        refine Nat.le_trans (List.length_filterMap_le _ _) ?_
        rw [List.length_take]
        omega
      refine ⟨p.1, _, rfl, SqT.of ht, rfl, _, _, rfl, _, _, rfl, rfl, rfl, _, rfl, _, rfl, rfl, _, rfl, ?_⟩
      rw [dec_i]
      refine ite2 (fun c => ?_) (fun c => ?_)
      · have c' : a = h := of_decide_eq_true c
        refine ⟨_, rfl, _, eD, ?_, ?_, ?_⟩
        · rw [List.length_map]
          exact Nat.lt_of_lt_of_le (show (fB h (L.take i)).length < 1000 by have := tt.few; omega) (by decide)
        · rw [upd_same, tk, if_pos c', List.map_append]
          rfl
        · exact sNew s1 hD1
      · have c' : ¬ a = h := fun z => c (decide_eq_true z)
        refine ⟨?_, s1⟩
        rw [tk, if_neg c', List.append_nil]
        exact eD
    · rintro H1 ⟨eD1, s1⟩
      rw [List.length_map, List.take_length] at eD1
      refine ⟨_, rfl, W, _, 1, _, rfl, rfl, SqT.of (s1 _ _ hW), eq0, q, rfl, ⟨_, SqT.of (s1 _ _ tt.at_)⟩, fun D2 hD2 => lc_tup (K := K) (a := q) (xs := L.map fun p => V.ref p.1) (fun i H' => H' D2 = some (.lst ((fA h (L.take i)).map V.int)) ∧ Same H1 H') ?_ ?_ ?_ ?_⟩
      · exact ⟨upd_same, sN hD2⟩
      · rintro i H2 hi ⟨_, s2⟩
        exact SqT.of (s2 _ _ (s1 _ _ tt.at_))
      · rintro i v H2 hv ⟨eD, s2⟩
        obtain ⟨p, hp, rfl⟩ := map_inv hv
        have hm := List.mem_of_getElem? hp
        have hi : i < L.length := (List.getElem?_eq_some_iff.mp hp).1
        obtain ⟨a, b, e2, _⟩ := tt.ok p hm
        have ht := s2 _ _ (s1 _ _ (tt.tup p hm))
        rw [e2] at ht
        have tk : fA h (L.take (i + 1)) = fA h (L.take i) ++ (if b = h then [a] else []) := by
          unfold fA
          rw [List.take_add_one, hp, List.filterMap_append]
          show _ ++ List.filterMap (fun p : Addr × List Int => endA h p.2) [p] = _
          rw [List.filterMap_cons, e2]
          by_cases c : b = h
          · rw [show endA h [a, b] = some a from if_pos c, if_pos c]
            rfl
          · rw [show endA h [a, b] = none from if_neg c, if_neg c]
            rfl
        have lb : (fA h (L.take i)).length ≤ i := by
          unfold fA
          refine Nat.le_trans (List.length_filterMap_le _ _) ?_
          rw [List.length_take]
          omega
        refine ⟨p.1, _, rfl, SqT.of ht, rfl, _, _, rfl, _, _, rfl, rfl, rfl, _, rfl, _, rfl, rfl, _, rfl, ?_⟩
        rw [dec_i]
        refine ite2 (fun c => ?_) (fun c => ?_)
        · have c' : b = h := of_decide_eq_true c
          refine ⟨_, rfl, _, eD, ?_, ?_, ?_⟩
          · rw [List.length_map]
            exact Nat.lt_of_lt_of_le (show (fA h (L.take i)).length < 1000 by have := tt.few; omega) (by decide)
          · rw [upd_same, tk, if_pos c', List.map_append]
            rfl
          · exact sNew s2 hD2
        · have c' : ¬ b = h := fun z => c (decide_eq_true z)
          refine ⟨?_, s2⟩
          rw [tk, if_neg c', List.append_nil]
          exact eD
      · rintro H2 ⟨eD2, s2⟩
        rw [List.length_map, List.take_length] at eD2
        have lB : (fB h L).length ≤ L.length := List.length_filterMap_le _ _
        have lA : (fA h L).length ≤ L.length := List.length_filterMap_le _ _
        have few := tt.few
        refine ⟨D1, D2, _, _, rfl, rfl, s2 _ _ eD1, eD2, ?_, fun D3 hD3 => ?_⟩
        · rw [List.length_map, List.length_map]
          exact Nat.le_trans (show (fB h L).length + (fA h L).length ≤ 2000 by omega) (by decide)
        refine ⟨D3, fB h L ++ fA h L, rfl, SqL.of (by rw [upd_same, List.map_append]), fun ns p pm pw hp => ?_⟩
        have s12 := sT s1 s2
        have s3 := sT s12 (sN (o := .lst ((fB h L).map V.int ++ (fA h L).map V.int)) hD3)
        have s4 := sT s3 (sN (o := .lst (ns.map V.int)) hp)
        have hpH : H p = none := by
          cases z : H p with
          | none => rfl
          | some o => rw [s3 _ _ z] at hp; cases hp
        have nod : (fB h L ++ fA h L).Nodup := by
          rw [List.nodup_append]
          refine ⟨(fB_asc tt.asc).imp fun z => Int.ne_of_lt z, (fA_asc tt.asc).imp fun z => Int.ne_of_lt z, fun x hx y hy e => ?_⟩
          obtain ⟨p1, h1, e1⟩ := fB_mem.mp hx
          obtain ⟨p2, h2, e2⟩ := fA_mem.mp hy
          obtain ⟨a, b, e3, _, z1, _⟩ := tt.ok p1 h1
          obtain ⟨c, d, e4, _, z2, _⟩ := tt.ok p2 h2
          rw [e1] at e3
          rw [e2] at e4
          simp only [List.cons.injEq, and_true] at e3 e4
          omega
        refine k p ns _ s4 hpH upd_same (asc_of_nd pw (pm.nodup_iff.mpr nod)) fun j => ?_
        rw [pm.mem_iff, List.mem_append, fB_mem, fA_mem]
        constructor
        · rintro (⟨p, hp, e⟩ | ⟨p, hp, e⟩)
          · exact ⟨p, hp, .inl e⟩
          · exact ⟨p, hp, .inr e⟩
        · rintro ⟨p, hp, e | e⟩
          · exact .inl ⟨p, hp, e⟩
          · exact .inr ⟨p, hp, e⟩
end
end Q

namespace Q
open PySem L2
abbrev sIs : Stmt := top 31
/-- the same through and through, to nesting n -/
def SmI (H : Hp) : Nat → V → V → Prop
  | 0 => fun _ _ => False
  | n + 1 => fun u v => (∃ i : Int, u = .int i ∧ v = .int i) ∨ (∃ z : Str, u = .str z ∧ v = .str z) ∨ (∃ b : Bool, u = .bl b ∧ v = .bl b) ∨ (u = .non ∧ v = .non) ∨
      ∃ (a b : Addr) (xs ys : List V), u = .ref a ∧ v = .ref b ∧ H a = some (.tup xs) ∧ H b = some (.tup ys) ∧ xs.length = ys.length ∧ xs.length ≤ 1000 ∧ ∀ (i : Nat) (x y : V), xs[i]? = some x → ys[i]? = some y → SmI H n x y
theorem SmI.same {H H' : Hp} (s : Same H H') : ∀ {n : Nat} {u v : V}, SmI H n u v → SmI H' n u v
  | 0, _, _, h => h.elim
  | n + 1, u, v, h => by
    rcases h with h | h | h | h | ⟨a, b, xs, ys, e1, e2, h1, h2, hl, h3, k⟩
    · exact .inl h
    · exact .inr (.inl h)
    · exact .inr (.inr (.inl h))
    · exact .inr (.inr (.inr (.inl h)))
    · exact .inr (.inr (.inr (.inr ⟨a, b, xs, ys, e1, e2, s _ _ h1, s _ _ h2, hl, h3, fun i x y hx hy => (k i x y hx hy).same s⟩)))
def spIs (n : Nat) : Sp := fun vs H Q _ => ∃ u v : V, vs = [u, v] ∧ SmI H n u v ∧ ∀ H', Same H H' → Q (.bl true) H'
section
variable {K : PySem.W.Frag}
theorem walk_zipT {a b : Addr} {xs ys : List V} {n : Nat} (hn : n = min xs.length ys.length) : Walk (RZ.ItzT K a b) n (fun H => SqT K H a xs ∧ SqT K H b ys) (YPair (fun i => xs[i]?) (fun i => ys[i]?)) := by
  subst hn
  refine ⟨fun i H hi q => ?_, fun H q => ⟨xs, ys, q.1, q.2, by omega⟩, fun i H v H' hi q y => ?_⟩
  · have h1 : i < xs.length := Nat.lt_of_lt_of_le hi (Nat.min_le_left _ _)
    have h2 : i < ys.length := Nat.lt_of_lt_of_le hi (Nat.min_le_right _ _)
    exact ⟨xs, ys, _, _, q.1, q.2, List.getElem?_eq_getElem h1, List.getElem?_eq_getElem h2⟩
  · obtain ⟨T, x, z, e1, e2, e3, e4, e5⟩ := y
    exact ⟨T, x, z, e1, e2, e3, e4 xs q.1, e5 ys q.2⟩
end
theorem kitTL {K : PySem.W.Frag} {t : String} {b c : Bool} (h1 : kitB t "tuple" = some b) (h2 : kitB t "list" = some c) : PySem.W.kitAny K (.type t) [.type "tuple", .type "list"] = some (b || c) := by
  refine kitAny_cons (kit_ty h1) (fun e => ?_) (fun e => by rw [e]; rfl)
  rw [e]
  refine kitAny_cons (kit_ty h2) (fun e => ?_) (fun e => by rw [e]; rfl)
  rw [e]
  exact kitAny_nil
section
variable {P : Program} {w : World} {K : PySem.W.Frag} {mg : Str → Option Value} {base : Heap}
theorem scIs : FnScope ["told", "due", "one", "two"] ["told", "due"] (defScope sIs) := ⟨rfl, rfl, rfl, by decide +kernel, rfl, by decide +kernel, by decide +kernel⟩
theorem ok_is {f : Addr} {fd : FuncData} (D : Df K mg "_law_is" sIs ["told", "due"] f fd) (B : Bts mg) (hz : mg "zip" = none) (ha : mg "all" = none) : ∀ n, FnOk P w K mg base CX0 (n + 1) f fd ["told", "due"] (spIs n)
  | 0 => by
    refine D.F.ok scIs (fun vs H Q E h => ?_) (fun cdv A outer s H vs Q E hr h => ?_)
    · obtain ⟨u, v, rfl, _⟩ := h
      rfl
    · obtain ⟨u, v, rfl, h, _⟩ := h
      exact h.elim
  | n + 1 => by
    have IH : FnOk P w K mg base CX0 (n + 1) f fd ["told", "due"] (spIs n) := ok_is D B hz ha n
    refine D.F.ok scIs (fun vs H Q E h => ?_) (fun cdv A outer s H vs Q E hr h => ?_)
    · obtain ⟨u, v, rfl, _⟩ := h
      rfl
    · obtain ⟨u, v, rfl, h, k⟩ := h
      have nd := scIs.nd
      have rs : Same H H := fun _ _ e => e
      refine ⟨_, pss_cons (ps_if (pt_val (pe_callB call_isiT (by rfl) B.isinstance PyProof.Rows.boot_isinstance (pa_cons (pv 1) (pa_cons (pe_tup (pa_cons (pe_bltn (v := .ty "tuple") rfl B.tuple PyProof.Rows.boot_tuple rfl) (pa_cons (pe_bltn (v := .ty "list") rfl B.list PyProof.Rows.boot_list rfl) pa_nil))) pa_nil))))
          (pss_cons (ps_if (PW.pt (pw_or (pt_cmpR op_ne (pe_callB call_isi (by rfl) B.isinstance PyProof.Rows.boot_isinstance (pa_cons (pv 0) (pa_cons (pe_bltn (v := .ty "tuple") rfl B.tuple PyProof.Rows.boot_tuple rfl) pa_nil)))
                (pe_callB call_isi (by rfl) B.isinstance PyProof.Rows.boot_isinstance (pa_cons (pv 1) (pa_cons (pe_bltn (v := .ty "tuple") rfl B.tuple PyProof.Rows.boot_tuple rfl) pa_nil))) (nomark _))
              (pw_or1 (pt_not (pt_val (pe_callB call_isiT (by rfl) B.isinstance PyProof.Rows.boot_isinstance (pa_cons (pv 0) (pa_cons (pe_tup (pa_cons (pe_bltn (v := .ty "tuple") rfl B.tuple PyProof.Rows.boot_tuple rfl) (pa_cons (pe_bltn (v := .ty "list") rfl B.list PyProof.Rows.boot_list rfl) pa_nil))) pa_nil))))))))
            pss_never pss_nil)
          (pss_one (ps_ret (pe_and (pe_cmpR op_eq (pe_callB call_len_seq (by rfl) B.len PySem.boot_len (pa_cons (pv 0) pa_nil)) (pe_callB call_len_seq (by rfl) B.len PySem.boot_len (pa_cons (pv 1) pa_nil)) (nomark _))
            (pe_one (pe_callB (cr_all rfl) (by rfl) ha PyProof.Rows.boot_all (pa_cons (pe_lc (own := [("one", 2), ("two", 3)]) (g := gTup K 2 (gCons (gName 2) (gCons (gName 3) gNil))) (tt := tYes) rfl nd (RZ.pi_zipA rfl hz (pa_cons (pv 0) (pa_cons (pv 1) pa_nil)))
              (blkOk_by (N := ["told", "due", "one", "two"]) (sc := defScope sIs) (by decide +kernel)) (fun _ _ _ _ _ => pg_tup rfl (pgs_cons (pg_name (i := 2) nd rfl (.inl rfl)) (pgs_cons (pg_name (i := 3) nd rfl (.inl rfl)) pgs_nil))) (fun _ _ _ _ _ => pts_nil)
              (fun _ _ _ _ _ => pe_call IH hr rfl D.m D.k D.b .nil pass0 (pa_cons (pv 2) (pa_cons (pv 3) pa_nil)))) pa_nil)))))))
          pss_nil)
        (pss_one (ps_ret (pe_and (pe_cmpR op_eq (pe_callB call_isi (by rfl) B.isinstance PyProof.Rows.boot_isinstance (pa_cons (pv 0) (pa_cons (pe_bltn (v := .ty "bool") rfl B.bool (by decide +kernel) rfl) pa_nil)))
            (pe_callB call_isi (by rfl) B.isinstance PyProof.Rows.boot_isinstance (pa_cons (pv 1) (pa_cons (pe_bltn (v := .ty "bool") rfl B.bool (by decide +kernel) rfl) pa_nil))) (nomark _))
          (pe_one (pe_cmpR op_eq (pv 0) (pv 1) (nomark _)))))), ?_⟩
      have cls2 : Paired ClsV [V.ty "tuple", V.ty "list"] [Value.type "tuple", Value.type "list"] := .cons (.ty _) (.cons (.ty _) .nil)
      rcases h with ⟨i, rfl, rfl⟩ | ⟨z, rfl, rfl⟩ | ⟨b0, rfl, rfl⟩ | ⟨rfl, rfl⟩ | ⟨a, b, xs, ys, rfl, rfl, h1, h2, hl, h3, hk⟩
      · refine ⟨_, rfl, (by show 2 ≤ sizeLine; decide), fun tp htp => ?_⟩
        refine ⟨.int i, tp, _, .type "int", _, false, rfl, upd_same, cls2, .base (.int _), kitTL (t := "int") (b := false) (c := false) (by decide +kernel) (by decide +kernel), _, rfl, iteF ?_⟩
        refine ⟨_, rfl, .int i, .ty "bool", .type "int", .type "bool", false, rfl, .ty _, .base (.int _), kit_ty (by decide +kernel), _, rfl, .int i, .ty "bool", .type "int", .type "bool", false, rfl, .ty _, .base (.int _), kit_ty (by decide +kernel), rfl, _, rfl, ?_⟩
        rw [decide_eq_true (rfl : V.bl false = V.bl false)]
        refine iteT ⟨_, rfl, _, rfl, rfl, ?_⟩
        rw [decide_eq_true rfl]
        exact k _ (sN htp)
      · refine ⟨_, rfl, (by show 2 ≤ sizeLine; decide), fun tp htp => ?_⟩
        refine ⟨.str z, tp, _, .type "str", _, false, rfl, upd_same, cls2, .base (.str _), kitTL (t := "str") (b := false) (c := false) (by decide +kernel) (by decide +kernel), _, rfl, iteF ?_⟩
        refine ⟨_, rfl, .str z, .ty "bool", .type "str", .type "bool", false, rfl, .ty _, .base (.str _), kit_ty (by decide +kernel), _, rfl, .str z, .ty "bool", .type "str", .type "bool", false, rfl, .ty _, .base (.str _), kit_ty (by decide +kernel), rfl, _, rfl, ?_⟩
        rw [decide_eq_true (rfl : V.bl false = V.bl false)]
        refine iteT ⟨_, rfl, _, rfl, rfl, ?_⟩
        rw [decide_eq_true rfl]
        exact k _ (sN htp)
      · refine ⟨_, rfl, (by show 2 ≤ sizeLine; decide), fun tp htp => ?_⟩
        refine ⟨.bl b0, tp, _, .type "bool", _, false, rfl, upd_same, cls2, .base (.bl _), kitTL (t := "bool") (b := false) (c := false) (by decide +kernel) (by decide +kernel), _, rfl, iteF ?_⟩
        refine ⟨_, rfl, .bl b0, .ty "bool", .type "bool", .type "bool", true, rfl, .ty _, .base (.bl _), kit_ty (by decide +kernel), _, rfl, .bl b0, .ty "bool", .type "bool", .type "bool", true, rfl, .ty _, .base (.bl _), kit_ty (by decide +kernel), rfl, _, rfl, ?_⟩
        rw [decide_eq_true (rfl : V.bl true = V.bl true)]
        refine iteT ⟨_, rfl, _, rfl, rfl, ?_⟩
        rw [decide_eq_true rfl]
        exact k _ (sN htp)
      · refine ⟨_, rfl, (by show 2 ≤ sizeLine; decide), fun tp htp => ?_⟩
        refine ⟨.non, tp, _, .type "NoneType", _, false, rfl, upd_same, cls2, .base (.non), kitTL (t := "NoneType") (b := false) (c := false) (by decide +kernel) (by decide +kernel), _, rfl, iteF ?_⟩
        refine ⟨_, rfl, .non, .ty "bool", .type "NoneType", .type "bool", false, rfl, .ty _, .base (.non), kit_ty (by decide +kernel), _, rfl, .non, .ty "bool", .type "NoneType", .type "bool", false, rfl, .ty _, .base (.non), kit_ty (by decide +kernel), rfl, _, rfl, ?_⟩
        rw [decide_eq_true (rfl : V.bl false = V.bl false)]
        refine iteT ⟨_, rfl, _, rfl, rfl, ?_⟩
        rw [decide_eq_true rfl]
        exact k _ (sN htp)
      · refine ⟨_, rfl, (by show 2 ≤ sizeLine; decide), fun tp htp => ?_⟩
        have s1 := sN (o := .tup [.ty "tuple", .ty "list"]) htp
        refine ⟨.ref b, tp, _, .type "tuple", _, true, rfl, upd_same, cls2, .base (.tup (s1 _ _ h2)), kitTL (t := "tuple") (b := true) (c := false) (by decide +kernel) (by decide +kernel), _, rfl, iteT ?_⟩
        refine ⟨_, rfl, .ref a, .ty "tuple", .type "tuple", .type "tuple", true, rfl, .ty _, .base (.tup (s1 _ _ h1)), kit_ty (by decide +kernel), _, rfl, .ref b, .ty "tuple", .type "tuple", .type "tuple", true, rfl, .ty _, .base (.tup (s1 _ _ h2)), kit_ty (by decide +kernel), rfl, _, rfl, ?_⟩
        rw [decide_eq_true (rfl : V.bl true = V.bl true)]
        refine iteF ⟨_, rfl, (by show 2 ≤ sizeLine; decide), fun tp2 htp2 => ?_⟩
        have s2 := sT s1 (sN (o := .tup [.ty "tuple", .ty "list"]) htp2)
        refine ⟨.ref a, tp2, _, .type "tuple", _, true, rfl, upd_same, cls2, .base (.tup (s2 _ _ h1)), kitTL (t := "tuple") (b := true) (c := false) (by decide +kernel) (by decide +kernel), _, rfl, iteF ?_⟩
        refine ⟨_, rfl, a, xs, rfl, .inr (SqT.of (s2 _ _ h1)), _, rfl, b, ys, rfl, .inr (SqT.of (s2 _ _ h2)), rfl, _, rfl, ?_⟩
        rw [hl, decide_eq_true (rfl : V.int (ys.length : Int) = V.int (ys.length : Int))]
        refine iteT ?_
        revert s2
        generalize (L2.upd (L2.upd H tp (.tup [.ty "tuple", .ty "list"])) tp2 (.tup [.ty "tuple", .ty "list"])) = H2
        intro s2
        refine ⟨_, rfl, _, rfl, a, b, xs, ys, rfl, .inr ⟨SqT.of (s2 _ _ h1), SqT.of (s2 _ _ h2), fun D hD => lc_it (walk_zipT (K := K) (a := a) (b := b) (xs := xs) (ys := ys) (n := xs.length) (by omega)) (fun i H' => H' D = some (.lst ((List.replicate i true).map V.bl)) ∧ i ≤ xs.length ∧ Same H2 H') ?_ ?_ ?_ ?_⟩⟩
        · exact ⟨upd_same, Nat.zero_le _, sN hD⟩
        · rintro i H3 hi ⟨_, _, s3⟩
          exact ⟨SqT.of (s3 _ _ (s2 _ _ h1)), SqT.of (s3 _ _ (s2 _ _ h2))⟩
        · rintro i v H3 H4 hi ⟨eD, _, s3⟩ ⟨T, x, y, rfl, hT, rfl, hx, hy⟩
          have s4 := sN (o := .tup [x, y]) hT
          refine ⟨T, _, rfl, SqT.of upd_same, rfl, _, _, rfl, _, _, rfl, rfl, rfl, ?_⟩
          refine ⟨_, rfl, _, rfl, x, y, rfl, (hk i x y hx hy).same (sT s2 (sT s3 s4)), fun H5 s5 => ⟨_, s5 _ _ (s4 _ _ eD), ?_, ?_, hi, ?_⟩⟩
          · rw [List.length_map, List.length_replicate]
            exact Nat.lt_of_lt_of_le (show i < 1001 by omega) (by decide)
          · rw [upd_same, List.replicate_succ', List.map_append]
            rfl
          · exact sNew (sT s3 (sT s4 s5)) hD
        · rintro H3 ⟨eD, _, s3⟩
          refine ⟨D, List.replicate xs.length true, rfl, SqL.of eD, ?_⟩
          have e : (List.replicate xs.length true).all id = true := by
            rw [List.all_eq_true]
            intro x hx
            rw [(List.mem_replicate.mp hx).2]
            rfl
          rw [e]
          exact k _ (sT s2 s3)
end
end Q

namespace Q
open PySem L2 QM
abbrev sOff : Stmt := top 36
/-! ### waves by turns over all ties: the mathematics -/
structure OffI (G : Nat → Nat → Prop) (s M t : Nat) (Pr : Nat → Nat → Prop) (f : Nat → Int) : Prop where
  sound : ∀ v, v < M → f v = -1 ∨ ∃ d : Nat, f v = (d : Int) ∧ Dist G s v d ∧ d ≤ t + 1
  full : ∀ v d, v < M → Dist G s v d → d ≤ t → f v = (d : Int)
  done : ∀ u v, Pr u v → v < M → Dist G s u t → G u v → f v ≠ -1
def putN (f : Nat → Int) (v : Nat) (x : Int) : Nat → Int := fun i => if i = v then x else f i
theorem OffI.start {G : Nat → Nat → Prop} {s M : Nat} : OffI G s M 0 (fun _ _ => False) (putN (fun _ => -1) s 0) := by
  refine ⟨fun v hv => ?_, fun v d hv h hd => ?_, fun u v h => h.elim⟩
  · by_cases c : v = s
    · rw [c]
      exact .inr ⟨0, if_pos rfl, Dist.zero, by omega⟩
    · exact .inl (if_neg c)
  · obtain rfl : d = 0 := by omega
    obtain rfl := h.of_zero
    exact if_pos rfl
theorem OffI.relax {G : Nat → Nat → Prop} {s M t : Nat} {Pr : Nat → Nat → Prop} {f : Nat → Int} (I : OffI G s M t Pr f) {u v : Nat} (hu : u < M) (hv : v < M) (e : f u = (t : Int)) (n : f v < 0) (g : G u v) :
    OffI G s M t (fun a b => Pr a b ∨ (a = u ∧ b = v)) (putN f v ((t : Int) + 1)) := by
  have du : Dist G s u t := by
    rcases I.sound u hu with h | ⟨d, h, q, _⟩
    · omega
    · have : d = t := by omega
      rw [← this]
      exact q
  have no : ∀ d, d ≤ t → ¬ Dist G s v d := fun d hd q => by
    have := I.full v d hv q hd
    omega
  have dv := Dist.next no du g
  refine ⟨fun w hw => ?_, fun w d hw h hd => ?_, fun a b h hb ha gab => ?_⟩
  · by_cases c : w = v
    · rw [c]
      exact .inr ⟨t + 1, by show (if v = v then _ else _) = _; rw [if_pos rfl]; omega, dv, Nat.le_refl _⟩
    · rw [show putN f v ((t : Int) + 1) w = f w from if_neg c]
      exact I.sound w hw
  · by_cases c : w = v
    · rw [c] at h
      exact absurd h (no d hd)
    · rw [show putN f v ((t : Int) + 1) w = f w from if_neg c]
      exact I.full w d hw h hd
  · by_cases c : b = v
    · rw [c, show putN f v ((t : Int) + 1) v = (t : Int) + 1 from if_pos rfl]
      omega
    · rw [show putN f v ((t : Int) + 1) b = f b from if_neg c]
      rcases h with h | h
      · exact I.done a b h hb ha gab
      · exact absurd h.2 c
theorem OffI.skip {G : Nat → Nat → Prop} {s M t : Nat} {Pr : Nat → Nat → Prop} {f : Nat → Int} (I : OffI G s M t Pr f) {u v : Nat} (hu : u < M) (hv : v < M) (h : ¬ (f u = (t : Int) ∧ f v < 0 ∧ G u v)) :
    OffI G s M t (fun a b => Pr a b ∨ (a = u ∧ b = v)) f := by
  refine ⟨I.sound, I.full, fun a b hab hb ha gab => ?_⟩
  rcases hab with z | ⟨rfl, rfl⟩
  · exact I.done a b z hb ha gab
  · intro z
    exact h ⟨I.full a t hu ha (Nat.le_refl _), by omega, gab⟩
theorem OffI.turn {G : Nat → Nat → Prop} {s M t : Nat} {Pr : Nat → Nat → Prop} {f : Nat → Int} (I : OffI G s M t Pr f) (all : ∀ u v, G u v → Pr u v) : OffI G s M (t + 1) (fun _ _ => False) f := by
  refine ⟨fun v hv => ?_, fun v d hv h hd => ?_, fun u v h => h.elim⟩
  · rcases I.sound v hv with h | ⟨d, h, q, l⟩
    · exact .inl h
    · exact .inr ⟨d, h, q, by omega⟩
  · by_cases c : d ≤ t
    · exact I.full v d hv h c
    · obtain rfl : d = t + 1 := by omega
      obtain ⟨u, du, g⟩ := h.pred
      have ne := I.done u v (all u v g) hv du g
      rcases I.sound v hv with z | ⟨d', e, q, _⟩
      · exact absurd z ne
      · rw [e, h.uniq q]
theorem OffI.mono {G : Nat → Nat → Prop} {s M t : Nat} {Pr Pr' : Nat → Nat → Prop} {f : Nat → Int} (I : OffI G s M t Pr f) (h : ∀ u v, Pr' u v → Pr u v) : OffI G s M t Pr' f :=
  ⟨I.sound, I.full, fun u v a => I.done u v (h u v a)⟩
/-- what the waves came to -/
def OffOk (G : Nat → Nat → Prop) (s M : Nat) (f : Nat → Int) : Prop := ∀ v, v < M → (f v = -1 ∧ ∀ d, ¬ Dist G s v d) ∨ ∃ d : Nat, f v = (d : Int) ∧ Dist G s v d ∧ d < M
theorem OffI.end_ {G : Nat → Nat → Prop} {s M : Nat} {f : Nat → Int} (I : OffI G s M M (fun _ _ => False) f) (hs : s < M) (hG : ∀ a b, G a b → b < M) : OffOk G s M f := fun v hv => by
  rcases I.sound v hv with h | ⟨d, e, q, _⟩
  · refine .inl ⟨h, fun d q => ?_⟩
    have l := q.lt hs hG
    have := I.full v d hv q (Nat.le_of_lt l)
    omega
  · exact .inr ⟨d, e, q, q.lt hs hG⟩
/-- a list of numbers, told by a function -/
def flN (M : Nat) (f : Nat → Int) : List V := (List.range M).map fun i => V.int (f i)
theorem flN_len (M : Nat) (f : Nat → Int) : (flN M f).length = M := by
  unfold flN
  rw [List.length_map, List.length_range]
theorem flN_at {M i : Nat} (f : Nat → Int) (h : i < M) : (flN M f)[i]? = some (V.int (f i)) := by
  unfold flN
  rw [List.getElem?_map, List.getElem?_range h]
  rfl
theorem flN_ix {M i : Nat} (f : Nat → Int) (h : i < M) : atI (flN M f) (i : Int) = some (V.int (f i)) := atI_nat (flN_at f h)
theorem ixN_of {n i : Nat} (h : i < n) : ixN n (i : Int) = some i := by
  unfold ixN
  rw [if_pos (by omega), if_pos (by omega), Int.toNat_natCast]
theorem flN_set {M : Nat} (f : Nat → Int) {v : Nat} (x : Int) : (flN M f).set v (V.int x) = flN M (putN f v x) := by
  apply List.ext_getElem?
  intro i
  rw [List.getElem?_set]
  by_cases c : v = i
  · rw [if_pos c, flN_len]
    subst c
    by_cases h : v < M
    · rw [if_pos h, flN_at _ h, show putN f v x v = x from if_pos rfl]
    · rw [if_neg h, List.getElem?_eq_none (by rw [flN_len]; omega)]
  · rw [if_neg c]
    by_cases h : i < M
    · rw [flN_at _ h, flN_at _ h, show putN f v x i = f i from if_neg fun z => c z.symm]
    · rw [List.getElem?_eq_none (by rw [flN_len]; omega), List.getElem?_eq_none (by rw [flN_len]; omega)]
theorem flN_rep (M : Nat) (x : Int) : (List.replicate M [V.int x]).flatten = flN M (fun _ => x) := by
  induction M with
  | zero => rfl
  | succ n ih =>
    have e : flN (n + 1) (fun _ => x) = flN n (fun _ => x) ++ [V.int x] := by
      unfold flN
      rw [List.range_succ, List.map_append]
      rfl
    rw [List.replicate_succ', List.flatten_append, ih, e]
    rfl
theorem inV_int (x : Int) (ls : List Int) : inV (V.int x) (ls.map V.int) = decide (x ∈ ls) := by
  unfold inV
  rw [Bool.eq_iff_iff, List.any_eq_true, decide_eq_true_iff]
  constructor
  · rintro ⟨y, hy, e⟩
    obtain ⟨z, hz, rfl⟩ := List.mem_map.mp hy
    have e' : (z == x) = true := e
    rw [← eq_of_beq e']
    exact hz
  · intro h
    exact ⟨V.int x, List.mem_map.mpr ⟨x, h, rfl⟩, by show (x == x) = true; exact beq_self_eq_true x⟩
theorem flat_int (ls : List Int) : (ls.map V.int).all flatV = true := by
  rw [List.all_map, List.all_eq_true]
  intro x _
  rfl
/-- ties on, to houses that are left -/
def GLl (L : List (Addr × List Int)) (ls : List Int) (u v : Nat) : Prop := GL L u v ∧ (v : Int) ∈ ls
def spOff (K : PySem.W.Frag) : Sp := fun vs H Q _ => ∃ (W q lf : Addr) (M s : Nat) (L : List (Addr × List Int)) (ls : List Int), vs = [.ref W, .int (s : Int), .ref lf] ∧ LWeb H W q (M : Int) L ∧ SqL K H lf (ls.map V.int) ∧ s < M ∧ M ≤ 40 ∧
  ∀ (p : Addr) (f : Nat → Int) (H' : Hp), Same H H' → H p = none → H' p = some (.lst (flN M f)) → OffOk (GLl L ls) s M f → Q (.ref p) H'
section
variable {P : Program} {w : World} {K : PySem.W.Frag} {mg : Str → Option Value} {base : Heap}
theorem scOff : FnScope ["web", "house", "left", "found", "turn", "a", "b", "one", "other"] ["web", "house", "left"] (defScope sOff) := ⟨rfl, rfl, rfl, by decide +kernel, rfl, by decide +kernel, by decide +kernel⟩
theorem ok_off {f : Addr} {fd : FuncData} (F : Fun K "_law_off" "_law_off" sOff f fd) (B : Bts mg) : FnOk P w K mg base CX0 1 f fd ["web", "house", "left"] (spOff K) := by
  refine F.ok scOff (fun vs H Q E h => ?_) (fun cdv A outer s H vs Q E hr h => ?_)
  · obtain ⟨W, q, lf, M, s, L, ls, rfl, _⟩ := h
    rfl
  · obtain ⟨W, q, lf, M, s0, L, ls, rfl, ⟨hW, tt⟩, hlf, sM, m40, k⟩ := h
    have nd := scOff.nd
    have rs : Same H H := fun _ _ e => e
    refine ⟨_, pss_cons (ps_set (i := 3) nd rfl (.inl rfl) (pe_op op_rep (pe_lst (pa_cons (pe_un un_neg pe_int) pa_nil)) (pe_ix ix_tup (pv 0) pe_int (fun _ _ => rfl))))
      (pss_cons (ps_asg pe_int (pg_sub (pv 3) (pv 1) set_list))
      (pss_cons (ps_for PassesOwn.never rfl (pi_range1 rfl B.range (pa_cons (pe_ix ix_tup (pv 0) pe_int (fun _ _ => rfl)) pa_nil)) (pg_name (i := 4) nd rfl (.inl rfl))
        (pss_one (ps_for PassesOwn.never rfl (pi_tup (pe_ix ix_tup (pv 0) pe_int (fun _ _ => rfl))) (pg_tup rfl (pgs_cons (pg_name (i := 5) nd rfl (.inl rfl)) (pgs_cons (pg_name (i := 6) nd rfl (.inl rfl)) pgs_nil)))
          (pss_one (ps_for PassesOwn.never rfl (pi_list (pe_lst (pa_cons (pe_tup (pa_cons (pv 5) (pa_cons (pv 6) pa_nil))) (pa_cons (pe_tup (pa_cons (pv 6) (pa_cons (pv 5) pa_nil))) pa_nil)))) (pg_tup rfl (pgs_cons (pg_name (i := 7) nd rfl (.inl rfl)) (pgs_cons (pg_name (i := 8) nd rfl (.inl rfl)) pgs_nil)))
            (pss_one (ps_if (PW.pt (pw_and (pt_cmpR op_eq (pe_ix ix_list (pv 3) (pv 7) (fun _ _ => rfl)) (pv 4) (nomark _)) (pw_and (pt_cmpR op_lt (pe_ix ix_list (pv 3) (pv 8) (fun _ _ => rfl)) pe_int (nomark _)) (pw_and1 (pt_cmpR op_in_seq (pv 8) (pv 2) rfl)))))
              (pss_one (ps_asg (pe_op op_add (pv 4) pe_int) (pg_sub (pv 3) (pv 8) set_list))) pss_nil)))))))
      (pss_one (ps_ret (pv 3))))), ?_⟩
    have eM : ((M : Int)).toNat = M := Int.toNat_natCast M
    have w0 : ∀ {H' : Hp}, Same H H' → SqT K H' W [V.int (M : Int), V.ref q] := fun s => SqT.of (s _ _ hW)
    have hlf' : ∀ {H' : Hp}, Same H H' → SqL K H' lf (ls.map V.int) := fun s => by
      rcases hlf with (e | ⟨ob, e⟩) | k
      · exact .inl (.inl (s _ _ e))
      · exact .inl (.inr ⟨ob, s _ _ e⟩)
      · exact .inr k
    refine ⟨_, rfl, (by show 1 ≤ sizeLine; decide), fun l0 hl0 => ?_⟩
    have s0' := sN (o := .lst [.int (-1)]) hl0
    refine ⟨_, rfl, W, _, 0, _, rfl, rfl, w0 s0', rfl, l0, (M : Int), _, rfl, rfl, upd_same, by omega, by omega, ?_, fun D hD => ?_⟩
    · rw [eM]
      exact Nat.le_trans (show 1 * M ≤ 40 by omega) (by decide)
    have hD0 : H D = none := by
      cases z : H D with
      | none => rfl
      | some o => rw [s0' _ _ z] at hD; cases hD
    rw [eM]
    show gName 3 (V.ref D) _ (upd (upd H l0 (.lst [V.int (-1)])) D (.lst (List.replicate M [V.int (-1)]).flatten)) _
    rw [flN_rep]
    refine ⟨_, rfl, _, rfl, D, _, (s0 : Int), s0, rfl, rfl, upd_same, by rw [flN_len]; exact ixN_of sM, ?_⟩
    rw [flN_set, upd_upd]
    have s1 : Same H (upd (upd H l0 (.lst [V.int (-1)])) D (.lst (flN M (putN (fun _ => -1) s0 0)))) := sNew s0' hD0
    have eD1 : (upd (upd H l0 (.lst [V.int (-1)])) D (.lst (flN M (putN (fun _ => -1) s0 0)))) D = some (.lst (flN M (putN (fun _ => -1) s0 0))) := upd_same
    revert s1 eD1
    generalize upd (upd H l0 (.lst [V.int (-1)])) D (.lst (flN M (putN (fun _ => -1) s0 0))) = H1
    intro s1 eD1
    refine ⟨_, rfl, W, _, 0, _, rfl, rfl, w0 s1, rfl, (M : Int), rfl, by omega, by omega, for_range (lo := 0) (n := (M : Int).toNat) (fun t σ H' => ∃ (x4 x5 x6 x7 x8 : Option V) (g : Nat → Int), σ = [some (.ref W), some (.int (s0 : Int)), some (.ref lf), some (.ref D), x4, x5, x6, x7, x8] ∧ H' D = some (.lst (flN M g)) ∧ OffI (GLl L ls) s0 M t (fun _ _ => False) g ∧ Same H H') ?_ ?_ ?_⟩
    · exact ⟨none, none, none, none, none, _, rfl, eD1, .start, s1⟩
    · rintro t σ H2 hi ⟨x4, x5, x6, x7, x8, g, rfl, eD2, I, s2⟩
      rw [Int.zero_add]
      refine ⟨_, rfl, W, _, 1, _, rfl, rfl, w0 s2, rfl, q, rfl, ⟨_, SqT.of (s2 _ _ tt.at_)⟩, for_tup (K := K) (a := q) (xs := L.map fun p => V.ref p.1) (fun k σ H' => ∃ (x5 x6 x7 x8 : Option V) (g : Nat → Int), σ = [some (.ref W), some (.int (s0 : Int)), some (.ref lf), some (.ref D), some (.int (t : Int)), x5, x6, x7, x8] ∧ H' D = some (.lst (flN M g)) ∧ OffI (GLl L ls) s0 M t (fun u v => GL (L.take k) u v) g ∧ Same H H') ?_ ?_ ?_ ?_⟩
      · exact ⟨x5, x6, x7, x8, g, rfl, eD2, I.mono fun u v ⟨p, hp, _⟩ => absurd hp (by simp), s2⟩
      · rintro k σ H3 hk ⟨_, _, _, _, _, _, _, _, s3⟩
        exact SqT.of (s3 _ _ tt.at_)
      · rintro k v σ H3 hv ⟨y5, y6, y7, y8, g, rfl, eD3, I, s3⟩
        obtain ⟨p, hp, rfl⟩ := map_inv hv
        obtain ⟨a, b, e2, a0, ab, bm⟩ := tt.ok p (List.mem_of_getElem? hp)
        obtain ⟨a', rfl⟩ : ∃ a' : Nat, a = (a' : Int) := ⟨a.toNat, by omega⟩
        obtain ⟨b', rfl⟩ : ∃ b' : Nat, b = (b' : Int) := ⟨b.toNat, by omega⟩
        have ht := s3 _ _ (tt.tup p (List.mem_of_getElem? hp))
        rw [e2] at ht
        have aM : a' < M := by omega
        have bM : b' < M := by omega
        have gab : GL L a' b' := ⟨p, List.mem_of_getElem? hp, .inl e2⟩
        have gba : GL L b' a' := ⟨p, List.mem_of_getElem? hp, .inr e2⟩
        refine ⟨p.1, _, rfl, SqT.of ht, rfl, _, _, rfl, _, _, rfl, rfl, ?_⟩
        refine ⟨_, rfl, _, rfl, (by show 2 ≤ sizeLine; decide), fun t1 ht1 => ?_⟩
        have z1 := sN (o := .tup [.int (a' : Int), .int (b' : Int)]) ht1
        refine ⟨_, rfl, _, rfl, (by show 2 ≤ sizeLine; decide), fun t2 ht2 => ?_⟩
        have z2 := sN (o := .tup [.int (b' : Int), .int (a' : Int)]) ht2
        refine ⟨(by show 2 ≤ sizeLine; decide), fun lw hlw => ?_⟩
        have z3 := sN (o := .lst [.ref t1, .ref t2]) hlw
        have et1 := z3 _ _ (z2 _ _ (upd_same (H := H3) (a := t1) (o := .tup [.int (a' : Int), .int (b' : Int)])))
        have et2 := z3 _ _ (upd_same (H := upd H3 t1 (.tup [.int (a' : Int), .int (b' : Int)])) (a := t2) (o := .tup [.int (b' : Int), .int (a' : Int)]))
        have elw : (upd (upd (upd H3 t1 (.tup [.int (a' : Int), .int (b' : Int)])) t2 (.tup [.int (b' : Int), .int (a' : Int)])) lw (.lst [.ref t1, .ref t2])) lw = some (.lst [.ref t1, .ref t2]) := upd_same
        have s4 := sT z1 (sT z2 z3)
        revert et1 et2 elw s4
        generalize (upd (upd (upd H3 t1 (.tup [.int (a' : Int), .int (b' : Int)])) t2 (.tup [.int (b' : Int), .int (a' : Int)])) lw (.lst [.ref t1, .ref t2])) = H4
        intro et1 et2 elw s4
        have nlD : lw ≠ D := fun e => by
          have z := s4 _ _ eD3
          rw [← e, elw] at z
          have z2 := HO.lst.inj (Option.some.inj z)
          unfold flN at z2
          cases M with
          | zero => omega
          | succ M =>
            have z3 : (V.ref t1) = V.int (g 0) := by
              have := congrArg (fun l => l[0]?) z2
              rw [List.getElem?_map, List.getElem?_range (by omega)] at this
              exact Option.some.inj this
            cases z3
        refine ⟨lw, rfl, ⟨_, SqL.of elw⟩, for_list (K := K) (a := lw) (xs := [V.ref t1, V.ref t2]) (fun j σ H' => ∃ (x7 x8 : Option V) (g : Nat → Int), σ = [some (.ref W), some (.int (s0 : Int)), some (.ref lf), some (.ref D), some (.int (t : Int)), some (.int (a' : Int)), some (.int (b' : Int)), x7, x8] ∧ H' D = some (.lst (flN M g)) ∧
            OffI (GLl L ls) s0 M t (fun u v => GL (L.take k) u v ∨ (1 ≤ j ∧ u = a' ∧ v = b') ∨ (2 ≤ j ∧ u = b' ∧ v = a')) g ∧ Same H H' ∧ H' lw = some (.lst [.ref t1, .ref t2]) ∧ H' t1 = some (.tup [.int (a' : Int), .int (b' : Int)]) ∧ H' t2 = some (.tup [.int (b' : Int), .int (a' : Int)])) ?_ ?_ ?_ ?_⟩
        · exact ⟨y7, y8, g, rfl, s4 _ _ eD3, I.mono fun u v h => by
            rcases h with h | h | h
            · exact h
            · omega
            · omega, sT s3 s4, elw, et1, et2⟩
        · rintro j σ H5 hj ⟨_, _, _, _, _, _, _, e5, _⟩
          exact SqL.of e5
        · rintro j v σ H5 hv ⟨x7, x8, g, rfl, eD5, I, s5, e5, f1, f2⟩
          have key : ∃ (u w' : Nat) (tx : Addr), v = .ref tx ∧ H5 tx = some (.tup [.int (u : Int), .int (w' : Int)]) ∧ u < M ∧ w' < M ∧ GL L u w' ∧ ∀ x y, (GL (L.take k) x y ∨ (1 ≤ j + 1 ∧ x = a' ∧ y = b') ∨ (2 ≤ j + 1 ∧ x = b' ∧ y = a')) → (GL (L.take k) x y ∨ (1 ≤ j ∧ x = a' ∧ y = b') ∨ (2 ≤ j ∧ x = b' ∧ y = a')) ∨ (x = u ∧ y = w') := by
            match j, hv with
            | 0, hv =>
              cases hv
              exact ⟨a', b', t1, rfl, f1, aM, bM, gab, fun x y h => by
                rcases h with h | h | h
                · exact .inl (.inl h)
                · exact .inr h.2
                · omega⟩
            | 1, hv =>
              cases hv
              exact ⟨b', a', t2, rfl, f2, bM, aM, gba, fun x y h => by
                rcases h with h | h | h
                · exact .inl (.inl h)
                · exact .inl (.inr (.inl ⟨Nat.le_refl _, h.2⟩))
                · exact .inr h.2⟩
            | j + 2, hv => exact absurd hv (by simp)
          obtain ⟨u, w', tx, rfl, ex, uM, wM, guw, mono⟩ := key
          have skip : ¬ (g u = (t : Int) ∧ g w' < 0 ∧ (w' : Int) ∈ ls) → OffI (GLl L ls) s0 M t (fun u v => GL (L.take k) u v ∨ (1 ≤ j + 1 ∧ u = a' ∧ v = b') ∨ (2 ≤ j + 1 ∧ u = b' ∧ v = a')) g := fun no => (I.skip uM wM fun z => no ⟨z.1, z.2.1, z.2.2.2⟩).mono mono
          refine ⟨tx, _, rfl, SqT.of ex, rfl, _, _, rfl, _, _, rfl, rfl, ?_⟩
          refine ⟨_, rfl, _, rfl, D, _, (u : Int), _, rfl, rfl, SqL.of eD5, flN_ix g uM, _, rfl, rfl, _, rfl, ?_⟩
          rw [dec_i]
          refine ite2 (fun c1 => ?_) (fun c1 => ?_)
          · have c1' := of_decide_eq_true c1
            refine ⟨_, rfl, _, rfl, D, _, (w' : Int), _, rfl, rfl, SqL.of eD5, flN_ix g wM, _, _, rfl, rfl, _, rfl, ite2 (fun c2 => ?_) (fun c2 => ?_)⟩
            · have c2' := of_decide_eq_true c2
              refine ⟨_, rfl, _, rfl, lf, _, rfl, .inl (hlf' s5), rfl, flat_int ls, _, rfl, ?_⟩
              rw [if_neg Bool.false_ne_true, inV_int]
              refine ite2 (fun c3 => ?_) (fun c3 => ?_)
              · have c3' := of_decide_eq_true c3
                refine ⟨_, rfl, _, _, rfl, rfl, _, rfl, _, rfl, D, _, (w' : Int), w', rfl, rfl, eD5, by rw [flN_len]; exact ixN_of wM, ?_⟩
                rw [flN_set]
                have ns : ∀ {b : Addr} {ys : List V}, H5 b = some (.tup ys) → b ≠ D := fun e => ne_of e eD5 (fun z => by cases z)
                refine ⟨_, _, _, rfl, upd_same, (I.relax uM wM c1' c2' ⟨guw, c3'⟩).mono mono, sNew s5 hD0, ?_, ?_, ?_⟩
                · rw [upd_ne nlD]
                  exact e5
                · rw [upd_ne (ns f1)]
                  exact f1
                · rw [upd_ne (ns f2)]
                  exact f2
              · exact ⟨_, _, g, rfl, eD5, skip fun z => c3 (decide_eq_true z.2.2), s5, e5, f1, f2⟩
            · exact ⟨_, _, g, rfl, eD5, skip fun z => c2 (decide_eq_true z.2.1), s5, e5, f1, f2⟩
          · exact ⟨_, _, g, rfl, eD5, skip fun z => c1 (decide_eq_true z.1), s5, e5, f1, f2⟩
        · rintro σ H5 ⟨x7, x8, g, rfl, eD5, I, s5, _⟩
          refine ⟨_, _, _, _, g, rfl, eD5, I.mono fun u v ⟨r, hr2, e⟩ => ?_, s5⟩
          rw [List.take_add_one, hp] at hr2
          rcases List.mem_append.mp hr2 with hr2 | hr2
          · exact .inl ⟨r, hr2, e⟩
          · have er : r = p := by simpa using hr2
            rw [er, e2] at e
            simp only [List.cons.injEq, and_true] at e
            rcases e with e | e
            · exact .inr (.inl ⟨by show 1 ≤ 2; decide, by omega, by omega⟩)
            · exact .inr (.inr ⟨by show 2 ≤ 2; decide, by omega, by omega⟩)
      · rintro σ H3 ⟨y5, y6, y7, y8, g, rfl, eD3, I, s3⟩
        rw [List.length_map, List.take_length] at I
        exact ⟨_, _, _, _, _, g, rfl, eD3, I.turn fun u v h => h.1, s3⟩
    · rintro σ H2 ⟨x4, x5, x6, x7, x8, g, rfl, eD2, I, s2⟩
      rw [eM] at I
      refine ⟨_, rfl, k D g H2 s2 hD0 eD2 (I.end_ sM fun a b h => ?_)⟩
      obtain ⟨⟨p, hp, e⟩, _⟩ := h
      obtain ⟨c, d, e2, _, _, _⟩ := tt.ok p hp
      rw [e2] at e
      simp only [List.cons.injEq, and_true] at e
      omega
end
end Q

namespace Q
open PySem L2 QM
abbrev sUp : Stmt := top 21
abbrev sLds : Stmt := top 22
abbrev sLLd : Stmt := top 37
/-! ### parents -/
def oV : Option Nat → V
  | none => .non
  | some u => nI u
def pVs (M : Nat) (par : Nat → Option Nat) : List V := (List.range M).map fun i => oV (par i)
theorem pVs_len (M : Nat) (par : Nat → Option Nat) : (pVs M par).length = M := by
  unfold pVs
  rw [List.length_map, List.length_range]
theorem pVs_get {M i : Nat} (par : Nat → Option Nat) (h : i < M) : (pVs M par)[i]? = some (oV (par i)) := by
  unfold pVs
  rw [List.getElem?_map, List.getElem?_range h]
  rfl
theorem pVs_at {M i : Nat} (par : Nat → Option Nat) (h : i < M) : atI (pVs M par) (i : Int) = some (oV (par i)) := atI_nat (pVs_get par h)
structure ParOk (M : Nat) (par : Nat → Option Nat) (rk : Nat → Nat) : Prop where
  up : ∀ v u, v < M → par v = some u → u < M ∧ rk u < rk v
  rkM : ∀ v, v < M → rk v < M
inductive Root (par : Nat → Option Nat) : Nat → Nat → Prop
  | here {v : Nat} : par v = none → Root par v v
  | up {v u r : Nat} : par v = some u → Root par u r → Root par v r
theorem Root.uniq {par : Nat → Option Nat} {v r s : Nat} (h : Root par v r) (g : Root par v s) : r = s := by
  induction h with
  | here e =>
    cases g with
    | here _ => rfl
    | up e' _ => rw [e] at e'; cases e'
  | up e _ ih =>
    cases g with
    | here e' => rw [e] at e'; cases e'
    | up e' g' =>
      rw [e] at e'
      cases e'
      exact ih g'
theorem Root.top {par : Nat → Option Nat} {v r : Nat} (h : Root par v r) : par r = none := by
  induction h with
  | here e => exact e
  | up _ _ ih => exact ih
def ldr (par : Nat → Option Nat) : Nat → Nat → Nat
  | 0, v => v
  | n + 1, v => match par v with
    | none => v
    | some u => ldr par n u
theorem ldr_root {M : Nat} {par : Nat → Option Nat} {rk : Nat → Nat} (P : ParOk M par rk) : ∀ n v, v < M → rk v < n → Root par v (ldr par n v) ∧ ldr par n v < M
  | 0, v, _, h => absurd h (Nat.not_lt_zero _)
  | n + 1, v, hv, h => by
    cases e : par v with
    | none =>
      have z : ldr par (n + 1) v = v := by
        show (match par v with | none => v | some u => ldr par n u) = v
        rw [e]
      rw [z]
      exact ⟨.here e, hv⟩
    | some u =>
      have z : ldr par (n + 1) v = ldr par n u := by
        show (match par v with | none => v | some u => ldr par n u) = _
        rw [e]
      obtain ⟨u1, u2⟩ := P.up v u hv e
      obtain ⟨i1, i2⟩ := ldr_root P n u u1 (by omega)
      rw [z]
      exact ⟨.up e i1, i2⟩
/-- the leader -/
def LD (par : Nat → Option Nat) (M v : Nat) : Nat := ldr par M v
theorem ParOk.root {M : Nat} {par : Nat → Option Nat} {rk : Nat → Nat} (P : ParOk M par rk) {v : Nat} (h : v < M) : Root par v (LD par M v) := (ldr_root P M v h (P.rkM v h)).1
theorem ParOk.lt {M : Nat} {par : Nat → Option Nat} {rk : Nat → Nat} (P : ParOk M par rk) {v : Nat} (h : v < M) : LD par M v < M := (ldr_root P M v h (P.rkM v h)).2
inductive Way (par : Nat → Option Nat) : Nat → List Nat → Prop
  | one {v : Nat} : par v = none → Way par v [v]
  | cons {v u : Nat} {ws : List Nat} : par v = some u → Way par u ws → Way par v (v :: ws)
theorem Way.last {par : Nat → Option Nat} {v : Nat} {ws : List Nat} (h : Way par v ws) : ∃ pre r, ws = pre ++ [r] ∧ Root par v r := by
  induction h with
  | @one v e => exact ⟨[], v, rfl, .here e⟩
  | @cons v u ws e _ ih =>
    obtain ⟨pre, r, e2, h⟩ := ih
    exact ⟨v :: pre, r, by rw [e2]; rfl, .up e h⟩
def spUp : Sp := fun vs H Q _ => ∃ (pa : Addr) (M v : Nat) (par : Nat → Option Nat) (rk : Nat → Nat), vs = [.ref pa, nI v] ∧ H pa = some (.tup (pVs M par)) ∧ ParOk M par rk ∧ v < M ∧ M ≤ 40 ∧
  ∀ (p : Addr) (ws : List Nat) (H' : Hp), Same H H' → H p = none → H' p = some (.lst (ws.map nI)) → Way par v ws → Q (.ref p) H'
def spLds : Sp := fun vs H Q _ => ∃ (pa : Addr) (M : Nat) (par : Nat → Option Nat) (rk : Nat → Nat), vs = [.ref pa] ∧ H pa = some (.tup (pVs M par)) ∧ ParOk M par rk ∧ M ≤ 40 ∧
  ∀ (p : Addr) (H' : Hp), Same H H' → H' p = some (.tup (flN M fun i => (LD par M i : Int))) → Q (.ref p) H'
def spLLd : Sp := fun vs H Q _ => ∃ (pa : Addr) (M v : Nat) (par : Nat → Option Nat) (rk : Nat → Nat), vs = [.ref pa, nI v] ∧ H pa = some (.tup (pVs M par)) ∧ ParOk M par rk ∧ v < M ∧ M ≤ 40 ∧ Q (nI (LD par M v)) H
section
variable {P : Program} {w : World} {K : PySem.W.Frag} {mg : Str → Option Value} {base : Heap}
theorem scUp : FnScope ["parents", "house", "way"] ["parents", "house"] (defScope sUp) := ⟨rfl, rfl, rfl, by decide +kernel, rfl, by decide +kernel, by decide +kernel⟩
theorem ok_up {f : Addr} {fd : FuncData} (F : Fun K "way_up" "way_up" sUp f fd) (B : Bts mg) : FnOk P w K mg base CX0 1 f fd ["parents", "house"] spUp := by
  refine F.ok scUp (fun vs H Q E h => ?_) (fun cdv A outer s H vs Q E hr h => ?_)
  · obtain ⟨pa, M, v, par, rk, rfl, _⟩ := h
    rfl
  · obtain ⟨pa, M, v, par, rk, rfl, hp, po, hv, m40, k⟩ := h
    have nd := scUp.nd
    refine ⟨_, pss_cons (ps_set (i := 2) nd rfl (.inl rfl) (pe_lst (pa_cons (pv 1) pa_nil)))
      (pss_cons (ps_while PassesOwn.never (PW.pt (pw_and (pt_cmp (pc_notN (pe_ix ix_tup (pv 0) (pe_ix ix_list (pv 2) (pe_un un_neg pe_int) (fun _ _ => rfl)) (fun _ _ => rfl))))
          (pw_and1 (pt_cmpR op_le (pe_callB call_len_seq (by rfl) B.len PySem.boot_len (pa_cons (pv 2) pa_nil)) (pe_callB call_len_seq (by rfl) B.len PySem.boot_len (pa_cons (pv 0) pa_nil)) (nomark _)))))
        (pss_one (ps_expr (pe_bm PySem.F.plainAttrs_list PySem.F.slot_list_append PySem.F.type_list_append mt_append (pv 2) (pa_cons (pe_ix ix_tup (pv 0) (pe_ix ix_list (pv 2) (pe_un un_neg pe_int) (fun _ _ => rfl)) (fun _ _ => rfl)) pa_nil)))))
      (pss_one (ps_ret (pv 2)))), ?_⟩
    refine ⟨_, rfl, (by show 1 ≤ sizeLine; decide), fun D hD => ?_⟩
    refine ⟨fun n σ H' => ∃ (pre : List Nat) (x : Nat), σ = [some (.ref pa), some (nI v), some (.ref D)] ∧ H' D = some (.lst ((pre ++ [x]).map nI)) ∧ x < M ∧ (∀ ws, Way par x ws → Way par v (pre ++ ws)) ∧ pre.length + rk x + 1 ≤ M ∧ n = rk x ∧ Same H H', ⟨rk v, [], v, rfl, upd_same, hv, fun ws h => h, by have := po.rkM v hv; show 0 + rk v + 1 ≤ M; omega, rfl, sN hD⟩, ?_⟩
    rintro n σ H1 ⟨pre, x, rfl, eD, hx, hw, hl, rfl, s1⟩
    have ex : atI ((pre ++ [x]).map nI) (-1) = some (nI x) := by
      rw [List.map_append]
      exact atI_last _ _
    refine ⟨_, rfl, _, rfl, _, rfl, D, _, -1, _, rfl, rfl, SqL.of eD, ex, pa, _, (x : Int), _, rfl, rfl, SqT.of (s1 _ _ hp), pVs_at par hx, _, rfl, ?_⟩
    cases e : par x with
    | none =>
      refine ite2 (fun c => absurd c (by simp [oV])) (fun _ => ?_)
      refine iteF ⟨_, rfl, k D _ H1 s1 hD eD (hw _ (.one e))⟩
    | some u =>
      obtain ⟨u1, u2⟩ := po.up x u hx e
      refine ite2 (fun _ => ?_) (fun c => absurd (by simp [oV, nI]) c)
      refine ⟨_, rfl, D, _, rfl, .inl (SqL.of eD), _, rfl, pa, _, rfl, .inr (SqT.of (s1 _ _ hp)), _, _, rfl, rfl, _, rfl, ?_⟩
      have le : (((pre ++ [x]).map nI).length : Int) ≤ ((pVs M par).length : Int) := by
        rw [List.length_map, List.length_append, pVs_len]
        show ((pre.length + 1 : Nat) : Int) ≤ _
        omega
      rw [decide_eq_true le]
      refine iteT ⟨_, fun σ1 H1 h => ⟨rk u, u2, h⟩, ?_⟩
      refine ⟨_, rfl, .inl ⟨rfl, _, SqL.of eD⟩, _, rfl, _, rfl, _, rfl, D, _, -1, _, rfl, rfl, SqL.of eD, ex, pa, _, (x : Int), _, rfl, rfl, SqT.of (s1 _ _ hp), pVs_at par hx, D, _, _, rfl, rfl, eD, ?_, ?_⟩
      · rw [List.length_map, List.length_append]
        exact Nat.lt_of_lt_of_le (show pre.length + 1 < 64 by omega) (by decide)
      · refine ⟨pre ++ [x], u, rfl, ?_, u1, fun ws h => ?_, ?_, rfl, sNew s1 hD⟩
        · rw [upd_same, e, List.map_append (l₁ := pre ++ [x])]
          rfl
        · rw [List.append_assoc]
          exact hw _ (.cons e h)
        · rw [List.length_append]
          show pre.length + 1 + rk u + 1 ≤ M
          omega
theorem scLds : FnScope ["parents", "house"] ["parents"] (defScope sLds) := ⟨rfl, rfl, rfl, by decide +kernel, rfl, by decide +kernel, by decide +kernel⟩
theorem ok_lds {f fU : Addr} {fd dU : FuncData} (F : Fun K "leaders_by" "leaders_by" sLds f fd) (B : Bts mg) (DU : Df K mg "way_up" sUp ["parents", "house"] fU dU) : FnOk P w K mg base CX0 2 f fd ["parents"] spLds := by
  have GU : FnOk P w K mg base CX0 1 fU dU ["parents", "house"] spUp := ok_up DU.F B
  refine F.ok scLds (fun vs H Q E h => ?_) (fun cdv A outer s H vs Q E hr h => ?_)
  · obtain ⟨pa, M, par, rk, rfl, _⟩ := h
    rfl
  · obtain ⟨pa, M, par, rk, rfl, hp, po, m40, k⟩ := h
    have nd := scLds.nd
    refine ⟨_, pss_one (ps_ret (pe_callTy call_tuple_of (by rfl) B.tuple PyProof.Rows.boot_tuple (pa_cons (pe_lc (own := [("house", 1)]) (g := gName 1) (tt := tYes) rfl nd (pi_range1 rfl B.range (pa_cons (pe_callB call_len_seq (by rfl) B.len PySem.boot_len (pa_cons (pv 0) pa_nil)) pa_nil))
      (blkOk_by (N := ["parents", "house"]) (sc := defScope sLds) (by decide +kernel)) (fun _ _ _ _ _ => pg_name (i := 1) nd rfl (.inl rfl)) (fun _ _ _ _ _ => pts_nil)
      (fun _ _ _ _ _ => pe_ix (r := rIxL K) ix_list (pe_call GU hr rfl DU.m DU.k DU.b .nil pass0 (pa_cons (pv 0) (pa_cons (pv 1) pa_nil))) (pe_un un_neg pe_int) (fun _ _ => rfl))) pa_nil))), ?_⟩
    refine ⟨_, rfl, pa, _, rfl, .inr (SqT.of hp), ?_⟩
    rw [pVs_len]
    refine ⟨(M : Int), rfl, by omega, by omega, fun D hD => lc_range (lo := 0) (n := (M : Int).toNat) (fun i H' => H' D = some (.lst (flN i fun i => (LD par M i : Int))) ∧ Same H H') ?_ ?_ ?_⟩
    · exact ⟨upd_same, sN hD⟩
    · rintro i H1 hi ⟨eD, s1⟩
      rw [Int.toNat_natCast] at hi
      rw [Int.zero_add]
      refine ⟨rfl, ?_⟩
      refine ⟨_, rfl, _, rfl, pa, M, i, par, rk, rfl, s1 _ _ hp, po, hi, m40, fun p ws H2 s2 hp2 ep wy => ?_⟩
      obtain ⟨pre, r, rfl, rt⟩ := wy.last
      obtain rfl := rt.uniq (po.root hi)
      have el : atI ((pre ++ [LD par M i]).map nI) (-1) = some (nI (LD par M i)) := by
        rw [List.map_append]
        exact atI_last _ _
      refine ⟨_, rfl, p, _, -1, _, rfl, rfl, SqL.of ep, el, _, s2 _ _ eD, ?_, ?_, sNew (sT s1 s2) hD⟩
      · rw [flN_len]
        exact Nat.lt_of_lt_of_le (show i < 64 by omega) (by decide)
      · rw [upd_same]
        unfold flN
        rw [List.range_succ, List.map_append]
        rfl
    · rintro H1 ⟨eD, s1⟩
      rw [Int.toNat_natCast] at eD
      exact ⟨D, _, rfl, .inl ⟨SqL.of eD, fun t ht => k t _ (sT s1 (sN ht)) upd_same⟩⟩
theorem scLLd : FnScope ["parents", "house", "here", "turn"] ["parents", "house"] (defScope sLLd) := ⟨rfl, rfl, rfl, by decide +kernel, rfl, by decide +kernel, by decide +kernel⟩
theorem ok_lld {f : Addr} {fd : FuncData} (F : Fun K "_law_leader" "_law_leader" sLLd f fd) (B : Bts mg) : FnOk P w K mg base CX0 1 f fd ["parents", "house"] spLLd := by
  refine F.ok scLLd (fun vs H Q E h => ?_) (fun cdv A outer s H vs Q E hr h => ?_)
  · obtain ⟨pa, M, v, par, rk, rfl, _⟩ := h
    rfl
  · obtain ⟨pa, M, v, par, rk, rfl, hp, po, hv, m40, k⟩ := h
    have nd := scLLd.nd
    refine ⟨_, pss_cons (ps_set (i := 2) nd rfl (.inl rfl) (pv 1))
      (pss_cons (ps_for PassesOwn.never rfl (pi_range1 rfl B.range (pa_cons (pe_op op_add (pe_callB call_len_seq (by rfl) B.len PySem.boot_len (pa_cons (pv 0) pa_nil)) pe_int) pa_nil)) (pg_name (i := 3) nd rfl (.inl rfl))
        (pss_cons (ps_if (pt_cmp (pc_isN (pe_ix ix_tup (pv 0) (pv 2) (fun _ _ => rfl)))) (pss_one (ps_ret (pv 2))) pss_nil)
        (pss_one (ps_set (i := 2) nd rfl (.inl rfl) (pe_ix ix_tup (pv 0) (pv 2) (fun _ _ => rfl))))))
      (pss_one (ps_ret pe_non))), ?_⟩
    refine ⟨_, rfl, _, rfl, pa, _, rfl, .inr (SqT.of hp), _, _, rfl, rfl, ?_⟩
    rw [pVs_len]
    refine ⟨(M : Int) + 1, rfl, by omega, by omega, for_range (lo := 0) (n := ((M : Int) + 1).toNat) (fun i σ H' => H' = H ∧ ∃ (x : Nat) (x3 : Option V), σ = [some (.ref pa), some (nI v), some (nI x), x3] ∧ x < M ∧ i + rk x + 1 ≤ M ∧ ∀ r, Root par x r → Root par v r) ?_ ?_ ?_⟩
    · exact ⟨rfl, v, none, rfl, hv, by have := po.rkM v hv; omega, fun r h => h⟩
    · rintro i σ H1 hi ⟨rfl, x, x3, rfl, hx, hl, hr2⟩
      refine ⟨_, rfl, _, rfl, pa, _, (x : Int), _, rfl, rfl, SqT.of hp, pVs_at par hx, _, rfl, ?_⟩
      cases e : par x with
      | none =>
        refine ite2 (fun _ => ?_) (fun c => absurd (by simp [oV]) c)
        obtain rfl := (hr2 x (.here e)).uniq (po.root hv)
        exact ⟨_, rfl, k⟩
      | some u =>
        obtain ⟨u1, u2⟩ := po.up x u hx e
        refine ite2 (fun c => absurd c (by simp [oV, nI])) (fun _ => ?_)
        refine ⟨_, rfl, _, rfl, pa, _, (x : Int), _, rfl, rfl, SqT.of hp, pVs_at par hx, ?_⟩
        rw [e]
        exact ⟨rfl, u, _, rfl, u1, by omega, fun r h => hr2 r (.up e h)⟩
    · rintro σ H1 ⟨rfl, x, x3, rfl, hx, hl, hr2⟩
      omega
end
end Q

namespace Q
open PySem L2 QM
abbrev sNbr : Stmt := top 16
abbrev sIsNb : Stmt := top 19
abbrev sCross : Stmt := top 24
abbrev sAreP : Stmt := top 20
abbrev sLNum : Stmt := top 33
abbrev sLAreP : Stmt := top 43
def spNbr (C : Addr) : Sp := fun vs H Q _ => ∃ (w dx q r : Addr) (m : Int) (L : List (Addr × List Int)) (bs : List Addr) (nb : Nat → List Int) (h : Nat), vs = [.ref w, .int (h : Int)] ∧ WebIn C m L H w dx q r bs nb ∧ h < m.toNat ∧ ∀ t, H t = some (.tup ((nb h).map V.int)) → Q (.ref t) H
def spIsNb (C : Addr) : Sp := fun vs H Q _ => ∃ (w dx q r : Addr) (m : Int) (L : List (Addr × List Int)) (bs : List Addr) (nb : Nat → List Int) (h : Nat) (u : Int), vs = [.ref w, .int (h : Int), .int u] ∧ WebIn C m L H w dx q r bs nb ∧ h < m.toNat ∧ 0 ≤ u ∧ u < m ∧ u ∈ nb h ∧ Q (.bl true) H
/-- the pair of two numbers, the lesser one first -/
def cx (x y : Int) : List Int := [if y < x then y else x, if y > x then y else x]
def spCross : Sp := fun vs H Q _ => ∃ (la t : Addr) (M a b : Nat) (g : Nat → Int), vs = [.ref la, .ref t] ∧ H la = some (.tup (flN M g)) ∧ H t = some (.tup [nI a, nI b]) ∧ a < M ∧ b < M ∧ ∀ p, H p = none → Q (.ref p) (upd H p (.tup ((cx (g a) (g b)).map V.int)))
/-- parents along ties -/
structure ParN (M : Nat) (par : Nat → Option Nat) (rk : Nat → Nat) (nb : Nat → List Int) : Prop where
  ok : ParOk M par rk
  nbr : ∀ v u, v < M → par v = some u → (u : Int) ∈ nb v
def spAreP (C : Addr) : Sp := fun vs H Q _ => ∃ (w dx q r : Addr) (M : Nat) (L : List (Addr × List Int)) (bs : List Addr) (nb : Nat → List Int) (pa : Addr) (par : Nat → Option Nat) (rk : Nat → Nat), vs = [.ref w, .ref pa] ∧ WebIn C (M : Int) L H w dx q r bs nb ∧ H pa = some (.tup (pVs M par)) ∧ ParN M par rk nb ∧ M ≤ 40 ∧ ∀ H', Same H H' → Q (.bl true) H'
def spLNum : Sp := fun vs H Q _ => ∃ (i lo hi : Int), vs = [.int i, .int lo, .int hi] ∧ Q (.bl (decide (lo ≤ i) && decide (i ≤ hi))) H
section
variable {P : Program} {w : World} {K : PySem.W.Frag} {mg : Str → Option Value} {base : Heap}
theorem scNbr : FnScope ["web", "house"] ["web", "house"] (defScope sNbr) := ⟨rfl, rfl, rfl, by decide +kernel, rfl, by decide +kernel, by decide +kernel⟩
theorem ok_nbr {f C : Addr} {fd : FuncData} (F : Fun K "neighbours" "neighbours" sNbr f fd) (B : Bts mg) (T : WTxt K mg C) (D : WDefs K mg) : FnOk P w K mg base CX0 3 f fd ["web", "house"] (spNbr C) := by
  have GN : FnOk P w K mg base CX0 2 D.fN D.dN ["limit", "thing"] (spNum K) := ok_num D.DN.F B D.DP
  refine F.ok scNbr (fun vs H Q E h => ?_) (fun cdv A outer s H vs Q E hr h => ?_)
  · obtain ⟨w, dx, q, r, m, L, bs, nb, h, rfl, _⟩ := h
    rfl
  · obtain ⟨w, dx, q, r, m, L, bs, nb, h, rfl, x, lt, k⟩ := h
    refine ⟨_, pss_cons (ps_if (pt_not (pt_val (pe_call GN hr rfl D.DN.m D.DN.k D.DN.b .nil pass0 (pa_cons (pe_fld (pv 0) rfl) (pa_cons (pv 1) pa_nil))))) pss_never pss_nil)
      (pss_one (ps_ret (pe_ix ix_tup (pe_fld (pv 0) rfl) (pv 1) (fun _ _ => rfl)))), ?_⟩
    refine ⟨_, rfl, w, C, dx, _, _, rfl, x.at_, T.cl, T.nM, wf_many _ _ _, _, rfl, m, _, rfl, ?_⟩
    refine .inl ⟨_, rfl, _, rfl, ?_⟩
    have e : (decide (0 ≤ (h : Int)) && decide ((h : Int) < m)) = true := by rw [decide_eq_true (by omega), decide_eq_true (by omega)]; rfl
    rw [e]
    refine iteF ?_
    have ul : h < bs.length := by rw [x.rows.len]; exact lt
    have gu : bs[h]? = some bs[h] := List.getElem?_eq_getElem ul
    exact ⟨_, rfl, w, C, dx, _, _, rfl, x.at_, T.cl, T.nB, wf_beside _ _ _, _, rfl, r, _, (h : Int), _, rfl, rfl, SqT.of x.rows.at_, atI_nat (by rw [List.getElem?_map, gu]; rfl), k _ (x.rows.row _ _ gu)⟩
theorem scIsNb : FnScope ["web", "house", "thing"] ["web", "house", "thing"] (defScope sIsNb) := ⟨rfl, rfl, rfl, by decide +kernel, rfl, by decide +kernel, by decide +kernel⟩
theorem ok_isnb {f C fB : Addr} {fd dB : FuncData} (F : Fun K "is_neighbour" "is_neighbour" sIsNb f fd) (B : Bts mg) (T : WTxt K mg C) (D : WDefs K mg) (DB : Df K mg "neighbours" sNbr ["web", "house"] fB dB) : FnOk P w K mg base CX0 4 f fd ["web", "house", "thing"] (spIsNb C) := by
  have GB : FnOk P w K mg base CX0 3 fB dB ["web", "house"] (spNbr C) := ok_nbr DB.F B T D
  have GN : FnOk P w K mg base CX0 2 D.fN D.dN ["limit", "thing"] (spNum K) := ok_num D.DN.F B D.DP
  refine F.ok scIsNb (fun vs H Q E h => ?_) (fun cdv A outer s H vs Q E hr h => ?_)
  · obtain ⟨w, dx, q, r, m, L, bs, nb, h, u, rfl, _⟩ := h
    rfl
  · obtain ⟨w, dx, q, r, m, L, bs, nb, h, u, rfl, x, lt, u0, um, hu, k⟩ := h
    have hr2 : Room 2 _ := hr.mono (by decide)
    refine ⟨_, pss_one (ps_ret (pe_and (pe_call GN hr2 rfl D.DN.m D.DN.k D.DN.b .nil pass0 (pa_cons (pe_fld (pv 0) rfl) (pa_cons (pv 2) pa_nil)))
      (pe_one (pe_cmpR op_in_seq (pv 2) (pe_call GB hr rfl DB.m DB.k DB.b .nil pass0 (pa_cons (pv 0) (pa_cons (pv 1) pa_nil))) rfl)))), ?_⟩
    refine ⟨_, rfl, w, C, dx, _, _, rfl, x.at_, T.cl, T.nM, wf_many _ _ _, _, rfl, m, _, rfl, .inl ⟨u, rfl, _, rfl, ?_⟩⟩
    rw [decide_eq_true u0, decide_eq_true um]
    refine iteT ⟨_, rfl, _, rfl, _, rfl, w, dx, q, r, m, L, bs, nb, h, rfl, x, lt, fun t ht => ⟨t, _, rfl, .inr (SqT.of ht), rfl, flat_int _, ?_⟩⟩
    rw [if_neg Bool.false_ne_true, inV_int, decide_eq_true hu]
    exact k
theorem scCross : FnScope ["leaders", "tie", "low", "high"] ["leaders", "tie"] (defScope sCross) := ⟨rfl, rfl, rfl, by decide +kernel, rfl, by decide +kernel, by decide +kernel⟩
theorem ok_cross {f : Addr} {fd : FuncData} (F : Fun K "crossed_by" "crossed_by" sCross f fd) (B : Bts mg) : FnOk P w K mg base CX0 1 f fd ["leaders", "tie"] spCross := by
  refine F.ok scCross (fun vs H Q E h => ?_) (fun cdv A outer s H vs Q E hr h => ?_)
  · obtain ⟨la, t, M, a, b, g, rfl, _⟩ := h
    rfl
  · obtain ⟨la, t, M, a, b, g, rfl, hl, ht, ha, hb, k⟩ := h
    have nd := scCross.nd
    refine ⟨_, pss_cons (ps_asg (pv 1) (pg_tup rfl (pgs_cons (pg_name (i := 2) nd rfl (.inl rfl)) (pgs_cons (pg_name (i := 3) nd rfl (.inl rfl)) pgs_nil))))
      (pss_one (ps_ret (pe_tup (pa_cons (pe_callB (call_min2 rfl) (by rfl) B.min PyProof.Rows.boot_min (pa_cons (pe_ix ix_tup (pv 0) (pv 2) (fun _ _ => rfl)) (pa_cons (pe_ix ix_tup (pv 0) (pv 3) (fun _ _ => rfl)) pa_nil)))
        (pa_cons (pe_callB (call_max2 rfl) (by rfl) B.max PyProof.Rows.boot_max (pa_cons (pe_ix ix_tup (pv 0) (pv 2) (fun _ _ => rfl)) (pa_cons (pe_ix ix_tup (pv 0) (pv 3) (fun _ _ => rfl)) pa_nil))) pa_nil))))), ?_⟩
    refine ⟨_, rfl, t, _, rfl, SqT.of ht, rfl, _, _, rfl, _, _, rfl, rfl, ?_⟩
    refine ⟨_, rfl, _, rfl, la, _, (a : Int), _, rfl, rfl, SqT.of hl, flN_ix g ha, _, rfl, _, rfl, la, _, (b : Int), _, rfl, rfl, SqT.of hl, flN_ix g hb, _, _, rfl, ?_⟩
    refine ⟨_, rfl, _, rfl, la, _, (a : Int), _, rfl, rfl, SqT.of hl, flN_ix g ha, _, rfl, _, rfl, la, _, (b : Int), _, rfl, rfl, SqT.of hl, flN_ix g hb, _, _, rfl, ?_⟩
    exact ⟨(by show 2 ≤ sizeLine; decide), fun p hp => k p hp⟩
theorem scLNum : FnScope ["thing", "least", "most"] ["thing", "least", "most"] (defScope sLNum) := ⟨rfl, rfl, rfl, by decide +kernel, rfl, by decide +kernel, by decide +kernel⟩
theorem ok_lnum {f : Addr} {fd : FuncData} (F : Fun K "_law_number" "_law_number" sLNum f fd) (B : Bts mg) : FnOk P w K mg base CX0 1 f fd ["thing", "least", "most"] spLNum := by
  refine F.ok scLNum (fun vs H Q E h => ?_) (fun cdv A outer s H vs Q E hr h => ?_)
  · obtain ⟨i, lo, hi, rfl, _⟩ := h
    rfl
  · obtain ⟨i, lo, hi, rfl, k⟩ := h
    refine ⟨_, pss_one (ps_ret (pe_and (pe_callB call_isi (by rfl) B.isinstance PyProof.Rows.boot_isinstance (pa_cons (pv 0) (pa_cons (pe_bltn (v := .ty "int") rfl B.int PyProof.Rows.boot_int rfl) pa_nil)))
      (pe_and (pe_not (pe_callB call_isi (by rfl) B.isinstance PyProof.Rows.boot_isinstance (pa_cons (pv 0) (pa_cons (pe_bltn (v := .ty "bool") rfl B.bool (by decide +kernel) rfl) pa_nil))))
        (pe_one (pe_chain op_le op_le (pv 1) (pv 0) (pv 2)))))), ?_⟩
    refine ⟨_, rfl, .int i, .ty "int", .type "int", .type "int", true, rfl, .ty _, .base (.int _), kit_ty (by decide +kernel), _, rfl, iteT ?_⟩
    refine ⟨_, rfl, .int i, .ty "bool", .type "int", .type "bool", false, rfl, .ty _, .base (.int _), kit_ty (by decide +kernel), _, rfl, _, rfl, iteT ?_⟩
    refine ⟨_, rfl, _, rfl, _, _, rfl, rfl, _, rfl, ?_⟩
    by_cases c : lo ≤ i
    · rw [decide_eq_true c] at k ⊢
      exact iteT ⟨_, rfl, _, _, rfl, rfl, k⟩
    · rw [decide_eq_false c] at k ⊢
      exact iteF k
end
end Q

namespace Q
open PySem L2 QM
theorem WebIn.same {C : Addr} {m : Int} {L : List (Addr × List Int)} {H H' : Hp} {w dx q r : Addr} {bs : List Addr} {nb : Nat → List Int} (x : WebIn C m L H w dx q r bs nb) (s : Same H H') : WebIn C m L H' w dx q r bs nb := ⟨s _ _ x.at_, x.rows.same s, x.asc, x.nb⟩
section
variable {P : Program} {w : World} {K : PySem.W.Frag} {mg : Str → Option Value} {base : Heap}
theorem scAreP : FnScope ["web", "thing", "house", "parent", "leader"] ["web", "thing"] (defScope sAreP) := ⟨rfl, rfl, rfl, by decide +kernel, rfl, by decide +kernel, by decide +kernel⟩
theorem ok_arep {f C fB fI fU fL : Addr} {fd dB dI dU dL : FuncData} (F : Fun K "are_parents" "are_parents" sAreP f fd) (B : Bts mg) (ha : mg "all" = none) (T : WTxt K mg C) (D : WDefs K mg) (DB : Df K mg "neighbours" sNbr ["web", "house"] fB dB)
    (DI : Df K mg "is_neighbour" sIsNb ["web", "house", "thing"] fI dI) (DU : Df K mg "way_up" sUp ["parents", "house"] fU dU) (DL : Df K mg "leaders_by" sLds ["parents"] fL dL) : FnOk P w K mg base CX0 5 f fd ["web", "thing"] (spAreP C) := by
  have GI : FnOk P w K mg base CX0 4 fI dI ["web", "house", "thing"] (spIsNb C) := ok_isnb DI.F B T D DB
  have GL' : FnOk P w K mg base CX0 2 fL dL ["parents"] spLds := ok_lds DL.F B DU
  refine F.ok scAreP (fun vs H Q E h => ?_) (fun cdv A outer s H vs Q E hr h => ?_)
  · obtain ⟨w, dx, q, r, M, L, bs, nb, pa, par, rk, rfl, _⟩ := h
    rfl
  · obtain ⟨w, dx, q, r, M, L, bs, nb, pa, par, rk, rfl, x, hp, po, m40, k⟩ := h
    have nd := scAreP.nd
    have hr2 : Room 2 _ := hr.mono (by decide)
    refine ⟨_, pss_cons (ps_if (PW.pt (pw_or (pt_not (pt_val (pe_callB call_isi (by rfl) B.isinstance PyProof.Rows.boot_isinstance (pa_cons (pv 1) (pa_cons (pe_bltn (v := .ty "tuple") rfl B.tuple PyProof.Rows.boot_tuple rfl) pa_nil)))))
        (pw_or1 (pt_cmpR op_ne (pe_callB call_len_seq (by rfl) B.len PySem.boot_len (pa_cons (pv 1) pa_nil)) (pe_fld (pv 0) rfl) (nomark _))))) pss_never pss_nil)
      (pss_cons (ps_for PassesOwn.never rfl (pi_enumT rfl B.enumerate (pa_cons (pv 1) pa_nil)) (pg_tup rfl (pgs_cons (pg_name (i := 2) nd rfl (.inl rfl)) (pgs_cons (pg_name (i := 3) nd rfl (.inl rfl)) pgs_nil)))
        (pss_one (ps_if (PW.pt (pw_and (pt_cmp (pc_notN (pv 3))) (pw_and1 (pt_not (pt_val (pe_call GI hr rfl DI.m DI.k DI.b .nil pass0 (pa_cons (pv 0) (pa_cons (pv 2) (pa_cons (pv 3) pa_nil))))))))) pss_never pss_nil)))
      (pss_one (ps_ret (pe_callB (cr_all rfl) (by rfl) ha PyProof.Rows.boot_all (pa_cons (pe_lc (own := [("leader", 4)]) (g := gName 4) (tt := tYes) rfl nd (pi_tup (pe_call GL' hr2 rfl DL.m DL.k DL.b .nil pass0 (pa_cons (pv 1) pa_nil)))
        (blkOk_by (N := ["web", "thing", "house", "parent", "leader"]) (sc := defScope sAreP) (by decide +kernel)) (fun _ _ _ _ _ => pg_name (i := 4) nd rfl (.inl rfl)) (fun _ _ _ _ _ => pts_nil)
        (fun _ _ _ _ _ => pe_cmp (pc_isN (pe_ix (r := rIxT K) ix_tup (pv 1) (pv 4) (fun _ _ => rfl))))) pa_nil))))), ?_⟩
    have rs : Same H H := fun _ _ e => e
    refine ⟨_, rfl, .ref pa, .ty "tuple", .type "tuple", .type "tuple", true, rfl, .ty _, .base (.tup hp), kit_ty (by decide +kernel), _, rfl, iteF ?_⟩
    refine ⟨_, rfl, pa, _, rfl, .inr (SqT.of hp), _, rfl, w, C, dx, _, _, rfl, x.at_, T.cl, T.nM, wf_many _ _ _, rfl, _, rfl, ?_⟩
    rw [pVs_len, decide_eq_true (rfl : V.int (M : Int) = V.int (M : Int))]
    refine iteF ?_
    refine ⟨_, rfl, pa, _, rfl, SqT.of hp, for_enT (a := pa) (xs := pVs M par) (fun i σ H' => ∃ (x2 x3 : Option V), σ = [some (.ref w), some (.ref pa), x2, x3, none] ∧ Same H H') ?_ ?_ ?_ ?_⟩
    · exact ⟨none, none, rfl, rs⟩
    · rintro i σ H1 hi ⟨x2, x3, rfl, s1⟩
      exact SqT.of (s1 _ _ hp)
    · rintro i v T' σ H1 hv ⟨x2, x3, rfl, s1⟩ hT
      have hi : i < M := by
        have z := (List.getElem?_eq_some_iff.mp hv).1
        rw [pVs_len] at z
        exact z
      rw [pVs_get par hi] at hv
      obtain rfl := Option.some.inj hv
      have s2 := sT s1 (sN (o := .tup [.int (i : Nat), oV (par i)]) hT)
      refine ⟨T', _, rfl, SqT.of upd_same, rfl, _, _, rfl, _, _, rfl, rfl, ?_⟩
      refine ⟨_, rfl, _, rfl, ?_⟩
      cases e : par i with
      | none =>
        refine ite2 (fun c => absurd c (by simp [oV])) (fun _ => ?_)
        rw [e] at s2
        exact iteF ⟨_, _, rfl, s2⟩
      | some u =>
        obtain ⟨u1, _⟩ := po.ok.up i u hi e
        refine ite2 (fun _ => ?_) (fun c => absurd (by simp [oV, nI]) c)
        rw [e] at s2
        refine ⟨_, rfl, _, rfl, _, rfl, w, dx, q, r, (M : Int), L, bs, nb, i, (u : Int), rfl, x.same s2, by omega, by omega, by omega, po.nbr i u hi e, _, rfl, ?_⟩
        exact iteF ⟨_, _, rfl, s2⟩
    · rintro σ H1 ⟨x2, x3, rfl, s1⟩
      refine ⟨_, rfl, pa, M, par, rk, rfl, s1 _ _ hp, po.ok, m40, fun la H2 s2 hla => ?_⟩
      refine ⟨la, rfl, ⟨_, SqT.of hla⟩, fun D0 hD0 => lc_tup (K := K) (a := la) (xs := flN M fun i => (LD par M i : Int)) (fun i H' => H' D0 = some (.lst ((List.replicate i true).map V.bl)) ∧ Same H2 H') ?_ ?_ ?_ ?_⟩
      · exact ⟨upd_same, sN hD0⟩
      · rintro i H3 hi ⟨_, s3⟩
        exact SqT.of (s3 _ _ hla)
      · rintro i v H3 hv ⟨eD, s3⟩
        have hi : i < M := by
          have z := (List.getElem?_eq_some_iff.mp hv).1
          rw [flN_len] at z
          exact z
        rw [flN_at _ hi] at hv
        obtain rfl := Option.some.inj hv
        have top := (po.ok.root hi).top
        refine ⟨rfl, _, rfl, _, rfl, pa, _, (LD par M i : Int), _, rfl, rfl, SqT.of (s3 _ _ (s2 _ _ (s1 _ _ hp))), pVs_at par (po.ok.lt hi), ?_⟩
        rw [top]
        refine ⟨_, eD, ?_, ?_, sNew s3 hD0⟩
        · rw [List.length_map, List.length_replicate]
          exact Nat.lt_of_lt_of_le (show i < 64 by omega) (by decide)
        · rw [upd_same, List.replicate_succ', List.map_append]
          rfl
      · rintro H3 ⟨eD, s3⟩
        rw [flN_len] at eD
        refine ⟨D0, List.replicate M true, rfl, SqL.of eD, ?_⟩
        have e : (List.replicate M true).all id = true := by
          rw [List.all_eq_true]
          intro x hx
          rw [(List.mem_replicate.mp hx).2]
          rfl
        rw [e]
        exact k _ (sT s1 (sT s2 s3))
end
end Q

namespace Q
open PySem L2 QM
/-- parents along ties, by the ties themselves -/
def ParG (M : Nat) (par : Nat → Option Nat) (rk : Nat → Nat) (L : List (Addr × List Int)) : Prop := ParOk M par rk ∧ ∀ v u, v < M → par v = some u → GL L v u
def spLAreP : Sp := fun vs H Q _ => ∃ (W q pa : Addr) (M : Nat) (L : List (Addr × List Int)) (par : Nat → Option Nat) (rk : Nat → Nat), vs = [.ref W, .ref pa] ∧ LWeb H W q (M : Int) L ∧ H pa = some (.tup (pVs M par)) ∧ ParG M par rk L ∧ M ≤ 40 ∧ ∀ H', Same H H' → Q (.bl true) H'
section
variable {P : Program} {w : World} {K : PySem.W.Frag} {mg : Str → Option Value} {base : Heap}
theorem scLAreP : FnScope ["web", "thing", "house"] ["web", "thing"] (defScope sLAreP) := ⟨rfl, rfl, rfl, by decide +kernel, rfl, by decide +kernel, by decide +kernel⟩
theorem ok_larep {f fN fB fL : Addr} {fd dN dB dL : FuncData} (F : Fun K "_law_are_parents" "_law_are_parents" sLAreP f fd) (B : Bts mg) (ha : mg "all" = none) (DN : Df K mg "_law_number" sLNum ["thing", "least", "most"] fN dN)
    (DB : Df K mg "_law_beside" sLBes ["web", "house"] fB dB) (DL : Df K mg "_law_leader" sLLd ["parents", "house"] fL dL) : FnOk P w K mg base CX0 2 f fd ["web", "thing"] spLAreP := by
  have GN : FnOk P w K mg base CX0 1 fN dN ["thing", "least", "most"] spLNum := ok_lnum DN.F B
  have GB : FnOk P w K mg base CX0 1 fB dB ["web", "house"] spLBes := ok_lbes DB.F B
  have GD : FnOk P w K mg base CX0 1 fL dL ["parents", "house"] spLLd := ok_lld DL.F B
  refine F.ok scLAreP (fun vs H Q E h => ?_) (fun cdv A outer s H vs Q E hr h => ?_)
  · obtain ⟨W, q, pa, M, L, par, rk, rfl, _⟩ := h
    rfl
  · obtain ⟨W, q, pa, M, L, par, rk, rfl, lw, hp, ⟨po, pg⟩, m40, k⟩ := h
    have nd := scLAreP.nd
    have rs : Same H H := fun _ _ e => e
    have eM : ((M : Int)).toNat = M := Int.toNat_natCast M
    refine ⟨_, pss_cons (ps_if (PW.pt (pw_or (pt_not (pt_val (pe_callB call_isi (by rfl) B.isinstance PyProof.Rows.boot_isinstance (pa_cons (pv 1) (pa_cons (pe_bltn (v := .ty "tuple") rfl B.tuple PyProof.Rows.boot_tuple rfl) pa_nil)))))
        (pw_or1 (pt_cmpR op_ne (pe_callB call_len_seq (by rfl) B.len PySem.boot_len (pa_cons (pv 1) pa_nil)) (pe_ix ix_tup (pv 0) pe_int (fun _ _ => rfl)) (nomark _))))) pss_never pss_nil)
      (pss_cons (ps_for PassesOwn.never rfl (pi_range1 rfl B.range (pa_cons (pe_ix ix_tup (pv 0) pe_int (fun _ _ => rfl)) pa_nil)) (pg_name (i := 2) nd rfl (.inl rfl))
        (pss_cons (ps_if (PW.pt (pw_and (pt_cmp (pc_notN (pe_ix ix_tup (pv 1) (pv 2) (fun _ _ => rfl)))) (pw_and1 (pt_not (pt_val (pe_call GN hr rfl DN.m DN.k DN.b .nil pass0 (pa_cons (pe_ix ix_tup (pv 1) (pv 2) (fun _ _ => rfl)) (pa_cons pe_int (pa_cons (pe_op op_sub (pe_ix ix_tup (pv 0) pe_int (fun _ _ => rfl)) pe_int) pa_nil))))))))) pss_never pss_nil)
        (pss_one (ps_if (PW.pt (pw_and (pt_cmp (pc_notN (pe_ix ix_tup (pv 1) (pv 2) (fun _ _ => rfl)))) (pw_and1 (pt_cmpR op_notIn_seq (pe_ix ix_tup (pv 1) (pv 2) (fun _ _ => rfl)) (pe_call GB hr rfl DB.m DB.k DB.b .nil pass0 (pa_cons (pv 0) (pa_cons (pv 2) pa_nil))) rfl)))) pss_never pss_nil))))
      (pss_one (ps_ret (pe_callB (cr_all rfl) (by rfl) ha PyProof.Rows.boot_all (pa_cons (pe_lc (own := [("house", 2)]) (g := gName 2) (tt := tYes) rfl nd (pi_range1 rfl B.range (pa_cons (pe_ix ix_tup (pv 0) pe_int (fun _ _ => rfl)) pa_nil))
        (blkOk_by (N := ["web", "thing", "house"]) (sc := defScope sLAreP) (by decide +kernel)) (fun _ _ _ _ _ => pg_name (i := 2) nd rfl (.inl rfl)) (fun _ _ _ _ _ => pts_nil)
        (fun _ _ _ _ _ => pe_cmp (pc_notN (pe_call GD hr rfl DL.m DL.k DL.b .nil pass0 (pa_cons (pv 1) (pa_cons (pv 2) pa_nil)))))) pa_nil))))), ?_⟩
    refine ⟨_, rfl, .ref pa, .ty "tuple", .type "tuple", .type "tuple", true, rfl, .ty _, .base (.tup hp), kit_ty (by decide +kernel), _, rfl, iteF ?_⟩
    refine ⟨_, rfl, pa, _, rfl, .inr (SqT.of hp), _, rfl, W, _, 0, _, rfl, rfl, SqT.of lw.1, rfl, rfl, _, rfl, ?_⟩
    rw [pVs_len, decide_eq_true (rfl : V.int (M : Int) = V.int (M : Int))]
    refine iteF ?_
    refine ⟨_, rfl, W, _, 0, _, rfl, rfl, SqT.of lw.1, rfl, (M : Int), rfl, by omega, by omega, for_range (lo := 0) (n := (M : Int).toNat) (fun i σ H' => ∃ x2 : Option V, σ = [some (.ref W), some (.ref pa), x2] ∧ Same H H') ?_ ?_ ?_⟩
    · exact ⟨none, rfl, rs⟩
    · rintro i σ H1 hi ⟨x2, rfl, s1⟩
      rw [eM] at hi
      rw [Int.zero_add]
      have ix := pVs_at par hi
      refine ⟨_, rfl, _, rfl, pa, _, (i : Int), _, rfl, rfl, SqT.of (s1 _ _ hp), ix, _, rfl, ?_⟩
      cases e : par i with
      | none =>
        refine ite2 (fun c => absurd c (by simp [oV])) (fun _ => ?_)
        refine iteF ⟨_, rfl, _, rfl, pa, _, (i : Int), _, rfl, rfl, SqT.of (s1 _ _ hp), ix, _, rfl, ?_⟩
        rw [e]
        refine ite2 (fun c => absurd c (by simp [oV])) (fun _ => ?_)
        exact iteF ⟨_, rfl, s1⟩
      | some u =>
        obtain ⟨u1, _⟩ := po.up i u hi e
        refine ite2 (fun _ => ?_) (fun c => absurd (by simp [oV, nI]) c)
        refine ⟨_, rfl, _, rfl, pa, _, (i : Int), _, rfl, rfl, SqT.of (s1 _ _ hp), ix, _, rfl, W, _, 0, _, rfl, rfl, SqT.of (s1 _ _ lw.1), rfl, _, _, rfl, rfl, ?_⟩
        rw [e]
        refine ⟨(u : Int), 0, (M : Int) - 1, rfl, _, rfl, ?_⟩
        rw [decide_eq_true (show (0 : Int) ≤ (u : Int) by omega), decide_eq_true (show (u : Int) ≤ (M : Int) - 1 by omega)]
        refine iteF ⟨_, rfl, _, rfl, pa, _, (i : Int), _, rfl, rfl, SqT.of (s1 _ _ hp), ix, _, rfl, ?_⟩
        rw [e]
        refine ite2 (fun _ => ?_) (fun c => absurd (by simp [oV, nI]) c)
        refine ⟨_, rfl, _, rfl, pa, _, (i : Int), _, rfl, rfl, SqT.of (s1 _ _ hp), ix, _, rfl, _, rfl, W, q, (M : Int), (i : Int), L, rfl, lw.same s1, fun p ns H2 s2 hp2 ep _ mem => ?_⟩
        rw [e]
        refine ⟨p, _, rfl, .inl (SqL.of ep), rfl, flat_int _, _, rfl, ?_⟩
        have en : (if true = true then !inV (oV (some u)) (ns.map V.int) else inV (oV (some u)) (ns.map V.int)) = false := by
          rw [if_pos rfl]
          show (!inV (V.int (u : Int)) (ns.map V.int)) = false
          rw [inV_int, decide_eq_true ((mem (u : Int)).mpr (pg i u hi e))]
          rfl
        rw [en]
        exact iteF ⟨_, rfl, sT s1 s2⟩
    · rintro σ H1 ⟨x2, rfl, s1⟩
      refine ⟨_, rfl, W, _, 0, _, rfl, rfl, SqT.of (s1 _ _ lw.1), rfl, (M : Int), rfl, by omega, by omega, fun D0 hD0 => lc_range (lo := 0) (n := (M : Int).toNat) (fun i H' => H' D0 = some (.lst ((List.replicate i true).map V.bl)) ∧ Same H1 H') ?_ ?_ ?_⟩
      · exact ⟨upd_same, sN hD0⟩
      · rintro i H3 hi ⟨eD, s3⟩
        rw [eM] at hi
        rw [Int.zero_add]
        refine ⟨rfl, _, rfl, _, rfl, pa, M, i, par, rk, rfl, s3 _ _ (s1 _ _ hp), po, hi, m40, ?_⟩
        refine ⟨_, eD, ?_, ?_, sNew s3 hD0⟩
        · rw [List.length_map, List.length_replicate]
          exact Nat.lt_of_lt_of_le (show i < 64 by omega) (by decide)
        · rw [upd_same, List.replicate_succ', List.map_append]
          rfl
      · rintro H3 ⟨eD, s3⟩
        rw [eM] at eD
        refine ⟨D0, List.replicate M true, rfl, SqL.of eD, ?_⟩
        have e : (List.replicate M true).all id = true := by
          rw [List.all_eq_true]
          intro x hx
          rw [(List.mem_replicate.mp hx).2]
          rfl
        rw [e]
        exact k _ (sT s1 s3)
end
end Q

/-! list(d.values()), d a dict whose keys are tuples -/
namespace Q
open PySem PySem.Spec PyProof.Rows L2
section
variable {prog : Program} {w : World} {es : Array DictEntry} {ep : Nat} {r d : Addr}
theorem src_vals : PySem.W.KdlSrc prog w "dict_values" r d es.size (fun i v => ∃ hi : i < es.size, v = es[i].val) (fun h => h.IsValuesView r d ∧ h.DictRaw d es ep) where
  type := fun _ hm => hm.1.typeIs
  there := fun _ hm => by
    obtain ⟨⟨o, ho, _⟩, ⟨o2, ho2, _⟩⟩ := hm
    exact ⟨Heap.lt_size ho, Heap.lt_size ho2⟩
  keep := fun _ _ hm hk => by
    obtain ⟨⟨o, ho, x⟩, hm2⟩ := hm
    exact ⟨⟨o, hk r (.inl rfl) o ho, x⟩, hm2.at fun o e => hk d (.inr rfl) o e⟩
  notList := by decide
  notTuple := by decide
  hint := fun _ _ _ _ hm hq => PySem.W.kdl_hint_values hm.1.typeIs hq
  iter := fun _ _ hh hm => by
    have ne : d ≠ _ := fun z => by
      obtain ⟨_, ⟨o2, ho2, _⟩⟩ := hm
      exact absurd (Heap.lt_size ho2) (by rw [z]; exact Nat.lt_irrefl _)
    exact ⟨_, _, (fun _ _ hq => wpAny_pyIter_values_raw hm.1 hm.2 hq), Walks.rawValues hh _ d ne es ep, ⟨⟨_, Heap.get?_push_size _ rfl, rfl, rfl⟩, hm.2.at fun o e => Heap.get?_push_of_some _ e⟩⟩
end
def rValuesT : V → List V → Hp → VK → Prop := fun x xs H Q => ∃ (a : Addr) (kvs : List (List L2.Key × V)), x = .ref a ∧ xs = [] ∧ H a = some (.dT kvs) ∧ ∀ p, H p = none → Q (.ref p) (upd H p (viewO "dict_values" p a))
theorem kt_vals {H : Hp} {kvs : List (List L2.Key × V)} {xs : List (List L2.Key × Addr × Value)} (r : KT H kvs xs) : Vals (kvs.map (·.2)) (xs.map fun x => x.2.2) := by
  induction r with
  | nil => exact .nil
  | cons h t ih => exact .cons h.2.2 ih
section
variable {X : Cx}
theorem mt_valuesT : MtR X "dict.values" rValuesT := by
  intro pins s σ H x xs v us Q I rx rxs h
  obtain ⟨a, kvs, rfl, rfl, ha, q⟩ := h
  cases rx
  cases rxs
  obtain ⟨z, hd, xs', rel, o, es, ep, ho, hx, hdat, _⟩ := dt_of I.hok ha
  have hm : s.heap.DictRaw a es ep := ⟨o, ho, hx, hdat⟩
  have hf : H s.heap.objs.size = none := I.hok.fresh (Nat.le_refl _)
  refine call_meetsIn PySem.F.slot_dict_values hm.typeIs PySem.F.entry_dict_values (PySem.F.args_dict_values_1 _) (meets_dict_values_raw a hd) ⟨⟨es, ep, hm⟩, ?_⟩
  exact ⟨.ref s.heap.objs.size, upd H s.heap.objs.size (viewO "dict_values" s.heap.objs.size a), I.laid (t' := s.toks) (fun b u e => Heap.get?_push_of_some _ e) (Nat.le_refl _) (viewO_ok (Heap.get?_push_size _ rfl)), rfl, q _ hf⟩
theorem call_list_valuesT (hc : X.calm = true) : CallR X (.type "list") (fun xs H Q => ∃ (p d : Addr) (kvs : List (List L2.Key × V)), xs = [V.ref p] ∧ H p = some (viewO "dict_values" p d) ∧ H d = some (.dT kvs) ∧ ∀ l, H l = none → Q (.ref l) (upd H l (.lst (kvs.map (·.2))))) := by
  intro pins s σ H xs us Q I r h
  obtain ⟨p, d, kvs, rfl, hp, hd, q⟩ := h
  obtain ⟨u, rfl, rx⟩ := r.one
  cases rx
  obtain ⟨z, hs, ks, pr, o, es, ep, ho, hx, hdt, he, hn⟩ := (show ObjOk X.prog X.w H s.heap d (.dT kvs) from I.hok d _ hd)
  have hv : s.heap.get? p = some (DSub.viewOb "dict_values" d) := (show ObjOk X.prog X.w H s.heap p (viewO "dict_values" p d) from I.hok p _ hp).1
  have l1 : es.size = ks.length := size_of_entries he
  have l2 : kvs.length = ks.length := Paired.length pr
  refine PySem.W.kdl_call (src_vals (r := p) (d := d) (es := es) (ep := ep)) (I.ok.hd hc) ⟨⟨_, hv, rfl, rfl⟩, ⟨o, ho, hx, hdt⟩⟩ (by omega) fun h' tk acc' c' kp e it => ?_
  have ea : acc'.toList = ks.map fun x => x.2.2 := by
    have hl : acc'.toList.length = ks.length := by rw [Array.length_toList, it.1]; exact l1
    apply List.ext_getElem?
    intro j
    rw [List.getElem?_map]
    by_cases hj : j < ks.length
    · have hja : j < acc'.toList.length := by rw [hl]; exact hj
      have hje : j < es.size := by rw [l1]; exact hj
      obtain ⟨_, e3⟩ := it.2 j (acc'.toList[j]) (by rw [← Array.getElem?_toList]; exact List.getElem?_eq_getElem hja)
      have qe := entry_at he j
      rw [Array.getElem?_eq_getElem hje, List.getElem?_eq_getElem hj] at qe
      have e4 : es[j] = entryOfKey (tupleKind (mixKind X.prog X.w)) ks[j] := Option.some.inj qe
      rw [List.getElem?_eq_getElem hja, e3, e4, List.getElem?_eq_getElem hj]
      rfl
    · rw [List.getElem?_eq_none (by omega), List.getElem?_eq_none (by omega)]
      rfl
  have rv : Vals (kvs.map (·.2)) acc'.toList := by
    rw [ea]
    exact kt_vals pr
  have hz : (kvs.map (·.2)).length ≤ sizeLine := by rw [List.length_map]; exact z
  refine ⟨.ref s.heap.objs.size, _, I.laid (t' := tk) (o := .lst (kvs.map (·.2))) kp (Nat.le_refl _) ?_, rfl, q _ (I.hok.fresh (Nat.le_refl _))⟩
  exact ⟨hz, acc'.toList, c', rv, by rw [Array.toArray_toList]; exact e⟩
end
end Q

namespace Q
open PySem L2 QM
abbrev sLeast : Stmt := top 25
/-- the clusters that a tie joins -/
def crL (g : Nat → Int) : List Int → List Int
  | [a, b] => cx (g a.toNat) (g b.toNat)
  | _ => [0, 0]
def CrossL (g : Nat → Int) (l : List Int) : Prop := ∃ x y : Int, crL g l = [x, y] ∧ x ≠ y
/-- the least tie between its clusters -/
def LstV (g : Nat → Int) (L : List (Addr × List Int)) (l : List Int) : Prop := (∃ p ∈ L, p.2 = l) ∧ CrossL g l ∧ ∀ p ∈ L, crL g p.2 = crL g l → p.2 = l ∨ ltP l p.2
/-- the ties taken so far -/
structure LTI (g : Nat → Int) (L F : List (Addr × List Int)) (i : Nat) : Prop where
  sub : ∀ p ∈ F, p ∈ L.take i
  crs : ∀ p ∈ F, CrossL g p.2
  fst : ∀ p ∈ F, ∀ r ∈ L.take i, crL g r.2 = crL g p.2 → r.2 = p.2 ∨ ltP p.2 r.2
  all : ∀ r ∈ L.take i, CrossL g r.2 → ∃ p ∈ F, crL g p.2 = crL g r.2
  len : F.length ≤ i
  asc : F.Pairwise (fun x y => ltP x.2 y.2)
def kT (g : Nat → Int) (F : List (Addr × List Int)) : List (List Key × V) := F.map fun p => ((crL g p.2).map Sum.inl, V.ref p.1)
theorem LTI.nil {g : Nat → Int} {L : List (Addr × List Int)} : LTI g L [] 0 := ⟨fun p hp => absurd hp List.not_mem_nil, fun p hp => absurd hp List.not_mem_nil, fun p hp => absurd hp List.not_mem_nil, fun r hr => absurd hr (by simp), Nat.le_refl _, .nil⟩
theorem take_snoc {α : Type} {L : List α} {i : Nat} {p : α} (h : L[i]? = some p) : L.take (i + 1) = L.take i ++ [p] := by
  rw [List.take_add_one, h]
  rfl
theorem asc_take {L : List (Addr × List Int)} (asc : L.Pairwise (fun x y => ltP x.2 y.2)) {i : Nat} {p r : Addr × List Int} (h : L[i]? = some p) (hr : r ∈ L.take i) : ltP r.2 p.2 := by
  obtain ⟨j, hj, ej⟩ := List.mem_take_iff_getElem.mp hr
  obtain ⟨hi, ei⟩ := List.getElem?_eq_some_iff.mp h
  have z := List.pairwise_iff_getElem.mp asc j i (by omega) hi (by omega)
  rw [ej, ei] at z
  exact z
theorem LTI.skip {g : Nat → Int} {L F : List (Addr × List Int)} {i : Nat} {p : Addr × List Int} (I : LTI g L F i) (asc : L.Pairwise (fun x y => ltP x.2 y.2)) (h : L[i]? = some p) (no : CrossL g p.2 → ∃ q ∈ F, crL g q.2 = crL g p.2) : LTI g L F (i + 1) := by
  refine ⟨fun q hq => ?_, I.crs, fun q hq r hr e => ?_, fun r hr c => ?_, Nat.le_succ_of_le I.len, I.asc⟩
  · rw [take_snoc h]
    exact List.mem_append_left _ (I.sub q hq)
  · rw [take_snoc h] at hr
    rcases List.mem_append.mp hr with hr | hr
    · exact I.fst q hq r hr e
    · rw [List.mem_singleton.mp hr]
      exact .inr (asc_take asc h (I.sub q hq))
  · rw [take_snoc h] at hr
    rcases List.mem_append.mp hr with hr | hr
    · exact I.all r hr c
    · rw [List.mem_singleton.mp hr] at c ⊢
      exact no c
theorem LTI.put {g : Nat → Int} {L F : List (Addr × List Int)} {i : Nat} {p : Addr × List Int} (I : LTI g L F i) (asc : L.Pairwise (fun x y => ltP x.2 y.2)) (h : L[i]? = some p) (c : CrossL g p.2) (no : ¬ ∃ q ∈ F, crL g q.2 = crL g p.2) : LTI g L (F ++ [p]) (i + 1) := by
  refine ⟨fun q hq => ?_, fun q hq => ?_, fun q hq r hr e => ?_, fun r hr cr => ?_, ?_, ?_⟩
  · rw [take_snoc h]
    rcases List.mem_append.mp hq with hq | hq
    · exact List.mem_append_left _ (I.sub q hq)
    · exact List.mem_append_right _ hq
  · rcases List.mem_append.mp hq with hq | hq
    · exact I.crs q hq
    · rw [List.mem_singleton.mp hq]
      exact c
  · rw [take_snoc h] at hr
    rcases List.mem_append.mp hq with hq | hq
    · rcases List.mem_append.mp hr with hr | hr
      · exact I.fst q hq r hr e
      · rw [List.mem_singleton.mp hr]
        exact .inr (asc_take asc h (I.sub q hq))
    · rw [List.mem_singleton.mp hq] at e ⊢
      rcases List.mem_append.mp hr with hr | hr
      · have cr : CrossL g r.2 := by
          obtain ⟨x, y, ec, ne⟩ := c
          exact ⟨x, y, e.trans ec, ne⟩
        obtain ⟨q', hq', e'⟩ := I.all r hr cr
        exact absurd ⟨q', hq', e'.trans e⟩ no
      · rw [List.mem_singleton.mp hr]
        exact .inl rfl
  · rw [take_snoc h] at hr
    rcases List.mem_append.mp hr with hr | hr
    · obtain ⟨q, hq, e⟩ := I.all r hr cr
      exact ⟨q, List.mem_append_left _ hq, e⟩
    · rw [List.mem_singleton.mp hr]
      exact ⟨p, List.mem_append_right _ (List.mem_singleton.mpr rfl), rfl⟩
  · rw [List.length_append]
    exact Nat.succ_le_succ I.len
  · rw [List.pairwise_append]
    exact ⟨I.asc, List.pairwise_singleton _ _, fun q hq y hy => by rw [List.mem_singleton.mp hy]; exact asc_take asc h (I.sub q hq)⟩
theorem ltP_irr {l : List Int} : ¬ ltP l l := by
  rintro ⟨a, b, c, d, rfl, e, h⟩
  simp only [List.cons.injEq, and_true] at e
  omega
theorem LTI.end_ {g : Nat → Int} {L F : List (Addr × List Int)} (I : LTI g L F L.length) (l : List Int) : (∃ p ∈ F, p.2 = l) ↔ LstV g L l := by
  constructor
  · rintro ⟨p, hp, rfl⟩
    have hs := I.sub p hp
    rw [List.take_length] at hs
    refine ⟨⟨p, hs, rfl⟩, I.crs p hp, fun r hr e => ?_⟩
    exact I.fst p hp r (by rw [List.take_length]; exact hr) e
  · rintro ⟨⟨p, hp, rfl⟩, c, least⟩
    obtain ⟨q, hq, e⟩ := I.all p (by rw [List.take_length]; exact hp) c
    have hs := I.sub q hq
    rw [List.take_length] at hs
    refine ⟨q, hq, ?_⟩
    rcases I.fst q hq p (by rw [List.take_length]; exact hp) e.symm with h | h
    · exact h.symm
    · rcases least q hs e with h2 | h2
      · exact h2
      · exact absurd (ltP_trans h h2) ltP_irr
theorem kT_none {g : Nat → Int} {F : List (Addr × List Int)} {l : List Int} : valV (kT g F) (l.map Sum.inl) = none ↔ ¬ ∃ q ∈ F, crL g q.2 = l := by
  have inj : ∀ {x y : List Int}, x.map (Sum.inl : Int → Key) = y.map Sum.inl → x = y := fun {x y} e => by
    have z := congrArg (List.map fun k : Key => match k with | .inl i => i | .inr _ => 0) e
    rw [List.map_map, List.map_map] at z
    have id1 : ∀ w : List Int, w.map ((fun k : Key => match k with | .inl i => i | .inr _ => 0) ∘ Sum.inl) = w := fun w => by
      induction w with
      | nil => rfl
      | cons a t ih => rw [List.map_cons, ih]; rfl
    rw [id1, id1] at z
    exact z
  induction F with
  | nil => exact ⟨fun _ ⟨q, hq, _⟩ => absurd hq List.not_mem_nil, fun _ => valV_nil⟩
  | cons p r ih =>
    by_cases c : crL g p.2 = l
    · rw [show kT g (p :: r) = ((crL g p.2).map Sum.inl, V.ref p.1) :: kT g r from rfl, valV_pos (p := ((crL g p.2).map Sum.inl, V.ref p.1)) (by show (crL g p.2).map Sum.inl = _; rw [c])]
      exact ⟨fun z => (nomatch z), fun z => absurd ⟨p, List.mem_cons_self, c⟩ z⟩
    · rw [show kT g (p :: r) = ((crL g p.2).map Sum.inl, V.ref p.1) :: kT g r from rfl, valV_neg (p := ((crL g p.2).map Sum.inl, V.ref p.1)) (fun e => c (inj e))]
      refine ih.trans ?_
      constructor
      · rintro h ⟨q, hq, e⟩
        rcases List.mem_cons.mp hq with rfl | hq
        · exact c e
        · exact h ⟨q, hq, e⟩
      · rintro h ⟨q, hq, e⟩
        exact h ⟨q, List.mem_cons_of_mem _ hq, e⟩
/-- what was sorted, as pairs, of distinct ones -/
theorem sorted_nd {m : Int} {H : Hp} {f : Addr} {ks : List (Addr × List Int)} (pr : Pairs m H f ks) (nd : (ks.map (·.2)).Nodup) {ys : List V} (pm : ys.Perm (ks.map fun p => V.ref p.1)) (sr : SrtO.Srtd (L2.ltP (kH H)) ys) :
    ∃ L : List (Addr × List Int), ys = L.map (fun p => V.ref p.1) ∧ L.Perm ks ∧ L.Pairwise (fun x y => ltP x.2 y.2) := by
  obtain ⟨L, e, sub, sup, hl, pw⟩ := sorted_back pr pm sr
  have e2 : L = ys.map (pH H) := by
    rw [e, List.map_map]
    refine (List.map_id L).symm.trans (List.map_congr_left fun p hp => ?_)
    exact (pH_at pr (sub p hp)).symm
  have e3 : (ks.map fun p => V.ref p.1).map (pH H) = ks := by
    rw [List.map_map]
    refine (List.map_congr_left fun p hp => ?_).trans (List.map_id ks)
    exact pH_at pr hp
  have perm : L.Perm ks := by
    have z := pm.map (pH H)
    rw [e3, ← e2] at z
    exact z
  refine ⟨L, e, perm, ?_⟩
  have nd2 : (L.map (·.2)).Nodup := (perm.map (·.2)).nodup_iff.mpr nd
  have nd3 : L.Pairwise (fun x y => x.2 ≠ y.2) := List.pairwise_map.mp nd2
  refine (List.Pairwise.and pw nd3).imp_of_mem fun {x y} hx hy h => ?_
  obtain ⟨a, b, ex, _⟩ := pr.ok x (sub x hx)
  obtain ⟨c, d, ey, _⟩ := pr.ok y (sub y hy)
  obtain ⟨h1, h2⟩ := h
  rw [ex, ey] at h1 h2 ⊢
  exact ltP_of h1 fun z => h2 z.symm
theorem sorted_strict {m : Int} {H : Hp} {f : Addr} {ks : List (Addr × List Int)} (pr : Pairs m H f ks) (asc : ks.Pairwise (fun x y => ltP x.2 y.2)) {ys : List V} (pm : ys.Perm (ks.map fun p => V.ref p.1)) (sr : SrtO.Srtd (L2.ltP (kH H)) ys) :
    ∃ L : List (Addr × List Int), ys = L.map (fun p => V.ref p.1) ∧ L.Perm ks ∧ L.Pairwise (fun x y => ltP x.2 y.2) :=
  sorted_nd pr (List.pairwise_map.mpr (asc.imp fun {x y} (h : ltP x.2 y.2) (e : x.2 = y.2) => ltP_irr (l := y.2) (e ▸ h))) pm sr
end Q

namespace Q
open PySem L2 QM
/-- the least ties, as they stand -/
structure LeastAt (g : Nat → Int) (L : List (Addr × List Int)) (m : Int) (H : Hp) (t : Addr) (T : List (Addr × List Int)) : Prop where
  at_ : H t = some (.tup (T.map fun p => V.ref p.1))
  tup : ∀ p ∈ T, H p.1 = some (.tup (p.2.map V.int))
  ok : ∀ p ∈ T, ∃ a b : Int, p.2 = [a, b] ∧ 0 ≤ a ∧ a < b ∧ b < m
  asc : T.Pairwise (fun x y => ltP x.2 y.2)
  len : T.length ≤ L.length
  mem : ∀ l, (∃ p ∈ T, p.2 = l) ↔ LstV g L l
def spLeast (C : Addr) : Sp := fun vs H Q _ => ∃ (w dx q r la : Addr) (M : Nat) (L : List (Addr × List Int)) (bs : List Addr) (nb : Nat → List Int) (g : Nat → Int), vs = [.ref w, .ref la] ∧ WebIn C (M : Int) L H w dx q r bs nb ∧ TiesAt (M : Int) H q L ∧ H la = some (.tup (flN M g)) ∧ M ≤ 40 ∧
  ∀ t T H', Same H H' → H t = none → LeastAt g L (M : Int) H' t T → Q (.ref t) H'
section
variable {P : Program} {w : World} {K : PySem.W.Frag} {mg : Str → Option Value} {base : Heap}
theorem scLeast : FnScope ["web", "leaders", "least", "tie", "one", "other"] ["web", "leaders"] (defScope sLeast) := ⟨rfl, rfl, rfl, by decide +kernel, rfl, by decide +kernel, by decide +kernel⟩
theorem ok_least {f C fC : Addr} {fd dC : FuncData} (F : Fun K "least_ties" "least_ties" sLeast f fd) (B : Bts mg) (T : WTxt K mg C) (DC : Df K mg "crossed_by" sCross ["leaders", "tie"] fC dC) : FnOk P w K mg base CX0 2 f fd ["web", "leaders"] (spLeast C) := by
  have GC : FnOk P w K mg base CX0 1 fC dC ["leaders", "tie"] spCross := ok_cross DC.F B
  refine F.ok scLeast (fun vs H Q E h => ?_) (fun cdv A outer s H vs Q E hr h => ?_)
  · obtain ⟨w, dx, q, r, la, M, L, bs, nb, g, rfl, _⟩ := h
    rfl
  · obtain ⟨w, dx, q, r, la, M, L, bs, nb, g, rfl, x, tt, hla, m40, k⟩ := h
    have nd := scLeast.nd
    refine ⟨_, pss_cons (ps_set (i := 2) nd rfl (.inl rfl) pe_dnewT)
      (pss_cons (ps_for PassesOwn.never rfl (pi_tup (pe_fld (pv 0) rfl)) (pg_name (i := 3) nd rfl (.inl rfl))
        (pss_cons (ps_asg (pe_call GC hr rfl DC.m DC.k DC.b .nil pass0 (pa_cons (pv 1) (pa_cons (pv 3) pa_nil))) (pg_tup rfl (pgs_cons (pg_name (i := 4) nd rfl (.inl rfl)) (pgs_cons (pg_name (i := 5) nd rfl (.inl rfl)) pgs_nil))))
        (pss_one (ps_if (PW.pt (pw_and (pt_cmpR op_ne (pv 4) (pv 5) (nomark _)) (pw_and1 (pt_cmp (pc_dnotin (hu_of hr) (pe_tup (pa_cons (pv 4) (pa_cons (pv 5) pa_nil))) (pv 2))))))
          (pss_one (ps_dput (hu_of hr) (pv 2) (pe_tup (pa_cons (pv 4) (pa_cons (pv 5) pa_nil))) (pv 3) rfl)) pss_nil))))
      (pss_one (ps_ret (pe_callTy call_tuple_of (by rfl) B.tuple PyProof.Rows.boot_tuple (pa_cons (pe_callB cr_sortedPO (by rfl) B.sorted PyProof.Rows.boot_sorted (pa_cons (pe_callTy (call_list_valuesT rfl) (by rfl) B.list PyProof.Rows.boot_list
        (pa_cons (pe_bm0 PySem.F.plainAttrs_dict PySem.F.slot_dict_values PySem.F.type_dict_values mt_valuesT (pv 2)) pa_nil)) pa_nil)) pa_nil))))), ?_⟩
    intro D hD
    have few := tt.few
    have sD : Same H (upd H D (.dT [])) := sN hD
    have nx : ∀ {b : Addr} {o : HO}, H b = some o → b ≠ D := fun e => ne_of_none e hD
    refine ⟨_, rfl, w, C, dx, _, _, rfl, sD _ _ x.at_, T.cl, T.nT, wf_ties _ _ _, q, rfl, ⟨_, SqT.of (sD _ _ tt.at_)⟩, for_tup (K := K) (a := q) (xs := L.map fun p => V.ref p.1) (fun i σ H' => ∃ (x3 x4 x5 : Option V) (F : List (Addr × List Int)), σ = [some (.ref w), some (.ref la), some (.ref D), x3, x4, x5] ∧ H' D = some (.dT (kT g F)) ∧ LTI g L F i ∧ Same H H') ?_ ?_ ?_ ?_⟩
    · exact ⟨none, none, none, [], rfl, upd_same, .nil, sD⟩
    · rintro i σ H1 hi ⟨_, _, _, _, _, _, _, s1⟩
      exact SqT.of (s1 _ _ tt.at_)
    · rintro i v σ H1 hv ⟨x3, x4, x5, F, rfl, eD, I, s1⟩
      obtain ⟨p, hp, rfl⟩ := map_inv hv
      have hm := List.mem_of_getElem? hp
      have hi : i < L.length := (List.getElem?_eq_some_iff.mp hp).1
      obtain ⟨a, b, e2, a0, ab, bm⟩ := tt.ok p hm
      obtain ⟨a', rfl⟩ : ∃ a' : Nat, a = (a' : Int) := ⟨a.toNat, by omega⟩
      obtain ⟨b', rfl⟩ : ∃ b' : Nat, b = (b' : Int) := ⟨b.toNat, by omega⟩
      have ht := s1 _ _ (tt.tup p hm)
      rw [e2] at ht
      have ecr : crL g p.2 = cx (g a') (g b') := by
        rw [e2]
        show cx (g ((a' : Int)).toNat) (g ((b' : Int)).toNat) = _
        rw [Int.toNat_natCast, Int.toNat_natCast]
      obtain ⟨mn, mx, ecx⟩ : ∃ mn mx : Int, cx (g a') (g b') = [mn, mx] := ⟨_, _, rfl⟩
      refine ⟨_, rfl, _, rfl, la, p.1, M, a', b', g, rfl, s1 _ _ hla, ht, by omega, by omega, fun c hc => ?_⟩
      rw [ecx]
      have s2 := sT s1 (sN (o := .tup ([mn, mx].map V.int)) hc)
      have eD2 : (upd H1 c (.tup ([mn, mx].map V.int))) D = some (.dT (kT g F)) := by rw [upd_ne (ne_of_none eD hc)]; exact eD
      refine ⟨c, _, rfl, SqT.of upd_same, rfl, _, _, rfl, _, _, rfl, rfl, ?_⟩
      revert s2 eD2
      generalize (upd H1 c (.tup ([mn, mx].map V.int))) = H2
      intro s2 eD2
      refine ⟨_, rfl, _, rfl, rfl, _, rfl, ?_⟩
      rw [dec_i]
      refine ite2 (fun c1 => ?_) (fun c1 => ?_)
      · have ne : mn ≠ mx := fun e => by rw [decide_eq_true e] at c1; cases c1
        have crs : CrossL g p.2 := ⟨mn, mx, ecr.trans ecx, ne⟩
        refine ⟨_, rfl, _, rfl, (by show 2 ≤ sizeLine; decide), fun kt hkt => ?_⟩
        have s3 := sT s2 (sN (o := .tup [.int mn, .int mx]) hkt)
        have eD3 : (upd H2 kt (.tup [.int mn, .int mx])) D = some (.dT (kT g F)) := by rw [upd_ne (ne_of_none eD2 hkt)]; exact eD2
        have ekt : (upd H2 kt (.tup [.int mn, .int mx])) kt = some (.tup ([Sum.inl mn, Sum.inl mx].map kV)) := upd_same
        refine ⟨_, rfl, D, _, rfl, DGet.t eD3 ekt, _, rfl, ite2 (fun c2 => ?_) (fun c2 => ?_)⟩
        · have vn : valV (kT g F) (([mn, mx] : List Int).map Sum.inl) = none := by
            cases z : valV (kT g F) (([mn, mx] : List Int).map Sum.inl) with
            | none => rfl
            | some o =>
              have c2' : (!(valV (kT g F) (([mn, mx] : List Int).map Sum.inl)).isSome) = true := c2
              rw [z] at c2'
              cases c2'
          have nin := kT_none.mp vn
          revert s3 eD3
          generalize (upd H2 kt (.tup [.int mn, .int mx])) = H3
          intro s3 eD3
          refine ⟨_, rfl, _, rfl, _, rfl, _, rfl, (by show 2 ≤ sizeLine; decide), fun k2 hk2 => ?_⟩
          have s4 := sT s3 (sN (o := .tup [.int mn, .int mx]) hk2)
          have eD4 : (upd H3 k2 (.tup [.int mn, .int mx])) D = some (.dT (kT g F)) := by rw [upd_ne (ne_of_none eD3 hk2)]; exact eD3
          have ek2 : (upd H3 k2 (.tup [.int mn, .int mx])) k2 = some (.tup ([Sum.inl mn, Sum.inl mx].map kV)) := upd_same
          refine ⟨D, _, rfl, DPut.t eD4 ek2 ?_, ?_⟩
          · unfold kT
            rw [List.length_map]
            exact Nat.lt_of_lt_of_le (show F.length < 1000 by have := I.len; omega) (by decide)
          refine ⟨_, _, _, F ++ [p], rfl, ?_, I.put tt.asc hp crs (by rw [ecr, ecx]; exact nin), sNew s4 hD⟩
          have vn' : valV (kT g F) [Sum.inl mn, Sum.inl mx] = none := vn
          rw [upd_same, putK_new _ vn']
          unfold kT
          rw [List.map_append]
          show _ = some (HO.dT (_ ++ [((crL g p.2).map Sum.inl, V.ref p.1)]))
          rw [ecr, ecx]
          rfl
        · refine ⟨_, _, _, F, rfl, eD3, I.skip tt.asc hp fun _ => ?_, s3⟩
          rw [ecr, ecx]
          by_cases z : ∃ q ∈ F, crL g q.2 = [mn, mx]
          · exact z
          · have vn := kT_none.mpr z
            refine absurd ?_ c2
            show (!(valV (kT g F) (([mn, mx] : List Int).map Sum.inl)).isSome) = true
            rw [vn]
            rfl
      · have eq : mn = mx := by
          by_cases z : mn = mx
          · exact z
          · rw [decide_eq_false z] at c1
            exact absurd rfl c1
        refine ⟨_, _, _, F, rfl, eD2, I.skip tt.asc hp fun ⟨y1, y2, e, ne⟩ => ?_, s2⟩
        rw [ecr, ecx] at e
        simp only [List.cons.injEq, and_true] at e
        omega
    · rintro σ H1 ⟨x3, x4, x5, F, rfl, eD, I, s1⟩
      rw [List.length_map] at I
      have subL : ∀ p ∈ F, p ∈ L := fun p hp => by
        have z := I.sub p hp
        rw [List.take_length] at z
        exact z
      refine ⟨_, rfl, .inr (.inr (.inl ⟨rfl, .inr ⟨_, eD⟩⟩)), D, _, rfl, rfl, eD, fun vw hvw => ?_⟩
      have s2 := sT s1 (sN (o := viewO "dict_values" vw D) hvw)
      have eD2 : (upd H1 vw (viewO "dict_values" vw D)) D = some (.dT (kT g F)) := by rw [upd_ne (ne_of_none eD hvw)]; exact eD
      refine ⟨vw, D, _, rfl, upd_same, eD2, fun l hl => ?_⟩
      have exs : (kT g F).map (·.2) = F.map fun p => V.ref p.1 := by
        unfold kT
        rw [List.map_map]
        rfl
      rw [exs]
      have s3 := sT s2 (sN (o := .lst (F.map fun p => V.ref p.1)) hl)
      have el : (upd (upd H1 vw (viewO "dict_values" vw D)) l (.lst (F.map fun p => V.ref p.1))) l = some (.lst (F.map fun p => V.ref p.1)) := upd_same
      revert s3 el
      generalize (upd (upd H1 vw (viewO "dict_values" vw D)) l (.lst (F.map fun p => V.ref p.1))) = H3
      intro s3 el
      have pr : Pairs (M : Int) H3 l F := ⟨el, fun p hp => s3 _ _ (tt.tup p (subL p hp)), fun p hp => tt.ok p (subL p hp)⟩
      refine ⟨l, F.map (fun p => V.ref p.1), kH H3, rfl, SqL.of el, fun y hy => ?_, fun ys sp sr sb hsp => ?_⟩
      · obtain ⟨p, hp, rfl⟩ := List.mem_map.mp hy
        obtain ⟨a, b, e, _⟩ := pr.ok p hp
        have t := pr.tup p hp
        rw [e] at t
        refine ⟨p.1, rfl, ?_⟩
        rw [kH_at t]
        exact t
      obtain ⟨Ts, rfl, perm, asc⟩ := sorted_strict pr I.asc sb.perm sr
      refine ⟨sp, _, rfl, .inl ⟨SqL.of upd_same, fun t ht => ?_⟩⟩
      have s4 := sN (o := .lst (Ts.map fun p => V.ref p.1)) hsp
      have s5 := sT s4 (sN (o := .tup (Ts.map fun p => V.ref p.1)) ht)
      have ht0 : H t = none := by
        cases z : H t with
        | none => rfl
        | some o => rw [s4 _ _ (s3 _ _ z)] at ht; cases ht
      refine k t Ts _ (sT s3 s5) ht0 ⟨upd_same, fun p hp => s5 _ _ (pr.tup p (perm.mem_iff.mp hp)), fun p hp => pr.ok p (perm.mem_iff.mp hp), asc, by rw [perm.length_eq]; exact I.len, fun lv => ?_⟩
      rw [← I.end_ lv]
      constructor
      · rintro ⟨p, hp, e⟩
        exact ⟨p, perm.mem_iff.mp hp, e⟩
      · rintro ⟨p, hp, e⟩
        exact ⟨p, perm.mem_iff.mpr hp, e⟩
end
end Q

namespace Q
open PySem L2 QM
abbrev sBtw : Stmt := top 38
theorem sort2 {ns : List Int} {x y : Int} (pm : ns.Perm [x, y]) (pw : ns.Pairwise (· ≤ ·)) : ns = cx x y := by
  have hl := pm.length_eq
  match ns, hl with
  | [u, v], _ =>
    have huv : u ≤ v := (List.pairwise_cons.mp pw).1 v (by simp)
    have hx : x ∈ [u, v] := pm.mem_iff.mpr (by simp)
    have hy : y ∈ [u, v] := pm.mem_iff.mpr (by simp)
    have hu : u ∈ [x, y] := pm.mem_iff.mp (by simp)
    have hv : v ∈ [x, y] := pm.mem_iff.mp (by simp)
    simp only [List.mem_cons, List.not_mem_nil, or_false] at hx hy hu hv
    unfold cx
    by_cases c : y < x
    · rw [if_pos c, if_neg (by omega)]
      have e1 : u = y := by omega
      have e2 : v = x := by omega
      rw [e1, e2]
    · rw [if_neg c]
      by_cases d : y > x
      · rw [if_pos d]
        have e1 : u = x := by omega
        have e2 : v = y := by omega
        rw [e1, e2]
      · rw [if_neg d]
        have e1 : u = x := by omega
        have e2 : v = x := by omega
        rw [e1, e2]
/-- a group: the clusters, where its list stands, its ties -/
abbrev Grp := List Int × Addr × List (Addr × List Int)
def kG (E : List Grp) : List (List Key × V) := E.map fun e => (e.1.map Sum.inl, V.ref e.2.1)
/-- the groups so far -/
structure GI (g : Nat → Int) (L : List (Addr × List Int)) (i : Nat) (E : List Grp) : Prop where
  crs : ∀ e ∈ E, ∃ x y : Int, e.1 = [x, y] ∧ x ≠ y
  grp : ∀ e ∈ E, e.2.2.map (·.2) = ((L.take i).filter fun p => decide (crL g p.2 = e.1)).map (·.2)
  ne : ∀ e ∈ E, e.2.2 ≠ []
  all : ∀ r ∈ L.take i, CrossL g r.2 → ∃ e ∈ E, e.1 = crL g r.2
  len : E.length ≤ i
  nd : (E.map (·.1)).Nodup
structure GAt (H : Hp) (E : List Grp) : Prop where
  at_ : ∀ e ∈ E, H e.2.1 = some (.lst (e.2.2.map fun p => V.ref p.1))
  tup : ∀ e ∈ E, ∀ p ∈ e.2.2, H p.1 = some (.tup (p.2.map V.int))
theorem GAt.same {H H' : Hp} {E : List Grp} (h : GAt H E) (s : Same H H') : GAt H' E := ⟨fun e he => s _ _ (h.at_ e he), fun e he p hp => s _ _ (h.tup e he p hp)⟩
theorem inl_inj {x y : List Int} (e : x.map (Sum.inl : Int → Key) = y.map Sum.inl) : x = y := by
  induction x generalizing y with
  | nil =>
    cases y with
    | nil => rfl
    | cons b t => cases e
  | cons a s ih =>
    cases y with
    | nil => cases e
    | cons b t =>
      rw [List.map_cons, List.map_cons] at e
      obtain ⟨h1, h2⟩ := List.cons.inj e
      rw [Sum.inl.inj h1, ih h2]
/-- what the dict holds at a pair -/
theorem kG_get {E : List Grp} (nd : (E.map (·.1)).Nodup) (l : List Int) : (valV (kG E) (l.map Sum.inl) = none ∧ ∀ e ∈ E, e.1 ≠ l) ∨ ∃ e ∈ E, e.1 = l ∧ valV (kG E) (l.map Sum.inl) = some (.ref e.2.1) := by
  induction E with
  | nil => exact .inl ⟨valV_nil, fun e he => absurd he List.not_mem_nil⟩
  | cons a r ih =>
    rw [List.map_cons, List.nodup_cons] at nd
    have ex : kG (a :: r) = (a.1.map Sum.inl, V.ref a.2.1) :: kG r := rfl
    by_cases c : a.1 = l
    · exact .inr ⟨a, List.mem_cons_self, c, by rw [ex, valV_pos (p := (a.1.map Sum.inl, V.ref a.2.1)) (by show a.1.map Sum.inl = _; rw [c])]⟩
    · rw [ex, valV_neg (p := (a.1.map Sum.inl, V.ref a.2.1)) (fun e => c (inl_inj e))]
      rcases ih nd.2 with ⟨h1, h2⟩ | ⟨e, he, h1, h2⟩
      · refine .inl ⟨h1, fun e he => ?_⟩
        rcases List.mem_cons.mp he with rfl | he
        · exact c
        · exact h2 e he
      · exact .inr ⟨e, List.mem_cons_of_mem _ he, h1, h2⟩
/-- one tie more into its group, or a new one -/
def putG (E : List Grp) (l : List Int) (la : Addr) (t : Addr × List Int) : List Grp := E.map fun e => if e.1 = l then (e.1, la, e.2.2 ++ [t]) else e
theorem kG_put {E : List Grp} {l : List Int} {la : Addr} {t : Addr × List Int} (h : ∃ e ∈ E, e.1 = l) : putK (kG E) (l.map Sum.inl) (V.ref la) = kG (putG E l la t) := by
  obtain ⟨e0, h0, c0⟩ := h
  unfold putK
  have an : ((kG E).any fun kv => decide (kv.1 = l.map Sum.inl)) = true := List.any_eq_true.mpr ⟨(e0.1.map Sum.inl, V.ref e0.2.1), List.mem_map.mpr ⟨e0, h0, rfl⟩, by rw [c0]; exact decide_eq_true rfl⟩
  rw [if_pos an]
  unfold kG putG
  rw [List.map_map, List.map_map]
  refine List.map_congr_left fun e _ => ?_
  show (if e.1.map Sum.inl = l.map Sum.inl then (e.1.map Sum.inl, V.ref la) else (e.1.map Sum.inl, V.ref e.2.1)) = (((if e.1 = l then (e.1, la, e.2.2 ++ [t]) else e : Grp)).1.map Sum.inl, V.ref ((if e.1 = l then (e.1, la, e.2.2 ++ [t]) else e : Grp)).2.1)
  by_cases c : e.1 = l
  · rw [if_pos (by rw [c]), if_pos c]
  · rw [if_neg (fun z => c (inl_inj z)), if_neg c]
theorem filt_snoc {g : Nat → Int} {L : List (Addr × List Int)} {i : Nat} {p : Addr × List Int} (h : L[i]? = some p) (l : List Int) :
    ((L.take (i + 1)).filter fun p => decide (crL g p.2 = l)).map (·.2) = ((L.take i).filter fun p => decide (crL g p.2 = l)).map (·.2) ++ (if crL g p.2 = l then [p.2] else []) := by
  rw [take_snoc h, List.filter_append, List.map_append]
  by_cases c : crL g p.2 = l
  · rw [if_pos c, List.filter_cons_of_pos (by exact decide_eq_true c)]
    rfl
  · rw [if_neg c, List.filter_cons_of_neg (by rw [decide_eq_false c]; exact Bool.false_ne_true)]
    rfl
theorem GI.nil {g : Nat → Int} {L : List (Addr × List Int)} : GI g L 0 [] := ⟨fun e h => absurd h List.not_mem_nil, fun e h => absurd h List.not_mem_nil, fun e h => absurd h List.not_mem_nil, fun r h => absurd h (by simp), Nat.le_refl _, .nil⟩
theorem GI.skip {g : Nat → Int} {L : List (Addr × List Int)} {i : Nat} {E : List Grp} {p : Addr × List Int} (I : GI g L i E) (h : L[i]? = some p) (no : ¬ CrossL g p.2) : GI g L (i + 1) E := by
  refine ⟨I.crs, fun e he => ?_, I.ne, fun r hr c => ?_, Nat.le_succ_of_le I.len, I.nd⟩
  · rw [filt_snoc h, if_neg (fun z => ?_), List.append_nil]
    · exact I.grp e he
    · obtain ⟨x, y, e1, ne⟩ := I.crs e he
      exact no ⟨x, y, z.trans e1, ne⟩
  · rw [take_snoc h] at hr
    rcases List.mem_append.mp hr with hr | hr
    · exact I.all r hr c
    · rw [List.mem_singleton.mp hr] at c
      exact absurd c no
theorem putG_mem {E : List Grp} {l : List Int} {la : Addr} {t : Addr × List Int} {e : Grp} (h : e ∈ putG E l la t) : (∃ e0 ∈ E, e0.1 = l ∧ e = (l, la, e0.2.2 ++ [t])) ∨ (e ∈ E ∧ e.1 ≠ l) := by
  obtain ⟨e0, h0, e1⟩ := List.mem_map.mp h
  by_cases c : e0.1 = l
  · rw [if_pos c] at e1
    exact .inl ⟨e0, h0, c, by rw [← e1, c]⟩
  · rw [if_neg c] at e1
    rw [← e1]
    exact .inr ⟨h0, c⟩
theorem putG_keys {E : List Grp} {l : List Int} {la : Addr} {t : Addr × List Int} : (putG E l la t).map (·.1) = E.map (·.1) := by
  unfold putG
  rw [List.map_map]
  refine List.map_congr_left fun e _ => ?_
  show ((if e.1 = l then (e.1, la, e.2.2 ++ [t]) else e : Grp)).1 = e.1
  by_cases c : e.1 = l
  · rw [if_pos c]
  · rw [if_neg c]
theorem GI.more {g : Nat → Int} {L : List (Addr × List Int)} {i : Nat} {E : List Grp} {p t : Addr × List Int} {la : Addr} (I : GI g L i E) (h : L[i]? = some p) (et : t.2 = p.2) : GI g L (i + 1) (putG E (crL g p.2) la t) ∨ ∀ e ∈ E, e.1 ≠ crL g p.2 := by
  by_cases ex : ∃ e ∈ E, e.1 = crL g p.2
  · refine .inl ⟨fun e he => ?_, fun e he => ?_, fun e he => ?_, fun r hr c => ?_, ?_, ?_⟩
    · rcases putG_mem he with ⟨e0, h0, c0, rfl⟩ | ⟨h0, _⟩
      · obtain ⟨x, y, e1, ne⟩ := I.crs e0 h0
        exact ⟨x, y, c0.symm.trans e1, ne⟩
      · exact I.crs e h0
    · rw [filt_snoc h]
      rcases putG_mem he with ⟨e0, h0, c0, rfl⟩ | ⟨h0, c0⟩
      · show (e0.2.2 ++ [t]).map (·.2) = ((L.take i).filter fun q => decide (crL g q.2 = crL g p.2)).map (·.2) ++ (if crL g p.2 = crL g p.2 then [p.2] else [])
        rw [List.map_append, I.grp e0 h0, c0, if_pos rfl, ← et]
        rfl
      · rw [if_neg (fun z => c0 z.symm), List.append_nil]
        exact I.grp e h0
    · rcases putG_mem he with ⟨e0, h0, c0, rfl⟩ | ⟨h0, _⟩
      · simp
      · exact I.ne e h0
    · have key : ∃ e ∈ E, e.1 = crL g r.2 := by
        rw [take_snoc h] at hr
        rcases List.mem_append.mp hr with hr | hr
        · exact I.all r hr c
        · rw [List.mem_singleton.mp hr]
          exact ex
      obtain ⟨e, he, e1⟩ := key
      have z : e.1 ∈ (putG E (crL g p.2) la t).map (·.1) := by
        rw [putG_keys]
        exact List.mem_map.mpr ⟨e, he, rfl⟩
      obtain ⟨e', he', e2⟩ := List.mem_map.mp z
      exact ⟨e', he', e2.trans e1⟩
    · unfold putG
      rw [List.length_map]
      exact Nat.le_succ_of_le I.len
    · rw [putG_keys]
      exact I.nd
  · exact .inr fun e he c => ex ⟨e, he, c⟩
theorem GI.new {g : Nat → Int} {L : List (Addr × List Int)} {i : Nat} {E : List Grp} {p t : Addr × List Int} {la : Addr} (I : GI g L i E) (h : L[i]? = some p) (et : t.2 = p.2) (c : CrossL g p.2) (no : ∀ e ∈ E, e.1 ≠ crL g p.2) : GI g L (i + 1) (E ++ [(crL g p.2, la, [t])]) := by
  refine ⟨fun e he => ?_, fun e he => ?_, fun e he => ?_, fun r hr cr => ?_, ?_, ?_⟩
  · rcases List.mem_append.mp he with he | he
    · exact I.crs e he
    · rw [List.mem_singleton.mp he]
      exact c
  · rw [filt_snoc h]
    rcases List.mem_append.mp he with he | he
    · rw [if_neg (fun z => no e he z.symm), List.append_nil]
      exact I.grp e he
    · rw [List.mem_singleton.mp he, if_pos rfl]
      have em : ((L.take i).filter fun q => decide (crL g q.2 = crL g p.2)) = [] := by
        rw [List.filter_eq_nil_iff]
        intro r hr z
        have e1 := of_decide_eq_true z
        obtain ⟨x, y, e2, ne⟩ := c
        obtain ⟨e, he, e3⟩ := I.all r hr ⟨x, y, e1.trans e2, ne⟩
        exact no e he (e3.trans e1)
      show [t].map (·.2) = _
      rw [em]
      show [t.2] = [] ++ [p.2]
      rw [et]
      rfl
  · rcases List.mem_append.mp he with he | he
    · exact I.ne e he
    · rw [List.mem_singleton.mp he]
      simp
  · rw [take_snoc h] at hr
    rcases List.mem_append.mp hr with hr | hr
    · obtain ⟨e, he, e1⟩ := I.all r hr cr
      exact ⟨e, List.mem_append_left _ he, e1⟩
    · rw [List.mem_singleton.mp hr]
      exact ⟨_, List.mem_append_right _ (List.mem_singleton.mpr rfl), rfl⟩
  · rw [List.length_append]
    exact Nat.succ_le_succ I.len
  · rw [List.map_append, List.nodup_append]
    refine ⟨I.nd, by simp, fun x hx y hy e => ?_⟩
    obtain ⟨e1, h1, e2⟩ := List.mem_map.mp hx
    have e3 : y = crL g p.2 := by simpa using hy
    exact no e1 h1 (e2.trans (e.trans e3))
end Q

namespace Q
open PySem L2 QM
def spBtw : Sp := fun vs H Q _ => ∃ (W q pa : Addr) (M : Nat) (L : List (Addr × List Int)) (par : Nat → Option Nat) (rk : Nat → Nat), vs = [.ref W, .ref pa] ∧ LWeb H W q (M : Int) L ∧ H pa = some (.tup (pVs M par)) ∧ ParOk M par rk ∧ M ≤ 40 ∧
  ∀ D E H', Same H H' → H D = none → H' D = some (.dT (kG E)) → GI (fun i => (LD par M i : Int)) L L.length E → GAt H' E → Q (.ref D) H'
section
variable {P : Program} {w : World} {K : PySem.W.Frag} {mg : Str → Option Value} {base : Heap}
theorem scBtw : FnScope ["web", "parents", "found", "a", "b", "pair"] ["web", "parents"] (defScope sBtw) := ⟨rfl, rfl, rfl, by decide +kernel, rfl, by decide +kernel, by decide +kernel⟩
theorem ok_btw {f fL : Addr} {fd dL : FuncData} (F : Fun K "_law_between" "_law_between" sBtw f fd) (B : Bts mg) (DL : Df K mg "_law_leader" sLLd ["parents", "house"] fL dL) : FnOk P w K mg base CX0 2 f fd ["web", "parents"] spBtw := by
  have GD : FnOk P w K mg base CX0 1 fL dL ["parents", "house"] spLLd := ok_lld DL.F B
  refine F.ok scBtw (fun vs H Q E h => ?_) (fun cdv A outer s H vs Q E hr h => ?_)
  · obtain ⟨W, q, pa, M, L, par, rk, rfl, _⟩ := h
    rfl
  · obtain ⟨W, q, pa, M, L, par, rk, rfl, lw, hp, po, m40, k⟩ := h
    have nd := scBtw.nd
    refine ⟨_, pss_cons (ps_set (i := 2) nd rfl (.inl rfl) pe_dnewT)
      (pss_cons (ps_for PassesOwn.never rfl (pi_tup (pe_ix ix_tup (pv 0) pe_int (fun _ _ => rfl))) (pg_tup rfl (pgs_cons (pg_name (i := 3) nd rfl (.inl rfl)) (pgs_cons (pg_name (i := 4) nd rfl (.inl rfl)) pgs_nil)))
        (pss_cons (ps_set (i := 5) nd rfl (.inl rfl) (pe_callTy call_tuple_of (by rfl) B.tuple PyProof.Rows.boot_tuple (pa_cons (pe_callB cr_sorted (by rfl) B.sorted PyProof.Rows.boot_sorted (pa_cons (pe_lst
            (pa_cons (pe_call GD hr rfl DL.m DL.k DL.b .nil pass0 (pa_cons (pv 1) (pa_cons (pv 3) pa_nil))) (pa_cons (pe_call GD hr rfl DL.m DL.k DL.b .nil pass0 (pa_cons (pv 1) (pa_cons (pv 4) pa_nil))) pa_nil))) pa_nil)) pa_nil)))
        (pss_one (ps_if (pt_cmpR op_ne (pe_ix ix_tup (pv 5) pe_int (fun _ _ => rfl)) (pe_ix ix_tup (pv 5) pe_int (fun _ _ => rfl)) (nomark _))
          (pss_one (ps_dput (hu_of hr) (pv 2) (pv 5) (pe_op op_cat (pe_dget2 (hu_of hr) (pv 2) (pv 5) (pe_lst pa_nil) ⟨rfl, rfl, rfl, rfl⟩) (pe_lst (pa_cons (pe_tup (pa_cons (pv 3) (pa_cons (pv 4) pa_nil))) pa_nil))) rfl)) pss_nil))))
      (pss_one (ps_ret (pv 2)))), ?_⟩
    intro D hD
    obtain ⟨hW, tt⟩ := lw
    have few := tt.few
    have sD : Same H (upd H D (.dT [])) := sN hD
    have eq0 : atI [V.int (M : Int), V.ref q] 1 = some (V.ref q) := rfl
    refine ⟨_, rfl, W, _, 1, _, rfl, rfl, SqT.of (sD _ _ hW), eq0, q, rfl, ⟨_, SqT.of (sD _ _ tt.at_)⟩, for_tup (K := K) (a := q) (xs := L.map fun p => V.ref p.1) (fun i σ H' => ∃ (x3 x4 x5 : Option V) (E : List Grp), σ = [some (.ref W), some (.ref pa), some (.ref D), x3, x4, x5] ∧ H' D = some (.dT (kG E)) ∧ GI (fun i => (LD par M i : Int)) L i E ∧ GAt H' E ∧ Same H H') ?_ ?_ ?_ ?_⟩
    · exact ⟨none, none, none, [], rfl, upd_same, .nil, ⟨fun e h => absurd h List.not_mem_nil, fun e h => absurd h List.not_mem_nil⟩, sD⟩
    · rintro i σ H1 hi ⟨_, _, _, _, _, _, _, _, s1⟩
      exact SqT.of (s1 _ _ tt.at_)
    · rintro i v σ H1 hv ⟨x3, x4, x5, E, rfl, eD, I, ga, s1⟩
      obtain ⟨p, hp', rfl⟩ := map_inv hv
      have hm := List.mem_of_getElem? hp'
      have hi : i < L.length := (List.getElem?_eq_some_iff.mp hp').1
      obtain ⟨a, b, e2, a0, ab, bm⟩ := tt.ok p hm
      obtain ⟨a', rfl⟩ : ∃ a' : Nat, a = (a' : Int) := ⟨a.toNat, by omega⟩
      obtain ⟨b', rfl⟩ : ∃ b' : Nat, b = (b' : Int) := ⟨b.toNat, by omega⟩
      have ht := s1 _ _ (tt.tup p hm)
      rw [e2] at ht
      have ecr : crL (fun i => (LD par M i : Int)) p.2 = cx (LD par M a' : Int) (LD par M b' : Int) := by
        rw [e2]
        show cx (LD par M ((a' : Int)).toNat : Int) (LD par M ((b' : Int)).toNat : Int) = _
        rw [Int.toNat_natCast, Int.toNat_natCast]
      refine ⟨p.1, _, rfl, SqT.of ht, rfl, _, _, rfl, _, _, rfl, rfl, ?_⟩
      refine ⟨_, rfl, _, rfl, pa, M, a', par, rk, rfl, s1 _ _ hp, po, by omega, m40, ?_⟩
      refine ⟨_, rfl, _, rfl, pa, M, b', par, rk, rfl, s1 _ _ hp, po, by omega, m40, ?_⟩
      refine ⟨(by show 2 ≤ sizeLine; decide), fun l hl => ?_⟩
      refine ⟨l, [(LD par M a' : Int), (LD par M b' : Int)], rfl, SqL.of upd_same, (by show 2 < 64; decide), fun ns sp pm pw hsp => ?_⟩
      obtain rfl := sort2 pm pw
      obtain ⟨mn, mx, ecx⟩ : ∃ mn mx : Int, cx (LD par M a' : Int) (LD par M b' : Int) = [mn, mx] := ⟨_, _, rfl⟩
      rw [ecx]
      refine ⟨sp, _, rfl, .inl ⟨SqL.of upd_same, fun pt hpt => ?_⟩⟩
      have s2 : Same H1 (upd (upd (upd H1 l (.lst [nI (LD par M a'), nI (LD par M b')])) sp (.lst ([mn, mx].map V.int))) pt (.tup ([mn, mx].map V.int))) := sT (sN hl) (sT (sN hsp) (sN hpt))
      have ept : (upd (upd (upd H1 l (.lst [nI (LD par M a'), nI (LD par M b')])) sp (.lst ([mn, mx].map V.int))) pt (.tup ([mn, mx].map V.int))) pt = some (.tup ([Sum.inl mn, Sum.inl mx].map kV)) := upd_same
      show gName 5 (V.ref pt) _ (upd (upd (upd H1 l (.lst [nI (LD par M a'), nI (LD par M b')])) sp (.lst ([mn, mx].map V.int))) pt (.tup ([mn, mx].map V.int))) _
      revert s2 ept
      generalize (upd (upd (upd H1 l (.lst [nI (LD par M a'), nI (LD par M b')])) sp (.lst ([mn, mx].map V.int))) pt (.tup ([mn, mx].map V.int))) = H2
      intro s2 ept
      have hcs : ∀ {b : Addr} {o : HO}, H1 b = some o → H2 b = some o := fun e => s2 _ _ e
      have eD2 := hcs eD
      have ga2 := ga.same s2
      have s12 := sT s1 s2
      refine ⟨_, rfl, pt, _, 0, _, rfl, rfl, SqT.of ept, rfl, _, rfl, pt, _, 1, _, rfl, rfl, SqT.of ept, rfl, rfl, _, rfl, ?_⟩
      show (if (!decide (V.int mn = V.int mx)) = true then _ else _)
      rw [dec_i]
      refine ite2 (fun c1 => ?_) (fun c1 => ?_)
      · have ne : mn ≠ mx := fun e => by rw [decide_eq_true e] at c1; cases c1
        have crs : CrossL (fun i => (LD par M i : Int)) p.2 := ⟨mn, mx, ecr.trans ecx, ne⟩
        refine ⟨_, rfl, D, rfl, .inr ⟨_, .inl eD2⟩, _, rfl, Nat.zero_le _, fun el hel => ?_⟩
        have s3 := sT s2 (sN (o := .lst []) hel)
        have eD3 : (upd H2 el (.lst [])) D = some (.dT (kG E)) := by rw [upd_ne (ne_of_none eD2 hel)]; exact eD2
        have ept3 : (upd H2 el (.lst [])) pt = some (.tup ([Sum.inl mn, Sum.inl mx].map kV)) := by rw [upd_ne (ne_of_none ept hel)]; exact ept
        have ga3 := ga.same s3
        have eel : (upd H2 el (.lst [])) el = some (.lst []) := upd_same
        revert s3 eD3 ept3 ga3 eel
        generalize upd H2 el (.lst []) = H3
        intro s3 eD3 ept3 ga3 eel
        refine ⟨_, DGet.t eD3 ept3, _, rfl, _, rfl, (by show 2 ≤ sizeLine; decide), fun tn htn => ?_⟩
        refine ⟨(by show 1 ≤ sizeLine; decide), fun l2 hl2 => ?_⟩
        have z1 := sN (o := .tup [.int (a' : Int), .int (b' : Int)]) htn
        have z2 := sN (o := .lst [.ref tn]) hl2
        have s4 := sT s3 (sT z1 z2)
        have etn := z2 _ _ (upd_same (H := H3) (a := tn) (o := .tup [.int (a' : Int), .int (b' : Int)]))
        have el2 : (upd (upd H3 tn (.tup [.int (a' : Int), .int (b' : Int)])) l2 (.lst [.ref tn])) l2 = some (.lst [.ref tn]) := upd_same
        have eD4 := z2 _ _ (z1 _ _ eD3)
        have ept4 := z2 _ _ (z1 _ _ ept3)
        have eel4 := z2 _ _ (z1 _ _ eel)
        have ga4 := ga3.same (sT z1 z2)
        revert s4 etn el2 eD4 ept4 eel4 ga4
        generalize (upd (upd H3 tn (.tup [.int (a' : Int), .int (b' : Int)])) l2 (.lst [.ref tn])) = H4
        intro s4 etn el2 eD4 ept4 eel4 ga4
        have s14 := sT s1 s4
        have klen : (kG E).length < sizeLine := by
          unfold kG
          rw [List.length_map]
          exact Nat.lt_of_lt_of_le (show E.length < 1000 by have := I.len; omega) (by decide)
        have et : ((tn, p.2) : Addr × List Int).2 = p.2 := rfl
        have ekey : crL (fun i => (LD par M i : Int)) p.2 = [mn, mx] := ecr.trans ecx
        -- behind the list's making
        have fin : ∀ (xs : List (Addr × List Int)) (nl : Addr) (E' : List Grp), H4 nl = none → putK (kG E) [Sum.inl mn, Sum.inl mx] (V.ref nl) = kG E' → GI (fun i => (LD par M i : Int)) L (i + 1) E' →
            (∀ e ∈ E', (e ∈ E ∧ e.2.1 ≠ nl) ∨ (e.2.1 = nl ∧ e.2.2 = xs ++ [(tn, p.2)])) → (∀ r ∈ xs, H4 r.1 = some (.tup (r.2.map V.int))) →
            ∃ (x3 x4 x5 : Option V) (E0 : List Grp), [some (.ref W), some (.ref pa), some (.ref D), some (.int (a' : Int)), some (.int (b' : Int)), some (.ref pt)] = [some (.ref W), some (.ref pa), some (.ref D), x3, x4, x5] ∧ (upd (upd H4 nl (.lst ((xs ++ [(tn, p.2)]).map fun r => V.ref r.1))) D (.dT (putK (kG E) [Sum.inl mn, Sum.inl mx] (V.ref nl)))) D = some (.dT (kG E0)) ∧ GI (fun i => (LD par M i : Int)) L (i + 1) E0 ∧ GAt (upd (upd H4 nl (.lst ((xs ++ [(tn, p.2)]).map fun r => V.ref r.1))) D (.dT (putK (kG E) [Sum.inl mn, Sum.inl mx] (V.ref nl)))) E0 ∧ Same H (upd (upd H4 nl (.lst ((xs ++ [(tn, p.2)]).map fun r => V.ref r.1))) D (.dT (putK (kG E) [Sum.inl mn, Sum.inl mx] (V.ref nl)))) := fun xs nl E' hnl epk gi mem xt => by
          have nD : ∀ {b : Addr} {zs : List V}, H4 b = some (.lst zs) → b ≠ D := fun e => ne_of e eD4 (fun z => by cases z)
          have nDt : ∀ {b : Addr} {zs : List V}, H4 b = some (.tup zs) → b ≠ D := fun e => ne_of e eD4 (fun z => by cases z)
          have nlD : nl ≠ D := fun e => by rw [e, eD4] at hnl; cases hnl
          refine ⟨_, _, _, E', rfl, by rw [upd_same, epk], gi, ⟨fun e he => ?_, fun e he r hr2 => ?_⟩, sNew (sT s14 (sN hnl)) hD⟩
          · rcases mem e he with ⟨h1, h2⟩ | ⟨h1, h2⟩
            · have z := ga4.at_ e h1
              rw [upd_ne (nD z), upd_ne h2]
              exact z
            · rw [h1, h2, upd_ne nlD, upd_same]
          · have z : H4 r.1 = some (.tup (r.2.map V.int)) := by
              rcases mem e he with ⟨h1, _⟩ | ⟨_, h2⟩
              · exact ga4.tup e h1 r hr2
              · rw [h2] at hr2
                rcases List.mem_append.mp hr2 with hr2 | hr2
                · exact xt r hr2
                · rw [List.mem_singleton.mp hr2]
                  show H4 tn = some (.tup (p.2.map V.int))
                  rw [etn, e2]
                  rfl
            rw [upd_ne (nDt z), upd_ne (ne_of_none z hnl)]
            exact z
        rcases kG_get I.nd ([mn, mx] : List Int) with ⟨vn, no⟩ | ⟨e0, he0, c0, vs0⟩
        · have vn' : valV (kG E) [Sum.inl mn, Sum.inl mx] = none := vn
          rw [vn']
          refine ⟨el, l2, _, _, rfl, rfl, eel4, el2, (by show 0 + 1 ≤ sizeLine; decide), fun nl hnl => ?_⟩
          have eD5 : (upd H4 nl (.lst ([] ++ [V.ref tn]))) D = some (.dT (kG E)) := by rw [upd_ne (ne_of_none eD4 hnl)]; exact eD4
          have ept5 : (upd H4 nl (.lst ([] ++ [V.ref tn]))) pt = some (.tup ([Sum.inl mn, Sum.inl mx].map kV)) := by rw [upd_ne (ne_of_none ept4 hnl)]; exact ept4
          refine ⟨_, rfl, _, rfl, D, _, rfl, DPut.t eD5 ept5 klen, ?_⟩
          refine fin [] nl (E ++ [(crL (fun i => (LD par M i : Int)) p.2, nl, [(tn, p.2)])]) hnl ?_ (I.new hp' et crs fun e he => by rw [ekey]; exact no e he) (fun e he => ?_) (fun r hr2 => absurd hr2 List.not_mem_nil)
          · rw [putK_new _ vn', ekey]
            unfold kG
            rw [List.map_append]
            rfl
          · rcases List.mem_append.mp he with he | he
            · exact .inl ⟨he, fun z => by have y := ga4.at_ e he; rw [z, hnl] at y; cases y⟩
            · rw [List.mem_singleton.mp he]
              exact .inr ⟨rfl, rfl⟩
        · have vs0' : valV (kG E) [Sum.inl mn, Sum.inl mx] = some (.ref e0.2.1) := vs0
          rw [vs0']
          have le0 : e0.2.2.length ≤ i := by
            have z := congrArg List.length (I.grp e0 he0)
            rw [List.length_map, List.length_map] at z
            rw [z]
            refine Nat.le_trans (List.length_filter_le _ _) ?_
            rw [List.length_take]
            omega
          refine ⟨e0.2.1, l2, _, _, rfl, rfl, ga4.at_ e0 he0, el2, ?_, fun nl hnl => ?_⟩
          · rw [List.length_map]
            exact Nat.le_trans (show e0.2.2.length + 1 ≤ 1001 by omega) (by decide)
          have eD5 : (upd H4 nl (.lst (e0.2.2.map (fun p => V.ref p.1) ++ [V.ref tn]))) D = some (.dT (kG E)) := by rw [upd_ne (ne_of_none eD4 hnl)]; exact eD4
          have ept5 : (upd H4 nl (.lst (e0.2.2.map (fun p => V.ref p.1) ++ [V.ref tn]))) pt = some (.tup ([Sum.inl mn, Sum.inl mx].map kV)) := by rw [upd_ne (ne_of_none ept4 hnl)]; exact ept4
          refine ⟨_, rfl, _, rfl, D, _, rfl, DPut.t eD5 ept5 klen, ?_⟩
          have em : (e0.2.2.map (fun p => V.ref p.1) ++ [V.ref tn]) = (e0.2.2 ++ [(tn, p.2)]).map fun r => V.ref r.1 := by rw [List.map_append]; rfl
          rw [em]
          have epk : putK (kG E) [Sum.inl mn, Sum.inl mx] (V.ref nl) = kG (putG E [mn, mx] nl (tn, p.2)) := kG_put (l := [mn, mx]) ⟨e0, he0, c0⟩
          have gi : GI (fun i => (LD par M i : Int)) L (i + 1) (putG E [mn, mx] nl (tn, p.2)) := by
            rcases I.more (la := nl) hp' et with h | h
            · rw [ekey] at h
              exact h
            · exact absurd (c0.trans ekey.symm) (h e0 he0)
          refine fin e0.2.2 nl _ hnl epk gi (fun e he => ?_) (fun r hr2 => ga4.tup e0 he0 r hr2)
          rcases putG_mem he with ⟨e1, h1, c1', rfl⟩ | ⟨h1, c1'⟩
          · have e01 : e1 = e0 := by
              have idx : ∀ {E : List Grp}, (E.map (·.1)).Nodup → e1 ∈ E → e0 ∈ E → e1.1 = e0.1 → e1 = e0 := fun {E} => by
                induction E with
                | nil => exact fun _ h => absurd h List.not_mem_nil
                | cons x r ih =>
                  intro n m1 m2 ee
                  rw [List.map_cons, List.nodup_cons] at n
                  rcases List.mem_cons.mp m1 with q1 | q1
                  · rcases List.mem_cons.mp m2 with q2 | q2
                    · rw [q1, q2]
                    · exact absurd (List.mem_map.mpr ⟨e0, q2, ee.symm.trans (by rw [q1])⟩) n.1
                  · rcases List.mem_cons.mp m2 with q2 | q2
                    · exact absurd (List.mem_map.mpr ⟨e1, q1, ee.trans (by rw [q2])⟩) n.1
                    · exact ih n.2 q1 q2 ee
              exact idx I.nd h1 he0 (c1'.trans c0.symm)
            rw [e01]
            exact .inr ⟨rfl, rfl⟩
          · exact .inl ⟨h1, fun z => by have y := ga4.at_ e h1; rw [z, hnl] at y; cases y⟩
      · have eq : mn = mx := by
          by_cases z : mn = mx
          · exact z
          · rw [decide_eq_false z] at c1
            exact absurd rfl c1
        refine ⟨_, _, _, E, rfl, eD2, I.skip hp' fun ⟨y1, y2, e, ne⟩ => ?_, ga2, s12⟩
        rw [ecr, ecx] at e
        simp only [List.cons.injEq, and_true] at e
        omega
    · rintro σ H1 ⟨x3, x4, x5, E, rfl, eD, I, ga, s1⟩
      rw [List.length_map] at I
      exact ⟨_, rfl, k D E H1 s1 hD eD I ga⟩
end
end Q

namespace Q
open PySem L2 QM
abbrev sLLt : Stmt := top 39
def hdG (e : Grp) : Addr × List Int := e.2.2.headD (mainGlobals, [])
theorem hdG_mem {e : Grp} (h : e.2.2 ≠ []) : hdG e ∈ e.2.2 := by
  unfold hdG
  cases z : e.2.2 with
  | nil => exact absurd z h
  | cons a t => exact List.mem_cons_self
theorem hdG_head {e : Grp} (h : e.2.2 ≠ []) : e.2.2.head? = some (hdG e) := by
  unfold hdG
  cases z : e.2.2 with
  | nil => exact absurd z h
  | cons a t => rfl
/-- a group's first tie -/
theorem GI.head {g : Nat → Int} {L : List (Addr × List Int)} {E : List Grp} (I : GI g L L.length E) (asc : L.Pairwise (fun x y => ltP x.2 y.2)) {e : Grp} (he : e ∈ E) : crL g (hdG e).2 = e.1 ∧ (∃ p ∈ L, p.2 = (hdG e).2) ∧ ∀ p ∈ L, crL g p.2 = e.1 → p.2 = (hdG e).2 ∨ ltP (hdG e).2 p.2 := by
  have gr := I.grp e he
  rw [List.take_length] at gr
  have hd := hdG_head (I.ne e he)
  cases z : L.filter (fun p => decide (crL g p.2 = e.1)) with
  | nil =>
    rw [z] at gr
    exact absurd (List.map_eq_nil_iff.mp gr) (I.ne e he)
  | cons p0 t =>
    have hm : p0 ∈ L.filter (fun p => decide (crL g p.2 = e.1)) := by rw [z]; exact List.mem_cons_self
    obtain ⟨m1, m2⟩ := List.mem_filter.mp hm
    have e0 : (hdG e).2 = p0.2 := by
      have y := congrArg List.head? gr
      rw [List.head?_map, hd, z] at y
      exact Option.some.inj y
    have as := asc.filter (fun p => decide (crL g p.2 = e.1))
    rw [z] at as
    refine ⟨by rw [e0]; exact of_decide_eq_true m2, ⟨p0, m1, e0.symm⟩, fun p hp c => ?_⟩
    have hp2 : p ∈ p0 :: t := by
      rw [← z]
      exact List.mem_filter.mpr ⟨hp, decide_eq_true c⟩
    rcases List.mem_cons.mp hp2 with rfl | hp2
    · exact .inl e0.symm
    · rw [e0]
      exact .inr ((List.pairwise_cons.mp as).1 p hp2)
theorem GI.heads {g : Nat → Int} {L : List (Addr × List Int)} {E : List Grp} (I : GI g L L.length E) (asc : L.Pairwise (fun x y => ltP x.2 y.2)) : ((E.map hdG).map (·.2)).Nodup := by
  have e : ((E.map hdG).map (·.2)).map (crL g) = E.map (·.1) := by
    rw [List.map_map, List.map_map]
    refine List.map_congr_left fun e he => ?_
    exact (I.head asc he).1
  have nd := I.nd
  rw [← e] at nd
  exact (List.pairwise_map.mp nd).imp fun h c => h (by rw [c])
theorem GI.least {g : Nat → Int} {L : List (Addr × List Int)} {E : List Grp} (I : GI g L L.length E) (asc : L.Pairwise (fun x y => ltP x.2 y.2)) (l : List Int) : (∃ p ∈ E.map hdG, p.2 = l) ↔ LstV g L l := by
  constructor
  · rintro ⟨p, hp, rfl⟩
    obtain ⟨e, he, rfl⟩ := List.mem_map.mp hp
    obtain ⟨h1, h2, h3⟩ := I.head asc he
    obtain ⟨x, y, ex, ne⟩ := I.crs e he
    exact ⟨h2, ⟨x, y, h1.trans ex, ne⟩, fun p hp c => h3 p hp (c.trans h1)⟩
  · rintro ⟨⟨p, hp, rfl⟩, c, least⟩
    obtain ⟨e, he, ec⟩ := I.all p (by rw [List.take_length]; exact hp) c
    obtain ⟨h1, ⟨r, hr, er⟩, h3⟩ := I.head asc he
    refine ⟨hdG e, List.mem_map.mpr ⟨e, he, rfl⟩, ?_⟩
    rcases h3 p hp ec.symm with h | h
    · exact h.symm
    · rcases least r hr (by rw [er, h1, ec]) with h' | h'
      · rw [← er]
        exact h'
      · rw [er] at h'
        exact absurd (ltP_trans h h') ltP_irr
theorem kG_at {E : List Grp} (nd : (E.map (·.1)).Nodup) {e : Grp} (he : e ∈ E) : valV (kG E) (e.1.map Sum.inl) = some (.ref e.2.1) := by
  induction E with
  | nil => exact absurd he List.not_mem_nil
  | cons a r ih =>
    rw [List.map_cons, List.nodup_cons] at nd
    have ex : kG (a :: r) = (a.1.map Sum.inl, V.ref a.2.1) :: kG r := rfl
    rcases List.mem_cons.mp he with c | he
    · rw [ex, c, valV_pos (p := (a.1.map Sum.inl, V.ref a.2.1)) rfl]
    · rw [ex, valV_neg (p := (a.1.map Sum.inl, V.ref a.2.1)) (fun z => nd.1 (List.mem_map.mpr ⟨e, he, (inl_inj z).symm⟩))]
      exact ih nd.2 he
def spLLt : Sp := fun vs H Q _ => ∃ (W q pa : Addr) (M : Nat) (L : List (Addr × List Int)) (par : Nat → Option Nat) (rk : Nat → Nat), vs = [.ref W, .ref pa] ∧ LWeb H W q (M : Int) L ∧ H pa = some (.tup (pVs M par)) ∧ ParOk M par rk ∧ M ≤ 40 ∧
  ∀ t T H', Same H H' → H t = none → LeastAt (fun i => (LD par M i : Int)) L (M : Int) H' t T → Q (.ref t) H'
section
variable {P : Program} {w : World} {K : PySem.W.Frag} {mg : Str → Option Value} {base : Heap}
theorem scLLt : FnScope ["web", "parents", "between", "pair"] ["web", "parents"] (defScope sLLt) := ⟨rfl, rfl, rfl, by decide +kernel, rfl, by decide +kernel, by decide +kernel⟩
theorem ok_llt {f fL fB : Addr} {fd dL dB : FuncData} (F : Fun K "_law_least_ties" "_law_least_ties" sLLt f fd) (B : Bts mg) (DL : Df K mg "_law_leader" sLLd ["parents", "house"] fL dL) (DB : Df K mg "_law_between" sBtw ["web", "parents"] fB dB) : FnOk P w K mg base CX0 3 f fd ["web", "parents"] spLLt := by
  have GB : FnOk P w K mg base CX0 2 fB dB ["web", "parents"] spBtw := ok_btw DB.F B DL
  refine F.ok scLLt (fun vs H Q E h => ?_) (fun cdv A outer s H vs Q E hr h => ?_)
  · obtain ⟨W, q, pa, M, L, par, rk, rfl, _⟩ := h
    rfl
  · obtain ⟨W, q, pa, M, L, par, rk, rfl, lw, hp, po, m40, k⟩ := h
    have nd := scLLt.nd
    refine ⟨_, pss_cons (ps_set (i := 2) nd rfl (.inr rfl) (pe_call GB hr rfl DB.m DB.k DB.b .nil pass0 (pa_cons (pv 0) (pa_cons (pv 1) pa_nil))))
      (pss_one (ps_ret (pe_callTy call_tuple_of (by rfl) B.tuple PyProof.Rows.boot_tuple (pa_cons (pe_callB cr_sortedPO (by rfl) B.sorted PyProof.Rows.boot_sorted (pa_cons (pe_lock
        (pe_lc (own := [("pair", 3)]) (g := gName 3) (tt := tYes) rfl nd (pi_keys (pv 2)) (blkOk_by (N := ["web", "parents", "between", "pair"]) (sc := defScope sLLt) (by decide +kernel)) (fun _ _ _ _ _ => pg_name (i := 3) nd rfl (.inl rfl)) (fun _ _ _ _ _ => pts_nil)
          (fun _ _ _ _ _ => pe_ix (r := rIxL K) ix_list (pe_dget (hu_of hr) (pv 2) (pv 3) (by intro _ _; rfl)) pe_int (fun _ _ => rfl)))) pa_nil)) pa_nil)))), ?_⟩
    have few := lw.2.few
    refine ⟨_, rfl, _, rfl, W, q, pa, M, L, par, rk, rfl, lw, hp, po, m40, fun D E H1 s1 hD eD I ga => ?_⟩
    have lenE := I.len
    refine ⟨D, _, eD, trivial, fun od => ?_⟩
    refine ⟨_, rfl, D, od, rfl, .inr ⟨_, upd_same, fun Dl hDl => lc_it (walk_keysT (d := D) (o := od) (kvs := kG E)) (fun i H' => H' Dl = some (.lst ((E.take i).map fun e => V.ref (hdG e).1)) ∧ i ≤ E.length ∧ H' D = some (.frz od (.dT (kG E))) ∧ (∀ b o, H1 b = some o → b ≠ D → H' b = some o)) ?_ ?_ ?_ ?_⟩⟩
    · have nd2 : D ≠ Dl := fun e => by rw [← e, upd_same] at hDl; cases hDl
      refine ⟨upd_same, Nat.zero_le _, by rw [upd_ne nd2, upd_same], fun b o e nb => ?_⟩
      have hb : b ≠ Dl := fun z => by rw [← z, upd_ne nb, e] at hDl; cases hDl
      rw [upd_ne hb, upd_ne nb]
      exact e
    · rintro i H2 hi ⟨_, _, eF, _⟩
      exact eF
    · rintro i x H2 H3 hi ⟨eL, _, eF, kp⟩ ⟨rfl, ky, vv, qk, hk, rfl, eqk⟩
      have hiE : i < E.length := by
        unfold kG at hi
        rw [List.length_map] at hi
        exact hi
      have hke : (kG E)[i]? = some (E[i].1.map Sum.inl, V.ref E[i].2.1) := by
        unfold kG
        rw [List.getElem?_map, List.getElem?_eq_getElem hiE]
        rfl
      rw [hke] at hk
      obtain ⟨rfl, rfl⟩ := Prod.mk.inj (Option.some.inj hk)
      have hm : E[i] ∈ E := List.getElem_mem hiE
      have hl := ga.at_ _ hm
      have nD : E[i].2.1 ≠ D := ne_of hl eD (fun z => by cases z)
      have a0 : atI (E[i].2.2.map fun p => V.ref p.1) 0 = some (V.ref (hdG E[i]).1) := by
        have h := hdG_head (I.ne _ hm)
        cases z : E[i].2.2 with
        | nil => exact absurd z (I.ne _ hm)
        | cons c t =>
          rw [z] at h
          have e : c = hdG E[i] := Option.some.inj h
          rw [← e]
          exact atI_nat (xs := (c :: t).map fun p => V.ref p.1) (j := 0) rfl
      refine ⟨rfl, _, rfl, _, rfl, D, _, rfl, .inr ⟨_, _, qk, .inr ⟨od, eF⟩, rfl, eqk, (kG_at I.nd hm).symm⟩, E[i].2.1, _, 0, _, rfl, rfl, SqL.of (kp _ _ hl nD), a0, ?_⟩
      have nDl : ∀ {b : Addr} {zs : List V}, H1 b = some (.lst zs) → b ≠ D → True := fun _ _ => trivial
      have DlD : D ≠ Dl := fun z => by rw [← z, eF] at eL; cases eL
      refine ⟨_, eL, ?_, ?_, hiE, ?_, fun b o e nb => ?_⟩
      · rw [List.length_map, List.length_take]
        exact Nat.lt_of_lt_of_le (show min i E.length < 1000 by omega) (by decide)
      · rw [upd_same, List.take_add_one, List.getElem?_eq_getElem hiE, List.map_append]
        rfl
      · rw [upd_ne DlD]
        exact eF
      · have hb : b ≠ Dl := fun z => by
          rw [← z, upd_ne nb, e] at hDl
          cases hDl
        rw [upd_ne hb]
        exact kp b o e nb
    · rintro H2 ⟨eL, _, eF, kp⟩
      have lk : (kG E).length = E.length := by
        unfold kG
        rw [List.length_map]
      rw [lk, List.take_length] at eL
      refine ⟨eF, ?_⟩
      have s3 : Same H (upd H2 D (.dT (kG E))) := fun b o e => by
        have nb : b ≠ D := ne_of_none e hD
        rw [upd_ne nb]
        exact kp b o (s1 _ _ e) nb
      have DlD : Dl ≠ D := fun z => by rw [z, eF] at eL; cases eL
      have el : (upd H2 D (.dT (kG E))) Dl = some (.lst ((E.map hdG).map fun p => V.ref p.1)) := by
        rw [upd_ne DlD, List.map_map]
        exact eL
      have tups : ∀ p ∈ E.map hdG, (upd H2 D (.dT (kG E))) p.1 = some (.tup (p.2.map V.int)) := fun p hp => by
        obtain ⟨e, he, rfl⟩ := List.mem_map.mp hp
        have z := ga.tup e he _ (hdG_mem (I.ne e he))
        have nb := ne_of z eD (fun z => by cases z)
        rw [upd_ne nb]
        exact kp _ _ z nb
      have oks : ∀ p ∈ E.map hdG, ∃ a b : Int, p.2 = [a, b] ∧ 0 ≤ a ∧ a < b ∧ b < (M : Int) := fun p hp => by
        obtain ⟨e, he, rfl⟩ := List.mem_map.mp hp
        obtain ⟨_, ⟨r, hr2, er⟩, _⟩ := I.head lw.2.asc he
        rw [← er]
        exact lw.2.ok r hr2
      revert s3 el tups
      generalize upd H2 D (.dT (kG E)) = H3
      intro s3 el tups
      have pr : Pairs (M : Int) H3 Dl (E.map hdG) := ⟨el, tups, oks⟩
      refine ⟨Dl, (E.map hdG).map (fun p => V.ref p.1), kH H3, rfl, SqL.of el, fun y hy => ?_, fun ys sp sr sb hsp => ?_⟩
      · obtain ⟨p, hp', rfl⟩ := List.mem_map.mp hy
        obtain ⟨a, b, e, _⟩ := pr.ok p hp'
        have t := pr.tup p hp'
        rw [e] at t
        refine ⟨p.1, rfl, ?_⟩
        rw [kH_at t]
        exact t
      obtain ⟨Ts, rfl, perm, asc⟩ := sorted_nd pr (I.heads lw.2.asc) sb.perm sr
      refine ⟨sp, _, rfl, .inl ⟨SqL.of upd_same, fun t ht => ?_⟩⟩
      have s4 := sN (o := .lst (Ts.map fun p => V.ref p.1)) hsp
      have s5 := sT s4 (sN (o := .tup (Ts.map fun p => V.ref p.1)) ht)
      have ht0 : H t = none := by
        cases z : H t with
        | none => rfl
        | some o => rw [s4 _ _ (s3 _ _ z)] at ht; cases ht
      refine k t Ts _ (sT s3 s5) ht0 ⟨upd_same, fun p hp' => s5 _ _ (pr.tup p (perm.mem_iff.mp hp')), fun p hp' => pr.ok p (perm.mem_iff.mp hp'), asc, by rw [perm.length_eq, List.length_map]; exact lenE, fun lv => ?_⟩
      rw [← I.least lw.2.asc lv]
      constructor
      · rintro ⟨p, hp', e⟩
        exact ⟨p, perm.mem_iff.mp hp', e⟩
      · rintro ⟨p, hp', e⟩
        exact ⟨p, perm.mem_iff.mpr hp', e⟩
end
end Q

namespace Q
open PySem L2 QM
abbrev sAsc : Stmt := top 8
/-- t[lo:hi], its items -/
def rSlC : V → Option Int → Option Int → Hp → VK → Prop := fun x lo hi H Q => ∃ a xs, x = .ref a ∧ H a = some (.tup xs) ∧ ∀ z H', Same H H' → H' z = some (.tup (cutV xs lo hi)) → Q (.ref z) H'
theorem sl_C {X : Cx} : SlR X rSlC := by
  intro pins s σ H x v vl vu lo hi sl Q I rx hs pl pu h
  obtain ⟨a, xs, rfl, ha, k⟩ := h
  refine sl_tupA pins s σ H _ v vl vu lo hi sl Q I rx hs pl pu ⟨a, xs, rfl, SqT.of ha, fun e => k a H (fun _ _ e => e) ?_, fun _ p hp => k p _ (sN hp) upd_same⟩
  rw [ha]
  congr 2
  unfold cutV
  rw [e.1, e.2]
  simp
theorem cut_tail (x : V) (r : List V) : cutV (x :: r) (some 1) none = r := by
  unfold cutV
  have e1 : HT.sIx (x :: r).length 0 (some ((1 : Nat) : Int)) = min 1 (x :: r).length := HT.sIx_nat _ _ 1
  have e2 : HT.sIx (x :: r).length (x :: r).length none = (x :: r).length := rfl
  show ((x :: r).drop (HT.sIx (x :: r).length 0 (some ((1 : Nat) : Int)))).take (HT.sIx (x :: r).length (x :: r).length none - HT.sIx (x :: r).length 0 (some ((1 : Nat) : Int))) = r
  rw [e1, e2, List.length_cons]
  rw [show min 1 (r.length + 1) = 1 by omega]
  simp

theorem cut_tl (xs : List V) : cutV xs (some 1) none = xs.tail := by
  cases xs with
  | nil => rfl
  | cons x r => exact cut_tail x r
theorem lexLt_of {x y : List Int} (h : ltP x y) : HT.lexLt x y = true := by
  obtain ⟨a, b, c, d, rfl, rfl, h⟩ := h
  show (if a = c then (if b = d then HT.lexLt [] [] else decide (b < d)) else decide (a < c)) = true
  rcases h with h | ⟨h1, h2⟩
  · rw [if_neg (by omega), decide_eq_true h]
  · rw [if_pos h1, if_neg (by omega), decide_eq_true h2]
def spAsc : Sp := fun vs H Q _ => ∃ (t : Addr) (T : List (Addr × List Int)), vs = [.ref t] ∧ H t = some (.tup (T.map fun p => V.ref p.1)) ∧ (∀ p ∈ T, H p.1 = some (.tup (p.2.map V.int))) ∧ T.Pairwise (fun x y => ltP x.2 y.2) ∧ T.length ≤ 1000 ∧ ∀ H', Same H H' → Q (.bl true) H'
section
variable {P : Program} {w : World} {K : PySem.W.Frag} {mg : Str → Option Value} {base : Heap}
theorem scAsc : FnScope ["things", "low", "high"] ["things"] (defScope sAsc) := ⟨rfl, rfl, rfl, by decide +kernel, rfl, by decide +kernel, by decide +kernel⟩
theorem ok_asc {f : Addr} {fd : FuncData} (F : Fun K "is_ascending" "is_ascending" sAsc f fd) (B : Bts mg) (hz : mg "zip" = none) (ha : mg "all" = none) : FnOk P w K mg base CX0 1 f fd ["things"] spAsc := by
  refine F.ok scAsc (fun vs H Q E h => ?_) (fun cdv A outer s H vs Q E hr h => ?_)
  · obtain ⟨t, T, rfl, _⟩ := h
    rfl
  · obtain ⟨t, T, rfl, ht, tp, asc, hl, k⟩ := h
    have nd := scAsc.nd
    have hu := hr.units0
    refine ⟨_, pss_one (ps_ret (pe_callB (cr_all rfl) (by rfl) ha PyProof.Rows.boot_all (pa_cons (pe_lc (own := [("low", 1), ("high", 2)]) (g := gTup K 2 (gCons (gName 1) (gCons (gName 2) gNil))) (tt := tYes) rfl nd (RZ.pi_zipA rfl hz (pa_cons (pv 0) (pa_cons (pe_slice sl_C (pv 0) (po_some pe_int) po_none) pa_nil)))
      (blkOk_by (N := ["things", "low", "high"]) (sc := defScope sAsc) (by decide +kernel)) (fun _ _ _ _ _ => pg_tup rfl (pgs_cons (pg_name (i := 1) nd rfl (.inl rfl)) (pgs_cons (pg_name (i := 2) nd rfl (.inl rfl)) pgs_nil))) (fun _ _ _ _ _ => pts_nil)
      (fun _ _ _ _ _ => pe_cmpR (r := rLtT K) (op_ltT hu) (pv 1) (pv 2) (nomark _))) pa_nil))), ?_⟩
    refine ⟨_, rfl, _, rfl, 1, rfl, t, _, rfl, ht, fun z H1 s1 hz1 => ?_⟩
    rw [cut_tl, ← List.map_tail] at hz1
    refine ⟨t, z, T.map (fun p => V.ref p.1), T.tail.map (fun p => V.ref p.1), rfl, .inr ⟨SqT.of (s1 _ _ ht), SqT.of hz1, fun D hD => lc_it (walk_zipT (K := K) (a := t) (b := z) (xs := T.map fun p => V.ref p.1) (ys := T.tail.map fun p => V.ref p.1) (n := T.length - 1) (by rw [List.length_map, List.length_map, List.length_tail]; omega)) (fun i H' => H' D = some (.lst ((List.replicate i true).map V.bl)) ∧ i ≤ T.length ∧ Same H1 H') ?_ ?_ ?_ ?_⟩⟩
    · exact ⟨upd_same, Nat.zero_le _, sN hD⟩
    · rintro i H3 hi ⟨_, _, s3⟩
      exact ⟨SqT.of (s3 _ _ (s1 _ _ ht)), SqT.of (s3 _ _ hz1)⟩
    · rintro i v H3 H4 hi ⟨eD, _, s3⟩ ⟨T', x, y, rfl, hT, rfl, hx, hy⟩
      have s4 := sN (o := .tup [x, y]) hT
      have hx' : (T.map fun p => V.ref p.1)[i]? = some x := hx
      have hy' : (T.tail.map fun p => V.ref p.1)[i]? = some y := hy
      obtain ⟨p, hp, rfl⟩ := map_inv hx'
      obtain ⟨r, hr2, rfl⟩ := map_inv hy'
      have hr3 : T[i + 1]? = some r := by
        rw [List.getElem?_tail] at hr2
        exact hr2
      obtain ⟨h1, e1⟩ := List.getElem?_eq_some_iff.mp hp
      obtain ⟨h2, e2⟩ := List.getElem?_eq_some_iff.mp hr3
      have lt : ltP p.2 r.2 := by
        have z := List.pairwise_iff_getElem.mp asc i (i + 1) h1 h2 (by omega)
        rw [e1, e2] at z
        exact z
      have ss := sT s1 (sT s3 s4)
      refine ⟨T', _, rfl, SqT.of upd_same, rfl, _, _, rfl, _, _, rfl, rfl, rfl, ?_⟩
      refine ⟨_, rfl, _, rfl, p.1, r.1, p.2, r.2, rfl, rfl, SqT.of (ss _ _ (tp p (List.mem_of_getElem? hp))), SqT.of (ss _ _ (tp r (List.mem_of_getElem? hr3))), ?_⟩
      rw [lexLt_of lt]
      refine ⟨_, s4 _ _ eD, ?_, ?_, by omega, ?_⟩
      · rw [List.length_map, List.length_replicate]
        exact Nat.lt_of_lt_of_le (show i < 1001 by omega) (by decide)
      · rw [upd_same, List.replicate_succ', List.map_append]
        rfl
      · exact sNew (sT s3 s4) hD
    · rintro H3 ⟨eD, _, s3⟩
      refine ⟨D, List.replicate (T.length - 1) true, rfl, SqL.of eD, ?_⟩
      have e : (List.replicate (T.length - 1) true).all id = true := by
        rw [List.all_eq_true]
        intro x hx
        rw [(List.mem_replicate.mp hx).2]
        rfl
      rw [e]
      exact k _ (sT s1 s3)
end
end Q

namespace Q
open PySem L2 QM
theorem asc_ext : ∀ (xs ys : List (List Int)), xs.Pairwise ltP → ys.Pairwise ltP → (∀ l, l ∈ xs ↔ l ∈ ys) → xs = ys
  | [], [], _, _, _ => rfl
  | [], y :: ys, _, _, h => absurd ((h y).mpr List.mem_cons_self) List.not_mem_nil
  | x :: xs, [], _, _, h => absurd ((h x).mp List.mem_cons_self) List.not_mem_nil
  | x :: xs, y :: ys, h1, h2, h => by
    rw [List.pairwise_cons] at h1 h2
    have e : x = y := by
      rcases List.mem_cons.mp ((h x).mp List.mem_cons_self) with e | m1
      · exact e
      · rcases List.mem_cons.mp ((h y).mpr List.mem_cons_self) with e | m2
        · exact e.symm
        · exact absurd (ltP_trans (h1.1 y m2) (h2.1 x m1)) ltP_irr
    subst e
    rw [asc_ext xs ys h1.2 h2.2 fun l => ?_]
    constructor
    · intro m
      rcases List.mem_cons.mp ((h l).mp (List.mem_cons_of_mem _ m)) with e | m2
      · exact absurd (h1.1 l m) (by rw [e]; exact ltP_irr)
      · exact m2
    · intro m
      rcases List.mem_cons.mp ((h l).mpr (List.mem_cons_of_mem _ m)) with e | m2
      · exact absurd (h2.1 l m) (by rw [e]; exact ltP_irr)
      · exact m2
theorem depth_pTs : ∀ L : List (Addr × List Int), PyData.depthAll (L.map fun p => pT p.2) ≤ 1
  | [] => by simp [PyData.depthAll]
  | p :: r => by
    have ih := depth_pTs r
    rw [List.map_cons]
    simp only [PyData.depthAll, depth_pT]
    omega
theorem shaped_pTs (L : List (Addr × List Int)) : SeqAt.shaped (.list (L.map fun p => pT p.2)) = true := by
  unfold SeqAt.shaped
  have h := depth_pTs L
  refine Bool.and_eq_true_iff.mpr ⟨?_, decide_eq_true ?_⟩
  · simp only [PyData.canLay0, lay_all]
  · simp only [PyData.depth]
    omega
theorem eqv_pTs : ∀ {L L' : List (Addr × List Int)}, L.map (·.2) = L'.map (·.2) → PyData.eqvAll (L.map fun p => pT p.2) (L'.map fun p => pT p.2) = true
  | [], [], _ => rfl
  | [], _ :: _, e => by cases e
  | _ :: _, [], e => by cases e
  | p :: r, p' :: r', e => by
    rw [List.map_cons, List.map_cons] at e
    obtain ⟨e1, e2⟩ := List.cons.inj e
    have ih := eqv_pTs e2
    have e0 : PyData.eqv (pT p.2) (pT p'.2) = true := by
      unfold pT
      simp only [PyData.eqv, eqv_ints]
      exact decide_eq_true e1
    rw [List.map_cons, List.map_cons]
    simp only [PyData.eqvAll, e0, ih, Bool.and_self]
/-- chosen ties that are right, as they stand -/
structure ChoAt (g : Nat → Int) (L : List (Addr × List Int)) (m : Int) (H : Hp) (t : Addr) (T : List (Addr × List Int)) : Prop where
  at_ : H t = some (.tup (T.map fun p => V.ref p.1))
  tup : ∀ p ∈ T, H p.1 = some (.tup (p.2.map V.int))
  ok : ∀ p ∈ T, ∃ a b : Int, p.2 = [a, b] ∧ 0 ≤ a ∧ a < b ∧ b < m
  asc : T.Pairwise (fun x y => ltP x.2 y.2)
  len : T.length ≤ L.length
  sub : ∀ p ∈ T, ∃ r ∈ L, r.2 = p.2
  crs : ∀ p ∈ T, CrossL g p.2
  all : ∀ r ∈ L, CrossL g r.2 → ∃ p ∈ T, crL g p.2 = crL g r.2
  nd : (T.map fun p => crL g p.2).Nodup
theorem ChoAt.same {g : Nat → Int} {L : List (Addr × List Int)} {m : Int} {H H' : Hp} {t : Addr} {T : List (Addr × List Int)} (h : ChoAt g L m H t T) (s : Same H H') : ChoAt g L m H' t T := ⟨s _ _ h.at_, fun p hp => s _ _ (h.tup p hp), h.ok, h.asc, h.len, h.sub, h.crs, h.all, h.nd⟩
theorem LeastAt.cho {g : Nat → Int} {L : List (Addr × List Int)} {m : Int} {H : Hp} {t : Addr} {T : List (Addr × List Int)} (h : LeastAt g L m H t T) (asc : L.Pairwise (fun x y => ltP x.2 y.2)) : ChoAt g L m H t T := by
  have lv : ∀ p ∈ T, LstV g L p.2 := fun p hp => (h.mem p.2).mp ⟨p, hp, rfl⟩
  refine ⟨h.at_, h.tup, h.ok, h.asc, h.len, fun p hp => (lv p hp).1, fun p hp => (lv p hp).2.1, fun r hr c => ?_, ?_⟩
  · -- the least of those with these clusters
    have key : ∀ (X : List (Addr × List Int)), X.Pairwise (fun x y => ltP x.2 y.2) → (∃ r' ∈ X, crL g r'.2 = crL g r.2) → ∃ p ∈ X, crL g p.2 = crL g r.2 ∧ ∀ q ∈ X, crL g q.2 = crL g r.2 → q.2 = p.2 ∨ ltP p.2 q.2 := by
      intro X
      induction X with
      | nil => exact fun _ ⟨_, h, _⟩ => absurd h List.not_mem_nil
      | cons x xs ih =>
        intro ax ⟨r', hr', er⟩
        rw [List.pairwise_cons] at ax
        by_cases c : crL g x.2 = crL g r.2
        · refine ⟨x, List.mem_cons_self, c, fun q hq e => ?_⟩
          rcases List.mem_cons.mp hq with rfl | hq
          · exact .inl rfl
          · exact .inr (ax.1 q hq)
        · have hr2 : r' ∈ xs := by
            rcases List.mem_cons.mp hr' with e | h
            · exact absurd (by rw [← e]; exact er) c
            · exact h
          obtain ⟨p, hp, e1, l1⟩ := ih ax.2 ⟨r', hr2, er⟩
          refine ⟨p, List.mem_cons_of_mem _ hp, e1, fun q hq e => ?_⟩
          rcases List.mem_cons.mp hq with e2 | hq
          · exact absurd (by rw [← e2]; exact e) c
          · exact l1 q hq e
    obtain ⟨p, hp, e1, l1⟩ := key L asc ⟨r, hr, rfl⟩
    have cp : CrossL g p.2 := by
      obtain ⟨x, y, e, ne⟩ := c
      exact ⟨x, y, e1.trans e, ne⟩
    obtain ⟨p', hp', e'⟩ := (h.mem p.2).mpr ⟨⟨p, hp, rfl⟩, cp, fun q hq e => l1 q hq (e.trans e1)⟩
    exact ⟨p', hp', by rw [e']; exact e1⟩
  · refine List.pairwise_map.mpr (h.asc.imp_of_mem fun {x y} hx hy lt e => ?_)
    obtain ⟨⟨ry, hry, ey⟩, _, _⟩ := lv y hy
    have z := (lv x hx).2.2 ry hry (by rw [ey]; exact e.symm)
    obtain ⟨⟨rx, hrx, ex⟩, _, _⟩ := lv x hx
    have z2 := (lv y hy).2.2 rx hrx (by rw [ex]; exact e)
    rw [ey] at z
    rw [ex] at z2
    rcases z2 with z2 | z2
    · rw [z2] at lt
      exact ltP_irr lt
    · exact ltP_irr (ltP_trans lt z2)
theorem LeastAt.same {g : Nat → Int} {L : List (Addr × List Int)} {m : Int} {H H' : Hp} {t : Addr} {T : List (Addr × List Int)} (h : LeastAt g L m H t T) (s : Same H H') : LeastAt g L m H' t T := ⟨s _ _ h.at_, fun p hp => s _ _ (h.tup p hp), h.ok, h.asc, h.len, h.mem⟩
theorem LeastAt.uniq {g : Nat → Int} {L : List (Addr × List Int)} {m : Int} {H H' : Hp} {t t' : Addr} {T T' : List (Addr × List Int)} (h : LeastAt g L m H t T) (h' : LeastAt g L m H' t' T') : T.map (·.2) = T'.map (·.2) := by
  refine asc_ext _ _ (List.pairwise_map.mpr h.asc) (List.pairwise_map.mpr h'.asc) fun l => ?_
  rw [List.mem_map, List.mem_map]
  exact (h.mem l).trans (h'.mem l).symm
end Q

namespace Q
open PySem L2 QM
abbrev sAreC : Stmt := top 26
theorem pe_fldK {X : Cx} {K : PySem.W.Frag} {e : Expr} {f : Str} {pos : Pos} {ta : TE} (hK : X.K = K) (he : PE X e ta) (hb : attributeBase e f X.env (eval e X.env) = eval e X.env) : PE X (.Attribute e f pos) (tFld K ta f) := by
  subst hK
  exact pe_fld he hb
theorem all_rep (n : Nat) : (List.replicate n true).all id = true := by
  rw [List.all_eq_true]
  intro x hx
  rw [(List.mem_replicate.mp hx).2]
  rfl
theorem cx_ok {x y m : Int} (hx : 0 ≤ x ∧ x < m) (hy : 0 ≤ y ∧ y < m) (c : ∃ u v : Int, cx x y = [u, v] ∧ u ≠ v) : ∃ u v : Int, cx x y = [u, v] ∧ 0 ≤ u ∧ u < v ∧ v < m := by
  obtain ⟨u, v, e, ne⟩ := c
  refine ⟨u, v, e, ?_⟩
  unfold cx at e
  simp only [List.cons.injEq, and_true] at e
  obtain ⟨e1, e2⟩ := e
  by_cases c : y < x
  · rw [if_pos c] at e1
    rw [if_neg (by omega)] at e2
    omega
  · rw [if_neg c] at e1
    by_cases d : y > x
    · rw [if_pos d] at e2
      omega
    · rw [if_neg d] at e2
      omega
def spAreC (C : Addr) : Sp := fun vs H Q _ => ∃ (w dx q r la t : Addr) (M : Nat) (L : List (Addr × List Int)) (bs : List Addr) (nb : Nat → List Int) (g : Nat → Int) (T : List (Addr × List Int)), vs = [.ref w, .ref la, .ref t] ∧ WebIn C (M : Int) L H w dx q r bs nb ∧ TiesAt (M : Int) H q L ∧ H la = some (.tup (flN M g)) ∧ (∀ i, i < M → 0 ≤ g i ∧ g i < (M : Int)) ∧ ChoAt g L (M : Int) H t T ∧ M ≤ 40 ∧
  ∀ H', Same H H' → Q (.bl true) H'
section
variable {P : Program} {w : World} {K : PySem.W.Frag} {mg : Str → Option Value} {base : Heap}
theorem scAreC : FnScope ["web", "leaders", "thing", "due", "tie"] ["web", "leaders", "thing"] (defScope sAreC) := ⟨rfl, rfl, rfl, by decide +kernel, rfl, by decide +kernel, by decide +kernel⟩
theorem ok_arec {f C fC fA fL : Addr} {fd dC dA dL : FuncData} (F : Fun K "are_chosen" "are_chosen" sAreC f fd) (B : Bts mg) (hz : mg "zip" = none) (ha : mg "all" = none) (T0 : WTxt K mg C) (D0 : WDefs K mg) (DC : Df K mg "crossed_by" sCross ["leaders", "tie"] fC dC)
    (DA : Df K mg "is_ascending" sAsc ["things"] fA dA) (DL : Df K mg "least_ties" sLeast ["web", "leaders"] fL dL) : FnOk P w K mg base CX0 4 f fd ["web", "leaders", "thing"] (spAreC C) := by
  have GC : FnOk P w K mg base CX0 1 fC dC ["leaders", "tie"] spCross := ok_cross DC.F B
  have GA : FnOk P w K mg base CX0 1 fA dA ["things"] spAsc := ok_asc DA.F B hz ha
  have GL2 : FnOk P w K mg base CX0 2 fL dL ["web", "leaders"] (spLeast C) := ok_least DL.F B T0 DC
  have GT : FnOk P w K mg base CX0 3 D0.fT D0.dT ["many", "thing"] spTie := ok_tie D0.DT.F B D0.DP D0.DN
  refine F.ok scAreC (fun vs H Q E h => ?_) (fun cdv A outer s H vs Q E hr h => ?_)
  · obtain ⟨w, dx, q, r, la, t, M, L, bs, nb, g, T, rfl, _⟩ := h
    rfl
  · obtain ⟨w, dx, q, r, la, t, M, L, bs, nb, g, T, rfl, x, tt, hla, gM, cho, m40, k⟩ := h
    have nd := scAreC.nd
    have hr1 : Room 1 _ := hr.mono (by decide)
    have hr2 : Room 2 _ := hr.mono (by decide)
    have hu := hr.units
    refine ⟨_, pss_cons (ps_if (PW.pt (pw_or (pt_not (pt_val (pe_callB call_isi (by rfl) B.isinstance PyProof.Rows.boot_isinstance (pa_cons (pv 2) (pa_cons (pe_bltn (v := .ty "tuple") rfl B.tuple PyProof.Rows.boot_tuple rfl) pa_nil)))))
        (pw_or1 (pt_not (pt_val (pe_callB (cr_all rfl) (by rfl) ha PyProof.Rows.boot_all (pa_cons (pe_lc (own := [("tie", 4)]) (g := gName 4) (tt := tYes) rfl nd (pi_tup (pv 2))
          (blkOk_by (N := ["web", "leaders", "thing", "due", "tie"]) (sc := defScope sAreC) (by decide +kernel)) (fun _ _ _ _ _ => pg_name (i := 4) nd rfl (.inl rfl)) (fun _ _ _ _ _ => pts_nil)
          (fun _ _ _ _ _ => pe_call GT hr rfl D0.DT.m D0.DT.k D0.DT.b .nil pass0 (pa_cons (pe_fldK (K := K) rfl (pv 0) rfl) (pa_cons (pv 4) pa_nil)))) pa_nil))))))) pss_never pss_nil)
      (pss_cons (ps_if (PW.pt (pw_or (pt_not (pt_val (pe_call GA hr1 rfl DA.m DA.k DA.b .nil pass0 (pa_cons (pv 2) pa_nil))))
        (pw_or1 (pt_not (pt_val (pe_callB (cr_all rfl) (by rfl) ha PyProof.Rows.boot_all (pa_cons (pe_lc (own := [("tie", 4)]) (g := gName 4) (tt := tYes) rfl nd (pi_tup (pv 2))
          (blkOk_by (N := ["web", "leaders", "thing", "due", "tie"]) (sc := defScope sAreC) (by decide +kernel)) (fun _ _ _ _ _ => pg_name (i := 4) nd rfl (.inl rfl)) (fun _ _ _ _ _ => pts_nil)
          (fun _ _ _ _ _ => pe_cmpR (op_inP hu) (pv 4) (pe_fldK (K := K) rfl (pv 0) rfl) rfl)) pa_nil))))))) pss_never pss_nil)
      (pss_cons (ps_setLc (i := 3) (own := [("tie", 4)]) (g := gName 4) (tt := tYes) rfl nd rfl rfl (sw_true rfl rfl rfl (by decide +kernel)) (pi_tup (pe_call GL2 hr2 rfl DL.m DL.k DL.b .nil pass0 (pa_cons (pv 0) (pa_cons (pv 1) pa_nil))))
          (blkOk_by (N := ["web", "leaders", "thing", "due", "tie"]) (sc := defScope sAreC) (by decide +kernel)) (fun _ _ _ _ _ => pg_name (i := 4) nd rfl (.inl rfl)) (fun _ _ _ _ _ => pts_nil)
          (fun _ _ _ _ _ => pe_call GC hr1 rfl DC.m DC.k DC.b .nil pass0 (pa_cons (pv 1) (pa_cons (pv 4) pa_nil))))
      (pss_one (ps_ret (pe_cmpR (op_eqD hu) (pe_callB cr_sortedPO (by rfl) B.sorted PyProof.Rows.boot_sorted (pa_cons (pe_lc (own := [("tie", 4)]) (g := gName 4) (tt := tYes) rfl nd (pi_tup (pv 2))
          (blkOk_by (N := ["web", "leaders", "thing", "due", "tie"]) (sc := defScope sAreC) (by decide +kernel)) (fun _ _ _ _ _ => pg_name (i := 4) nd rfl (.inl rfl)) (fun _ _ _ _ _ => pts_nil)
          (fun _ _ _ _ _ => pe_call GC hr1 rfl DC.m DC.k DC.b .nil pass0 (pa_cons (pv 1) (pa_cons (pv 4) pa_nil)))) pa_nil)) (pe_callB cr_sortedPO (by rfl) B.sorted PyProof.Rows.boot_sorted (pa_cons (pv 3) pa_nil)) (nomark _)))))), ?_⟩
    have few := tt.few
    have lT := cho.len
    refine ⟨_, rfl, .ref t, .ty "tuple", .type "tuple", .type "tuple", true, rfl, .ty _, .base (.tup cho.at_), kit_ty (by decide +kernel), _, rfl, iteF ?_⟩
    refine ⟨_, rfl, t, rfl, ⟨_, SqT.of cho.at_⟩, fun D1 hD1 => lc_tup (K := K) (a := t) (xs := T.map fun p => V.ref p.1) (fun i H' => H' D1 = some (.lst ((List.replicate i true).map V.bl)) ∧ Same H H') ?_ ?_ ?_ ?_⟩
    · exact ⟨upd_same, sN hD1⟩
    · rintro i H1 hi ⟨_, s1⟩
      exact SqT.of (s1 _ _ cho.at_)
    · rintro i v H1 hv ⟨eD, s1⟩
      obtain ⟨p, hp, rfl⟩ := map_inv hv
      have hi : i < T.length := (List.getElem?_eq_some_iff.mp hp).1
      obtain ⟨a, b, e2, a0, ab, bm⟩ := cho.ok p (List.mem_of_getElem? hp)
      have ht := s1 _ _ (cho.tup p (List.mem_of_getElem? hp))
      rw [e2] at ht
      refine ⟨rfl, _, rfl, w, C, dx, _, _, rfl, s1 _ _ x.at_, T0.cl, T0.nM, wf_many _ _ _, _, rfl, (M : Int), p.1, a, b, rfl, ht, a0, ab, bm, _, eD, ?_, ?_, sNew s1 hD1⟩
      · rw [List.length_map, List.length_replicate]
        exact Nat.lt_of_lt_of_le (show i < 1001 by omega) (by decide)
      · rw [upd_same, List.replicate_succ', List.map_append]
        rfl
    rintro H1 ⟨eD1, s1⟩
    refine ⟨D1, List.replicate (T.map fun p => V.ref p.1).length true, rfl, SqL.of eD1, ?_⟩
    rw [all_rep]
    refine ⟨_, rfl, iteF ?_⟩
    refine ⟨_, rfl, t, T, rfl, s1 _ _ cho.at_, fun p hp => s1 _ _ (cho.tup p hp), cho.asc, by omega, fun H2 s2 => ⟨_, rfl, iteF ?_⟩⟩
    have s12 := sT s1 s2
    refine ⟨_, rfl, t, rfl, ⟨_, SqT.of (s12 _ _ cho.at_)⟩, fun D2 hD2 => lc_tup (K := K) (a := t) (xs := T.map fun p => V.ref p.1) (fun i H' => H' D2 = some (.lst ((List.replicate i true).map V.bl)) ∧ Same H2 H') ?_ ?_ ?_ ?_⟩
    · exact ⟨upd_same, sN hD2⟩
    · rintro i H3 hi ⟨_, s3⟩
      exact SqT.of (s3 _ _ (s12 _ _ cho.at_))
    · rintro i v H3 hv ⟨eD, s3⟩
      obtain ⟨p, hp, rfl⟩ := map_inv hv
      have hi : i < T.length := (List.getElem?_eq_some_iff.mp hp).1
      have hm := List.mem_of_getElem? hp
      have s13 := sT s12 s3
      obtain ⟨r', hr', er⟩ := cho.sub p hm
      refine ⟨rfl, _, rfl, _, rfl, w, C, dx, _, _, rfl, s13 _ _ x.at_, T0.cl, T0.nT, wf_ties _ _ _, p.1, q, p.2, L, rfl, rfl, s13 _ _ (cho.tup p hm), s13 _ _ tt.at_, fun z hz2 => s13 _ _ (tt.tup z hz2), ?_⟩
      rw [decide_eq_true (List.mem_map.mpr ⟨r', hr', er⟩)]
      refine ⟨_, eD, ?_, ?_, sNew s3 hD2⟩
      · rw [List.length_map, List.length_replicate]
        exact Nat.lt_of_lt_of_le (show i < 1001 by omega) (by decide)
      · rw [upd_same, List.replicate_succ', List.map_append]
        rfl
    rintro H3 ⟨eD2, s3⟩
    refine ⟨D2, List.replicate (T.map fun p => V.ref p.1).length true, rfl, SqL.of eD2, ?_⟩
    rw [all_rep]
    refine ⟨_, rfl, iteF ?_⟩
    have s03 := sT s12 s3
    refine ⟨_, rfl, _, rfl, w, dx, q, r, la, M, L, bs, nb, g, rfl, x.same s03, tt.same s03, s03 _ _ hla, m40, fun t2 T2 H4 s4 _ lst => ?_⟩
    have cho2 := lst.cho tt.asc
    have s04 := sT s03 s4
    refine ⟨t2, rfl, ⟨_, SqT.of lst.at_⟩, fun D3 hD3 => lc_tup (K := K) (a := t2) (xs := T2.map fun p => V.ref p.1) (fun i H' => ∃ Cs : List (Addr × List Int), H' D3 = some (.lst (Cs.map fun c => V.ref c.1)) ∧ Cs.map (·.2) = (T2.take i).map (fun p => crL g p.2) ∧ (∀ c ∈ Cs, H' c.1 = some (.tup (c.2.map V.int))) ∧ Same H4 H' ) ?_ ?_ ?_ ?_⟩
    · exact ⟨[], upd_same, rfl, fun c hc => absurd hc List.not_mem_nil, sN hD3⟩
    · rintro i H5 hi ⟨_, _, _, _, s5⟩
      exact SqT.of (s5 _ _ lst.at_)
    · rintro i v H5 hv ⟨Cs, eD, ev, tc, s5⟩
      obtain ⟨p, hp, rfl⟩ := map_inv hv
      have hi : i < T2.length := (List.getElem?_eq_some_iff.mp hp).1
      have hm := List.mem_of_getElem? hp
      obtain ⟨a, b, e2, a0, ab, bm⟩ := lst.ok p hm
      obtain ⟨a', rfl⟩ : ∃ a' : Nat, a = (a' : Int) := ⟨a.toNat, by omega⟩
      obtain ⟨b', rfl⟩ : ∃ b' : Nat, b = (b' : Int) := ⟨b.toNat, by omega⟩
      have ht := s5 _ _ (lst.tup p hm)
      have ecr : crL g p.2 = cx (g a') (g b') := by
        rw [e2]
        show cx (g ((a' : Int)).toNat) (g ((b' : Int)).toNat) = _
        rw [Int.toNat_natCast, Int.toNat_natCast]
      rw [e2] at ht
      have lc : Cs.length = i := by
        have z := congrArg List.length ev
        rw [List.length_map, List.length_map, List.length_take] at z
        omega
      refine ⟨rfl, _, rfl, _, rfl, la, p.1, M, a', b', g, rfl, s5 _ _ (s04 _ _ hla), ht, by omega, by omega, fun c hc => ?_⟩
      have s6 := sN (o := .tup ((cx (g a') (g b')).map V.int)) hc
      have ncD : c ≠ D3 := fun e => by rw [e, eD] at hc; cases hc
      refine ⟨_, s6 _ _ eD, ?_, Cs ++ [(c, crL g p.2)], ?_, ?_, fun z hz2 => ?_, sNew (sT s5 s6) hD3⟩
      · rw [List.length_map, lc]
        exact Nat.lt_of_lt_of_le (show i < 1001 by have := lst.len; omega) (by decide)
      · rw [upd_same, List.map_append]
        rfl
      · rw [List.map_append, ev, take_snoc hp, List.map_append]
        rfl
      · rcases List.mem_append.mp hz2 with hz2 | hz2
        · have z1 := s6 _ _ (tc z hz2)
          rw [upd_ne (ne_of z1 (s6 _ _ eD) (fun z => by cases z))]
          exact z1
        · rw [List.mem_singleton.mp hz2, upd_ne ncD]
          show (upd H5 c (.tup ((cx (g a') (g b')).map V.int))) c = some (.tup ((crL g p.2).map V.int))
          rw [upd_same, ecr]
    rintro H5 ⟨Cs2, eD3, ev2, tc2, s5⟩
    rw [List.length_map, List.take_length] at ev2
    have s05 := sT s04 s5
    refine ⟨_, rfl, t, rfl, ⟨_, SqT.of (s05 _ _ cho.at_)⟩, fun D4 hD4 => lc_tup (K := K) (a := t) (xs := T.map fun p => V.ref p.1) (fun i H' => ∃ Cs : List (Addr × List Int), H' D4 = some (.lst (Cs.map fun c => V.ref c.1)) ∧ Cs.map (·.2) = (T.take i).map (fun p => crL g p.2) ∧ (∀ c ∈ Cs, H' c.1 = some (.tup (c.2.map V.int))) ∧ Same H5 H' ) ?_ ?_ ?_ ?_⟩
    · exact ⟨[], upd_same, rfl, fun c hc => absurd hc List.not_mem_nil, sN hD4⟩
    · rintro i H6 hi ⟨_, _, _, _, s6⟩
      exact SqT.of (s6 _ _ (s05 _ _ cho.at_))
    · rintro i v H6 hv ⟨Cs, eD, ev, tc, s6⟩
      obtain ⟨p, hp, rfl⟩ := map_inv hv
      have hi : i < T.length := (List.getElem?_eq_some_iff.mp hp).1
      have hm := List.mem_of_getElem? hp
      obtain ⟨a, b, e2, a0, ab, bm⟩ := cho.ok p hm
      obtain ⟨a', rfl⟩ : ∃ a' : Nat, a = (a' : Int) := ⟨a.toNat, by omega⟩
      obtain ⟨b', rfl⟩ : ∃ b' : Nat, b = (b' : Int) := ⟨b.toNat, by omega⟩
      have ht := s6 _ _ ((fun p hp => s05 _ _ (cho.tup p hp)) p hm)
      have ecr : crL g p.2 = cx (g a') (g b') := by
        rw [e2]
        show cx (g ((a' : Int)).toNat) (g ((b' : Int)).toNat) = _
        rw [Int.toNat_natCast, Int.toNat_natCast]
      rw [e2] at ht
      have lc : Cs.length = i := by
        have z := congrArg List.length ev
        rw [List.length_map, List.length_map, List.length_take] at z
        omega
      refine ⟨rfl, _, rfl, _, rfl, la, p.1, M, a', b', g, rfl, s6 _ _ (s05 _ _ hla), ht, by omega, by omega, fun c hc => ?_⟩
      have s7 := sN (o := .tup ((cx (g a') (g b')).map V.int)) hc
      have ncD : c ≠ D4 := fun e => by rw [e, eD] at hc; cases hc
      refine ⟨_, s7 _ _ eD, ?_, Cs ++ [(c, crL g p.2)], ?_, ?_, fun z hz2 => ?_, sNew (sT s6 s7) hD4⟩
      · rw [List.length_map, lc]
        exact Nat.lt_of_lt_of_le (show i < 1001 by have := lT; omega) (by decide)
      · rw [upd_same, List.map_append]
        rfl
      · rw [List.map_append, ev, take_snoc hp, List.map_append]
        rfl
      · rcases List.mem_append.mp hz2 with hz2 | hz2
        · have z1 := s7 _ _ (tc z hz2)
          rw [upd_ne (ne_of z1 (s7 _ _ eD) (fun z => by cases z))]
          exact z1
        · rw [List.mem_singleton.mp hz2, upd_ne ncD]
          show (upd H6 c (.tup ((cx (g a') (g b')).map V.int))) c = some (.tup ((crL g p.2).map V.int))
          rw [upd_same, ecr]
    rintro H6 ⟨Cs1, eD4, ev1, tc1, s6⟩
    rw [List.length_map, List.take_length] at ev1
    have okc : ∀ (X : List (Addr × List Int)) (Cs : List (Addr × List Int)), (∀ p ∈ X, ∃ a b : Int, p.2 = [a, b] ∧ 0 ≤ a ∧ a < b ∧ b < (M : Int)) → (∀ p ∈ X, CrossL g p.2) → Cs.map (·.2) = X.map (fun p => crL g p.2) → ∀ c ∈ Cs, ∃ u v : Int, c.2 = [u, v] ∧ 0 ≤ u ∧ u < v ∧ v < (M : Int) := fun X Cs ok crs ev c hc => by
      have z : c.2 ∈ X.map (fun p => crL g p.2) := by
        rw [← ev]
        exact List.mem_map.mpr ⟨c, hc, rfl⟩
      obtain ⟨p, hp, e⟩ := List.mem_map.mp z
      obtain ⟨a, b, e2, a0, ab, bm⟩ := ok p hp
      obtain ⟨x1, y1, e3, ne⟩ := crs p hp
      have ecr : crL g p.2 = cx (g a.toNat) (g b.toNat) := by rw [e2]; rfl
      obtain ⟨u, v, e4, h1, h2, h3⟩ := cx_ok (gM a.toNat (by omega)) (gM b.toNat (by omega)) ⟨x1, y1, ecr.symm.trans e3, ne⟩
      exact ⟨u, v, e.symm.trans (ecr.trans e4), h1, h2, h3⟩
    have pr1 : Pairs (M : Int) H6 D4 Cs1 := ⟨eD4, tc1, okc T Cs1 cho.ok cho.crs ev1⟩
    have kx : ∀ {H' : Hp} {Da : Addr} {Cs : List (Addr × List Int)}, Pairs (M : Int) H' Da Cs → ∀ y ∈ Cs.map (fun p => V.ref p.1), ∃ t, y = V.ref t ∧ H' t = some (.tup [.int (kH H' y).1, .int (kH H' y).2]) := fun {H' Da Cs} pr y hy => by
      obtain ⟨p, hp, rfl⟩ := List.mem_map.mp hy
      obtain ⟨a, b, e, _⟩ := pr.ok p hp
      have t := pr.tup p hp
      rw [e] at t
      refine ⟨p.1, rfl, ?_⟩
      rw [kH_at t]
      exact t
    refine ⟨D4, _, kH H6, rfl, SqL.of eD4, kx pr1, fun ys1 sp1 sr1 sb1 hsp1 => ?_⟩
    obtain ⟨R1, rfl, perm1, asc1⟩ := sorted_nd pr1 (by rw [ev1]; exact cho.nd) sb1.perm sr1
    have s7 := sN (o := .lst (R1.map fun p => V.ref p.1)) hsp1
    have esp1 : (upd H6 sp1 (.lst (R1.map fun p => V.ref p.1))) sp1 = some (.lst (R1.map fun p => V.ref p.1)) := upd_same
    revert s7 esp1
    generalize upd H6 sp1 (.lst (R1.map fun p => V.ref p.1)) = H7
    intro s7 esp1
    have s67 := sT s6 s7
    have pr2 : Pairs (M : Int) H7 D3 Cs2 := ⟨s67 _ _ eD3, fun c hc => s67 _ _ (tc2 c hc), okc T2 Cs2 lst.ok cho2.crs ev2⟩
    refine ⟨_, rfl, D3, _, kH H7, rfl, SqL.of pr2.at_, kx pr2, fun ys2 sp2 sr2 sb2 hsp2 => ?_⟩
    obtain ⟨R2, rfl, perm2, asc2⟩ := sorted_nd pr2 (by rw [ev2]; exact cho2.nd) sb2.perm sr2
    have s8 := sN (o := .lst (R2.map fun p => V.ref p.1)) hsp2
    have eq12 : R1.map (·.2) = R2.map (·.2) := by
      refine asc_ext _ _ (List.pairwise_map.mpr asc1) (List.pairwise_map.mpr asc2) fun l => ?_
      have m1 : l ∈ R1.map (·.2) ↔ l ∈ T.map (fun p => crL g p.2) := by
        rw [← ev1]
        exact (perm1.map (·.2)).mem_iff
      have m2 : l ∈ R2.map (·.2) ↔ l ∈ T2.map (fun p => crL g p.2) := by
        rw [← ev2]
        exact (perm2.map (·.2)).mem_iff
      rw [m1, m2, List.mem_map, List.mem_map]
      constructor
      · rintro ⟨p, hp, rfl⟩
        obtain ⟨r', hr', er⟩ := cho.sub p hp
        obtain ⟨p', hp', e⟩ := cho2.all r' hr' (by rw [er]; exact cho.crs p hp)
        exact ⟨p', hp', by rw [e, er]⟩
      · rintro ⟨p, hp, rfl⟩
        obtain ⟨r', hr', er⟩ := cho2.sub p hp
        obtain ⟨p', hp', e⟩ := cho.all r' hr' (by rw [er]; exact cho2.crs p hp)
        exact ⟨p', hp', by rw [e, er]⟩
    have t1 : ∀ p ∈ R1, (upd H7 sp2 (.lst (R2.map fun p => V.ref p.1))) p.1 = some (.tup (p.2.map V.int)) := fun p hp => s8 _ _ (s7 _ _ (pr1.tup p (perm1.mem_iff.mp hp)))
    have t2' : ∀ p ∈ R2, (upd H7 sp2 (.lst (R2.map fun p => V.ref p.1))) p.1 = some (.tup (p.2.map V.int)) := fun p hp => s8 _ _ (pr2.tup p (perm2.mem_iff.mp hp))
    refine ⟨.list (R1.map fun p => pT p.2), .list (R2.map fun p => pT p.2), .lst (SqL.of (s8 _ _ esp1)) (dp_all R1 t1), .lst (SqL.of upd_same) (dp_all R2 t2'), shaped_pTs _, shaped_pTs _, ?_⟩
    have ev : PyData.eqv (.list (R1.map fun p => pT p.2)) (.list (R2.map fun p => pT p.2)) = true := by
      simp only [PyData.eqv]
      exact eqv_pTs eq12
    rw [ev]
    exact k _ (sT s05 (sT s67 s8))
end
end Q

namespace Q
open PySem L2 QM
abbrev sChild : Stmt := top 23
abbrev sKeep : Stmt := inClass (top 18) 0
def spChild : Sp := fun vs H Q _ => ∃ (pa : Addr) (M : Nat) (par : Nat → Option Nat), vs = [.ref pa] ∧ H pa = some (.tup (pVs M par)) ∧ M ≤ 40 ∧ ∀ (t : Addr) H', Same H H' → Q (.ref t) H'
section
variable {P : Program} {w : World} {K : PySem.W.Frag} {mg : Str → Option Value} {base : Heap}
theorem scChild : FnScope ["parents", "many", "house", "child"] ["parents"] (defScope sChild) := ⟨rfl, rfl, rfl, by decide +kernel, rfl, by decide +kernel, by decide +kernel⟩
theorem ok_child {f : Addr} {fd : FuncData} (F : Fun K "children_by" "children_by" sChild f fd) (B : Bts mg) : FnOk P w K mg base CX0 1 f fd ["parents"] spChild := by
  refine F.ok scChild (fun vs H Q E h => ?_) (fun cdv A outer s H vs Q E hr h => ?_)
  · obtain ⟨pa, M, par, rfl, _⟩ := h
    rfl
  · obtain ⟨pa, M, par, rfl, hp, m40, k⟩ := h
    have nd := scChild.nd
    refine ⟨_, pss_cons (ps_set (i := 1) nd rfl (.inr rfl) (pe_callB call_len_seq (by rfl) B.len PySem.boot_len (pa_cons (pv 0) pa_nil)))
      (pss_one (ps_ret (pe_callTy call_tuple_of (by rfl) B.tuple PyProof.Rows.boot_tuple (pa_cons (pe_lc (own := [("house", 2)]) (g := gName 2) (tt := tYes) rfl nd (pi_range1 rfl B.range (pa_cons (pv 1) pa_nil))
        (blkOk_by (by rfl)) (fun _ _ _ _ _ => pg_name (i := 2) nd rfl (.inr rfl)) (fun _ _ _ _ _ => pts_nil)
        (fun _ _ _ _ _ => pe_callTy (r := fun xs H Q => ∃ p ys, xs = [.ref p] ∧ ((SqL K H p ys ∧ ∀ l, H l = none → Q (.ref l) (upd H l (.tup ys))) ∨ (SqT K H p ys ∧ Q (.ref p) H))) call_tuple_of (by rfl) B.tuple PyProof.Rows.boot_tuple
          (pa_cons (pe_lc (own := [("child", 3)]) (g := gName 3) rfl nd (wi := iRng1 (tCons (tVar 1) tNil)) (pi_range1 rfl B.range (pa_cons (pv 1) pa_nil)) (blkOk_by (by rfl)) (fun _ _ _ _ _ => pg_name (i := 3) nd rfl (.inl rfl))
            (fun _ _ _ _ _ => pts_one (pt_cmpR op_eq (pe_ix (r := rIxT K) ix_tup (pv 0) (pv 3) (fun _ _ => rfl)) (pv 2) (nomark _))) (fun _ _ _ _ _ => pv 3)) pa_nil))) pa_nil)))), ?_⟩
    have eM : ((M : Int)).toNat = M := Int.toNat_natCast M
    refine ⟨_, rfl, pa, _, rfl, .inr (SqT.of hp), ?_⟩
    rw [pVs_len]
    refine ⟨_, rfl, (M : Int), rfl, by omega, by omega, fun D hD => lc_range (lo := 0) (n := (M : Int).toNat) (fun i H' => ∃ acc : List V, H' D = some (.lst acc) ∧ acc.length = i ∧ Same H H') ?_ ?_ ?_⟩
    · exact ⟨[], upd_same, rfl, sN hD⟩
    · rintro i H1 hi ⟨acc, eD, hl, s1⟩
      rw [eM] at hi
      rw [Int.zero_add]
      refine ⟨rfl, _, rfl, (M : Int), rfl, by omega, by omega, fun D2 hD2 => lc_range (lo := 0) (n := (M : Int).toNat) (fun j H' => ∃ acc2 : List V, H' D2 = some (.lst acc2) ∧ acc2.length ≤ j ∧ Same H1 H') ?_ ?_ ?_⟩
      · exact ⟨[], upd_same, Nat.le_refl _, sN hD2⟩
      · rintro j H2 hj ⟨acc2, eD2, hl2, s2⟩
        rw [eM] at hj
        rw [Int.zero_add]
        have sc : scal (oV (par j)) (V.int (i : Int)) = true := by cases par j <;> rfl
        refine ⟨rfl, _, rfl, _, rfl, pa, _, (j : Int), _, rfl, rfl, SqT.of (s2 _ _ (s1 _ _ hp)), pVs_at par hj, _, rfl, sc, _, rfl, ite2 (fun _ => ?_) (fun _ => ?_)⟩
        · refine ⟨_, rfl, _, eD2, ?_, _, upd_same, ?_, sNew s2 hD2⟩
          · exact Nat.lt_of_lt_of_le (show acc2.length < 64 by omega) (by decide)
          · rw [List.length_append]
            exact Nat.succ_le_succ hl2
        · exact ⟨acc2, eD2, Nat.le_succ_of_le hl2, s2⟩
      · rintro H2 ⟨acc2, eD2, hl2, s2⟩
        refine ⟨D2, acc2, rfl, .inl ⟨SqL.of eD2, fun l hl3 => ?_⟩⟩
        have s3 := sT s2 (sN (o := .tup acc2) hl3)
        refine ⟨acc, s3 _ _ eD, ?_, _, upd_same, ?_, sNew (sT s1 s3) hD⟩
        · exact Nat.lt_of_lt_of_le (show acc.length < 64 by omega) (by decide)
        · rw [List.length_append, hl]
          rfl
    · rintro H1 ⟨acc, eD, hl, s1⟩
      exact ⟨D, _, rfl, .inl ⟨SqL.of eD, fun t ht => k t _ (sT s1 (sN ht))⟩⟩
end
end Q

namespace Q
open PySem L2 QM
theorem ChoAt.n {g : Nat → Int} {L : List (Addr × List Int)} {m : Int} {H : Hp} {t : Addr} {T : List (Addr × List Int)} (h : ChoAt g L m H t T) (few : L.length < 1000) : TiesN m H t T := ⟨h.at_, h.tup, h.ok, h.asc, Nat.lt_of_le_of_lt h.len few⟩
/-- what the top says of Keeper -/
structure KTxt (K : PySem.W.Frag) (mg : Str → Option Value) (C : Addr) : Prop where
  cl : Cls K C
  nW : NoAttr K C "web"
  nP : NoAttr K C "parents"
  nC : NoAttr K C "chosen"
  nL : NoAttr K C "_leaders"
  nH : NoAttr K C "_children"
  nA : NoAttr K C "_across"
  mgC : mg "Keeper" = some (.ref C)
def kf (w pa t la ch ac : V) : List (Str × V) := putF "_across" ac (putF "_children" ch (putF "_leaders" la (putF "chosen" t (putF "parents" pa (putF "web" w [])))))
theorem kf_web (w pa t la ch ac : V) : (kf w pa t la ch ac).lookup ("web" : Str) = some w := by
  unfold kf
  rw [lookup_putF, if_neg (by decide +kernel), lookup_putF, if_neg (by decide +kernel), lookup_putF, if_neg (by decide +kernel), lookup_putF, if_neg (by decide +kernel), lookup_putF, if_neg (by decide +kernel), lookup_putF, if_pos rfl]
theorem kf_parents (w pa t la ch ac : V) : (kf w pa t la ch ac).lookup ("parents" : Str) = some pa := by
  unfold kf
  rw [lookup_putF, if_neg (by decide +kernel), lookup_putF, if_neg (by decide +kernel), lookup_putF, if_neg (by decide +kernel), lookup_putF, if_neg (by decide +kernel), lookup_putF, if_pos rfl]
theorem kf_chosen (w pa t la ch ac : V) : (kf w pa t la ch ac).lookup ("chosen" : Str) = some t := by
  unfold kf
  rw [lookup_putF, if_neg (by decide +kernel), lookup_putF, if_neg (by decide +kernel), lookup_putF, if_neg (by decide +kernel), lookup_putF, if_pos rfl]
/-- what a keeper is made of -/
structure KeepIn (C : Addr) (M : Nat) (H : Hp) (w pa t : Addr) (L T : List (Addr × List Int)) (par : Nat → Option Nat) : Prop where
  web : ∃ dx q r bs nb rk, WebIn C (M : Int) L H w dx q r bs nb ∧ TiesAt (M : Int) H q L ∧ ParN M par rk nb
  hpar : H pa = some (.tup (pVs M par))
  cho : ChoAt (fun i => (LD par M i : Int)) L (M : Int) H t T
  m1 : 1 ≤ M
  m40 : M ≤ 40
/-- the leaders, as they are kept -/
def LdAt (H : Hp) (la : V) (M : Nat) (par : Nat → Option Nat) : Prop := ∃ a : Addr, la = .ref a ∧ H a = some (.tup (flN M fun i => (LD par M i : Int)))
theorem LdAt.same {H H' : Hp} {la : V} {M : Nat} {par : Nat → Option Nat} (h : LdAt H la M par) (s : Same H H') : LdAt H' la M par := by
  obtain ⟨a, e, x⟩ := h
  exact ⟨a, e, s _ _ x⟩
def spKeep (C CK : Addr) : Sp := fun vs H Q _ => ∃ (x dx w pa t : Addr) (M : Nat) (L T : List (Addr × List Int)) (par : Nat → Option Nat), vs = [.ref x, .ref w, .ref pa, .ref t] ∧ H x = some (.ins CK dx []) ∧ KeepIn C M H w pa t L T par ∧
  ∀ la ch ac H', H' x = some (.ins CK dx (kf (.ref w) (.ref pa) (.ref t) la ch ac)) → LdAt H' la M par → (∀ b o, H b = some o → b ≠ x → H' b = some o) → Q .non H'
/-- the defs that Keeper leans on -/
structure GDefs (K : PySem.W.Frag) (mg : Str → Option Value) where
  fN : Addr
  dN : FuncData
  DN : Df K mg "neighbours" sNbr ["web", "house"] fN dN
  fI : Addr
  dI : FuncData
  DI : Df K mg "is_neighbour" sIsNb ["web", "house", "thing"] fI dI
  fP : Addr
  dP : FuncData
  DP : Df K mg "are_parents" sAreP ["web", "thing"] fP dP
  fU : Addr
  dU : FuncData
  DU : Df K mg "way_up" sUp ["parents", "house"] fU dU
  fL : Addr
  dL : FuncData
  DL : Df K mg "leaders_by" sLds ["parents"] fL dL
  fH : Addr
  dH : FuncData
  DH : Df K mg "children_by" sChild ["parents"] fH dH
  fX : Addr
  dX : FuncData
  DX : Df K mg "crossed_by" sCross ["leaders", "tie"] fX dX
  fT : Addr
  dT : FuncData
  DT : Df K mg "least_ties" sLeast ["web", "leaders"] fT dT
  fA : Addr
  dA : FuncData
  DA : Df K mg "is_ascending" sAsc ["things"] fA dA
  fC : Addr
  dC : FuncData
  DC : Df K mg "are_chosen" sAreC ["web", "leaders", "thing"] fC dC
section
variable {P : Program} {w : World} {K : PySem.W.Frag} {mg : Str → Option Value} {base : Heap}
theorem scKeep : FnScope ["self", "web", "parents", "chosen", "leaders"] ["self", "web", "parents", "chosen"] (defScope sKeep) := ⟨rfl, rfl, rfl, by decide +kernel, rfl, by decide +kernel, by decide +kernel⟩
theorem ok_keep {f C CK : Addr} {fd : FuncData} (F : Fun K "__init__" "Keeper.__init__" sKeep f fd) (B : Bts mg) (hz : mg "zip" = none) (ha : mg "all" = none) (T : WTxt K mg C) (TK : KTxt K mg CK) (D : WDefs K mg) (G : GDefs K mg) : FnOk P w K mg base CX0 6 f fd ["self", "web", "parents", "chosen"] (spKeep C CK) := by
  have GP : FnOk P w K mg base CX0 5 G.fP G.dP ["web", "thing"] (spAreP C) := ok_arep G.DP.F B ha T D G.DN G.DI G.DU G.DL
  have GL2 : FnOk P w K mg base CX0 2 G.fL G.dL ["parents"] spLds := ok_lds G.DL.F B G.DU
  have GC : FnOk P w K mg base CX0 4 G.fC G.dC ["web", "leaders", "thing"] (spAreC C) := ok_arec G.DC.F B hz ha T D G.DX G.DA G.DT
  have GH : FnOk P w K mg base CX0 1 G.fH G.dH ["parents"] spChild := ok_child G.DH.F B
  have GB : FnOk P w K mg base CX0 1 D.fB D.dB ["many", "ties"] spBeside := ok_beside D.DB.F B
  refine F.ok scKeep (fun vs H Q E h => ?_) (fun cdv A outer s H vs Q E hr h => ?_)
  · obtain ⟨x, dx, w, pa, t, M, L, T', par, rfl, _⟩ := h
    rfl
  · obtain ⟨x, dx, w, pa, t, M, L, T', par, rfl, hx, ⟨⟨dw, q, r, bs, nb, rk, wi, tt, pn⟩, hpa, cho, m1, m40⟩, k⟩ := h
    have nd := scKeep.nd
    have hr1 : Room 1 _ := hr.mono (by decide)
    have hr2 : Room 2 _ := hr.mono (by decide)
    have hr4 : Room 4 _ := hr.mono (by decide)
    refine ⟨_, pss_cons (ps_if (pt_not (pt_val (pe_call GP hr rfl G.DP.m G.DP.k G.DP.b .nil pass0 (pa_cons (pv 1) (pa_cons (pv 2) pa_nil))))) pss_never pss_nil)
      (pss_cons (ps_set (i := 4) nd rfl (.inl rfl) (pe_call GL2 hr2 rfl G.DL.m G.DL.k G.DL.b .nil pass0 (pa_cons (pv 2) pa_nil)))
      (pss_cons (ps_if (pt_not (pt_val (pe_call GC hr4 rfl G.DC.m G.DC.k G.DC.b .nil pass0 (pa_cons (pv 1) (pa_cons (pv 4) (pa_cons (pv 3) pa_nil)))))) pss_never pss_nil)
      (pss_cons (ps_fld (pv 0) (pv 1) rfl)
      (pss_cons (ps_fld (pv 0) (pv 2) rfl)
      (pss_cons (ps_fld (pv 0) (pv 3) rfl)
      (pss_cons (ps_fld (pv 0) (pv 4) rfl)
      (pss_cons (ps_fld (pv 0) (pe_call GH hr1 rfl G.DH.m G.DH.k G.DH.b .nil pass0 (pa_cons (pv 2) pa_nil)) rfl)
      (pss_one (ps_fld (pv 0) (pe_call GB hr1 rfl D.DB.m D.DB.k D.DB.b .nil pass0 (pa_cons (pe_fld (pv 1) rfl) (pa_cons (pv 3) pa_nil))) rfl))))))))), ?_⟩
    have gM : ∀ i, i < M → 0 ≤ (LD par M i : Int) ∧ (LD par M i : Int) < (M : Int) := fun i hi => by
      have := pn.ok.lt hi
      omega
    refine ⟨_, rfl, _, rfl, w, dw, q, r, M, L, bs, nb, pa, par, rk, rfl, wi, hpa, pn, m40, fun H1 s1 => ⟨_, rfl, iteF ?_⟩⟩
    refine ⟨_, rfl, pa, M, par, rk, rfl, s1 _ _ hpa, pn.ok, m40, fun la H2 s2 hla => ?_⟩
    have s12 := sT s1 s2
    refine ⟨_, rfl, _, rfl, _, rfl, w, dw, q, r, la, t, M, L, bs, nb, _, T', rfl, wi.same s12, tt.same s12, hla, gM, cho.same s12, m40, fun H3 s3 => ⟨_, rfl, iteF ?_⟩⟩
    have s13 := sT s12 s3
    have ox := s13 _ _ hx
    refine ⟨_, rfl, _, rfl, x, CK, dx, _, rfl, ox, TK.cl, TK.nW, (by show 0 < 1000; decide), ?_⟩
    refine ⟨_, rfl, _, rfl, x, CK, dx, _, rfl, upd_same, TK.cl, TK.nP, (by show 1 < 1000; decide), ?_⟩
    refine ⟨_, rfl, _, rfl, x, CK, dx, _, rfl, upd_same, TK.cl, TK.nC, (by show 2 < 1000; decide), ?_⟩
    refine ⟨_, rfl, _, rfl, x, CK, dx, _, rfl, upd_same, TK.cl, TK.nL, (by show 3 < 1000; decide), ?_⟩
    rw [upd_upd, upd_upd, upd_upd]
    -- all else stands
    have st : ∀ b o, H b = some o → b ≠ x → (upd H3 x (.ins CK dx (putF "_leaders" (.ref la) (putF "chosen" (.ref t) (putF "parents" (.ref pa) (putF "web" (.ref w) [])))))) b = some o := fun b o e nb => by
      rw [upd_ne nb]
      exact s13 _ _ e
    have ex : (upd H3 x (.ins CK dx (putF "_leaders" (.ref la) (putF "chosen" (.ref t) (putF "parents" (.ref pa) (putF "web" (.ref w) [])))))) x = some (.ins CK dx (putF "_leaders" (.ref la) (putF "chosen" (.ref t) (putF "parents" (.ref pa) (putF "web" (.ref w) []))))) := upd_same
    have nla : la ≠ x := ne_of (s3 _ _ hla) ox (fun z => by cases z)
    have el4 : (upd H3 x (.ins CK dx (putF "_leaders" (.ref la) (putF "chosen" (.ref t) (putF "parents" (.ref pa) (putF "web" (.ref w) [])))))) la = some (.tup (flN M fun i => (LD par M i : Int))) := by
      rw [upd_ne nla]
      exact s3 _ _ hla
    revert st ex el4
    generalize (upd H3 x (.ins CK dx (putF "_leaders" (.ref la) (putF "chosen" (.ref t) (putF "parents" (.ref pa) (putF "web" (.ref w) [])))))) = H4
    intro st ex el4
    have nt : ∀ {b : Addr} {zs : List V}, H b = some (.tup zs) → b ≠ x := fun e => ne_of e hx (fun z => by cases z)
    refine ⟨_, rfl, pa, M, par, rfl, st _ _ hpa (nt hpa), m40, fun ch H5 s5 => ?_⟩
    refine ⟨_, rfl, x, CK, dx, _, rfl, s5 _ _ ex, TK.cl, TK.nH, (by show 4 < 1000; decide), ?_⟩
    have st6 : ∀ b o, H b = some o → b ≠ x → (upd H5 x (.ins CK dx (putF "_children" (.ref ch) (putF "_leaders" (.ref la) (putF "chosen" (.ref t) (putF "parents" (.ref pa) (putF "web" (.ref w) []))))))) b = some o := fun b o e nb => by
      rw [upd_ne nb]
      exact s5 _ _ (st b o e nb)
    have ex6 : (upd H5 x (.ins CK dx (putF "_children" (.ref ch) (putF "_leaders" (.ref la) (putF "chosen" (.ref t) (putF "parents" (.ref pa) (putF "web" (.ref w) []))))))) x = _ := upd_same
    have el6 : (upd H5 x (.ins CK dx (putF "_children" (.ref ch) (putF "_leaders" (.ref la) (putF "chosen" (.ref t) (putF "parents" (.ref pa) (putF "web" (.ref w) []))))))) la = some (.tup (flN M fun i => (LD par M i : Int))) := by
      rw [upd_ne nla]
      exact s5 _ _ el4
    revert st6 ex6 el6
    generalize (upd H5 x (.ins CK dx (putF "_children" (.ref ch) (putF "_leaders" (.ref la) (putF "chosen" (.ref t) (putF "parents" (.ref pa) (putF "web" (.ref w) []))))))) = H6
    intro st6 ex6 el6
    have nw : w ≠ x := fun e => by
      have z := wi.at_
      rw [e, hx] at z
      have z2 := Option.some.inj z
      injection z2 with z3 z4 z5
      have z6 := wf_many (M : Int) q r
      rw [← z5] at z6
      cases z6
    refine ⟨_, rfl, w, C, dw, _, _, rfl, st6 _ _ wi.at_ nw, T.cl, T.nM, wf_many _ _ _, _, rfl, (M : Int), t, T', rfl, by omega, by omega, ⟨st6 _ _ cho.at_ (nt cho.at_), fun p hp => st6 _ _ (cho.tup p hp) (nt (cho.tup p hp)), cho.ok, cho.asc, Nat.lt_of_le_of_lt cho.len tt.few⟩, fun ac bs2 nb2 H7 rt _ _ s7 => ?_⟩
    refine ⟨_, rfl, x, CK, dx, _, rfl, s7 _ _ ex6, TK.cl, TK.nA, (by show 5 < 1000; decide), ?_⟩
    exact k _ _ _ _ upd_same ⟨la, rfl, by rw [upd_ne nla]; exact s7 _ _ el6⟩ fun b o e nb => by
      rw [upd_ne nb]
      exact s7 _ _ (st6 b o e nb)
end
end Q

/-! a tuple times a number from 1 on: a new one, or the same -/
namespace QT
open PySem PySem.Spec PyProof.Rows L2
theorem tm_once (a : Addr) (xs : Array Value) (m : Nat) (dd : Option Addr) (sl : Array (Option Value)) (u : Tok) :
    Meets (Builtin.«tuple.__mul__» ⟨[.ref a, .int 1 u], []⟩) (fun _ R s => s.heap.get? a = some { cls := .type "tuple", dict := dd, data := .seq xs m, slots := sl } ∧ R (.ok (.ret (.ref a))) s) :=
  .of_wp fun prog w A R s h => by
    obtain ⟨hp, g, d, tk, os⟩ := s
    obtain ⟨ha, h⟩ := h
    have f1 := AutoSeq1.idx_int
    have c1 : (decide ((1 : Int) < -(2 ^ 63)) || decide ((1 : Int) ≥ 2 ^ 63)) = false := by decide
    have c2 : (xs.isEmpty || (1 : Int) == 1) = true := by rw [Bool.or_eq_true]; exact .inr rfl
    wp_walk using wpAny_loadPart' ha
    repeat (first
      | (refine wpAny_ite_false (decide_eq_false (by rw [c1]; exact Bool.false_ne_true)) ?_; wp_walk using wpAny_loadPart' ha)
      | (refine wpAny_ite_true (decide_eq_true (by rw [c2])) ?_; wp_walk using wpAny_loadPart' ha))
    first
    | exact ⟨_, rfl, h⟩
    | exact h
    | skip
/-- t * k, k from 1 on -/
def rRepA : R2 := fun x y H Q => ∃ l k xs, x = .ref l ∧ y = .int k ∧ H l = some (.tup xs) ∧ xs ≠ [] ∧ 1 ≤ k ∧ k ≤ 1000 ∧ xs.length ≤ 1000 ∧ ∀ z H', (∀ b o, H b = some o → H' b = some o) → H' z = some (.tup (List.replicate k.toNat xs).flatten) → Q (.ref z) H'
theorem op_repA {X : Cx} : OpR X (binaryOp .Mult) rRepA := by
  intro pins s σ H x y v u Q I rx ry h
  obtain ⟨l, k, xs, rfl, rfl, hT, hne, h1, h2, hz, q⟩ := h
  by_cases c : 2 ≤ k
  · refine op_repT pins s σ H _ _ v u Q I rx ry ⟨l, k, xs, rfl, rfl, SqT.of hT, hne, c, h2, hz, fun p hp => q p _ (fun b o e => ?_) upd_same⟩
    rw [upd_ne (fun z => by rw [z, hp] at e; cases e)]
    exact e
  obtain rfl : k = 1 := by omega
  cases rx
  obtain ⟨t, rfl⟩ := ry
  obtain ⟨its, r, ⟨⟨cls, dd, data, sl⟩, hob, hc, m, hd⟩, _⟩ := I.tuple (SqT.of hT)
  simp only at hc hd
  subst hc hd
  have e1 : (List.replicate (1 : Int).toNat xs).flatten = xs := by simp
  have fin : EP X pins σ Q (Value.ref l) s := ⟨.ref l, H, I, rfl, q l H (fun _ _ e => e) (by rw [e1]; exact hT)⟩
  have left := @F.slot_int_rmul
  refine wpAny_binaryOp_repeat_ref (U := "int") (T := "tuple") (by decide) ⟨_, hob, rfl⟩ (fun z => typeIs_int z 1 t) noFill_tuple_mul F.fills_int_mul F.slot_int_rmul repeat_tuple F.slot_int_index.lookup ?_
  refine call_meets F.slot_int_rmul (typeIs_int s 1 t) F.entry_int_rmul (F.args_int_rmul_2 _ _) (int_rmul_tuple 1 t l its.toArray m dd sl) ?_
  refine ⟨hob, rfl, ⟨_, hob, rfl⟩, ?_⟩
  exact call_meets F.slot_tuple_mul ⟨_, hob, rfl⟩ F.entry_tuple_mul (F.args_tuple_mul_2 _ _) (tm_once l its.toArray m dd sl t) ⟨hob, fin⟩
end QT

namespace Q
open PySem L2 QM
abbrev sAlpha : Stmt := top 9999
abbrev noPar : Nat → Option Nat := fun _ => none
theorem LD_no (M v : Nat) : LD noPar M v = v := by
  unfold LD
  cases M with
  | zero => rfl
  | succ n => rfl
theorem pVs_no (M : Nat) : pVs M noPar = List.replicate M V.non := by
  unfold pVs
  induction M with
  | zero => rfl
  | succ n ih =>
    rw [List.range_succ, List.map_append, ih, List.replicate_succ']
    rfl
theorem cx_lt {a b : Int} (h : a < b) : cx a b = [a, b] := by
  unfold cx
  rw [if_neg (by omega), if_pos (by omega)]
theorem cho_all {m : Int} {M : Nat} {H : Hp} {q : Addr} {L : List (Addr × List Int)} (tt : TiesAt m H q L) : ChoAt (fun i => (LD noPar M i : Int)) L m H q L := by
  have cr : ∀ p ∈ L, crL (fun i => (LD noPar M i : Int)) p.2 = p.2 ∧ CrossL (fun i => (LD noPar M i : Int)) p.2 := fun p hp => by
    obtain ⟨a, b, e, a0, ab, _⟩ := tt.ok p hp
    have e1 : crL (fun i => (LD noPar M i : Int)) p.2 = [a, b] := by
      rw [e]
      show cx (LD noPar M a.toNat : Int) (LD noPar M b.toNat : Int) = _
      rw [LD_no, LD_no, Int.toNat_of_nonneg a0, Int.toNat_of_nonneg (by omega), cx_lt ab]
    exact ⟨e1.trans e.symm, a, b, e1, by omega⟩
  refine ⟨tt.at_, tt.tup, tt.ok, tt.asc, Nat.le_refl _, fun p hp => ⟨p, hp, rfl⟩, fun p hp => (cr p hp).2, fun r hr _ => ⟨r, hr, rfl⟩, ?_⟩
  have e : L.map (fun p => crL (fun i => (LD noPar M i : Int)) p.2) = L.map (·.2) := List.map_congr_left fun p hp => (cr p hp).1
  rw [e]
  exact List.pairwise_map.mpr (tt.asc.imp fun {x y} (h : ltP x.2 y.2) (z : x.2 = y.2) => ltP_irr (l := y.2) (z ▸ h))
/-- a web that stands, with its ties -/
def WebQ (C : Addr) (M : Nat) (H : Hp) (w q : Addr) (L : List (Addr × List Int)) : Prop := ∃ dx r bs nb, WebIn C (M : Int) L H w dx q r bs nb ∧ TiesAt (M : Int) H q L
theorem WebQ.same {C : Addr} {M : Nat} {H H' : Hp} {w q : Addr} {L : List (Addr × List Int)} (h : WebQ C M H w q L) (s : Same H H') : WebQ C M H' w q L := by
  obtain ⟨dx, r, bs, nb, x, t⟩ := h
  exact ⟨dx, r, bs, nb, x.same s, t.same s⟩
def spAlpha (C CK : Addr) : Sp := fun vs H Q _ => ∃ (w q : Addr) (M : Nat) (L : List (Addr × List Int)), vs = [.ref w] ∧ WebQ C M H w q L ∧ 1 ≤ M ∧ M ≤ 40 ∧
  ∀ x dx pa la ch ac H', Same H H' → H' x = some (.ins CK dx (kf (.ref w) (.ref pa) (.ref q) la ch ac)) → LdAt H' la M noPar → H' pa = some (.tup (pVs M noPar)) → Q (.ref x) H'
section
variable {P : Program} {w : World} {K : PySem.W.Frag} {mg : Str → Option Value} {base : Heap}
end
end Q

namespace Q
open PySem L2 QM
abbrev sBall : Stmt := top 9999
abbrev sReach : Stmt := top 9999
/-- the houses within so many steps -/
def inB (st : Nat → Option Nat) (r : Int) (i : Nat) : Bool := match st i with
  | none => false
  | some d => decide ((d : Int) ≤ r)
def ballN (M : Nat) (st : Nat → Option Nat) (r : Int) : List Nat := (List.range M).filter (inB st r)
def spBall : Sp := fun vs H Q _ => ∃ (D : Addr) (M : Nat) (st : Nat → Option Nat) (r : Int), vs = [.ref D, .int r] ∧ H D = some (.lst (pVs M st)) ∧ M ≤ 40 ∧ ∀ (p : Addr) H', Same H H' → H p = none → H' p = some (.lst ((ballN M st r).map nI)) → Q (.ref p) H'
section
variable {P : Program} {w : World} {K : PySem.W.Frag} {mg : Str → Option Value} {base : Heap}
end
end Q

namespace Q
open PySem L2 QM
/-- how large a ball is -/
def bsz (M : Nat) (st : Nat → Option Nat) (r : Nat) : Nat := (ballN M st (r : Int)).length
theorem bsz_le (M : Nat) (st : Nat → Option Nat) (r : Nat) : bsz M st r ≤ M := by
  unfold bsz ballN
  refine Nat.le_trans (List.length_filter_le _ _) ?_
  rw [List.length_range]
  exact Nat.le_refl _
theorem bsz_pos {M : Nat} {st : Nat → Option Nat} {i : Nat} (hi : i < M) (h : st i = some 0) (r : Nat) : 1 ≤ bsz M st r := by
  unfold bsz
  refine List.length_pos_of_mem (a := i) ?_
  unfold ballN
  refine List.mem_filter.mpr ⟨List.mem_range.mpr hi, ?_⟩
  unfold inB
  rw [h]
  exact decide_eq_true (by omega)
/-- the reach of a ball -/
def RchOf (M : Nat) (st : Nat → Option Nat) (k r : Nat) : Prop := (∀ j, j < r → k * bsz M st j ≤ bsz M st (j + 1)) ∧ bsz M st (r + 1) < k * bsz M st r
def spReach : Sp := fun vs H Q _ => ∃ (D : Addr) (M k : Nat) (st : Nat → Option Nat), vs = [.int (k : Int), .ref D] ∧ H D = some (.lst (pVs M st)) ∧ M ≤ 40 ∧ 2 ≤ k ∧ k ≤ 8 ∧ (∃ i, i < M ∧ st i = some 0) ∧ ∀ r H', RchOf M st k r → Same H H' → Q (nI r) H'
section
variable {P : Program} {w : World} {K : PySem.W.Frag} {mg : Str → Option Value} {base : Heap}
end
end Q

namespace Q
open PySem L2 QM
abbrev sNear : Stmt := top 9999
theorem minOf_int : ∀ (ys : List Int) (y : Int), PySem.W.minOf y ys ∈ y :: ys ∧ ∀ x ∈ y :: ys, PySem.W.minOf y ys ≤ x
  | [], y => ⟨List.mem_singleton.mpr rfl, fun x hx => by rw [List.mem_singleton.mp hx]; exact Int.le_refl _⟩
  | z :: ys, y => by
    have e : PySem.W.minOf y (z :: ys) = PySem.W.minOf (if decide (z < y) = true then z else y) ys := rfl
    obtain ⟨h1, h2⟩ := minOf_int ys (if decide (z < y) = true then z else y)
    rw [e]
    by_cases c : z < y
    · rw [decide_eq_true c, if_pos rfl] at h1 h2 ⊢
      refine ⟨List.mem_cons_of_mem _ h1, fun x hx => ?_⟩
      rcases List.mem_cons.mp hx with rfl | hx
      · have := h2 z List.mem_cons_self
        omega
      · exact h2 x hx
    · rw [decide_eq_false c, if_neg Bool.false_ne_true] at h1 h2 ⊢
      refine ⟨?_, fun x hx => ?_⟩
      · rcases List.mem_cons.mp h1 with h | h
        · rw [h]; exact List.mem_cons_self
        · exact List.mem_cons_of_mem _ (List.mem_cons_of_mem _ h)
      · rcases List.mem_cons.mp hx with rfl | hx
        · exact h2 _ List.mem_cons_self
        · rcases List.mem_cons.mp hx with rfl | hx
          · have := h2 y List.mem_cons_self
            omega
          · exact h2 x (List.mem_cons_of_mem _ hx)

def rMinN (K : PySem.W.Frag) : List V → List V → Hp → VK → Prop := fun vs zs H Q => ∃ (a : Addr) (ns : List Int), vs = [.ref a] ∧ zs = [.non] ∧ SqL K H a (ns.map V.int) ∧ (ns = [] → Q .non H) ∧ ∀ m, m ∈ ns → (∀ y ∈ ns, m ≤ y) → Q (.int m) H
theorem cr_minN {X : Cx} (hc : X.calm = true) (hu : X.A.units + 64 < cLine) : CallRK X (.builtin "min") [Str.ofString "default"] (rMinN X.K) := by
  intro pins s σ H vs zs us ws Q I r rz h
  obtain ⟨a, ns, rfl, rfl, hs, q0, q⟩ := h
  obtain rfl := Vals.ref1 r
  obtain ⟨w1, rfl, e1⟩ := vals1 rz
  obtain rfl : w1 = Value.none := e1
  have hd : X.A.units + 1 + PySem.W.Datum.depth Int < cLine := by
    have : PySem.W.Datum.depth Int ≤ 60 := by decide
    omega
  obtain ⟨its, rv, hl, hz⟩ := I.list hs
  refine PySem.W.min_list_datum_default (α := Int) (xs := ns) (I.ok.hd hc) hl.isList (PySem.W.HoldAll.of_ints (by simpa using rv.ints)) hd (fun e h' tk hk => ⟨.non, H, I.kept hk, rfl, q0 e⟩) fun y ys i v h' tk e hi hv hk => ?_
  obtain ⟨t', rfl⟩ := PySem.W.int_of_holds hv
  obtain ⟨m1, m2⟩ := minOf_int ys y
  subst e
  exact ⟨.int _, H, I.kept hk, ⟨t', rfl⟩, q _ m1 m2⟩
/-- a list at D of n lists of ints, perhaps some of them the same -/
structure RowsI (H : Hp) (D : Addr) (bs : List Addr) (nb : Nat → List Int) (n : Nat) : Prop where
  at_ : H D = some (.lst (bs.map V.ref))
  len : bs.length = n
  row : ∀ (i : Nat) (a : Addr), bs[i]? = some a → H a = some (.lst ((nb i).map V.int))
/-- the least nearer neighbour -/
def NearOf (nb : List Int) (st : Nat → Option Nat) (d : Nat) (r : Option Nat) : Prop := (r = none ∧ ∀ o ∈ nb, ∀ e, st o.toNat = some e → ¬ e < d) ∨ ∃ u : Nat, r = some u ∧ (u : Int) ∈ nb ∧ (∃ e, st u = some e ∧ e < d) ∧ ∀ o ∈ nb, ∀ e, st o.toNat = some e → e < d → (u : Int) ≤ o
def spNear : Sp := fun vs H Q _ => ∃ (bD sD : Addr) (M h d : Nat) (bs : List Addr) (nb : Nat → List Int) (st : Nat → Option Nat), vs = [.ref bD, .ref sD, .int (h : Int)] ∧ RowsI H bD bs nb M ∧ H sD = some (.lst (pVs M st)) ∧ h < M ∧ M ≤ 40 ∧ st h = some d ∧ (nb h).length ≤ 1000 ∧
  (∀ o ∈ nb h, 0 ≤ o ∧ o < (M : Int) ∧ ∃ e, st o.toNat = some e) ∧ ∀ r H', NearOf (nb h) st d r → Same H H' → Q (oV r) H'
section
variable {P : Program} {w : World} {K : PySem.W.Frag} {mg : Str → Option Value} {base : Heap}
end
end Q

namespace Q
open PySem L2 QM
abbrev sBesL : Stmt := top 9999
/-- neighbours that are left, of the first so many of those that are left -/
def nbL (nb : Nat → List Int) (ls : List Nat) (j : Nat) (h : Nat) : List Int := if h ∈ ls.take j then (nb h).filter (fun o => decide (o ∈ ls.map fun i : Nat => (i : Int))) else []
def spBesL (C : Addr) : Sp := fun vs H Q _ => ∃ (w dx q r lf : Addr) (M : Nat) (L : List (Addr × List Int)) (bs : List Addr) (nb : Nat → List Int) (ls : List Nat), vs = [.ref w, .ref lf] ∧ WebIn C (M : Int) L H w dx q r bs nb ∧ H lf = some (.lst (ls.map nI)) ∧ (∀ i ∈ ls, i < M) ∧ M ≤ 40 ∧ (∀ h, h < M → (nb h).length ≤ 1000) ∧
  ∀ D bs2 H', Same H H' → H D = none → (∀ a ∈ bs2, H a = none) → RowsI H' D bs2 (nbL nb ls ls.length) M → Q (.ref D) H'
section
variable {P : Program} {w : World} {K : PySem.W.Frag} {mg : Str → Option Value} {base : Heap}
end
end Q

namespace Q
open PySem L2 QM
def spStepsI : Sp := fun vs H Q _ => ∃ (r : Addr) (bs : List Addr) (nb : Nat → List Int) (n : Nat) (G : Nat → Nat → Prop) (st : Nat), vs = [.ref r, .int (st : Int)] ∧ RowsI H r bs nb n ∧ n ≤ 40 ∧ st < n ∧ NbG G n nb ∧ (∀ a b, G a b → b < n) ∧
  ∀ (p : Addr) (cs : List V) (H' : Hp), H p = none → H' p = some (.lst cs) → Cells G st n cs → Same H H' → Q (.ref p) H'
section
variable {P : Program} {w : World} {K : PySem.W.Frag} {mg : Str → Option Value} {base : Heap}
theorem ok_stepsI {f : Addr} {fd : FuncData} (F : Fun K "steps_from" "steps_from" sSteps f fd) (B : Bts mg) : FnOk P w K mg base CX0 1 f fd ["beside", "start"] spStepsI := by
  refine F.ok scSteps (fun vs H Q E h => ?_) (fun cdv A outer s H vs Q E hr h => ?_)
  · obtain ⟨r, bs, nb, n, G, st, rfl, _⟩ := h
    rfl
  · obtain ⟨r, bs, nb, n, G, st, rfl, rt, n40, hst, hnb, hG, k⟩ := h
    have nd := scSteps.nd
    refine ⟨_, pss_cons (ps_set (i := 2) nd rfl (.inl rfl) (pe_op op_rep (pe_lst (pa_cons pe_non pa_nil)) (pe_callB call_len_seq (by rfl) B.len PySem.boot_len (pa_cons (pv 0) pa_nil))))
      (pss_cons (ps_asg pe_int (pg_sub (pv 2) (pv 1) set_list))
      (pss_cons (ps_set (i := 3) nd rfl (.inl rfl) (pe_lst (pa_cons (pv 1) pa_nil)))
      (pss_cons (ps_while PassesOwn.never (pt_truth (pv 3) (fun _ => rfl))
        (pss_cons (ps_set (i := 4) nd rfl (.inl rfl) (pe_lst pa_nil))
        (pss_cons (ps_for PassesOwn.never rfl (pi_list (pv 3)) (pg_name (i := 5) nd rfl (.inl rfl))
          (pss_one (ps_for PassesOwn.never rfl (pi_list (pe_ix ix_list (pv 0) (pv 5) (fun _ _ => rfl))) (pg_name (i := 6) nd rfl (.inl rfl))
            (pss_one (ps_if (pt_cmp (pc_isN (pe_ix ix_list (pv 2) (pv 6) (fun _ _ => rfl))))
              (pss_cons (ps_asg (pe_op op_add (pe_ix ix_list (pv 2) (pv 5) (fun _ _ => rfl)) pe_int) (pg_sub (pv 2) (pv 6) set_list))
              (pss_one (ps_expr (pe_bm PySem.F.plainAttrs_list PySem.F.slot_list_append PySem.F.type_list_append mt_append (pv 4) (pa_cons (pv 6) pa_nil))))) pss_nil)))))
        (pss_one (ps_set (i := 3) nd rfl (.inl rfl) (pv 4))))))
      (pss_one (ps_ret (pv 2)))))), ?_⟩
    -- steps = [None] * len(beside); steps[start] = 0; reached = [start]
    refine ⟨(by show 1 ≤ sizeLine; decide), fun l hl => ?_⟩
    have sl : Same H (upd H l (.lst [.non])) := sNew (fun _ _ e => e) hl
    have el : (bs.map V.ref).length = n := by rw [List.length_map, rt.len]
    refine ⟨_, rfl, r, _, rfl, .inl (SqL.of (sl _ _ rt.at_)), l, _, _, rfl, rfl, upd_same, ?_, ?_, ?_, fun sp hsp => ?_⟩
    · omega
    · rw [el]; omega
    · rw [el]; exact size_le (by show 1 * (n : Int).toNat ≤ 64; omega)
    · have hsp0 : H sp = none := sNo sl hsp
      have ef : (List.replicate (((bs.map V.ref).length : Nat) : Int).toNat [V.non]).flatten = List.replicate n V.non := by
        rw [el, Int.toNat_natCast, List.flatten_replicate_singleton]
      rw [ef]
      refine ⟨_, rfl, _, rfl, sp, _, (st : Int), st, rfl, rfl, upd_same, ixN_nat (by rw [List.length_replicate]; exact hst), ?_⟩
      refine ⟨_, rfl, (by show 1 ≤ sizeLine; decide), fun re hre => ?_⟩
      have nsr : sp ≠ re := fun e => by rw [← e, upd_same] at hre; cases hre
      have s1 : Same H (upd (upd (upd H l (.lst [.non])) sp (.lst (List.replicate n V.non))) sp (.lst ((List.replicate n V.non).set st (.int 0)))) := sNew (sNew sl hsp0) hsp0
      have hre0 : H re = none := sNo s1 hre
      refine ⟨stW H r sp G st n, ⟨_, 0, re, [st], _, none, none, none, rfl, by rw [upd_ne nsr, upd_same]; rfl, upd_same, nsr, lev_zero hst, ?_, ?_, sNew s1 hre0, rfl⟩, ?_⟩
      · intro x hx
        rw [List.mem_singleton.mp hx]
        exact ⟨hst, .zero⟩
      · intro x d
        rw [d.of_zero]
        exact List.mem_singleton.mpr rfl
      · clear nsr s1 hre0 hre re ef sl hsp el
        rintro m σ H1 ⟨t, re, rs, cs, x4, x5, x6, rfl, e1, e2, nsr, lv, hin, hall, s1, em⟩
        cases hb : (!(rs.map nI).isEmpty) with
        | false =>
          have er : rs = [] := by
            cases rs with
            | nil => rfl
            | cons u v => exact absurd hb (by simp)
          subst er
          exact ⟨_, rfl, false, .inl ⟨_, SqL.of e2, rfl⟩, iteF ⟨_, rfl, k sp cs _ hsp0 e1 (lv.all fun x d => absurd (hall x d) List.not_mem_nil) s1⟩⟩
        | true =>
          have er : rs.isEmpty = false := by
            cases rs with
            | nil => exact absurd hb (by simp)
            | cons u v => rfl
          rw [er, if_neg Bool.false_ne_true] at em
          refine ⟨_, rfl, true, .inl ⟨_, SqL.of e2, hb.symm⟩, iteT ⟨fun σ' H' => ∃ m', m' < m ∧ stW H r sp G st n m' σ' H', fun _ _ z => z, ?_⟩⟩
          -- coming = []
          refine ⟨Nat.zero_le _, fun co hco => ?_⟩
          have nsc : sp ≠ co := ne_of_none e1 hco
          have nrc : re ≠ co := ne_of_none e2 hco
          have hco0 : H co = none := sNo s1 hco
          refine ⟨_, rfl, re, rfl, ⟨_, SqL.of (by rw [upd_ne nrc]; exact e2)⟩, for_list (K := K) (a := re) (xs := rs.map nI) (fun i σ H' => ∃ (cs' : List V) (cm : List Nat) (x5 x6 : Option V),
            σ = [some (.ref r), some (.int (st : Int)), some (.ref sp), some (.ref re), some (.ref co), x5, x6] ∧ H' sp = some (.lst cs') ∧ H' co = some (.lst (cm.map nI)) ∧ H' re = some (.lst (rs.map nI)) ∧
              Mid G st n t (fun v => ∃ u ∈ rs.take i, G u v) (nn cs) cs' cm ∧ Same H H') ?_ ?_ ?_ ?_⟩
          · exact ⟨cs, [], x5, x6, rfl, by rw [upd_ne nsc]; exact e1, upd_same, by rw [upd_ne nrc]; exact e2, (Mid.start lv).mono (fun v hv ⟨u, hu, _⟩ => absurd hu (by simp)), sNew s1 hco0⟩
          · rintro i σ H2 hi ⟨cs', cm, y5, y6, rfl, f1, f2, f3, md, s2⟩
            exact SqL.of f3
          · rintro i x σ H2 hx ⟨cs', cm, y5, y6, rfl, f1, f2, f3, md, s2⟩
            obtain ⟨u, hu, rfl⟩ := map_inv hx
            obtain ⟨un, du⟩ := hin u (List.mem_of_getElem? hu)
            have ul : u < bs.length := by rw [rt.len]; exact un
            have gu : bs[u]? = some bs[u] := List.getElem?_eq_getElem ul
            refine ⟨_, rfl, _, rfl, r, _, (u : Int), _, rfl, rfl, SqL.of (s2 _ _ rt.at_), atI_nat (map_get gu), bs[u], rfl, ⟨_, SqL.of (s2 _ _ (rt.row u _ gu))⟩, for_list (K := K) (a := bs[u]) (xs := (nb u).map V.int) (fun j σ H' => ∃ (cs' : List V) (cm : List Nat) (x6 : Option V),
              σ = [some (.ref r), some (.int (st : Int)), some (.ref sp), some (.ref re), some (.ref co), some (nI u), x6] ∧ H' sp = some (.lst cs') ∧ H' co = some (.lst (cm.map nI)) ∧ H' re = some (.lst (rs.map nI)) ∧
                Mid G st n t (fun v => (∃ u ∈ rs.take i, G u v) ∨ (v : Int) ∈ (nb u).take j) (nn cs) cs' cm ∧ Same H H') ?_ ?_ ?_ ?_⟩
            · exact ⟨cs', cm, _, rfl, f1, f2, f3, md.mono (fun v hv z => z.elim id fun z => absurd z (by simp)), s2⟩
            · rintro j σ H3 hj ⟨cs3, cm3, z6, rfl, g1, g2, g3, md3, s3⟩
              exact SqL.of (s3 _ _ (rt.row u _ gu))
            · rintro j y σ H3 hy ⟨cs3, cm3, z6, rfl, g1, g2, g3, md3, s3⟩
              obtain ⟨w, hw, rfl⟩ := map_inv hy
              obtain ⟨v, rfl, guv⟩ := (hnb u un w).mp (List.mem_of_getElem? hw)
              have vn : v < n := hG _ _ guv
              have vl : v < cs3.length := by rw [md3.len]; exact vn
              have hcv : cs3[v]? = some cs3[v] := List.getElem?_eq_getElem vl
              have hcu := md3.house un du
              have dn : ∀ x, ((∃ u ∈ rs.take i, G u x) ∨ (x : Int) ∈ (nb u).take (j + 1)) → ((∃ u ∈ rs.take i, G u x) ∨ (x : Int) ∈ (nb u).take j) ∨ x = v := by
                rintro x (z | z)
                · exact .inl (.inl z)
                · rcases (take_succ_mem hw).mp z with z | z
                  · exact .inl (.inr z)
                  · exact .inr (by omega)
              refine ⟨_, rfl, _, rfl, sp, cs3, (v : Int), _, rfl, rfl, SqL.of g1, atI_nat hcv, _, rfl, ite2 (fun c => ?_) (fun c => ?_)⟩
              · have ec : cs3[v] = .non := of_decide_eq_true c
                rw [ec] at hcv
                have cl : cm3.length ≤ 40 := by
                  have z := md3.cnt
                  have z2 := nn_le cs
                  rw [lv.len] at z2
                  omega
                refine ⟨_, rfl, _, rfl, sp, cs3, (u : Int), _, rfl, rfl, SqL.of g1, atI_nat hcu, _, _, rfl, rfl, _, rfl, _, rfl, sp, cs3, (v : Int), v, rfl, rfl, g1, ixN_nat vl, ?_⟩
                have g2' : upd H3 sp (.lst (cs3.set v (nI (t + 1)))) co = some (.lst (cm3.map nI)) := by rw [upd_ne nsc.symm]; exact g2
                refine ⟨_, rfl, .inl ⟨rfl, _, SqL.of g2'⟩, _, rfl, co, _, _, rfl, rfl, g2', ?_, ?_⟩
                · rw [List.length_map]
                  exact size_ok (by omega)
                · refine ⟨cs3.set v (nI (t + 1)), cm3 ++ [v], _, rfl, ?_, ?_, ?_, (md3.more vn hcv du guv).mono (fun x _ z => dn x z), ?_⟩
                  · rw [upd_ne nsc, upd_same]
                    rfl
                  · rw [upd_same, List.map_append]
                    rfl
                  · rw [upd_ne nrc, upd_ne nsr.symm]
                    exact g3
                  · exact sNew (sNew s3 hsp0) hco0
              · exact ⟨cs3, cm3, _, rfl, g1, g2, g3, (md3.skip hcv (fun e => c (decide_eq_true e))).mono (fun x _ z => dn x z), s3⟩
            · rintro σ H3 ⟨cs3, cm3, z6, rfl, g1, g2, g3, md3, s3⟩
              refine ⟨cs3, cm3, _, _, rfl, g1, g2, g3, md3.mono ?_, s3⟩
              rintro v hv ⟨u', hu', g⟩
              rcases (take_succ_mem hu).mp hu' with z | rfl
              · exact .inl ⟨u', z, g⟩
              · refine .inr ?_
                rw [List.length_map, List.take_length]
                exact (hnb u' un _).mpr ⟨v, rfl, g⟩
          · rintro σ H2 ⟨cs', cm, y5, y6, rfl, f1, f2, f3, md, s2⟩
            obtain ⟨lv2, all2⟩ := md.fin hG fun u v d g => ⟨u, by rw [List.length_map, List.take_length]; exact hall u d, g⟩
            refine ⟨_, rfl, nn cs' + (if cm.isEmpty = true then 0 else 1), ?_, t + 1, co, cm, cs', _, _, _, rfl, f1, f2, nsc, lv2, md.cmok, all2, s2, rfl⟩
            have z := md.cnt
            cases cm with
            | nil =>
              rw [if_pos (show ([] : List Nat).isEmpty = true from rfl)]
              rw [List.length_nil] at z
              omega
            | cons a b =>
              rw [if_neg (show ¬ ((a :: b).isEmpty = true) from Bool.false_ne_true)]
              rw [List.length_cons] at z
              omega
end
end Q

namespace Q
open PySem L2 QM
section
variable {G : Nat → Nat → Prop} {s n : Nat}
def ofV : Option V → Option Nat
  | some (.int z) => some z.toNat
  | _ => none
theorem Cells.pVs {cs : List V} (h : Cells G s n cs) : ∃ st : Nat → Option Nat, cs = pVs n st ∧ ∀ v, v < n → ∀ d, st v = some d ↔ Dist G s v d := by
  refine ⟨fun v => ofV cs[v]?, ?_, fun v hv d => ?_⟩
  · refine List.ext_getElem? fun i => ?_
    by_cases hi : i < n
    · rw [pVs_get _ hi]
      rcases h.cell i hi with ⟨d, e, _⟩ | ⟨e, _⟩
      · rw [e]
        show some (nI d) = some (nI ((d : Int).toNat))
        rw [Int.toNat_natCast]
      · rw [e]
        rfl
    · rw [List.getElem?_eq_none (by rw [h.len]; omega), List.getElem?_eq_none (by rw [pVs_len]; omega)]
  · rcases h.cell v hv with ⟨c, e, x⟩ | ⟨e, x⟩
    · have z : ofV cs[v]? = some c := by
        rw [e]
        show some ((c : Int).toNat) = some c
        rw [Int.toNat_natCast]
      constructor
      · intro k
        have : some c = some d := z.symm.trans k
        cases this
        exact x
      · intro k
        exact z.trans (by rw [x.uniq k])
    · have z : ofV cs[v]? = none := by rw [e]; rfl
      exact ⟨fun k => absurd (z.symm.trans k) (fun h => by cases h), fun k => absurd k (x d)⟩
/-- nearest neighbours lead to the start -/
theorem near_none {nb : Nat → List Int} {st : Nat → Option Nat} (hst : ∀ v, v < n → ∀ d, st v = some d ↔ Dist G s v d) (hnb : NbG G n nb) (hG : ∀ a b, G a b → b < n) (sym : ∀ a b, G a b → G b a) {v d : Nat} (hv : v < n) (hd : st v = some d) (h : NearOf (nb v) st d none) : v = s := by
  have x := (hst v hv d).mp hd
  cases d with
  | zero => exact x.of_zero
  | succ t =>
    obtain ⟨u, du, g⟩ := x.pred
    rcases h with ⟨_, h⟩ | ⟨u, e, _⟩
    · have un : u < n := hG _ _ (sym _ _ g)
      have m : (u : Int) ∈ nb v := (hnb v hv u).mpr ⟨u, rfl, sym _ _ g⟩
      exact absurd (Nat.lt_succ_self t) (h u m t (by rw [Int.toNat_natCast]; exact (hst u un t).mpr du))
    · cases e
theorem near_some {nb : Nat → List Int} {st : Nat → Option Nat} (hst : ∀ v, v < n → ∀ d, st v = some d ↔ Dist G s v d) (hnb : NbG G n nb) (hG : ∀ a b, G a b → b < n) {v u d : Nat} (hv : v < n) (h : NearOf (nb v) st d (some u)) : u < n ∧ G v u ∧ ∃ e, st u = some e ∧ e < d := by
  rcases h with ⟨e, _⟩ | ⟨u', e, m, k, _⟩
  · cases e
  · cases e
    obtain ⟨u', e, g⟩ := (hnb v hv u).mp m
    have : u = u' := by omega
    subst this
    exact ⟨hG _ _ g, g, k⟩
theorem near_root {nb : Nat → List Int} {st : Nat → Option Nat} {par : Nat → Option Nat} (hst : ∀ v, v < n → ∀ d, st v = some d ↔ Dist G s v d) (hnb : NbG G n nb) (hG : ∀ a b, G a b → b < n) (sym : ∀ a b, G a b → G b a)
    (hp : ∀ v, v < n → ∀ d, st v = some d → NearOf (nb v) st d (par v)) : ∀ (d v : Nat), v < n → st v = some d → Root par v s := by
  intro d
  induction d using Nat.strongRecOn with
  | _ d ih =>
    intro v hv hd
    have h := hp v hv d hd
    cases e : par v with
    | none =>
      rw [e] at h
      have := near_none hst hnb hG sym hv hd h
      subst this
      exact .here e
    | some u =>
      rw [e] at h
      obtain ⟨un, _, c, ec, lt⟩ := near_some hst hnb hG hv h
      exact .up e (ih c lt u un ec)
end
end Q

namespace Q
open PySem L2 QM
/-- one cluster: no tie is chosen -/
theorem cho_one {M : Nat} {H : Hp} {q t : Addr} {L : List (Addr × List Int)} {par : Nat → Option Nat} (tt : TiesAt (M : Int) H q L) (ht : H t = some (.tup [])) (one : ∀ v, v < M → LD par M v = 0) : ChoAt (fun i => (LD par M i : Int)) L (M : Int) H t [] := by
  refine ⟨ht, fun p hp => absurd hp List.not_mem_nil, fun p hp => absurd hp List.not_mem_nil, .nil, Nat.zero_le _, fun p hp => absurd hp List.not_mem_nil, fun p hp => absurd hp List.not_mem_nil, fun r hr c => ?_, .nil⟩
  obtain ⟨a, b, e, a0, ab, bm⟩ := tt.ok r hr
  obtain ⟨x, y, e2, ne⟩ := c
  rw [e] at e2
  have z : cx (LD par M a.toNat : Int) (LD par M b.toNat : Int) = [x, y] := e2
  rw [one a.toNat (by omega), one b.toNat (by omega)] at z
  simp only [cx, List.cons.injEq, and_true] at z
  obtain ⟨z1, z2⟩ := z
  exact absurd (z1.symm.trans (by simpa using z2)) ne
/-- what beta grows -/
theorem beta_par {M : Nat} {L : List (Addr × List Int)} {nb : Nat → List Int} {st par : Nat → Option Nat} (T : TL (M : Int) L) (m1 : 1 ≤ M) (hn : NbOf L M nb) (hst : ∀ v, v < M → ∀ d, st v = some d ↔ Dist (GL L) 0 v d)
    (hp : ∀ v, v < M → ∀ d, st v = some d → NearOf (nb v) st d (par v)) : ∃ rk, ParN M par rk nb ∧ ∀ v, v < M → LD par M v = 0 := by
  have hnb : NbG (GL L) M nb := by
    have := T.nb (nb := nb) (by simpa using hn)
    simpa using this
  have hG : ∀ a b, GL L a b → b < M := fun a b h => by
    have := (T.in2 h).2
    omega
  have ex : ∀ v, v < M → ∃ d, st v = some d := fun v hv => by
    obtain ⟨d, h⟩ := T.dist (s := 0) (v := v) (by omega) (by omega)
    exact ⟨d, (hst v hv d).mpr h⟩
  have P : ParN M par (fun v => (st v).getD 0) nb := by
    refine ⟨⟨fun v u hv e => ?_, fun v hv => ?_⟩, fun v u hv e => ?_⟩
    · obtain ⟨d, hd⟩ := ex v hv
      obtain ⟨un, _, c, ec, lt⟩ := near_some hst hnb hG hv (e ▸ hp v hv d hd)
      refine ⟨un, ?_⟩
      show (st u).getD 0 < (st v).getD 0
      rw [ec, hd]
      exact lt
    · obtain ⟨d, hd⟩ := ex v hv
      show (st v).getD 0 < M
      rw [hd]
      exact ((hst v hv d).mp hd).lt m1 hG
    · obtain ⟨d, hd⟩ := ex v hv
      obtain ⟨un, g, _⟩ := near_some hst hnb hG hv (e ▸ hp v hv d hd)
      exact (hnb v hv u).mpr ⟨u, rfl, g⟩
  refine ⟨_, P, fun v hv => ?_⟩
  obtain ⟨d, hd⟩ := ex v hv
  exact (P.ok.root hv).uniq (near_root hst hnb hG (fun a b h => TL.sym a b h) hp d v hv hd)
end Q

namespace Q
open PySem L2 QM
/-! growing, by itself: what is told of the balls, without any text -/
/-- the least neighbour that is one step nearer, none of the start -/
def HungOf (G : Nat → Nat → Prop) (s v : Nat) (r : Option Nat) : Prop := (r = none ∧ v = s) ∨ ∃ u d, r = some u ∧ Dist G s v (d + 1) ∧ Dist G s u d ∧ G v u ∧ ∀ o, G v o → Dist G s o d → u ≤ o
theorem HungOf.uniq {G : Nat → Nat → Prop} {s v : Nat} {r r' : Option Nat} (h : HungOf G s v r) (g : HungOf G s v r') : r = r' := by
  rcases h with ⟨rfl, e⟩ | ⟨u, d, rfl, a, b, c, l⟩
  · rcases g with ⟨rfl, _⟩ | ⟨u', d', rfl, a', _⟩
    · rfl
    · subst e
      exact absurd (a'.uniq Dist.zero) (by omega)
  · rcases g with ⟨rfl, e⟩ | ⟨u', d', rfl, a', b', c', l'⟩
    · subst e
      exact absurd (a.uniq Dist.zero) (by omega)
    · have e : d = d' := by
        have := a.uniq a'
        omega
      subst e
      rw [Nat.le_antisymm (l u' c' b') (l' u c b)]
theorem near_hung {G : Nat → Nat → Prop} {s n : Nat} {nb : Nat → List Int} {st : Nat → Option Nat} (hst : ∀ v, v < n → ∀ d, st v = some d ↔ Dist G s v d) (hnb : NbG G n nb) (hG : ∀ a b, G a b → b < n) (sym : ∀ a b, G a b → G b a) {v d : Nat} (hv : v < n) (hd : st v = some d) {r : Option Nat} (h : NearOf (nb v) st d r) : HungOf G s v r := by
  cases r with
  | none => exact .inl ⟨rfl, near_none hst hnb hG sym hv hd h⟩
  | some u =>
    obtain ⟨un, g, e, ee, lt⟩ := near_some hst hnb hG hv h
    have dv := (hst v hv d).mp hd
    have du := (hst u un e).mp ee
    have ed : d = e + 1 := by
      have no : ¬ e + 1 < d := fun z => dv.2 (e + 1) z (.succ du.1 (sym _ _ g))
      omega
    subst ed
    refine .inr ⟨u, e, rfl, dv, du, g, fun o go dd => ?_⟩
    have on : o < n := hG _ _ go
    rcases h with ⟨z, _⟩ | ⟨u', z, _, _, least⟩
    · cases z
    · cases z
      have m : (o : Int) ∈ nb v := (hnb v hv o).mpr ⟨o, rfl, go⟩
      have := least o m e (by rw [Int.toNat_natCast]; exact (hst o on e).mpr dd) (by omega)
      omega
/-- ties between those that are left -/
def GB (L : List (Addr × List Int)) (ls : List Nat) (u v : Nat) : Prop := GL L u v ∧ u ∈ ls ∧ v ∈ ls
theorem GB.sym {L : List (Addr × List Int)} {ls : List Nat} {u v : Nat} (h : GB L ls u v) : GB L ls v u := ⟨TL.sym _ _ h.1, h.2.2, h.2.1⟩
theorem gb_nb {L : List (Addr × List Int)} {M : Nat} {nb : Nat → List Int} (hn : NbG (GL L) M nb) (ls : List Nat) : NbG (GB L ls) M (nbL nb ls ls.length) := fun i hi j => by
  unfold nbL
  rw [List.take_length]
  by_cases c : i ∈ ls
  · rw [if_pos c, List.mem_filter, hn i hi j]
    constructor
    · rintro ⟨⟨v, rfl, g⟩, m⟩
      obtain ⟨w, hw, e⟩ := List.mem_map.mp (of_decide_eq_true m)
      have : w = v := by omega
      subst this
      exact ⟨w, rfl, g, c, hw⟩
    · rintro ⟨v, rfl, g, _, hv⟩
      exact ⟨⟨v, rfl, g⟩, decide_eq_true (List.mem_map.mpr ⟨v, hv, rfl⟩)⟩
  · rw [if_neg c]
    exact ⟨fun h => absurd h List.not_mem_nil, fun ⟨_, _, _, h, _⟩ => absurd h c⟩
theorem gb_mem {L : List (Addr × List Int)} {ls : List Nat} {s k v : Nat} (hs : s ∈ ls) (h : Rch (GB L ls) s k v) : v ∈ ls := by
  cases h with
  | zero => exact hs
  | succ _ e => exact e.2.2
theorem rch_gl {L : List (Addr × List Int)} {ls : List Nat} {s k v : Nat} (hs : s ∈ ls) (h : Rch (GLl L (ls.map fun i : Nat => (i : Int))) s k v) : Rch (GB L ls) s k v := by
  induction h with
  | zero => exact .zero
  | succ _ e ih =>
    obtain ⟨w, hw, e2⟩ := List.mem_map.mp e.2
    have ew := Int.ofNat.inj e2
    exact .succ ih ⟨e.1, gb_mem hs ih, ew ▸ hw⟩
theorem gb_rch {L : List (Addr × List Int)} {ls : List Nat} {s k v : Nat} (h : Rch (GB L ls) s k v) : Rch (GLl L (ls.map fun i : Nat => (i : Int))) s k v := by
  induction h with
  | zero => exact .zero
  | succ _ e ih => exact .succ ih ⟨e.1, List.mem_map.mpr ⟨_, e.2.2, rfl⟩⟩
theorem dist_gl {L : List (Addr × List Int)} {ls : List Nat} {s v d : Nat} (hs : s ∈ ls) : Dist (GLl L (ls.map fun i : Nat => (i : Int))) s v d ↔ Dist (GB L ls) s v d :=
  ⟨fun h => ⟨rch_gl hs h.1, fun e he r => h.2 e he (gb_rch r)⟩, fun h => ⟨gb_rch h.1, fun e he r => h.2 e he (rch_gl hs r)⟩⟩
/-- all distances, none of what is not reached -/
def StOf (G : Nat → Nat → Prop) (s : Nat) (st : Nat → Option Nat) : Prop := ∀ v d, st v = some d ↔ Dist G s v d
theorem StOf.uniq {G : Nat → Nat → Prop} {s : Nat} {st st' : Nat → Option Nat} (h : StOf G s st) (g : StOf G s st') : st = st' := by
  funext v
  cases e : st v with
  | none =>
    cases e' : st' v with
    | none => rfl
    | some d =>
      have z := (h v d).mpr ((g v d).mp e')
      rw [e] at z
      cases z
  | some d => exact ((g v d).mpr ((h v d).mp e)).symm
theorem RchOf.uniq {M k r r' : Nat} {st : Nat → Option Nat} (h : RchOf M st k r) (g : RchOf M st k r') : r = r' := by
  rcases Nat.lt_trichotomy r r' with c | c | c
  · exact absurd h.2 (Nat.not_lt.mpr (g.1 r c))
  · exact c
  · exact absurd g.2 (Nat.not_lt.mpr (h.1 r' c))
/-- the parents, and who is left, behind so many balls -/
inductive GrS (L : List (Addr × List Int)) (M k : Nat) : Nat → (Nat → Option Nat) → List Nat → Prop
  | zero : GrS L M k 0 (fun _ => none) (List.range M)
  | step {j : Nat} {par par' : Nat → Option Nat} {s : Nat} {rest : List Nat} {st : Nat → Option Nat} {r : Nat} : GrS L M k j par (s :: rest) → StOf (GB L (s :: rest)) s st → RchOf M st k r →
      (∀ v, inB st r v = true → HungOf (GB L (s :: rest)) s v (par' v)) → (∀ v, inB st r v = false → par' v = par v) → GrS L M k (j + 1) par' ((s :: rest).filter fun v => !inB st r v)
section
variable {L : List (Addr × List Int)} {M k : Nat}
theorem GrS.uniq {j : Nat} {par : Nat → Option Nat} {ls : List Nat} (h : GrS L M k j par ls) : ∀ {par' : Nat → Option Nat} {ls' : List Nat}, GrS L M k j par' ls' → par = par' ∧ ls = ls' := by
  induction h with
  | zero =>
    intro par' ls' g
    cases g
    exact ⟨rfl, rfl⟩
  | step h1 h2 h3 h4 h5 ih =>
    intro par' ls' g
    cases g with
    | step g1 g2 g3 g4 g5 =>
      obtain ⟨rfl, e⟩ := ih g1
      cases e
      obtain rfl := h2.uniq g2
      obtain rfl := h3.uniq g3
      refine ⟨funext fun v => ?_, rfl⟩
      cases c : inB _ _ v with
      | true => exact (h4 v c).uniq (g4 v c)
      | false => rw [h5 v c, g5 v c]
theorem GrS.back {j : Nat} {par : Nat → Option Nat} {ls : List Nat} (h : GrS L M k (j + 1) par ls) : ∃ p0 s l0, GrS L M k j p0 (s :: l0) := by
  cases h with
  | step h1 _ _ _ _ => exact ⟨_, _, _, h1⟩
theorem GrS.ahead {i : Nat} : ∀ {j : Nat} {par : Nat → Option Nat} {ls : List Nat}, GrS L M k j par ls → i < j → ∃ p0 s l0, GrS L M k i p0 (s :: l0)
  | 0, _, _, _, lt => absurd lt (Nat.not_lt_zero _)
  | j + 1, _, _, h, lt => by
    obtain ⟨p0, s, l0, h0⟩ := h.back
    by_cases c : i = j
    · subst c
      exact ⟨p0, s, l0, h0⟩
    · exact GrS.ahead h0 (by omega)
theorem GrS.end_ {j j' : Nat} {par par' : Nat → Option Nat} (h : GrS L M k j par []) (g : GrS L M k j' par' []) : par = par' := by
  rcases Nat.lt_trichotomy j j' with c | c | c
  · obtain ⟨p0, s, l0, g0⟩ := g.ahead c
    exact nomatch (h.uniq g0).2
  · subst c
    exact (h.uniq g).1
  · obtain ⟨p0, s, l0, g0⟩ := h.ahead c
    exact nomatch (g.uniq g0).2
/-- what holds all along -/
structure GrI (L : List (Addr × List Int)) (M : Nat) (par : Nat → Option Nat) (ls : List Nat) (rk : Nat → Nat) : Prop where
  sub : ∀ v ∈ ls, v < M
  nd : ls.Nodup
  non : ∀ v ∈ ls, par v = none
  up : ∀ v u, v < M → v ∉ ls → par v = some u → u < M ∧ u ∉ ls ∧ rk u < rk v ∧ GL L v u
  rkM : ∀ v, v < M → rk v < M
theorem inB_some {st : Nat → Option Nat} {r v : Nat} (h : inB st (r : Int) v = true) : ∃ d, st v = some d ∧ d ≤ r := by
  unfold inB at h
  cases e : st v with
  | none => rw [e] at h; cases h
  | some d =>
    rw [e] at h
    have := of_decide_eq_true h
    exact ⟨d, rfl, by omega⟩
theorem inB_of {st : Nat → Option Nat} {r v d : Nat} (e : st v = some d) (h : d ≤ r) : inB st (r : Int) v = true := by
  unfold inB
  rw [e]
  exact decide_eq_true (by omega)
theorem GrS.inv (T : TL (M : Int) L) {j : Nat} {par : Nat → Option Nat} {ls : List Nat} (h : GrS L M k j par ls) : ∃ rk, GrI L M par ls rk := by
  induction h with
  | zero => exact ⟨fun _ => 0, fun v hv => List.mem_range.mp hv, List.nodup_range, fun v _ => rfl, fun v u hv nv _ => absurd (List.mem_range.mpr hv) nv, fun v hv => by omega⟩
  | @step j par par' s rest st r h1 h2 h3 h4 h5 ih =>
    obtain ⟨rk, I⟩ := ih
    have hs : s ∈ s :: rest := List.mem_cons_self
    have sM : s < M := I.sub s hs
    have hG : ∀ a b, GB L (s :: rest) a b → b < M := fun a b g => I.sub b g.2.2
    have inl : ∀ v, inB st r v = true → v ∈ s :: rest := fun v c => by
      obtain ⟨d, e, _⟩ := inB_some c
      exact gb_mem hs ((h2 v d).mp e).1
    have out : ∀ v, v ∉ ((s :: rest).filter fun v => !inB st r v) → inB st r v = true ∨ v ∉ s :: rest := fun v nv => by
      cases c : inB st r v with
      | true => exact .inl rfl
      | false => exact .inr fun m => nv (List.mem_filter.mpr ⟨m, by rw [c]; rfl⟩)
    have nin : ∀ v, inB st r v = true → v ∉ ((s :: rest).filter fun v => !inB st r v) := fun v c m => by
      have z := (List.mem_filter.mp m).2
      rw [c] at z
      cases z
    refine ⟨fun v => if inB st r v = true then (st v).getD 0 else rk v, fun v hv => I.sub v (List.mem_filter.mp hv).1, I.nd.filter _, fun v hv => ?_, fun v u hv nv e => ?_, fun v hv => ?_⟩
    · obtain ⟨m, c⟩ := List.mem_filter.mp hv
      have c' : inB st r v = false := by
        cases z : inB st r v with
        | true => rw [z] at c; cases c
        | false => rfl
      rw [h5 v c']
      exact I.non v m
    · rcases out v nv with c | nm
      · rcases h4 v c with ⟨z, _⟩ | ⟨u', d, z, dv, du, g, _⟩
        · rw [e] at z
          cases z
        · rw [e] at z
          cases z
          obtain ⟨d', e', le⟩ := inB_some c
          have ed : d' = d + 1 := (((h2 v d').mp e').uniq dv)
          subst ed
          have eu : st u = some d := (h2 u d).mpr du
          have cu : inB st r u = true := inB_of eu (by omega)
          refine ⟨hG _ _ g, nin u cu, ?_, g.1⟩
          show (if inB st r u = true then (st u).getD 0 else rk u) < (if inB st r v = true then (st v).getD 0 else rk v)
          rw [if_pos cu, if_pos c, eu, e']
          exact Nat.lt_succ_self d
      · have c : inB st r v = false := by
          cases z : inB st r v with
          | true => exact absurd (inl v z) nm
          | false => rfl
        rw [h5 v c] at e
        obtain ⟨uM, nu, lt, g⟩ := I.up v u hv nm e
        have cu : inB st r u = false := by
          cases z : inB st r u with
          | true => exact absurd (inl u z) nu
          | false => rfl
        refine ⟨uM, fun m => nu (List.mem_filter.mp m).1, ?_, g⟩
        show (if inB st r u = true then (st u).getD 0 else rk u) < (if inB st r v = true then (st v).getD 0 else rk v)
        rw [cu, c, if_neg Bool.false_ne_true, if_neg Bool.false_ne_true]
        exact lt
    · show (if inB st r v = true then (st v).getD 0 else rk v) < M
      by_cases c : inB st r v = true
      · rw [if_pos c]
        obtain ⟨d, e, _⟩ := inB_some c
        rw [e]
        exact ((h2 v d).mp e).lt sM hG
      · rw [if_neg c]
        exact I.rkM v hv
theorem GrS.parG (T : TL (M : Int) L) {j : Nat} {par : Nat → Option Nat} (h : GrS L M k j par []) : ∃ rk, ParG M par rk L := by
  obtain ⟨rk, I⟩ := h.inv T
  exact ⟨rk, ⟨fun v u hv e => ⟨(I.up v u hv List.not_mem_nil e).1, (I.up v u hv List.not_mem_nil e).2.2.1⟩, I.rkM⟩, fun v u hv e => (I.up v u hv List.not_mem_nil e).2.2.2⟩
/-- who is left is fewer and fewer -/
theorem GrS.less {j : Nat} {par : Nat → Option Nat} {ls : List Nat} (h : GrS L M k j par ls) : ls = [] ∨ ls.length + j ≤ M := by
  induction h with
  | zero => exact .inr (by rw [List.length_range]; exact Nat.le_refl _)
  | @step j par par' s rest st r h1 h2 h3 h4 h5 ih =>
    refine .inr ?_
    have c : inB st r s = true := inB_of ((h2 s 0).mpr Dist.zero) (Nat.zero_le _)
    rw [List.filter_cons_of_neg (by rw [c]; exact Bool.false_ne_true)]
    rcases ih with z | z
    · cases z
    · have le := List.length_filter_le (fun v => !inB st r v) rest
      rw [List.length_cons] at z
      omega
end
theorem StOf.of_lt {G : Nat → Nat → Prop} {s n : Nat} {st : Nat → Option Nat} (hs : s < n) (hG : ∀ a b, G a b → b < n) (h : ∀ v, v < n → ∀ d, st v = some d ↔ Dist G s v d) : StOf G s (fun v => if v < n then st v else none) ∧ pVs n (fun v => if v < n then st v else none) = pVs n st := by
  refine ⟨fun v d => ?_, ?_⟩
  · by_cases c : v < n
    · show (if v < n then st v else none) = some d ↔ _
      rw [if_pos c]
      exact h v c d
    · show (if v < n then st v else none) = some d ↔ _
      rw [if_neg c]
      constructor
      · intro z
        cases z
      · rintro ⟨z, _⟩
        exfalso
        cases z with
        | zero => exact c hs
        | succ _ e => exact c (hG _ _ e)
  · unfold pVs
    refine List.map_congr_left fun i hi => ?_
    show oV (if i < n then st i else none) = _
    rw [if_pos (List.mem_range.mp hi)]
theorem nd_len : ∀ (a b : List Nat), a.Nodup → (∀ x ∈ a, x ∈ b) → a.length ≤ b.length
  | [], _, _, _ => Nat.zero_le _
  | x :: a, b, h, k => by
    obtain ⟨h1, h2⟩ := List.nodup_cons.mp h
    have m := k x List.mem_cons_self
    have z := nd_len a (b.erase x) h2 fun y hy => (List.mem_erase_of_ne (fun (e : y = x) => h1 (e ▸ hy))).mpr (k y (List.mem_cons_of_mem _ hy))
    rw [List.length_erase_of_mem m] at z
    have := List.length_pos_of_mem m
    rw [List.length_cons]
    omega
end Q

namespace Q
open PySem L2 QM
abbrev sBeta : Stmt := top 9999
theorem rgV0 (M : Nat) : rgV 0 (M : Int) = (List.range M).map nI := by
  unfold rgV
  rw [Int.sub_zero, Int.toNat_natCast]
  refine List.map_congr_left fun i _ => ?_
  show V.int (0 + (i : Int)) = V.int (i : Int)
  rw [Int.zero_add]
theorem gb_all {L : List (Addr × List Int)} {M : Nat} (T : TL (M : Int) L) : GB L (List.range M) = GL L := by
  funext u v
  refine propext ⟨fun h => h.1, fun h => ⟨h, List.mem_range.mpr ?_, List.mem_range.mpr ?_⟩⟩
  · have := (T.in2 (TL.sym _ _ h)).2
    omega
  · have := (T.in2 h).2
    omega
theorem nb_len {L : List (Addr × List Int)} {M : Nat} {nb : Nat → List Int} (T : TL (M : Int) L) (hn : NbOf L M nb) (ha : NbA M nb) {h : Nat} (hM : h < M) : (nb h).length ≤ M := by
  have z := nd_len ((nb h).map Int.toNat) (List.range M) ?_ ?_
  · rw [List.length_map, List.length_range] at z
    exact z
  · refine List.pairwise_map.mpr ?_
    refine List.Pairwise.imp_of_mem (R := (· < ·)) (fun {a b} ma mb lt e => ?_) (ha h hM)
    have za := T.in2 ((hn h hM a).mp ma)
    have zb := T.in2 ((hn h hM b).mp mb)
    omega
  · intro x hx
    obtain ⟨a, ma, rfl⟩ := List.mem_map.mp hx
    have za := T.in2 ((hn h hM a).mp ma)
    exact List.mem_range.mpr (by omega)
theorem nbof_g {L : List (Addr × List Int)} {M : Nat} {nb : Nat → List Int} (T : TL (M : Int) L) (h : NbG (GL L) M nb) : NbOf L M nb := fun i hi j => by
  rw [h i hi j]
  constructor
  · rintro ⟨v, rfl, g⟩
    exact g
  · intro e
    have z := T.in2 e
    exact ⟨j.toNat, by omega, by show Edge L (i : Int) ((j.toNat : Nat) : Int); rw [Int.toNat_of_nonneg z.1]; exact e⟩
theorem nbg_of {L : List (Addr × List Int)} {M : Nat} {nb : Nat → List Int} (T : TL (M : Int) L) (hn : NbOf L M nb) : NbG (GL L) M nb := by
  have := T.nb (nb := nb) (by simpa using hn)
  simpa using this
theorem pVs_snoc {i : Nat} {par par' : Nat → Option Nat} {r : Option Nat} (h : ∀ v, v < i → par' v = par v) (e : par' i = r) : pVs (i + 1) par' = pVs i par ++ [oV r] := by
  unfold pVs
  rw [List.range_succ, List.map_append, List.map_cons, List.map_nil, e]
  congr 1
  exact List.map_congr_left fun v hv => by rw [h v (List.mem_range.mp hv)]
theorem nbL_sub {nb : Nat → List Int} {ls : List Nat} {j h : Nat} {o : Int} (m : o ∈ nbL nb ls j h) : o ∈ nb h := by
  unfold nbL at m
  by_cases c : h ∈ ls.take j
  · rw [if_pos c] at m
    exact (List.mem_filter.mp m).1
  · rw [if_neg c] at m
    exact absurd m List.not_mem_nil
theorem nbL_len {nb : Nat → List Int} {ls : List Nat} {j h : Nat} : (nbL nb ls j h).length ≤ (nb h).length := by
  unfold nbL
  by_cases c : h ∈ ls.take j
  · rw [if_pos c]
    exact List.length_filter_le _ _
  · rw [if_neg c]
    exact Nat.zero_le _
def BetaOf (L : List (Addr × List Int)) (M : Nat) (par : Nat → Option Nat) : Prop := ∀ v, v < M → HungOf (GL L) 0 v (par v)
def spBeta (C CK : Addr) : Sp := fun vs H Q _ => ∃ (w q : Addr) (M : Nat) (L : List (Addr × List Int)), vs = [.ref w] ∧ WebQ C M H w q L ∧ 1 ≤ M ∧ M ≤ 40 ∧
  ∀ x dx pa t par la ch ac H', Same H H' → H' x = some (.ins CK dx (kf (.ref w) (.ref pa) (.ref t) la ch ac)) → LdAt H' la M par → H' pa = some (.tup (pVs M par)) → BetaOf L M par → (∃ rk, ParG M par rk L) → ChoAt (fun i => (LD par M i : Int)) L (M : Int) H' t [] → Q (.ref x) H'
section
variable {P : Program} {w : World} {K : PySem.W.Frag} {mg : Str → Option Value} {base : Heap}
/-- the defs that growing leans on -/
structure RDefs (K : PySem.W.Frag) (mg : Str → Option Value) where
  fB : Addr
  dB : FuncData
  DB : Df K mg "beside_left" sBesL ["web", "left"] fB dB
  fW : Addr
  dW : FuncData
  DW : Df K mg "ball_within" sBall ["steps", "reach"] fW dW
  fR : Addr
  dR : FuncData
  DR : Df K mg "reach_of" sReach ["k", "steps"] fR dR
  fN : Addr
  dN : FuncData
  DN : Df K mg "nearest_beside" sNear ["beside", "steps", "house"] fN dN
end
end Q

namespace Q
open PySem L2 QM
abbrev sHung : Stmt := top 40
theorem head_least {l : List Int} {u : Int} (h : l.Pairwise (· < ·)) (m : u ∈ l) (le : ∀ x ∈ l, u ≤ x) : ∃ r, l = u :: r := by
  cases l with
  | nil => exact absurd m List.not_mem_nil
  | cons a r =>
    refine ⟨r, ?_⟩
    rcases List.mem_cons.mp m with e | m
    · rw [e]
    · have z1 := (List.pairwise_cons.mp h).1 u m
      have z2 := le a List.mem_cons_self
      omega
theorem least_ex {p : Nat → Prop} : ∀ {n : Nat}, p n → ∃ u, p u ∧ ∀ o, p o → u ≤ o := by
  intro n
  induction n using Nat.strongRecOn with
  | _ n ih =>
    intro h
    by_cases c : ∃ m, m < n ∧ p m
    · obtain ⟨m, lt, hm⟩ := c
      exact ih m lt hm
    · exact ⟨n, h, fun o ho => by
        by_cases d : o < n
        · exact absurd ⟨o, d, ho⟩ c
        · omega⟩
def spHung : Sp := fun vs H Q _ => ∃ (W q D lot : Addr) (M v u : Nat) (L : List (Addr × List Int)) (f : Nat → Int) (ls : List Nat), vs = [.ref W, .ref D, .int (v : Int), .ref lot] ∧ LWeb H W q (M : Int) L ∧ H D = some (.lst (flN M f)) ∧ H lot = some (.lst (ls.map nI)) ∧ v < M ∧ M ≤ 40 ∧
  (GL L v u ∧ u ∈ ls ∧ f u = f v - 1) ∧ (∀ o : Nat, GL L v o → o ∈ ls → f o = f v - 1 → u ≤ o) ∧ ∀ H', Same H H' → Q (nI u) H'
section
variable {P : Program} {w : World} {K : PySem.W.Frag} {mg : Str → Option Value} {base : Heap}
theorem scHung : FnScope ["web", "off", "house", "lot", "other"] ["web", "off", "house", "lot"] (defScope sHung) := ⟨rfl, rfl, rfl, by decide +kernel, rfl, by decide +kernel, by decide +kernel⟩
theorem ok_hung {f fB : Addr} {fd dB : FuncData} (F : Fun K "_law_hung" "_law_hung" sHung f fd) (B : Bts mg) (DB : Df K mg "_law_beside" sLBes ["web", "house"] fB dB) : FnOk P w K mg base CX0 2 f fd ["web", "off", "house", "lot"] spHung := by
  have GB : FnOk P w K mg base CX0 1 fB dB ["web", "house"] spLBes := ok_lbes DB.F B
  refine F.ok scHung (fun vs H Q E h => ?_) (fun cdv A outer s H vs Q E hr h => ?_)
  · obtain ⟨W, q, D, lot, M, v, u, L, f, ls, rfl, _⟩ := h
    rfl
  · obtain ⟨W, q, D, lot, M, v, u, L, f, ls, rfl, lw, hD, hlot, hv, m40, ⟨g1, g2, g3⟩, least, k⟩ := h
    have nd := scHung.nd
    refine ⟨_, pss_one (ps_ret (pe_ix ix_list (pe_lc (own := [("other", 4)]) (g := gName 4) rfl nd (pi_list (pe_call GB hr rfl DB.m DB.k DB.b .nil pass0 (pa_cons (pv 0) (pa_cons (pv 2) pa_nil))))
      (blkOk_by (N := ["web", "off", "house", "lot", "other"]) (sc := defScope sHung) (by decide +kernel)) (fun _ _ _ _ _ => pg_name (i := 4) nd rfl (.inl rfl))
      (fun _ _ _ _ _ => pts_one (PW.pt (pw_and (pt_cmpR (r := rIn K false) op_in_seq (pv 4) (pv 3) rfl) (pw_and1 (pt_cmpR op_eq (pe_ix (r := rIxL K) ix_list (pv 1) (pv 4) (fun _ _ => rfl)) (pe_op op_sub (pe_ix (r := rIxL K) ix_list (pv 1) (pv 2) (fun _ _ => rfl)) pe_int) (nomark _))))))
      (fun _ _ _ _ _ => pv 4)) pe_int (fun _ _ => rfl))), ?_⟩
    have TT : TL (M : Int) L := ⟨lw.2.ok, lw.2.conn, by omega, by omega⟩
    have els : ls.map nI = (ls.map fun i : Nat => (i : Int)).map V.int := by
      rw [List.map_map]
      rfl
    refine ⟨_, rfl, _, rfl, W, q, (M : Int), (v : Int), L, rfl, lw, fun p ns H1 s1 hp1 ep asc mem => ⟨p, rfl, ⟨_, SqL.of ep⟩, fun D2 hD2 => lc_list (K := K) (a := p) (xs := ns.map V.int) (fun i H' => H' D2 = some (.lst (((ns.take i).filter (fun o : Int => decide (o ∈ ls.map fun i : Nat => (i : Int)) && decide (f o.toNat = f v - 1))).map V.int)) ∧ Same H1 H') ?_ ?_ ?_ ?_⟩⟩
    · exact ⟨upd_same, sN hD2⟩
    · rintro i H2 hi ⟨_, s2⟩
      exact SqL.of (s2 _ _ ep)
    · rintro i x H2 hx ⟨eD, s2⟩
      obtain ⟨o, ho, rfl⟩ := map_inv hx
      have om := (mem o).mp (List.mem_of_getElem? ho)
      have oz := TT.in2 om
      obtain ⟨o', rfl⟩ : ∃ o' : Nat, o = (o' : Int) := ⟨o.toNat, by omega⟩
      have oM : o' < M := by omega
      have s12 := sT s1 s2
      have hi : i < ns.length := (List.getElem?_eq_some_iff.mp ho).1
      have nl : ns.length ≤ M := by
        have z := nd_len (ns.map Int.toNat) (List.range M) ?_ ?_
        · rw [List.length_map, List.length_range] at z
          exact z
        · refine List.pairwise_map.mpr ?_
          refine List.Pairwise.imp_of_mem (R := (· < ·)) (fun {a b} ma mb lt e => ?_) asc
          have za := TT.in2 ((mem a).mp ma)
          have zb := TT.in2 ((mem b).mp mb)
          omega
        · intro x hx
          obtain ⟨a, ma, rfl⟩ := List.mem_map.mp hx
          have za := TT.in2 ((mem a).mp ma)
          exact List.mem_range.mpr (by omega)
      have ll : ((ns.take i).filter (fun o : Int => decide (o ∈ ls.map fun i : Nat => (i : Int)) && decide (f o.toNat = f v - 1))).length ≤ i := by
        refine Nat.le_trans (List.length_filter_le _ _) ?_
        rw [List.length_take]
        omega
      have yes : ((o' : Int) ∈ ls.map fun i : Nat => (i : Int)) → f o' = f v - 1 → (ns.take (i + 1)).filter (fun o : Int => decide (o ∈ ls.map fun i : Nat => (i : Int)) && decide (f o.toNat = f v - 1)) = (ns.take i).filter (fun o : Int => decide (o ∈ ls.map fun i : Nat => (i : Int)) && decide (f o.toNat = f v - 1)) ++ [(o' : Int)] := fun a b => by
        rw [take_snoc ho, List.filter_append, List.filter_cons_of_pos (by rw [decide_eq_true a, Int.toNat_natCast, decide_eq_true b]; rfl)]
        rfl
      have no : ¬ (((o' : Int) ∈ ls.map fun i : Nat => (i : Int)) ∧ f o' = f v - 1) → (ns.take (i + 1)).filter (fun o : Int => decide (o ∈ ls.map fun i : Nat => (i : Int)) && decide (f o.toNat = f v - 1)) = (ns.take i).filter (fun o : Int => decide (o ∈ ls.map fun i : Nat => (i : Int)) && decide (f o.toNat = f v - 1)) := fun a => by
        rw [take_snoc ho, List.filter_append, List.filter_cons_of_neg (fun z => by
          rw [Bool.and_eq_true] at z
          have z2 := of_decide_eq_true z.2
          rw [Int.toNat_natCast] at z2
          exact a ⟨of_decide_eq_true z.1, z2⟩)]
        show _ ++ [] = _
        rw [List.append_nil]
      refine ⟨rfl, _, rfl, _, rfl, lot, _, rfl, .inl (SqL.of (by rw [← els]; exact s12 _ _ hlot)), rfl, flat_int _, _, rfl, ?_⟩
      rw [if_neg Bool.false_ne_true, inV_int]
      refine ite2 (fun c1 => ?_) (fun c1 => ?_)
      · refine ⟨_, rfl, _, rfl, D, _, (o' : Int), _, rfl, rfl, SqL.of (s12 _ _ hD), flN_ix f oM, _, rfl, _, rfl, D, _, (v : Int), _, rfl, rfl, SqL.of (s12 _ _ hD), flN_ix f hv, _, _, rfl, rfl, rfl, _, rfl, ?_⟩
        rw [dec_i]
        refine ite2 (fun c2 => ?_) (fun c2 => ?_)
        · refine ⟨_, rfl, _, eD, ?_, ?_, sNew s2 hD2⟩
          · rw [List.length_map]
            exact Nat.lt_of_lt_of_le (show _ < 64 by omega) (by decide)
          · rw [upd_same, yes (of_decide_eq_true c1) (of_decide_eq_true c2), List.map_append]
            rfl
        · refine ⟨?_, s2⟩
          rw [no fun z => c2 (decide_eq_true z.2)]
          exact eD
      · refine ⟨?_, s2⟩
        rw [no fun z => c1 (decide_eq_true z.1)]
        exact eD
    · rintro H2 ⟨eD, s2⟩
      rw [List.length_map, List.take_length] at eD
      obtain ⟨rest, er⟩ := head_least (l := ns.filter (fun o : Int => decide (o ∈ ls.map fun i : Nat => (i : Int)) && decide (f o.toNat = f v - 1))) (u := (u : Int)) (asc.filter _) (List.mem_filter.mpr ⟨(mem _).mpr g1, by
        rw [Int.toNat_natCast, decide_eq_true (List.mem_map.mpr ⟨u, g2, rfl⟩), decide_eq_true g3]
        rfl⟩) (fun x hx => by
          obtain ⟨m1, c⟩ := List.mem_filter.mp hx
          rw [Bool.and_eq_true] at c
          have om := (mem x).mp m1
          have oz := TT.in2 om
          obtain ⟨o', rfl⟩ : ∃ o' : Nat, x = (o' : Int) := ⟨x.toNat, by omega⟩
          obtain ⟨w', hw, e⟩ := List.mem_map.mp (of_decide_eq_true c.1)
          have ew : w' = o' := Int.ofNat.inj e
          have c2 := of_decide_eq_true c.2
          rw [Int.toNat_natCast] at c2
          have := least o' om (ew ▸ hw) c2
          omega)
      rw [er] at eD
      exact ⟨D2, _, 0, _, rfl, rfl, SqL.of eD, atI_nat (xs := ((u : Int) :: rest).map V.int) (j := 0) rfl, k H2 (sT s1 s2)⟩
end
end Q

/-! ways up over a list -/
namespace Q
open PySem L2 QM
def spUpL : Sp := fun vs H Q _ => ∃ (pa : Addr) (M v : Nat) (par : Nat → Option Nat) (rk : Nat → Nat), vs = [.ref pa, nI v] ∧ H pa = some (.lst (pVs M par)) ∧ ParOk M par rk ∧ v < M ∧ M ≤ 40 ∧
  ∀ (p : Addr) (ws : List Nat) (H' : Hp), Same H H' → H p = none → H' p = some (.lst (ws.map nI)) → Way par v ws → Q (.ref p) H'
def spLdsL : Sp := fun vs H Q _ => ∃ (pa : Addr) (M : Nat) (par : Nat → Option Nat) (rk : Nat → Nat), vs = [.ref pa] ∧ H pa = some (.lst (pVs M par)) ∧ ParOk M par rk ∧ M ≤ 40 ∧
  ∀ (p : Addr) (H' : Hp), Same H H' → H' p = some (.tup (flN M fun i => (LD par M i : Int))) → Q (.ref p) H'
section
variable {P : Program} {w : World} {K : PySem.W.Frag} {mg : Str → Option Value} {base : Heap}
theorem ok_upL {f : Addr} {fd : FuncData} (F : Fun K "way_up" "way_up" sUp f fd) (B : Bts mg) : FnOk P w K mg base CX0 1 f fd ["parents", "house"] spUpL := by
  refine F.ok scUp (fun vs H Q E h => ?_) (fun cdv A outer s H vs Q E hr h => ?_)
  · obtain ⟨pa, M, v, par, rk, rfl, _⟩ := h
    rfl
  · obtain ⟨pa, M, v, par, rk, rfl, hp, po, hv, m40, k⟩ := h
    have nd := scUp.nd
    refine ⟨_, pss_cons (ps_set (i := 2) nd rfl (.inl rfl) (pe_lst (pa_cons (pv 1) pa_nil)))
      (pss_cons (ps_while PassesOwn.never (PW.pt (pw_and (pt_cmp (pc_notN (pe_ix ix_list (pv 0) (pe_ix ix_list (pv 2) (pe_un un_neg pe_int) (fun _ _ => rfl)) (fun _ _ => rfl))))
          (pw_and1 (pt_cmpR op_le (pe_callB call_len_seq (by rfl) B.len PySem.boot_len (pa_cons (pv 2) pa_nil)) (pe_callB call_len_seq (by rfl) B.len PySem.boot_len (pa_cons (pv 0) pa_nil)) (nomark _)))))
        (pss_one (ps_expr (pe_bm PySem.F.plainAttrs_list PySem.F.slot_list_append PySem.F.type_list_append mt_append (pv 2) (pa_cons (pe_ix ix_list (pv 0) (pe_ix ix_list (pv 2) (pe_un un_neg pe_int) (fun _ _ => rfl)) (fun _ _ => rfl)) pa_nil)))))
      (pss_one (ps_ret (pv 2)))), ?_⟩
    refine ⟨_, rfl, (by show 1 ≤ sizeLine; decide), fun D hD => ?_⟩
    refine ⟨fun n σ H' => ∃ (pre : List Nat) (x : Nat), σ = [some (.ref pa), some (nI v), some (.ref D)] ∧ H' D = some (.lst ((pre ++ [x]).map nI)) ∧ x < M ∧ (∀ ws, Way par x ws → Way par v (pre ++ ws)) ∧ pre.length + rk x + 1 ≤ M ∧ n = rk x ∧ Same H H', ⟨rk v, [], v, rfl, upd_same, hv, fun ws h => h, by have := po.rkM v hv; show 0 + rk v + 1 ≤ M; omega, rfl, sN hD⟩, ?_⟩
    rintro n σ H1 ⟨pre, x, rfl, eD, hx, hw, hl, rfl, s1⟩
    have ex : atI ((pre ++ [x]).map nI) (-1) = some (nI x) := by
      rw [List.map_append]
      exact atI_last _ _
    refine ⟨_, rfl, _, rfl, _, rfl, D, _, -1, _, rfl, rfl, SqL.of eD, ex, pa, _, (x : Int), _, rfl, rfl, SqL.of (s1 _ _ hp), pVs_at par hx, _, rfl, ?_⟩
    cases e : par x with
    | none =>
      refine ite2 (fun c => absurd c (by simp [oV])) (fun _ => ?_)
      refine iteF ⟨_, rfl, k D _ H1 s1 hD eD (hw _ (.one e))⟩
    | some u =>
      obtain ⟨u1, u2⟩ := po.up x u hx e
      refine ite2 (fun _ => ?_) (fun c => absurd (by simp [oV, nI]) c)
      refine ⟨_, rfl, D, _, rfl, .inl (SqL.of eD), _, rfl, pa, _, rfl, .inl (SqL.of (s1 _ _ hp)), _, _, rfl, rfl, _, rfl, ?_⟩
      have le : (((pre ++ [x]).map nI).length : Int) ≤ ((pVs M par).length : Int) := by
        rw [List.length_map, List.length_append, pVs_len]
        show ((pre.length + 1 : Nat) : Int) ≤ _
        omega
      rw [decide_eq_true le]
      refine iteT ⟨_, fun σ1 H1 h => ⟨rk u, u2, h⟩, ?_⟩
      refine ⟨_, rfl, .inl ⟨rfl, _, SqL.of eD⟩, _, rfl, _, rfl, _, rfl, D, _, -1, _, rfl, rfl, SqL.of eD, ex, pa, _, (x : Int), _, rfl, rfl, SqL.of (s1 _ _ hp), pVs_at par hx, D, _, _, rfl, rfl, eD, ?_, ?_⟩
      · rw [List.length_map, List.length_append]
        exact Nat.lt_of_lt_of_le (show pre.length + 1 < 64 by omega) (by decide)
      · refine ⟨pre ++ [x], u, rfl, ?_, u1, fun ws h => ?_, ?_, rfl, sNew s1 hD⟩
        · rw [upd_same, e, List.map_append (l₁ := pre ++ [x])]
          rfl
        · rw [List.append_assoc]
          exact hw _ (.cons e h)
        · rw [List.length_append]
          show pre.length + 1 + rk u + 1 ≤ M
          omega
theorem ok_ldsL {f fU : Addr} {fd dU : FuncData} (F : Fun K "leaders_by" "leaders_by" sLds f fd) (B : Bts mg) (DU : Df K mg "way_up" sUp ["parents", "house"] fU dU) : FnOk P w K mg base CX0 2 f fd ["parents"] spLdsL := by
  have GU : FnOk P w K mg base CX0 1 fU dU ["parents", "house"] spUpL := ok_upL DU.F B
  refine F.ok scLds (fun vs H Q E h => ?_) (fun cdv A outer s H vs Q E hr h => ?_)
  · obtain ⟨pa, M, par, rk, rfl, _⟩ := h
    rfl
  · obtain ⟨pa, M, par, rk, rfl, hp, po, m40, k⟩ := h
    have nd := scLds.nd
    refine ⟨_, pss_one (ps_ret (pe_callTy call_tuple_of (by rfl) B.tuple PyProof.Rows.boot_tuple (pa_cons (pe_lc (own := [("house", 1)]) (g := gName 1) (tt := tYes) rfl nd (pi_range1 rfl B.range (pa_cons (pe_callB call_len_seq (by rfl) B.len PySem.boot_len (pa_cons (pv 0) pa_nil)) pa_nil))
      (blkOk_by (N := ["parents", "house"]) (sc := defScope sLds) (by decide +kernel)) (fun _ _ _ _ _ => pg_name (i := 1) nd rfl (.inl rfl)) (fun _ _ _ _ _ => pts_nil)
      (fun _ _ _ _ _ => pe_ix (r := rIxL K) ix_list (pe_call GU hr rfl DU.m DU.k DU.b .nil pass0 (pa_cons (pv 0) (pa_cons (pv 1) pa_nil))) (pe_un un_neg pe_int) (fun _ _ => rfl))) pa_nil))), ?_⟩
    refine ⟨_, rfl, pa, _, rfl, .inl (SqL.of hp), ?_⟩
    rw [pVs_len]
    refine ⟨(M : Int), rfl, by omega, by omega, fun D hD => lc_range (lo := 0) (n := (M : Int).toNat) (fun i H' => H' D = some (.lst (flN i fun i => (LD par M i : Int))) ∧ Same H H') ?_ ?_ ?_⟩
    · exact ⟨upd_same, sN hD⟩
    · rintro i H1 hi ⟨eD, s1⟩
      rw [Int.toNat_natCast] at hi
      rw [Int.zero_add]
      refine ⟨rfl, ?_⟩
      refine ⟨_, rfl, _, rfl, pa, M, i, par, rk, rfl, s1 _ _ hp, po, hi, m40, fun p ws H2 s2 hp2 ep wy => ?_⟩
      obtain ⟨pre, r, rfl, rt⟩ := wy.last
      obtain rfl := rt.uniq (po.root hi)
      have el : atI ((pre ++ [LD par M i]).map nI) (-1) = some (nI (LD par M i)) := by
        rw [List.map_append]
        exact atI_last _ _
      refine ⟨_, rfl, p, _, -1, _, rfl, rfl, SqL.of ep, el, _, s2 _ _ eD, ?_, ?_, sNew (sT s1 s2) hD⟩
      · rw [flN_len]
        exact Nat.lt_of_lt_of_le (show i < 64 by omega) (by decide)
      · rw [upd_same]
        unfold flN
        rw [List.range_succ, List.map_append]
        rfl
    · rintro H1 ⟨eD, s1⟩
      rw [Int.toNat_natCast] at eD
      exact ⟨D, _, rfl, .inl ⟨SqL.of eD, fun t ht => k t _ (sT s1 (sN ht)) upd_same⟩⟩
end
end Q

namespace Q
open PySem L2 QM
abbrev sGamma : Stmt := top 9999
theorem pVs_set {M : Nat} (par : Nat → Option Nat) {v : Nat} (r : Option Nat) : (pVs M par).set v (oV r) = pVs M (fun i => if i = v then r else par i) := by
  refine List.ext_getElem? fun i => ?_
  rw [List.getElem?_set]
  by_cases hi : i < M
  · rw [pVs_get _ hi, pVs_get _ hi, pVs_len]
    by_cases c : v = i
    · subst c
      rw [if_pos rfl, if_pos hi, if_pos rfl]
    · rw [if_neg c, if_neg (fun z => c z.symm)]
  · rw [List.getElem?_eq_none (l := pVs M fun i => if i = v then r else par i) (by rw [pVs_len]; omega), List.getElem?_eq_none (l := pVs M par) (by rw [pVs_len]; omega), pVs_len]
    by_cases c : v = i
    · rw [if_pos c, if_neg (by omega)]
    · rw [if_neg c]
theorem pVs_rep (M : Nat) : (List.replicate M [V.non]).flatten = pVs M noPar := by
  rw [pVs_no, List.flatten_replicate_singleton]
theorem ballN_mem {M : Nat} {st : Nat → Option Nat} {r : Int} {v : Nat} : v ∈ ballN M st r ↔ v < M ∧ inB st r v = true := by
  unfold ballN
  rw [List.mem_filter, List.mem_range]
def spGamma (C CK : Addr) : Sp := fun vs H Q _ => ∃ (w q : Addr) (M kk : Nat) (L : List (Addr × List Int)), vs = [.ref w, .int (kk : Int)] ∧ WebQ C M H w q L ∧ 1 ≤ M ∧ M ≤ 40 ∧ 2 ≤ kk ∧ kk ≤ 8 ∧
  ∀ x dx pa t T par j la ch ac H', Same H H' → H' x = some (.ins CK dx (kf (.ref w) (.ref pa) (.ref t) la ch ac)) → LdAt H' la M par → H' pa = some (.tup (pVs M par)) → GrS L M kk j par [] → LeastAt (fun i => (LD par M i : Int)) L (M : Int) H' t T → Q (.ref x) H'
section
variable {P : Program} {w : World} {K : PySem.W.Frag} {mg : Str → Option Value} {base : Heap}
end
end Q

namespace Q
open PySem L2 QM
abbrev sGrown : Stmt := top 41
/-- the law's distances as ours -/
def stF (M : Nat) (f : Nat → Int) (v : Nat) : Option Nat := if v < M ∧ 0 ≤ f v then some (f v).toNat else none
theorem stF_of {L : List (Addr × List Int)} {M s : Nat} {ls : List Nat} {f : Nat → Int} (hs : s ∈ ls) (sub : ∀ v ∈ ls, v < M) (h : OffOk (GLl L (ls.map fun i : Nat => (i : Int))) s M f) : StOf (GB L ls) s (stF M f) := fun v d => by
  unfold stF
  by_cases c : v < M
  · rcases h v c with ⟨e, no⟩ | ⟨d0, e, x, _⟩
    · rw [if_neg (by omega)]
      exact ⟨fun z => (by cases z), fun z => absurd ((dist_gl hs).mpr z) (no d)⟩
    · rw [if_pos ⟨c, by omega⟩, e, Int.toNat_natCast]
      constructor
      · intro z
        cases z
        exact (dist_gl hs).mp x
      · intro z
        rw [x.uniq ((dist_gl hs).mpr z)]
  · rw [if_neg (fun z => c z.1)]
    exact ⟨fun z => (by cases z), fun z => absurd (sub v (gb_mem hs z.1)) c⟩
theorem stF_at {M : Nat} {f : Nat → Int} {v d : Nat} (h : stF M f v = some d) : v < M ∧ f v = (d : Int) := by
  unfold stF at h
  by_cases c : v < M ∧ 0 ≤ f v
  · rw [if_pos c] at h
    have e := Option.some.inj h
    exact ⟨c.1, by omega⟩
  · rw [if_neg c] at h
    cases h
theorem inB_F {M : Nat} {f : Nat → Int} {r v : Nat} (hv : v < M) : inB (stF M f) (r : Int) v = (decide (0 ≤ f v) && decide (f v ≤ (r : Int))) := by
  unfold inB stF
  by_cases c : 0 ≤ f v
  · rw [if_pos ⟨hv, c⟩, decide_eq_true c, Bool.true_and]
    show decide (((f v).toNat : Int) ≤ (r : Int)) = _
    rw [Int.toNat_of_nonneg c]
  · rw [if_neg (fun z => c z.2), decide_eq_false c]
    rfl
theorem bsz_F {L : List (Addr × List Int)} {M s : Nat} {ls : List Nat} {f : Nat → Int} (hs : s ∈ ls) (sub : ∀ v ∈ ls, v < M) (nd : ls.Nodup) (h : StOf (GB L ls) s (stF M f)) (r : Nat) : (ls.filter (inB (stF M f) (r : Int))).length = bsz M (stF M f) r := by
  unfold bsz
  refine Nat.le_antisymm (nd_len _ _ (nd.filter _) fun x hx => ?_) (nd_len _ _ (List.nodup_range.filter _) fun x hx => ?_)
  · obtain ⟨m, c⟩ := List.mem_filter.mp hx
    exact ballN_mem.mpr ⟨sub x m, c⟩
  · obtain ⟨m, c⟩ := ballN_mem.mp hx
    obtain ⟨d, e, _⟩ := inB_some c
    exact List.mem_filter.mpr ⟨gb_mem hs ((h x d).mp e).1, c⟩
theorem rch_ex {M k i : Nat} {st : Nat → Option Nat} (k2 : 2 ≤ k) (hi : i < M) (e : st i = some 0) : ∃ r, r ≤ M ∧ RchOf M st k r := by
  by_cases c : ∃ r, bsz M st (r + 1) < k * bsz M st r ∧ r ≤ M
  · obtain ⟨r0, c1, c2⟩ := c
    obtain ⟨r, c, least⟩ := least_ex (p := fun r => bsz M st (r + 1) < k * bsz M st r) c1
    exact ⟨r, Nat.le_trans (least r0 c1) c2, fun j hj => Nat.not_lt.mp fun z => absurd (least j z) (by omega), c⟩
  · exfalso
    have step : ∀ r, r ≤ M → r + 1 ≤ bsz M st r → r + 2 ≤ bsz M st (r + 1) := fun r hr h => by
      have z : k * bsz M st r ≤ bsz M st (r + 1) := Nat.not_lt.mp fun z => c ⟨r, z, hr⟩
      have z2 : 2 * bsz M st r ≤ k * bsz M st r := Nat.mul_le_mul_right _ k2
      omega
    have all : ∀ r, r ≤ M + 1 → r + 1 ≤ bsz M st r := by
      intro r
      induction r with
      | zero => exact fun _ => bsz_pos hi e 0
      | succ r ih => exact fun h => step r (by omega) (ih (by omega))
    have := all (M + 1) (Nat.le_refl _)
    have := bsz_le M st (M + 1)
    omega
/-- the first of a range with a flag -/
theorem filt_head {p : Nat → Bool} {r n : Nat} (hr : r < n) (c : p r = true) (no : ∀ j, j < r → p j = false) : ∃ t, (List.range n).filter p = r :: t := by
  obtain ⟨m, rfl⟩ : ∃ m, n = r + (m + 1) := ⟨n - r - 1, by omega⟩
  rw [List.range_add, List.filter_append]
  have e : (List.range r).filter p = [] := List.filter_eq_nil_iff.mpr fun j hj => by
    rw [no j (List.mem_range.mp hj)]
    exact Bool.false_ne_true
  rw [e, List.nil_append, List.range_succ_eq_map, List.map_cons, List.filter_cons_of_pos (by rw [Nat.add_zero]; exact c), Nat.add_zero]
  exact ⟨_, rfl⟩
theorem fil_yes {p : Nat → Bool} {ls : List Nat} {i h : Nat} (hh : ls[i]? = some h) (c : p h = true) : (ls.take (i + 1)).filter p = (ls.take i).filter p ++ [h] := by
  rw [take_snoc hh, List.filter_append, List.filter_cons_of_pos c]
  rfl
theorem fil_no {p : Nat → Bool} {ls : List Nat} {i h : Nat} (hh : ls[i]? = some h) (c : p h = false) : (ls.take (i + 1)).filter p = (ls.take i).filter p := by
  rw [take_snoc hh, List.filter_append, List.filter_cons_of_neg (by rw [c]; exact Bool.false_ne_true)]
  show _ ++ [] = _
  rw [List.append_nil]
theorem rgf_yes {p : Nat → Bool} {i : Nat} (c : p i = true) : (List.range (i + 1)).filter p = (List.range i).filter p ++ [i] := by
  rw [List.range_succ, List.filter_append, List.filter_cons_of_pos c]
  rfl
theorem rgf_no {p : Nat → Bool} {i : Nat} (c : p i = false) : (List.range (i + 1)).filter p = (List.range i).filter p := by
  rw [List.range_succ, List.filter_append, List.filter_cons_of_neg (by rw [c]; exact Bool.false_ne_true)]
  show _ ++ [] = _
  rw [List.append_nil]
def rLenS (K : PySem.W.Frag) : List V → Hp → VK → Prop := fun xs H Q => ∃ (p : Addr) (ys : List V), xs = [.ref p] ∧ (SqL K H p ys ∨ SqT K H p ys) ∧ Q (.int ys.length) H
def spGrown : Sp := fun vs H Q _ => ∃ (W q : Addr) (M kk : Nat) (L : List (Addr × List Int)), vs = [.ref W, .int (kk : Int)] ∧ LWeb H W q (M : Int) L ∧ 1 ≤ M ∧ M ≤ 40 ∧ 2 ≤ kk ∧ kk ≤ 8 ∧
  ∀ pa par j H', Same H H' → H' pa = some (.tup (pVs M par)) → GrS L M kk j par [] → Q (.ref pa) H'
section
variable {P : Program} {w : World} {K : PySem.W.Frag} {mg : Str → Option Value} {base : Heap}
theorem scGrown : FnScope ["web", "factor", "parents", "left", "turn", "leader", "off", "reach", "house", "sizes", "ball", "r"] ["web", "factor"] (defScope sGrown) := ⟨rfl, rfl, rfl, by decide +kernel, rfl, by decide +kernel, by decide +kernel⟩
theorem ok_grown {f fO fH fB : Addr} {fd dO dH dB : FuncData} (F : Fun K "_law_grown" "_law_grown" sGrown f fd) (B : Bts mg) (DO : Df K mg "_law_off" sOff ["web", "house", "left"] fO dO) (DH : Df K mg "_law_hung" sHung ["web", "off", "house", "lot"] fH dH) (DB : Df K mg "_law_beside" sLBes ["web", "house"] fB dB) :
    FnOk P w K mg base CX0 3 f fd ["web", "factor"] spGrown := by
  have GO : FnOk P w K mg base CX0 1 fO dO ["web", "house", "left"] (spOff K) := ok_off DO.F B
  have GH : FnOk P w K mg base CX0 2 fH dH ["web", "off", "house", "lot"] spHung := ok_hung DH.F B DB
  refine F.ok scGrown (fun vs H Q E h => ?_) (fun cdv A outer s H vs Q E hr h => ?_)
  · obtain ⟨W, q, M, kk, L, rfl, _⟩ := h
    rfl
  · obtain ⟨W, q, M, kk, L, rfl, lw, m1, m40, k2, k8, k⟩ := h
    have nd := scGrown.nd
    have hr1 : Room 1 _ := hr.mono (by decide)
    refine ⟨_, pss_cons (ps_set (i := 2) nd rfl (.inl rfl) (pe_op op_rep (pe_lst (pa_cons pe_non pa_nil)) (pe_ix ix_tup (pv 0) pe_int (fun _ _ => rfl))))
      (pss_cons (ps_set (i := 3) nd rfl (.inr rfl) (pe_listRg rfl (by rfl) B.list (prg_1 (by rfl) B.range (pe_ix ix_tup (pv 0) pe_int (fun _ _ => rfl)))))
      (pss_cons (ps_for PassesOwn.never rfl (pi_range1 rfl B.range (pa_cons (pe_ix ix_tup (pv 0) pe_int (fun _ _ => rfl)) pa_nil)) (pg_name (i := 4) nd rfl (.inl rfl))
        (pss_one (ps_if (pt_cmpR op_gt (pe_callB call_len_seq (by rfl) B.len PySem.boot_len (pa_cons (pv 3) pa_nil)) pe_int (nomark _))
          (pss_cons (ps_set (i := 5) nd rfl (.inl rfl) (pe_ix ix_list (pv 3) pe_int (fun _ _ => rfl)))
          (pss_cons (ps_set (i := 6) nd rfl (.inr rfl) (pe_call GO hr1 rfl DO.m DO.k DO.b .nil pass0 (pa_cons (pv 0) (pa_cons (pv 5) (pa_cons (pv 3) pa_nil)))))
          (pss_cons (ps_set (i := 9) nd rfl (.inr rfl) (pe_lc (own := [("reach", 7)]) (g := gName 7) (tt := tYes) rfl nd (pi_range1 rfl B.range (pa_cons (pe_op op_add (pe_ix ix_tup (pv 0) pe_int (fun _ _ => rfl)) pe_int) pa_nil))
            (blkOk_by (by rfl)) (fun _ _ _ _ _ => pg_name (i := 7) nd rfl (.inr rfl)) (fun _ _ _ _ _ => pts_nil)
            (fun _ _ _ _ _ => pe_callB (r := rLenS K) call_len_seq (by rfl) B.len PySem.boot_len (pa_cons (pe_lc (own := [("house", 8)]) (g := gName 8) rfl nd (wi := iList K (tVar 3)) (pi_list (pv 3)) (blkOk_by (by rfl)) (fun _ _ _ _ _ => pg_name (i := 8) nd rfl (.inl rfl))
              (fun _ _ _ _ _ => pts_one (pt_chain op_le op_le pe_int (pe_ix (r := rIxL K) ix_list (pv 6) (pv 8) (fun _ _ => rfl)) (pv 7))) (fun _ _ _ _ _ => pv 8)) pa_nil))))
          (pss_cons (ps_set (i := 7) nd rfl (.inr rfl) (pe_ix ix_list (pe_lc (own := [("r", 11)]) (g := gName 11) rfl nd (pi_range1 rfl B.range (pa_cons (pe_op op_add (pe_ix ix_tup (pv 0) pe_int (fun _ _ => rfl)) pe_int) pa_nil))
            (blkOk_by (N := ["web", "factor", "parents", "left", "turn", "leader", "off", "reach", "house", "sizes", "ball", "r"]) (sc := defScope sGrown) (by decide +kernel)) (fun _ _ _ _ _ => pg_name (i := 11) nd rfl (.inl rfl))
            (fun _ _ _ _ _ => pts_one (pt_cmpR op_lt (pe_ix (r := rIxL K) ix_list (pv 9) (pe_op op_add (pv 11) pe_int) (fun _ _ => rfl)) (pe_op op_mul (pv 1) (pe_ix (r := rIxL K) ix_list (pv 9) (pv 11) (fun _ _ => rfl))) (nomark _))) (fun _ _ _ _ _ => pv 11)) pe_int (fun _ _ => rfl)))
          (pss_cons (ps_set (i := 10) nd rfl (.inr rfl) (pe_lc (own := [("house", 8)]) (g := gName 8) rfl nd (pi_list (pv 3))
            (blkOk_by (N := ["web", "factor", "parents", "left", "turn", "leader", "off", "reach", "house", "sizes", "ball", "r"]) (sc := defScope sGrown) (by decide +kernel)) (fun _ _ _ _ _ => pg_name (i := 8) nd rfl (.inl rfl))
            (fun _ _ _ _ _ => pts_one (pt_chain op_le op_le pe_int (pe_ix (r := rIxL K) ix_list (pv 6) (pv 8) (fun _ _ => rfl)) (pv 7))) (fun _ _ _ _ _ => pv 8)))
          (pss_cons (ps_for PassesOwn.never rfl (pi_list (pv 10)) (pg_name (i := 8) nd rfl (.inl rfl))
            (pss_one (ps_if (pt_cmpR op_ne (pv 8) (pv 5) (nomark _))
              (pss_one (ps_asg (pe_call GH hr rfl DH.m DH.k DH.b .nil pass0 (pa_cons (pv 0) (pa_cons (pv 6) (pa_cons (pv 8) (pa_cons (pv 10) pa_nil))))) (pg_sub (pv 2) (pv 8) set_list))) pss_nil)))
          (pss_one (ps_set (i := 3) nd rfl (.inr rfl) (pe_lc (own := [("house", 8)]) (g := gName 8) rfl nd (pi_list (pv 3))
            (blkOk_by (N := ["web", "factor", "parents", "left", "turn", "leader", "off", "reach", "house", "sizes", "ball", "r"]) (sc := defScope sGrown) (by decide +kernel)) (fun _ _ _ _ _ => pg_name (i := 8) nd rfl (.inl rfl))
            (fun _ _ _ _ _ => pts_one (pt_cmpR (r := rIn K true) op_notIn_seq (pv 8) (pv 10) rfl)) (fun _ _ _ _ _ => pv 8))))))))))
          pss_nil)))
      (pss_one (ps_ret (pe_callTy call_tuple_of (by rfl) B.tuple PyProof.Rows.boot_tuple (pa_cons (pv 2) pa_nil)))))), ?_⟩
    have eM : ((M : Int)).toNat = M := Int.toNat_natCast M
    have TT : TL (M : Int) L := ⟨lw.2.ok, lw.2.conn, by omega, by omega⟩
    refine ⟨(by show 1 ≤ sizeLine; decide), fun l hl => ?_⟩
    have s1 := sN (o := .lst [.non]) hl
    refine ⟨_, rfl, W, _, 0, _, rfl, rfl, SqT.of (s1 _ _ lw.1), rfl, l, _, _, rfl, rfl, upd_same, ?_, ?_, ?_, fun pa hpa => ?_⟩
    · omega
    · omega
    · exact size_le (by show 1 * (M : Int).toNat ≤ 64; omega)
    have hpa0 : H pa = none := sNo s1 hpa
    have s2 := sT s1 (sN (o := .lst (List.replicate ((M : Int)).toNat [V.non]).flatten) hpa)
    have epa : (upd (upd H l (.lst [.non])) pa (.lst (List.replicate ((M : Int)).toNat [V.non]).flatten)) pa = some (.lst (pVs M noPar)) := by
      rw [upd_same, eM, pVs_rep]
    revert s2 epa
    generalize (upd (upd H l (.lst [.non])) pa (.lst (List.replicate ((M : Int)).toNat [V.non]).flatten)) = H2
    intro s2 epa
    refine ⟨_, rfl, W, _, 0, _, rfl, rfl, SqT.of (s2 _ _ lw.1), rfl, (M : Int), rfl, RgOk.of_le (by omega) (by omega) (by omega) (by omega), fun lf hlf => ?_⟩
    have s3 := sN (o := .lst (rgV 0 (M : Int))) hlf
    have nlf0 : lf ≠ pa := (ne_of_none epa hlf).symm
    have elf : (upd H2 lf (.lst (rgV 0 (M : Int)))) lf = some (.lst ((List.range M).map nI)) := by
      rw [upd_same, rgV0]
    have epa3 := s3 _ _ epa
    have s03 := sT s2 s3
    revert s3 elf epa3 s03
    generalize (upd H2 lf (.lst (rgV 0 (M : Int)))) = H3
    intro s3 elf epa3 s03
    refine ⟨_, rfl, W, _, 0, _, rfl, rfl, SqT.of (s03 _ _ lw.1), rfl, (M : Int), rfl, by omega, by omega, for_range (lo := 0) (n := (M : Int).toNat) (fun i σ H' => ∃ (j : Nat) (par : Nat → Option Nat) (ls : List Nat) (lf : Addr) (x4 x5 x6 x7 x8 x9 x10 : Option V), σ = [some (.ref W), some (.int (kk : Int)), some (.ref pa), some (.ref lf), x4, x5, x6, x7, x8, x9, x10, none] ∧ H' pa = some (.lst (pVs M par)) ∧ H' lf = some (.lst (ls.map nI)) ∧ GrS L M kk j par ls ∧ (ls = [] ∨ j = i) ∧ Same H H' ∧ lf ≠ pa) ?_ ?_ ?_⟩
    · exact ⟨0, noPar, List.range M, lf, none, none, none, none, none, none, none, rfl, epa3, elf, .zero, .inr rfl, s03, nlf0⟩
    · clear s1 s2 s3 epa elf epa3 s03 hlf hl hpa
      rintro i σ H4 hi ⟨j, par, ls, lf, x4, x5, x6, x7, x8, x9, x10, rfl, epa, elf, gr, ji, s4, nlf⟩
      obtain ⟨rk, I⟩ := gr.inv TT
      refine ⟨_, rfl, lf, _, rfl, .inl (SqL.of elf), _, _, rfl, rfl, _, rfl, ?_⟩
      cases ls with
      | nil =>
        refine ite2 (fun c => absurd (of_decide_eq_true c) (by simp)) (fun _ => ?_)
        exact ⟨j, par, [], lf, _, _, _, _, _, _, _, rfl, epa, elf, gr, .inl rfl, s4, nlf⟩
      | cons s0 rest =>
        refine ite2 (fun _ => ?_) (fun c => absurd (decide_eq_true (by simp only [List.map_cons, List.length_cons]; omega)) c)
        obtain rfl : j = i := by
          rcases ji with z | z
          · cases z
          · exact z
        have hs : s0 ∈ s0 :: rest := List.mem_cons_self
        have sM : s0 < M := I.sub s0 hs
        have hG : ∀ a b, GB L (s0 :: rest) a b → b < M := fun a b g => I.sub b g.2.2
        have els : (s0 :: rest).map nI = ((s0 :: rest).map fun i : Nat => (i : Int)).map V.int := by
          rw [List.map_map]
          rfl
        have lM : (s0 :: rest).length ≤ M := by
          have z := nd_len (s0 :: rest) (List.range M) I.nd fun x hx => List.mem_range.mpr (I.sub x hx)
          rw [List.length_range] at z
          exact z
        have lsz : ∀ {p : Nat → Bool} {i h : Nat}, (s0 :: rest)[i]? = some h → ((((s0 :: rest).take i).filter p).map nI).length < sizeLine := fun {p i h} hh => by
          have hi : i < (s0 :: rest).length := (List.getElem?_eq_some_iff.mp hh).1
          have ll : (((s0 :: rest).take i).filter p).length ≤ i := by
            refine Nat.le_trans (List.length_filter_le _ _) ?_
            rw [List.length_take]
            omega
          rw [List.length_map]
          exact Nat.lt_of_lt_of_le (show _ < 64 by omega) (by decide)
        refine ⟨_, rfl, lf, _, 0, _, rfl, rfl, SqL.of elf, atI_nat (xs := (s0 :: rest).map nI) (j := 0) rfl, ?_⟩
        refine ⟨_, rfl, _, rfl, _, rfl, W, q, lf, M, s0, L, (s0 :: rest).map (fun i : Nat => (i : Int)), rfl, ⟨s4 _ _ lw.1, lw.2.same s4⟩, SqL.of (by rw [← els]; exact elf), sM, m40, fun Do fo H5 s5 hDo eDo ok => ?_⟩
        have sto := stF_of hs I.sub ok
        have e0 : stF M fo s0 = some 0 := (sto s0 0).mpr Dist.zero
        have lw5 := sT s4 s5
        have elf5 := s5 _ _ elf
        refine ⟨_, rfl, W, _, 0, _, rfl, rfl, SqT.of (lw5 _ _ lw.1), rfl, _, _, rfl, rfl, (M : Int) + 2, rfl, by omega, by omega, fun Ds hDs => lc_range (lo := 0) (n := ((M : Int) + 2).toNat) (fun i H' => H' Ds = some (.lst (flN i fun r => (bsz M (stF M fo) r : Int))) ∧ Same H5 H') ?_ ?_ ?_⟩
        · exact ⟨upd_same, sN hDs⟩
        · rintro i H6 hi ⟨eDs, s6⟩
          rw [Int.zero_add]
          refine ⟨rfl, _, rfl, lf, rfl, ⟨_, SqL.of (s6 _ _ elf5)⟩, fun D2 hD2 => lc_list (K := K) (a := lf) (xs := (s0 :: rest).map nI) (fun i' H' => H' D2 = some (.lst ((((s0 :: rest).take i').filter (inB (stF M fo) (i : Int))).map nI)) ∧ Same H6 H') ?_ ?_ ?_ ?_⟩
          · exact ⟨upd_same, sN hD2⟩
          · rintro i' H7 hi' ⟨_, s7⟩
            exact SqL.of (s7 _ _ (s6 _ _ elf5))
          · rintro i' v H7 hv ⟨eD2, s7⟩
            obtain ⟨h, hh, rfl⟩ := map_inv hv
            have hM := I.sub h (List.mem_of_getElem? hh)
            refine ⟨rfl, _, rfl, _, rfl, Do, _, (h : Int), _, rfl, rfl, SqL.of (s7 _ _ (s6 _ _ eDo)), flN_ix fo hM, _, _, rfl, rfl, _, rfl, ite2 (fun c1 => ?_) (fun c1 => ?_)⟩
            · refine ⟨_, rfl, _, _, rfl, rfl, _, rfl, ite2 (fun c2 => ?_) (fun c2 => ?_)⟩
              · exact ⟨_, rfl, _, eD2, lsz hh, by rw [upd_same, fil_yes hh (by rw [inB_F hM, c1, c2]; rfl), List.map_append]; rfl, sNew s7 hD2⟩
              · refine ⟨?_, s7⟩
                rw [fil_no hh (by rw [inB_F hM, Bool.eq_false_iff.mpr c2, Bool.and_false])]
                exact eD2
            · refine ⟨false, rfl, iteF ⟨?_, s7⟩⟩
              rw [fil_no hh (by rw [inB_F hM, Bool.eq_false_iff.mpr c1, Bool.false_and])]
              exact eD2
          · rintro H7 ⟨eD2, s7⟩
            rw [List.length_map, List.take_length] at eD2
            refine ⟨D2, _, rfl, .inl (SqL.of eD2), _, s7 _ _ eDs, ?_, ?_, sNew (sT s6 s7) hDs⟩
            · rw [flN_len]
              exact Nat.lt_of_lt_of_le (show i < 64 by omega) (by decide)
            · rw [upd_same, List.length_map, bsz_F hs I.sub I.nd sto]
              unfold flN
              rw [List.range_succ, List.map_append]
              rfl
        · rintro H6 ⟨eDs, s6⟩
          rw [show ((M : Int) + 2).toNat = M + 2 by omega] at eDs
          have s56 := sT lw5 s6
          -- reach
          refine ⟨_, rfl, W, _, 0, _, rfl, rfl, SqT.of (s56 _ _ lw.1), rfl, _, _, rfl, rfl, (M : Int) + 1, rfl, by omega, by omega, fun Dr hDr => lc_range (lo := 0) (n := ((M : Int) + 1).toNat) (fun i H' => H' Dr = some (.lst (((List.range i).filter (fun r => decide (bsz M (stF M fo) (r + 1) < kk * bsz M (stF M fo) r))).map nI)) ∧ Same H6 H') ?_ ?_ ?_⟩
          · exact ⟨upd_same, sN hDr⟩
          · rintro i H7 hi ⟨eDr, s7⟩
            rw [Int.zero_add]
            have iM : i < M + 1 := by omega
            have lr : ((List.range i).filter (fun r => decide (bsz M (stF M fo) (r + 1) < kk * bsz M (stF M fo) r))).length ≤ i := by
              refine Nat.le_trans (List.length_filter_le _ _) ?_
              rw [List.length_range]
              exact Nat.le_refl _
            have i1 : atI (flN (M + 2) fun r => (bsz M (stF M fo) r : Int)) ((i : Int) + 1) = some (V.int (bsz M (stF M fo) (i + 1) : Int)) := flN_ix (M := M + 2) (i := i + 1) (fun r => (bsz M (stF M fo) r : Int)) (by omega)
            have i2 : atI (flN (M + 2) fun r => (bsz M (stF M fo) r : Int)) (i : Int) = some (V.int (bsz M (stF M fo) i : Int)) := flN_ix (M := M + 2) (i := i) (fun r => (bsz M (stF M fo) r : Int)) (by omega)
            have lz := bsz_le M (stF M fo) i
            refine ⟨rfl, _, rfl, _, rfl, _, _, rfl, rfl, Ds, _, (i : Int) + 1, _, rfl, rfl, SqL.of (s7 _ _ eDs), i1, _, rfl, _, rfl, _, rfl, Ds, _, (i : Int), _, rfl, rfl, SqL.of (s7 _ _ eDs), i2, _, _, rfl, rfl, .inl ⟨by omega, by omega⟩, _, _, rfl, rfl, _, rfl, ?_⟩
            have dd : decide ((bsz M (stF M fo) (i + 1) : Int) < (kk : Int) * (bsz M (stF M fo) i : Int)) = decide (bsz M (stF M fo) (i + 1) < kk * bsz M (stF M fo) i) := by
              rw [← Int.natCast_mul]
              by_cases c : bsz M (stF M fo) (i + 1) < kk * bsz M (stF M fo) i
              · rw [decide_eq_true c, decide_eq_true (Int.ofNat_lt.mpr c)]
              · rw [decide_eq_false c, decide_eq_false fun z => c (Int.ofNat_lt.mp z)]
            rw [dd]
            refine ite2 (fun c => ?_) (fun c => ?_)
            · refine ⟨_, rfl, _, eDr, ?_, ?_, sNew s7 hDr⟩
              · rw [List.length_map]
                exact Nat.lt_of_lt_of_le (show _ < 64 by omega) (by decide)
              · rw [upd_same, rgf_yes (p := fun r => decide (bsz M (stF M fo) (r + 1) < kk * bsz M (stF M fo) r)) c, List.map_append]
                rfl
            · refine ⟨?_, s7⟩
              rw [rgf_no (p := fun r => decide (bsz M (stF M fo) (r + 1) < kk * bsz M (stF M fo) r)) (Bool.eq_false_iff.mpr c)]
              exact eDr
          · rintro H7 ⟨eDr, s7⟩
            rw [show ((M : Int) + 1).toNat = M + 1 by omega] at eDr
            obtain ⟨rc, rM, rch⟩ := rch_ex (M := M) (k := kk) (st := stF M fo) k2 sM e0
            obtain ⟨tl, et⟩ := filt_head (p := fun r => decide (bsz M (stF M fo) (r + 1) < kk * bsz M (stF M fo) r)) (r := rc) (n := M + 1) (by omega) (decide_eq_true rch.2) (fun j hj => decide_eq_false (Nat.not_lt.mpr (rch.1 j hj)))
            rw [et] at eDr
            refine ⟨Dr, _, 0, _, rfl, rfl, SqL.of eDr, atI_nat (xs := (rc :: tl).map nI) (j := 0) rfl, ?_⟩
            have elf7 := s7 _ _ (s6 _ _ elf5)
            have s47 := sT s56 s7
            have eDo7 := s7 _ _ (s6 _ _ eDo)
            have epa7 := s7 _ _ (s6 _ _ (s5 _ _ epa))
            -- ball
            refine ⟨_, rfl, lf, rfl, ⟨_, SqL.of elf7⟩, fun Db hDb => lc_list (K := K) (a := lf) (xs := (s0 :: rest).map nI) (fun i' H' => H' Db = some (.lst ((((s0 :: rest).take i').filter (inB (stF M fo) (rc : Int))).map nI)) ∧ Same H7 H') ?_ ?_ ?_ ?_⟩
            · exact ⟨upd_same, sN hDb⟩
            · rintro i' H8 hi' ⟨_, s8⟩
              exact SqL.of (s8 _ _ elf7)
            · rintro i' v H8 hv ⟨eDb, s8⟩
              obtain ⟨h, hh, rfl⟩ := map_inv hv
              have hM := I.sub h (List.mem_of_getElem? hh)
              refine ⟨rfl, _, rfl, _, rfl, Do, _, (h : Int), _, rfl, rfl, SqL.of (s8 _ _ eDo7), flN_ix fo hM, _, _, rfl, rfl, _, rfl, ite2 (fun c1 => ?_) (fun c1 => ?_)⟩
              · refine ⟨_, rfl, _, _, rfl, rfl, _, rfl, ite2 (fun c2 => ?_) (fun c2 => ?_)⟩
                · exact ⟨_, rfl, _, eDb, lsz hh, by rw [upd_same, fil_yes hh (by rw [inB_F hM, c1, c2]; rfl), List.map_append]; rfl, sNew s8 hDb⟩
                · refine ⟨?_, s8⟩
                  rw [fil_no hh (by rw [inB_F hM, Bool.eq_false_iff.mpr c2, Bool.and_false])]
                  exact eDb
              · refine ⟨false, rfl, iteF ⟨?_, s8⟩⟩
                rw [fil_no hh (by rw [inB_F hM, Bool.eq_false_iff.mpr c1, Bool.false_and])]
                exact eDb
            · rintro H8 ⟨eDb, s8⟩
              rw [List.length_map, List.take_length] at eDb
              have s48 := sT s47 s8
              have eDo8 := s8 _ _ eDo7
              have epa8 := s8 _ _ epa7
              have elf8 := s8 _ _ elf7
              have nDo : Do ≠ pa := (ne_of_none epa hDo).symm
              have nDb : Db ≠ pa := (ne_of_none epa7 hDb).symm
              have ball : ∀ v, v ∈ (s0 :: rest).filter (inB (stF M fo) (rc : Int)) ↔ inB (stF M fo) (rc : Int) v = true := fun v => by
                rw [List.mem_filter]
                refine ⟨fun h => h.2, fun h => ⟨?_, h⟩⟩
                obtain ⟨d, e, _⟩ := inB_some h
                exact gb_mem hs ((sto v d).mp e).1
              generalize eB : (s0 :: rest).filter (inB (stF M fo) (rc : Int)) = bls at eDb ball
              have elsB : bls.map nI = (bls.map fun i : Nat => (i : Int)).map V.int := by
                rw [List.map_map]
                rfl
              refine ⟨_, rfl, Db, rfl, ⟨_, SqL.of eDb⟩, for_list (K := K) (a := Db) (xs := bls.map nI) (fun i σ H' => ∃ (par1 : Nat → Option Nat) (x8 : Option V), σ = [some (.ref W), some (.int (kk : Int)), some (.ref pa), some (.ref lf), some (.int (0 + (j : Int))), some (nI s0), some (.ref Do), some (nI rc), x8, some (.ref Ds), some (.ref Db), none] ∧ H' pa = some (.lst (pVs M par1)) ∧ (∀ v, v ∈ bls.take i → HungOf (GB L (s0 :: rest)) s0 v (par1 v)) ∧ (∀ v, v ∉ bls.take i → par1 v = par v) ∧ Ext pa H8 H') ?_ ?_ ?_ ?_⟩
              · exact ⟨par, _, rfl, epa8, fun v h => absurd h (by simp), fun v _ => rfl, Ext.rfl'⟩
              · rintro i σ H9 hi ⟨_, _, _, _, _, _, x9⟩
                exact SqL.of (x9 _ _ eDb nDb)
              · rintro i v σ H9 hv ⟨par1, x8, rfl, e9, hin, hout, x9⟩
                obtain ⟨h, hh, rfl⟩ := map_inv hv
                have hb := (ball h).mp (List.mem_of_getElem? hh)
                obtain ⟨d, hd, dr⟩ := inB_some hb
                have hM := (stF_at hd).1
                have dh := (sto h d).mp hd
                have s09 : Same H H9 := fun b o e => x9 _ _ (s48 _ _ e) (ne_of_none e hpa0)
                refine ⟨_, rfl, _, rfl, rfl, _, rfl, ?_⟩
                show (if (!decide (V.int (h : Int) = V.int (s0 : Int))) = true then _ else _)
                rw [dec_i]
                refine ite2 (fun c => ?_) (fun c => ?_)
                · have ne : h ≠ s0 := fun e => by
                    rw [decide_eq_true (by rw [e])] at c
                    cases c
                  obtain ⟨d, rfl⟩ : ∃ e, d = e + 1 := by
                    cases d with
                    | zero => exact absurd dh.of_zero ne
                    | succ e => exact ⟨e, rfl⟩
                  obtain ⟨u0, du0, g0⟩ := dh.pred
                  obtain ⟨u, ⟨gu, du⟩, least⟩ := least_ex (p := fun u => GB L (s0 :: rest) h u ∧ Dist (GB L (s0 :: rest)) s0 u d) (n := u0) ⟨g0.sym, du0⟩
                  have eh : fo h = ((d + 1 : Nat) : Int) := (stF_at hd).2
                  have eu : fo u = (d : Int) := (stF_at ((sto u d).mpr du)).2
                  refine ⟨_, rfl, _, rfl, _, rfl, _, rfl, W, q, Do, Db, M, h, u, L, fo, bls, rfl, ⟨s09 _ _ lw.1, lw.2.same s09⟩, x9 _ _ eDo8 nDo, x9 _ _ eDb nDb, hM, m40, ⟨gu.1, (ball u).mpr (inB_of ((sto u d).mpr du) (by omega)), by omega⟩, fun o go mo eo => ?_, fun H10 s10 => ?_⟩
                  · obtain ⟨d2, e2, _⟩ := inB_some ((ball o).mp mo)
                    have z := (stF_at e2).2
                    have ed : d2 = d := by omega
                    subst ed
                    exact least o ⟨⟨go, gb_mem hs dh.1, gb_mem hs ((sto o d2).mp e2).1⟩, (sto o d2).mp e2⟩
                  · refine ⟨_, rfl, _, rfl, pa, _, (h : Int), h, rfl, rfl, s10 _ _ e9, ixN_of (by rw [pVs_len]; exact hM), ?_⟩
                    have es : (pVs M par1).set h (nI u) = pVs M (fun i => if i = h then some u else par1 i) := pVs_set par1 (some u)
                    rw [es]
                    refine ⟨_, _, rfl, upd_same, fun v hv => ?_, fun v hv => ?_, fun b o e ne => ?_⟩
                    · show HungOf _ _ v (if v = h then some u else par1 v)
                      by_cases c : v = h
                      · subst c
                        rw [if_pos rfl]
                        exact .inr ⟨u, d, rfl, dh, du, gu, fun o go dd => least o ⟨go, dd⟩⟩
                      · rw [if_neg c]
                        rw [take_snoc hh] at hv
                        rcases List.mem_append.mp hv with hv | hv
                        · exact hin v hv
                        · exact absurd (List.mem_singleton.mp hv) c
                    · show (if v = h then some u else par1 v) = par v
                      rw [take_snoc hh] at hv
                      rw [if_neg (fun z => hv (List.mem_append_right _ (List.mem_singleton.mpr z)))]
                      exact hout v fun z => hv (List.mem_append_left _ z)
                    · rw [upd_ne ne]
                      exact s10 _ _ (x9 b o e ne)
                · have e : h = s0 := by
                    by_cases z : h = s0
                    · exact z
                    · exact absurd (by rw [decide_eq_false (show ¬ ((h : Int) = (s0 : Int)) from fun e => z (by omega))]; rfl) c
                  subst e
                  refine ⟨par1, _, rfl, e9, fun v hv => ?_, fun v hv => ?_, x9⟩
                  · rw [take_snoc hh] at hv
                    rcases List.mem_append.mp hv with hv | hv
                    · exact hin v hv
                    · rw [List.mem_singleton.mp hv]
                      by_cases m : h ∈ bls.take i
                      · exact hin h m
                      · rw [hout h m, I.non h hs]
                        exact .inl ⟨rfl, rfl⟩
                  · rw [take_snoc hh] at hv
                    exact hout v fun z => hv (List.mem_append_left _ z)
              · rintro σ H9 ⟨par1, x8, rfl, e9, hin, hout, x9⟩
                rw [List.length_map, List.take_length] at hin hout
                have s09 : Same H H9 := fun b o e => x9 _ _ (s48 _ _ e) (ne_of_none e hpa0)
                refine ⟨_, rfl, lf, rfl, ⟨_, SqL.of (x9 _ _ elf8 nlf)⟩, fun D2 hD2 => lc_list (K := K) (a := lf) (xs := (s0 :: rest).map nI) (fun i H' => H' D2 = some (.lst ((((s0 :: rest).take i).filter (fun v => !inB (stF M fo) (rc : Int) v)).map nI)) ∧ Same H9 H') ?_ ?_ ?_ ?_⟩
                · exact ⟨upd_same, sN hD2⟩
                · rintro i H10 hi ⟨_, s10⟩
                  exact SqL.of (s10 _ _ (x9 _ _ elf8 nlf))
                · rintro i v H10 hv ⟨eD, s10⟩
                  obtain ⟨h, hh, rfl⟩ := map_inv hv
                  have dd : decide ((h : Int) ∈ bls.map fun i : Nat => (i : Int)) = inB (stF M fo) (rc : Int) h := by
                    cases c : inB (stF M fo) (rc : Int) h with
                    | true => exact decide_eq_true (List.mem_map.mpr ⟨h, (ball h).mpr c, rfl⟩)
                    | false =>
                      refine decide_eq_false fun z => ?_
                      obtain ⟨w', hw, e⟩ := List.mem_map.mp z
                      have ew : w' = h := Int.ofNat.inj e
                      have := (ball h).mp (ew ▸ hw)
                      rw [c] at this
                      cases this
                  have dd2 : inV (nI h) ((bls.map fun i : Nat => (i : Int)).map V.int) = inB (stF M fo) (rc : Int) h := by
                    show inV (V.int (h : Int)) _ = _
                    rw [inV_int]
                    exact dd
                  refine ⟨rfl, _, rfl, _, rfl, Db, _, rfl, .inl (SqL.of (by rw [← elsB]; exact s10 _ _ (x9 _ _ eDb nDb))), rfl, flat_int _, _, rfl, ?_⟩
                  rw [if_pos rfl, dd2]
                  refine ite2 (fun c => ?_) (fun c => ?_)
                  · exact ⟨_, rfl, _, eD, lsz hh, by rw [upd_same, fil_yes hh c, List.map_append]; rfl, sNew s10 hD2⟩
                  · refine ⟨?_, s10⟩
                    rw [fil_no hh (Bool.eq_false_iff.mpr c)]
                    exact eD
                · rintro H10 ⟨eD, s10⟩
                  rw [List.length_map, List.take_length] at eD
                  exact ⟨j + 1, par1, _, D2, _, _, _, _, _, _, _, rfl, s10 _ _ e9, eD, .step gr sto rch (fun v c => hin v ((ball v).mpr c)) (fun v c => hout v fun z => by rw [(ball v).mp z] at c; cases c), .inr rfl, sT s09 s10, (ne_of_none e9 hD2).symm⟩
    · rintro σ H4 ⟨j, par, ls, lf, x4, x5, x6, x7, x8, x9, x10, rfl, epa, elf, gr, ji, s4, nlf⟩
      rw [eM] at ji
      obtain rfl : ls = [] := by
        rcases ji with z | rfl
        · exact z
        · rcases gr.less with z | z
          · exact z
          · exact List.length_eq_zero_iff.mp (by omega)
      refine ⟨_, rfl, pa, _, rfl, .inl ⟨SqL.of epa, fun ta hta => ?_⟩⟩
      exact k ta par j _ (sT s4 (sN hta)) upd_same gr
end
end Q

/-! list(d.keys()), d a dict whose keys are tuples -/
namespace Q
open PySem PySem.Spec PyProof.Rows L2
section
variable {prog : Program} {w : World} {es : Array DictEntry} {ep : Nat} {r d : Addr}
theorem src_keys : PySem.W.KdlSrc prog w "dict_keys" r d es.size (fun i v => ∃ hi : i < es.size, v = es[i].key) (fun h => PySem.W.KdlKeysView h r d ∧ h.DictRaw d es ep) where
  type := fun _ hm => hm.1.typeIs
  there := fun _ hm => by
    obtain ⟨⟨o, ho, _⟩, ⟨o2, ho2, _⟩⟩ := hm
    exact ⟨Heap.lt_size ho, Heap.lt_size ho2⟩
  keep := fun _ _ hm hk => by
    obtain ⟨⟨o, ho, x⟩, hm2⟩ := hm
    exact ⟨⟨o, hk r (.inl rfl) o ho, x⟩, hm2.at fun o e => hk d (.inr rfl) o e⟩
  notList := by decide
  notTuple := by decide
  hint := fun _ _ _ _ hm hq => PySem.W.kdl_hint_keys hm.1.typeIs hq
  iter := fun _ _ hh hm => by
    have ne : d ≠ _ := fun z => by
      obtain ⟨_, ⟨o2, ho2, _⟩⟩ := hm
      exact absurd (Heap.lt_size ho2) (by rw [z]; exact Nat.lt_irrefl _)
    exact ⟨_, _, (fun _ _ hq => wpAny_pyIter_keys_raw hm.1 hm.2 hq), Walks.rawKeys hh _ d ne es ep, ⟨⟨_, Heap.get?_push_size _ rfl, rfl, rfl⟩, hm.2.at fun o e => Heap.get?_push_of_some _ e⟩⟩
end
def rKeysT : V → List V → Hp → VK → Prop := fun x xs H Q => ∃ (a : Addr) (kvs : List (List L2.Key × V)), x = .ref a ∧ xs = [] ∧ H a = some (.dT kvs) ∧ ∀ p, H p = none → Q (.ref p) (upd H p (viewO "dict_keys" p a))
section
variable {X : Cx}
theorem mt_keysT : MtR X "dict.keys" rKeysT := by
  intro pins s σ H x xs v us Q I rx rxs h
  obtain ⟨a, kvs, rfl, rfl, ha, q⟩ := h
  cases rx
  cases rxs
  obtain ⟨z, hd, xs', rel, o, es, ep, ho, hx, hdat, _⟩ := dt_of I.hok ha
  have hm : s.heap.DictRaw a es ep := ⟨o, ho, hx, hdat⟩
  have hf : H s.heap.objs.size = none := I.hok.fresh (Nat.le_refl _)
  refine call_meetsIn PySem.F.slot_dict_keys hm.typeIs PySem.F.entry_dict_keys (PySem.F.args_dict_keys_1 _) (meets_dict_keys_raw a hd) ⟨⟨es, ep, hm⟩, ?_⟩
  exact ⟨.ref s.heap.objs.size, upd H s.heap.objs.size (viewO "dict_keys" s.heap.objs.size a), I.laid (t' := s.toks) (fun b u e => Heap.get?_push_of_some _ e) (Nat.le_refl _) (viewO_ok (Heap.get?_push_size _ rfl)), rfl, q _ hf⟩
theorem call_list_keysT (hc : X.calm = true) : CallR X (.type "list") (fun xs H Q => ∃ (p d : Addr) (kvs : List (List L2.Key × V)), xs = [V.ref p] ∧ H p = some (viewO "dict_keys" p d) ∧ H d = some (.dT kvs) ∧ ∀ l bs, H l = none → IsKeys H kvs bs → Q (.ref l) (upd H l (.lst (bs.map V.ref)))) := by
  intro pins s σ H xs us Q I r h
  obtain ⟨p, d, kvs, rfl, hp, hd, q⟩ := h
  obtain ⟨u, rfl, rx⟩ := r.one
  cases rx
  obtain ⟨z, hs, ks, pr, o, es, ep, ho, hx, hdt, he, hn⟩ := (show ObjOk X.prog X.w H s.heap d (.dT kvs) from I.hok d _ hd)
  have hv : s.heap.get? p = some (DSub.viewOb "dict_keys" d) := (show ObjOk X.prog X.w H s.heap p (viewO "dict_keys" p d) from I.hok p _ hp).1
  have l1 : es.size = ks.length := size_of_entries he
  have l2 : kvs.length = ks.length := Paired.length pr
  refine PySem.W.kdl_call (src_keys (r := p) (d := d) (es := es) (ep := ep)) (I.ok.hd hc) ⟨⟨_, hv, rfl, rfl⟩, ⟨o, ho, hx, hdt⟩⟩ (by omega) fun h' tk acc' c' kp e it => ?_
  have ea : acc'.toList = ks.map fun x => Value.ref x.2.1 := by
    have hl : acc'.toList.length = ks.length := by rw [Array.length_toList, it.1]; exact l1
    apply List.ext_getElem?
    intro j
    rw [List.getElem?_map]
    by_cases hj : j < ks.length
    · have hja : j < acc'.toList.length := by rw [hl]; exact hj
      have hje : j < es.size := by rw [l1]; exact hj
      obtain ⟨_, e3⟩ := it.2 j (acc'.toList[j]) (by rw [← Array.getElem?_toList]; exact List.getElem?_eq_getElem hja)
      have qe := entry_at he j
      rw [Array.getElem?_eq_getElem hje, List.getElem?_eq_getElem hj] at qe
      have e4 : es[j] = entryOfKey (tupleKind (mixKind X.prog X.w)) ks[j] := Option.some.inj qe
      rw [List.getElem?_eq_getElem hja, e3, e4, List.getElem?_eq_getElem hj]
      rfl
    · rw [List.getElem?_eq_none (by omega), List.getElem?_eq_none (by omega)]
      rfl
  have eb : acc'.toList = (ks.map fun x => x.2.1).map Value.ref := by rw [ea, List.map_map]; rfl
  have rv : Vals ((ks.map fun x => x.2.1).map V.ref) acc'.toList := by rw [eb]; exact vals_refs _
  have hz : ((ks.map fun x => x.2.1).map V.ref).length ≤ sizeLine := by rw [List.length_map, List.length_map]; omega
  refine ⟨.ref s.heap.objs.size, _, I.laid (t' := tk) (o := .lst ((ks.map fun x => x.2.1).map V.ref)) kp (Nat.le_refl _) ?_, rfl, q _ _ (I.hok.fresh (Nat.le_refl _)) (isKeys_of pr)⟩
  exact ⟨hz, acc'.toList, c', rv, by rw [Array.toArray_toList]; exact e⟩
end
end Q

namespace Q
open PySem L2 QM
abbrev sLAreC : Stmt := top 44
/-- x in ys: a tuple of ints, a list of such -/
def rInPL : R2 := fun x y H Q => ∃ (T q : Addr) (l : List Int) (L : List (Addr × List Int)), x = .ref T ∧ y = .ref q ∧ H T = some (.tup (l.map V.int)) ∧ H q = some (.lst (L.map fun p => V.ref p.1)) ∧ (∀ p ∈ L, H p.1 = some (.tup (p.2.map V.int))) ∧ Q (.bl (decide (l ∈ L.map (·.2)))) H
theorem op_inPL {X : Cx} (hu : X.A.units + 64 < cLine) : OpR X (compareOp .In) rInPL := by
  intro pins s σ H x y v u Q I rx ry h
  obtain ⟨T, q, l, L, rfl, rfl, hT, hq, hp, k⟩ := h
  obtain ⟨as, r1⟩ := Dp.reads I (pT l) _ v (.tup (SqT.of hT) (dp_ints l)) rx
  obtain ⟨bs, r2⟩ := Dp.reads I (.list (L.map fun p => pT p.2)) _ u (.lst (SqL.of hq) (dp_all L hp)) ry
  refine SeqAt.in_list_reads r2 r1 (lay_all L) (lay_pT l) ?_ ?_
  · rw [depth_pT]
    have z := Nat.min_le_right (PyData.depthAll (L.map fun p => pT p.2)) 1
    omega
  · rw [any_pT]
    exact ⟨.bl _, H, I, rfl, k⟩
/-- x not in ys: a tuple of ints, a tuple of such -/
def rNotInP : R2 := fun x y H Q => ∃ (T q : Addr) (l : List Int) (L : List (Addr × List Int)), x = .ref T ∧ y = .ref q ∧ H T = some (.tup (l.map V.int)) ∧ H q = some (.tup (L.map fun p => V.ref p.1)) ∧ (∀ p ∈ L, H p.1 = some (.tup (p.2.map V.int))) ∧ Q (.bl (!decide (l ∈ L.map (·.2)))) H
theorem op_notInP {X : Cx} (hu : X.A.units + 64 < cLine) : OpR X (compareOp .NotIn) rNotInP := by
  intro pins s σ H x y v u Q I rx ry h
  obtain ⟨T, q, l, L, rfl, rfl, hT, hq, hp, k⟩ := h
  obtain ⟨as, r1⟩ := Dp.reads I (pT l) _ v (.tup (SqT.of hT) (dp_ints l)) rx
  obtain ⟨bs, r2⟩ := Dp.reads I (.tuple (L.map fun p => pT p.2)) _ u (.tup (SqT.of hq) (dp_all L hp)) ry
  refine SeqAt.notIn_tuple_reads r2 r1 (lay_all L) (lay_pT l) ?_ ?_
  · rw [depth_pT]
    have z := Nat.min_le_right (PyData.depthAll (L.map fun p => pT p.2)) 1
    omega
  · rw [any_pT]
    exact ⟨.bl _, H, I, rfl, k⟩
/-- the keys, as they stand -/
theorem keys_of {H : Hp} : ∀ {E : List Grp} {bs : List Addr}, IsKeys H (kG E) bs → ∃ Bs : List (Addr × List Int), bs.map V.ref = Bs.map (fun p => V.ref p.1) ∧ Bs.map (·.2) = E.map (·.1) ∧ ∀ p ∈ Bs, H p.1 = some (.tup (p.2.map V.int))
  | [], [], _ => ⟨[], rfl, rfl, fun p h => absurd h List.not_mem_nil⟩
  | [], _ :: _, h => by cases h
  | _ :: _, [], h => by cases h
  | e :: E, b :: bs, h => by
    cases h with
    | cons h1 h2 =>
      obtain ⟨Bs, e1, e2, e3⟩ := keys_of h2
      refine ⟨(b, e.1) :: Bs, by rw [List.map_cons, e1]; rfl, by rw [List.map_cons, e2]; rfl, fun p hp => ?_⟩
      rcases List.mem_cons.mp hp with z | z
      · rw [z]
        have h1' : H b = some (.tup ((e.1.map Sum.inl).map kV)) := h1
        rw [h1', List.map_map]
        rfl
      · exact e3 p z
/-- of its key alone -/
theorem one_key {E : List Grp} (nd : (E.map (·.1)).Nodup) {l : List Int} (h : ∃ e ∈ E, e.1 = l) : (E.filter fun e => decide (e.1 = l)).map (·.1) = [l] := by
  induction E with
  | nil => exact absurd h (fun ⟨_, m, _⟩ => absurd m List.not_mem_nil)
  | cons a r ih =>
    rw [List.map_cons] at nd
    obtain ⟨n1, n2⟩ := List.nodup_cons.mp nd
    by_cases c : a.1 = l
    · rw [List.filter_cons_of_pos (p := fun e : Grp => decide (e.1 = l)) (decide_eq_true c), List.map_cons, c]
      have e : r.filter (fun e => decide (e.1 = l)) = [] := List.filter_eq_nil_iff.mpr fun x hx z => n1 (by
        rw [c, ← of_decide_eq_true z]
        exact List.mem_map.mpr ⟨x, hx, rfl⟩)
      rw [e]
      rfl
    · rw [List.filter_cons_of_neg (p := fun e : Grp => decide (e.1 = l)) (fun z => c (of_decide_eq_true z))]
      refine ih n2 ?_
      obtain ⟨e, m, z⟩ := h
      rcases List.mem_cons.mp m with m | m
      · exact absurd (m ▸ z) c
      · exact ⟨e, m, z⟩
theorem GI.has {g : Nat → Int} {L : List (Addr × List Int)} {E : List Grp} (I : GI g L L.length E) {e : Grp} (he : e ∈ E) (l : List Int) (hl : ∃ r ∈ L, r.2 = l) : l ∈ e.2.2.map (·.2) ↔ e.1 = crL g l := by
  rw [I.grp e he, List.take_length, List.mem_map]
  constructor
  · rintro ⟨p, hp, rfl⟩
    exact (of_decide_eq_true (List.mem_filter.mp hp).2).symm
  · intro c
    obtain ⟨r, hr, rfl⟩ := hl
    exact ⟨r, List.mem_filter.mpr ⟨hr, decide_eq_true c.symm⟩, rfl⟩
def spLAreC : Sp := fun vs H Q _ => ∃ (W q pa t : Addr) (M : Nat) (L T : List (Addr × List Int)) (par : Nat → Option Nat) (rk : Nat → Nat), vs = [.ref W, .ref pa, .ref t] ∧ LWeb H W q (M : Int) L ∧ H pa = some (.tup (pVs M par)) ∧ ParOk M par rk ∧ M ≤ 40 ∧ ChoAt (fun i => (LD par M i : Int)) L (M : Int) H t T ∧
  ∀ H', Same H H' → Q (.bl true) H'
section
variable {P : Program} {w : World} {K : PySem.W.Frag} {mg : Str → Option Value} {base : Heap}
theorem scLAreC : FnScope ["web", "parents", "thing", "tie", "between", "pairs", "end", "one", "other", "pair"] ["web", "parents", "thing"] (defScope sLAreC) := ⟨rfl, rfl, rfl, by decide +kernel, rfl, by decide +kernel, by decide +kernel⟩
theorem ok_larec {f fN fL fB : Addr} {fd dN dL dB : FuncData} (F : Fun K "_law_are_chosen" "_law_are_chosen" sLAreC f fd) (B : Bts mg) (hz : mg "zip" = none) (ha : mg "all" = none) (DN : Df K mg "_law_number" sLNum ["thing", "least", "most"] fN dN)
    (DL : Df K mg "_law_leader" sLLd ["parents", "house"] fL dL) (DB : Df K mg "_law_between" sBtw ["web", "parents"] fB dB) : FnOk P w K mg base CX0 3 f fd ["web", "parents", "thing"] spLAreC := by
  have GN : FnOk P w K mg base CX0 1 fN dN ["thing", "least", "most"] spLNum := ok_lnum DN.F B
  have GB : FnOk P w K mg base CX0 2 fB dB ["web", "parents"] spBtw := ok_btw DB.F B DL
  refine F.ok scLAreC (fun vs H Q E h => ?_) (fun cdv A outer s H vs Q E hr h => ?_)
  · obtain ⟨W, q, pa, t, M, L, T, par, rk, rfl, _⟩ := h
    rfl
  · obtain ⟨W, q, pa, t, M, L, T, par, rk, rfl, lw, hpa, po, m40, cho, k⟩ := h
    have nd := scLAreC.nd
    have hu := hr.units
    have hu0 := hr.units0
    have hr1 : Room 1 _ := hr.mono (by decide)
    refine ⟨_, pss_cons (ps_if (pt_not (pt_val (pe_callB call_isi (by rfl) B.isinstance PyProof.Rows.boot_isinstance (pa_cons (pv 2) (pa_cons (pe_bltn (v := .ty "tuple") rfl B.tuple PyProof.Rows.boot_tuple rfl) pa_nil))))) pss_never pss_nil)
      (pss_cons (ps_for PassesOwn.never rfl (pi_tup (pv 2)) (pg_name (i := 3) nd rfl (.inr rfl))
        (pss_cons (ps_if (PW.pt (pw_or (pt_not (pt_val (pe_callB call_isi (by rfl) B.isinstance PyProof.Rows.boot_isinstance (pa_cons (pv 3) (pa_cons (pe_bltn (v := .ty "tuple") rfl B.tuple PyProof.Rows.boot_tuple rfl) pa_nil)))))
          (pw_or (pt_cmpR op_ne (pe_callB call_len_seq (by rfl) B.len PySem.boot_len (pa_cons (pv 3) pa_nil)) pe_int (nomark _))
          (pw_or1 (pt_not (pt_val (pe_callB (cr_all rfl) (by rfl) ha PyProof.Rows.boot_all (pa_cons (pe_lc (own := [("end", 6)]) (g := gName 6) (tt := tYes) rfl nd (pi_tup (pv 3))
            (blkOk_by (N := ["web", "parents", "thing", "tie", "between", "pairs", "end", "one", "other", "pair"]) (sc := defScope sLAreC) (by decide +kernel)) (fun _ _ _ _ _ => pg_name (i := 6) nd rfl (.inl rfl)) (fun _ _ _ _ _ => pts_nil)
            (fun _ _ _ _ _ => pe_call GN hr1 rfl DN.m DN.k DN.b .nil pass0 (pa_cons (pv 6) (pa_cons pe_int (pa_cons pe_int pa_nil))))) pa_nil)))))))) pss_never pss_nil)
        (pss_one (ps_if (pt_cmpR (op_notInP hu) (pv 3) (pe_ix ix_tup (pv 0) pe_int (fun _ _ => rfl)) rfl) pss_never pss_nil))))
      (pss_cons (ps_if (pt_not (pt_val (pe_callB (cr_all rfl) (by rfl) ha PyProof.Rows.boot_all (pa_cons (pe_lc (own := [("one", 7), ("other", 8)]) (g := gTup K 2 (gCons (gName 7) (gCons (gName 8) gNil))) (tt := tYes) rfl nd (RZ.pi_zipA rfl hz (pa_cons (pv 2) (pa_cons (pe_slice sl_C (pv 2) (po_some pe_int) po_none) pa_nil)))
            (blkOk_by (N := ["web", "parents", "thing", "tie", "between", "pairs", "end", "one", "other", "pair"]) (sc := defScope sLAreC) (by decide +kernel)) (fun _ _ _ _ _ => pg_tup rfl (pgs_cons (pg_name (i := 7) nd rfl (.inl rfl)) (pgs_cons (pg_name (i := 8) nd rfl (.inl rfl)) pgs_nil))) (fun _ _ _ _ _ => pts_nil)
            (fun _ _ _ _ _ => pe_cmpR (r := rLtT K) (op_ltT hu0) (pv 7) (pv 8) (nomark _))) pa_nil)))) pss_never pss_nil)
      (pss_cons (ps_set (i := 4) nd rfl (.inr rfl) (pe_call GB hr rfl DB.m DB.k DB.b .nil pass0 (pa_cons (pv 0) (pa_cons (pv 1) pa_nil))))
      (pss_cons (ps_set (i := 5) nd rfl (.inl rfl) (pe_lst pa_nil))
      (pss_cons (ps_for PassesOwn.never rfl (pi_tup (pv 2)) (pg_name (i := 3) nd rfl (.inr rfl))
        (pss_one (ps_set (i := 5) nd rfl (.inl rfl) (pe_op op_cat (pv 5) (pe_lock (pe_lc (own := [("pair", 9)]) (g := gName 9) rfl nd (pi_keys (pv 4))
          (blkOk_by (N := ["web", "parents", "thing", "tie", "between", "pairs", "end", "one", "other", "pair"]) (sc := defScope sLAreC) (by decide +kernel)) (fun _ _ _ _ _ => pg_name (i := 9) nd rfl (.inl rfl))
          (fun _ _ _ _ _ => pts_one (pt_cmpR (op_inPL hu) (pv 3) (pe_dget (hu_of hr) (pv 4) (pv 9) (by intro _ _; rfl)) rfl)) (fun _ _ _ _ _ => pv 9)))))))
      (pss_one (ps_ret (pe_and (pe_cmpR op_eq (pe_callB call_len_seq (by rfl) B.len PySem.boot_len (pa_cons (pv 5) pa_nil)) (pe_callB call_len_seq (by rfl) B.len PySem.boot_len (pa_cons (pv 2) pa_nil)) (nomark _))
        (pe_one (pe_cmpR (op_eqD hu) (pe_callB cr_sortedPO (by rfl) B.sorted PyProof.Rows.boot_sorted (pa_cons (pv 5) pa_nil))
          (pe_callB cr_sortedPO (by rfl) B.sorted PyProof.Rows.boot_sorted (pa_cons (pe_callTy (call_list_keysT rfl) (by rfl) B.list PyProof.Rows.boot_list (pa_cons (pe_bm0 PySem.F.plainAttrs_dict PySem.F.slot_dict_keys PySem.F.type_dict_keys mt_keysT (pv 4)) pa_nil)) pa_nil)) (nomark _))))))))))), ?_⟩
    have few := lw.2.few
    have lT := cho.len
    have rs : Same H H := fun _ _ e => e
    have gM : ∀ i, i < M → 0 ≤ (LD par M i : Int) ∧ (LD par M i : Int) < (M : Int) := fun i hi => by
      have := po.lt hi
      omega
    refine ⟨_, rfl, .ref t, .ty "tuple", .type "tuple", .type "tuple", true, rfl, .ty _, .base (.tup cho.at_), kit_ty (by decide +kernel), _, rfl, iteF ?_⟩
    refine ⟨_, rfl, t, rfl, ⟨_, SqT.of cho.at_⟩, for_tup (K := K) (a := t) (xs := T.map fun p => V.ref p.1) (fun i σ H' => ∃ x3 : Option V, σ = [some (.ref W), some (.ref pa), some (.ref t), x3, none, none, none, none, none, none] ∧ Same H H') ?_ ?_ ?_ ?_⟩
    · exact ⟨none, rfl, rs⟩
    · rintro i σ H1 hi ⟨_, _, s1⟩
      exact SqT.of (s1 _ _ cho.at_)
    · rintro i v σ H1 hv ⟨x3, rfl, s1⟩
      obtain ⟨p, hp, rfl⟩ := map_inv hv
      have hm := List.mem_of_getElem? hp
      obtain ⟨a, b, e2, a0, ab, bm⟩ := cho.ok p hm
      have ht0 := s1 _ _ (cho.tup p hm)
      have ht := ht0
      rw [e2] at ht
      refine ⟨_, rfl, .ref p.1, .ty "tuple", .type "tuple", .type "tuple", true, rfl, .ty _, .base (.tup ht), kit_ty (by decide +kernel), _, rfl, iteF ?_⟩
      refine ⟨_, rfl, p.1, _, rfl, .inr (SqT.of ht), rfl, _, rfl, iteF ?_⟩
      refine ⟨_, rfl, p.1, rfl, ⟨_, SqT.of ht⟩, fun D1 hD1 => lc_tup (K := K) (a := p.1) (xs := ([a, b] : List Int).map V.int) (fun i H' => H' D1 = some (.lst ((List.replicate i true).map V.bl)) ∧ Same H1 H') ?_ ?_ ?_ ?_⟩
      · exact ⟨upd_same, sN hD1⟩
      · rintro i H2 hi ⟨_, s2⟩
        exact SqT.of (s2 _ _ ht)
      · rintro i v H2 hv2 ⟨eD, s2⟩
        obtain ⟨o, ho, rfl⟩ := map_inv hv2
        have oz : 0 ≤ o ∧ o ≤ 39 := by
          rcases List.mem_cons.mp (List.mem_of_getElem? ho) with z | z
          · omega
          · have := List.mem_singleton.mp z
            omega
        have hi : i < 2 := (List.getElem?_eq_some_iff.mp ho).1
        refine ⟨rfl, _, rfl, o, 0, 39, rfl, ?_⟩
        rw [decide_eq_true oz.1, decide_eq_true oz.2]
        refine ⟨_, eD, ?_, ?_, sNew s2 hD1⟩
        · rw [List.length_map, List.length_replicate]
          exact Nat.lt_of_lt_of_le (show i < 64 by omega) (by decide)
        · rw [upd_same, List.replicate_succ', List.map_append]
          rfl
      · rintro H2 ⟨eD, s2⟩
        refine ⟨D1, _, rfl, SqL.of eD, ?_⟩
        rw [all_rep]
        have s12 := sT s1 s2
        refine ⟨_, rfl, iteF ?_⟩
        refine ⟨_, rfl, _, rfl, W, _, 1, _, rfl, rfl, SqT.of (s12 _ _ lw.1), rfl, p.1, q, p.2, L, rfl, rfl, s12 _ _ (cho.tup p hm), s12 _ _ lw.2.at_, fun z hz2 => s12 _ _ (lw.2.tup z hz2), ?_⟩
        obtain ⟨r', hr', er⟩ := cho.sub p hm
        rw [decide_eq_true (List.mem_map.mpr ⟨r', hr', er⟩)]
        exact ⟨_, rfl, iteF ⟨_, rfl, s12⟩⟩
    rintro σ H1 ⟨x3, rfl, s1⟩
    -- ascending
    refine ⟨_, rfl, _, rfl, 1, rfl, t, _, rfl, s1 _ _ cho.at_, fun z H2 s2 hz1 => ?_⟩
    rw [cut_tl, ← List.map_tail] at hz1
    have s12 := sT s1 s2
    refine ⟨t, z, T.map (fun p => V.ref p.1), T.tail.map (fun p => V.ref p.1), rfl, .inr ⟨SqT.of (s12 _ _ cho.at_), SqT.of hz1, fun D hD => lc_it (walk_zipT (K := K) (a := t) (b := z) (xs := T.map fun p => V.ref p.1) (ys := T.tail.map fun p => V.ref p.1) (n := T.length - 1) (by rw [List.length_map, List.length_map, List.length_tail]; omega)) (fun i H' => H' D = some (.lst ((List.replicate i true).map V.bl)) ∧ i ≤ T.length ∧ Same H2 H') ?_ ?_ ?_ ?_⟩⟩
    · exact ⟨upd_same, Nat.zero_le _, sN hD⟩
    · rintro i H3 hi ⟨_, _, s3⟩
      exact ⟨SqT.of (s3 _ _ (s12 _ _ cho.at_)), SqT.of (s3 _ _ hz1)⟩
    · rintro i v H3 H4 hi ⟨eD, _, s3⟩ ⟨T', x, y, rfl, hT, rfl, hx, hy⟩
      have s4 := sN (o := .tup [x, y]) hT
      have hx' : (T.map fun p => V.ref p.1)[i]? = some x := hx
      have hy' : (T.tail.map fun p => V.ref p.1)[i]? = some y := hy
      obtain ⟨p, hp, rfl⟩ := map_inv hx'
      obtain ⟨r, hr2, rfl⟩ := map_inv hy'
      have hr3 : T[i + 1]? = some r := by
        rw [List.getElem?_tail] at hr2
        exact hr2
      obtain ⟨h1, e1⟩ := List.getElem?_eq_some_iff.mp hp
      obtain ⟨h2, e2⟩ := List.getElem?_eq_some_iff.mp hr3
      have lt : ltP p.2 r.2 := by
        have z := List.pairwise_iff_getElem.mp cho.asc i (i + 1) h1 h2 (by omega)
        rw [e1, e2] at z
        exact z
      have ss := sT s12 (sT s3 s4)
      refine ⟨T', _, rfl, SqT.of upd_same, rfl, _, _, rfl, _, _, rfl, rfl, rfl, ?_⟩
      refine ⟨_, rfl, _, rfl, p.1, r.1, p.2, r.2, rfl, rfl, SqT.of (ss _ _ (cho.tup p (List.mem_of_getElem? hp))), SqT.of (ss _ _ (cho.tup r (List.mem_of_getElem? hr3))), ?_⟩
      rw [lexLt_of lt]
      refine ⟨_, s4 _ _ eD, ?_, ?_, by omega, ?_⟩
      · rw [List.length_map, List.length_replicate]
        exact Nat.lt_of_lt_of_le (show i < 1001 by omega) (by decide)
      · rw [upd_same, List.replicate_succ', List.map_append]
        rfl
      · exact sNew (sT s3 s4) hD
    rintro H3 ⟨eD0, _, s3⟩
    refine ⟨D, _, rfl, SqL.of eD0, ?_⟩
    rw [all_rep]
    refine ⟨_, rfl, iteF ?_⟩
    have s13 := sT s12 s3
    clear eD0 hD D hz1 z
    refine ⟨_, rfl, _, rfl, W, q, pa, M, L, par, rk, rfl, ⟨s13 _ _ lw.1, lw.2.same s13⟩, s13 _ _ hpa, po, m40, fun D E H4 s4 hD eD I ga => ?_⟩
    have s14 := sT s13 s4
    refine ⟨Nat.zero_le _, fun Pl0 hPl0 => ?_⟩
    have s5 := sN (o := .lst []) hPl0
    have ePl0 : (upd H4 Pl0 (.lst [])) Pl0 = some (.lst []) := upd_same
    have eD5 := s5 _ _ eD
    have ga5 := ga.same s5
    have s15 := sT s14 s5
    revert s5 ePl0 eD5 ga5 s15
    generalize (upd H4 Pl0 (.lst [])) = H5
    intro s5 ePl0 eD5 ga5 s15
    have lenE := I.len
    refine ⟨_, rfl, t, rfl, ⟨_, SqT.of (s15 _ _ cho.at_)⟩, for_tup (K := K) (a := t) (xs := T.map fun p => V.ref p.1) (fun i σ H' => ∃ (x3 : Option V) (Pl : Addr) (Cs : List (Addr × List Int)), σ = [some (.ref W), some (.ref pa), some (.ref t), x3, some (.ref D), some (.ref Pl), none, none, none, none] ∧ H' Pl = some (.lst (Cs.map fun c => V.ref c.1)) ∧ Cs.map (·.2) = (T.take i).map (fun p => crL (fun i => (LD par M i : Int)) p.2) ∧ (∀ c ∈ Cs, H' c.1 = some (.tup (c.2.map V.int))) ∧ Same H5 H') ?_ ?_ ?_ ?_⟩
    · exact ⟨_, Pl0, [], rfl, ePl0, rfl, fun c h => absurd h List.not_mem_nil, fun _ _ e => e⟩
    · rintro i σ H6 hi ⟨_, _, _, _, _, _, _, s6⟩
      exact SqT.of (s6 _ _ (s15 _ _ cho.at_))
    · rintro i v σ H6 hv ⟨x3, Pl, Cs, rfl, ePl, ev, tc, s6⟩
      obtain ⟨p, hp, rfl⟩ := map_inv hv
      have hi : i < T.length := (List.getElem?_eq_some_iff.mp hp).1
      have hm := List.mem_of_getElem? hp
      have eD6 := s6 _ _ eD5
      have htp := s6 _ _ (s15 _ _ (cho.tup p hm))
      have lcs : Cs.length = i := by
        have z := congrArg List.length ev
        rw [List.length_map, List.length_map, List.length_take] at z
        omega
      obtain ⟨r', hr', er⟩ := cho.sub p hm
      have key : ∃ e ∈ E, e.1 = crL (fun i => (LD par M i : Int)) p.2 := by
        obtain ⟨e, he, z⟩ := I.all r' (by rw [List.take_length]; exact hr') (by rw [er]; exact cho.crs p hm)
        exact ⟨e, he, by rw [z, er]⟩
      refine ⟨_, rfl, D, _, eD6, trivial, fun od => ?_⟩
      refine ⟨_, rfl, D, od, rfl, .inr ⟨_, upd_same, fun Dl hDl => lc_it (walk_keysT (d := D) (o := od) (kvs := kG E)) (fun j H' => ∃ Xs : List (Addr × List Int), H' Dl = some (.lst (Xs.map fun c => V.ref c.1)) ∧ Xs.map (·.2) = ((E.take j).filter (fun e => decide (e.1 = crL (fun i => (LD par M i : Int)) p.2))).map (·.1) ∧ (∀ c ∈ Xs, H' c.1 = some (.tup (c.2.map V.int))) ∧ j ≤ E.length ∧ H' D = some (.frz od (.dT (kG E))) ∧ (∀ b o, H6 b = some o → b ≠ D → H' b = some o)) ?_ ?_ ?_ ?_⟩⟩
      · have nd2 : D ≠ Dl := fun e => by rw [← e, upd_same] at hDl; cases hDl
        refine ⟨[], upd_same, rfl, fun c h => absurd h List.not_mem_nil, Nat.zero_le _, by rw [upd_ne nd2, upd_same], fun b o e nb => ?_⟩
        have hb : b ≠ Dl := fun z => by rw [← z, upd_ne nb, e] at hDl; cases hDl
        rw [upd_ne hb, upd_ne nb]
        exact e
      · rintro j H7 hj ⟨_, _, _, _, _, eF, _⟩
        exact eF
      · rintro j x H7 H8 hj ⟨Xs, eL, ex, tx, _, eF, kp⟩ ⟨rfl, ky, vv, qk, hk, rfl, eqk⟩
        have hjE : j < E.length := by
          unfold kG at hj
          rw [List.length_map] at hj
          exact hj
        have hje : E[j]? = some E[j] := List.getElem?_eq_getElem hjE
        have hke : (kG E)[j]? = some (E[j].1.map Sum.inl, V.ref E[j].2.1) := by
          unfold kG
          rw [List.getElem?_map, hje]
          rfl
        rw [hke] at hk
        obtain ⟨rfl, rfl⟩ := Prod.mk.inj (Option.some.inj hk)
        have hmE : E[j] ∈ E := List.getElem_mem hjE
        have hl := s6 _ _ (ga5.at_ _ hmE)
        have nD : E[j].2.1 ≠ D := ne_of hl eD6 (fun z => by cases z)
        have nP : p.1 ≠ D := ne_of htp eD6 (fun z => by cases z)
        have eq2 : H8 qk = some (.tup (E[j].1.map V.int)) := by
          have z : H8 qk = some (.tup ((E[j].1.map Sum.inl).map kV)) := eqk
          rw [z, List.map_map]
          rfl
        have lx : Xs.length ≤ j := by
          have z := congrArg List.length ex
          rw [List.length_map, List.length_map] at z
          have z2 := List.length_filter_le (fun e : Grp => decide (e.1 = crL (fun i => (LD par M i : Int)) p.2)) (E.take j)
          rw [List.length_take] at z2
          omega
        have DlD : D ≠ Dl := fun z => by rw [← z, eF] at eL; cases eL
        have nDl : ∀ {b : Addr} {o : HO}, H6 b = some o → b ≠ D → b ≠ Dl := fun {b o} e nb z => by
          rw [← z, upd_ne nb, e] at hDl
          cases hDl
        refine ⟨rfl, _, rfl, _, rfl, _, rfl, D, _, rfl, .inr ⟨_, _, qk, .inr ⟨od, eF⟩, rfl, eqk, (kG_at I.nd hmE).symm⟩, p.1, E[j].2.1, p.2, E[j].2.2, rfl, rfl, kp _ _ htp nP, kp _ _ hl nD, fun z hz2 => ?_, ?_⟩
        · have y := s6 _ _ (ga5.tup _ hmE z hz2)
          exact kp _ _ y (ne_of y eD6 (fun z => by cases z))
        have dd : decide (p.2 ∈ E[j].2.2.map (·.2)) = decide (E[j].1 = crL (fun i => (LD par M i : Int)) p.2) := by
          have := I.has hmE p.2 ⟨r', hr', er⟩
          by_cases c : E[j].1 = crL (fun i => (LD par M i : Int)) p.2
          · rw [decide_eq_true c, decide_eq_true (this.mpr c)]
          · rw [decide_eq_false c, decide_eq_false fun z => c (this.mp z)]
        rw [dd]
        refine ⟨_, rfl, ite2 (fun c => ?_) (fun c => ?_)⟩
        · refine ⟨_, rfl, _, eL, ?_, Xs ++ [(qk, E[j].1)], ?_, ?_, fun z hz2 => ?_, hjE, ?_, fun b o e nb => ?_⟩
          · rw [List.length_map]
            exact Nat.lt_of_lt_of_le (show Xs.length < 1001 by omega) (by decide)
          · rw [upd_same, List.map_append]
            rfl
          · rw [List.map_append, ex, take_snoc hje, List.filter_append, List.filter_cons_of_pos (p := fun e : Grp => decide (e.1 = crL (fun i => (LD par M i : Int)) p.2)) c, List.map_append]
            rfl
          · rcases List.mem_append.mp hz2 with hz2 | hz2
            · have y := tx z hz2
              rw [upd_ne (ne_of y eL (fun z => by cases z))]
              exact y
            · rw [List.mem_singleton.mp hz2]
              show (upd H8 Dl _) qk = _
              rw [upd_ne (ne_of eq2 eL (fun z => by cases z))]
              exact eq2
          · rw [upd_ne DlD]
            exact eF
          · rw [upd_ne (nDl e nb)]
            exact kp b o e nb
        · refine ⟨Xs, eL, ?_, tx, hjE, eF, kp⟩
          rw [ex, take_snoc hje, List.filter_append, List.filter_cons_of_neg (p := fun e : Grp => decide (e.1 = crL (fun i => (LD par M i : Int)) p.2)) c]
          rw [List.filter_nil, List.append_nil]
      · rintro H7 ⟨Xs, eL, ex, tx, _, eF, kp⟩
        have lk : (kG E).length = E.length := by
          unfold kG
          rw [List.length_map]
        rw [lk, List.take_length, one_key I.nd key] at ex
        refine ⟨eF, ?_⟩
        have s67 : Same H6 (upd H7 D (.dT (kG E))) := fun b o e => by
          by_cases nb : b = D
          · rw [nb, upd_same]
            rw [nb] at e
            exact eD6.symm.trans e
          · rw [upd_ne nb]
            exact kp b o e nb
        have DlD : Dl ≠ D := fun z => by rw [z, eF] at eL; cases eL
        have eL2 : (upd H7 D (.dT (kG E))) Dl = some (.lst (Xs.map fun c => V.ref c.1)) := by
          rw [upd_ne DlD]
          exact eL
        have tx2 : ∀ c ∈ Xs, (upd H7 D (.dT (kG E))) c.1 = some (.tup (c.2.map V.int)) := fun c hc => by
          rw [upd_ne (ne_of (tx c hc) eF (fun z => by cases z))]
          exact tx c hc
        revert s67 eL2 tx2
        generalize upd H7 D (.dT (kG E)) = H8
        intro s67 eL2 tx2
        have lx : Xs.length = 1 := by
          have z := congrArg List.length ex
          rw [List.length_map] at z
          exact z
        refine ⟨Pl, Dl, _, _, rfl, rfl, s67 _ _ ePl, eL2, ?_, fun Pn hPn => ?_⟩
        · rw [List.length_map, List.length_map]
          exact Nat.le_trans (show Cs.length + Xs.length ≤ 2000 by omega) (by decide)
        · have s8 := sN (o := .lst ((Cs.map fun c => V.ref c.1) ++ (Xs.map fun c => V.ref c.1))) hPn
          refine ⟨_, Pn, Cs ++ Xs, rfl, ?_, ?_, fun c hc => ?_, sT s6 (sT s67 s8)⟩
          · rw [upd_same, List.map_append]
          · rw [List.map_append, ev, ex, take_snoc hp, List.map_append]
            rfl
          · rcases List.mem_append.mp hc with hc | hc
            · exact s8 _ _ (s67 _ _ (tc c hc))
            · exact s8 _ _ (tx2 c hc)
    rintro σ H6 ⟨x3, Pl, Cs, rfl, ePl, ev, tc, s6⟩
    rw [List.length_map, List.take_length] at ev
    have lcs : Cs.length = T.length := by
      have z := congrArg List.length ev
      rw [List.length_map, List.length_map] at z
      exact z
    have s16 := sT s15 s6
    refine ⟨_, rfl, Pl, _, rfl, .inl (SqL.of ePl), _, rfl, t, _, rfl, .inr (SqT.of (s16 _ _ cho.at_)), rfl, _, rfl, ?_⟩
    rw [List.length_map, List.length_map, lcs, decide_eq_true rfl]
    refine iteT ?_
    have crs2 : ∀ r ∈ L, CrossL (fun i => (LD par M i : Int)) r.2 → ∃ u v : Int, crL (fun i => (LD par M i : Int)) r.2 = [u, v] ∧ 0 ≤ u ∧ u < v ∧ v < (M : Int) := fun r hr c => by
      obtain ⟨a, b, e2, a0, ab, bm⟩ := lw.2.ok r hr
      obtain ⟨x1, y1, e3, ne⟩ := c
      have ecr : crL (fun i => (LD par M i : Int)) r.2 = cx (LD par M a.toNat : Int) (LD par M b.toNat : Int) := by rw [e2]; rfl
      obtain ⟨u, v, e4, h1, h2, h3⟩ := cx_ok (gM a.toNat (by omega)) (gM b.toNat (by omega)) ⟨x1, y1, ecr.symm.trans e3, ne⟩
      exact ⟨u, v, ecr.trans e4, h1, h2, h3⟩
    have okC : ∀ c ∈ Cs, ∃ u v : Int, c.2 = [u, v] ∧ 0 ≤ u ∧ u < v ∧ v < (M : Int) := fun c hc => by
      have z : c.2 ∈ T.map (fun p => crL (fun i => (LD par M i : Int)) p.2) := by
        rw [← ev]
        exact List.mem_map.mpr ⟨c, hc, rfl⟩
      obtain ⟨p, hp, e⟩ := List.mem_map.mp z
      obtain ⟨r', hr', er⟩ := cho.sub p hp
      obtain ⟨u, v, e4, h⟩ := crs2 r' hr' (by rw [er]; exact cho.crs p hp)
      exact ⟨u, v, by rw [← e, ← er, e4], h⟩
    have pr1 : Pairs (M : Int) H6 Pl Cs := ⟨ePl, tc, okC⟩
    have kx : ∀ {H' : Hp} {Da : Addr} {Cs : List (Addr × List Int)}, Pairs (M : Int) H' Da Cs → ∀ y ∈ Cs.map (fun p => V.ref p.1), ∃ t, y = V.ref t ∧ H' t = some (.tup [.int (kH H' y).1, .int (kH H' y).2]) := fun {H' Da Cs} pr y hy => by
      obtain ⟨p, hp, rfl⟩ := List.mem_map.mp hy
      obtain ⟨a, b, e, _⟩ := pr.ok p hp
      have t := pr.tup p hp
      rw [e] at t
      refine ⟨p.1, rfl, ?_⟩
      rw [kH_at t]
      exact t
    refine ⟨_, rfl, Pl, _, kH H6, rfl, SqL.of ePl, kx pr1, fun ys1 sp1 sr1 sb1 hsp1 => ?_⟩
    obtain ⟨R1, rfl, perm1, asc1⟩ := sorted_nd pr1 (by rw [ev]; exact cho.nd) sb1.perm sr1
    have s7 := sN (o := .lst (R1.map fun p => V.ref p.1)) hsp1
    have esp1 : (upd H6 sp1 (.lst (R1.map fun p => V.ref p.1))) sp1 = some (.lst (R1.map fun p => V.ref p.1)) := upd_same
    revert s7 esp1
    generalize upd H6 sp1 (.lst (R1.map fun p => V.ref p.1)) = H7
    intro s7 esp1
    have eD7 := s7 _ _ (s6 _ _ eD5)
    refine ⟨_, rfl, .inr (.inr (.inl ⟨rfl, .inr ⟨_, eD7⟩⟩)), D, _, rfl, rfl, eD7, fun vw hvw => ?_⟩
    have s8 := sN (o := viewO "dict_keys" vw D) hvw
    have eD8 : (upd H7 vw (viewO "dict_keys" vw D)) D = some (.dT (kG E)) := by rw [upd_ne (ne_of_none eD7 hvw)]; exact eD7
    refine ⟨vw, D, _, rfl, upd_same, eD8, fun l bs hl hb => ?_⟩
    obtain ⟨Bs, eb1, eb2, eb3⟩ := keys_of hb
    rw [eb1]
    have s9 := sT s8 (sN (o := .lst (Bs.map fun p => V.ref p.1)) hl)
    have el : (upd (upd H7 vw (viewO "dict_keys" vw D)) l (.lst (Bs.map fun p => V.ref p.1))) l = some (.lst (Bs.map fun p => V.ref p.1)) := upd_same
    have tb : ∀ p ∈ Bs, (upd (upd H7 vw (viewO "dict_keys" vw D)) l (.lst (Bs.map fun p => V.ref p.1))) p.1 = some (.tup (p.2.map V.int)) := fun p hp => sN hl _ _ (eb3 p hp)
    revert s9 el tb
    generalize (upd (upd H7 vw (viewO "dict_keys" vw D)) l (.lst (Bs.map fun p => V.ref p.1))) = H9
    intro s9 el tb
    have okB : ∀ c ∈ Bs, ∃ u v : Int, c.2 = [u, v] ∧ 0 ≤ u ∧ u < v ∧ v < (M : Int) := fun c hc => by
      have z : c.2 ∈ E.map (·.1) := by
        rw [← eb2]
        exact List.mem_map.mpr ⟨c, hc, rfl⟩
      obtain ⟨e, he, ee⟩ := List.mem_map.mp z
      obtain ⟨h1, ⟨r', hr', er⟩, _⟩ := I.head lw.2.asc he
      obtain ⟨x1, y1, e1, ne⟩ := I.crs e he
      obtain ⟨u, v, e4, h⟩ := crs2 r' hr' ⟨x1, y1, by rw [er, h1, e1], ne⟩
      exact ⟨u, v, by rw [← ee, ← h1, ← er, e4], h⟩
    have pr2 : Pairs (M : Int) H9 l Bs := ⟨el, tb, okB⟩
    refine ⟨l, _, kH H9, rfl, SqL.of pr2.at_, kx pr2, fun ys2 sp2 sr2 sb2 hsp2 => ?_⟩
    obtain ⟨R2, rfl, perm2, asc2⟩ := sorted_nd pr2 (by rw [eb2]; exact I.nd) sb2.perm sr2
    have s10 := sN (o := .lst (R2.map fun p => V.ref p.1)) hsp2
    have eq12 : R1.map (·.2) = R2.map (·.2) := by
      refine asc_ext _ _ (List.pairwise_map.mpr asc1) (List.pairwise_map.mpr asc2) fun l => ?_
      have m1 : l ∈ R1.map (·.2) ↔ l ∈ T.map (fun p => crL (fun i => (LD par M i : Int)) p.2) := by
        rw [← ev]
        exact (perm1.map (·.2)).mem_iff
      have m2 : l ∈ R2.map (·.2) ↔ l ∈ E.map (·.1) := by
        rw [← eb2]
        exact (perm2.map (·.2)).mem_iff
      rw [m1, m2, List.mem_map, List.mem_map]
      constructor
      · rintro ⟨p, hp, rfl⟩
        obtain ⟨r', hr', er⟩ := cho.sub p hp
        obtain ⟨e, he, z⟩ := I.all r' (by rw [List.take_length]; exact hr') (by rw [er]; exact cho.crs p hp)
        exact ⟨e, he, by rw [z, er]⟩
      · rintro ⟨e, he, rfl⟩
        obtain ⟨h1, ⟨r', hr', er⟩, _⟩ := I.head lw.2.asc he
        obtain ⟨x1, y1, e1, ne⟩ := I.crs e he
        obtain ⟨p, hp, z⟩ := cho.all r' hr' ⟨x1, y1, by rw [er, h1, e1], ne⟩
        exact ⟨p, hp, by rw [z, er, h1]⟩
    have t1 : ∀ p ∈ R1, (upd H9 sp2 (.lst (R2.map fun p => V.ref p.1))) p.1 = some (.tup (p.2.map V.int)) := fun p hp => s10 _ _ (s9 _ _ (s7 _ _ (pr1.tup p (perm1.mem_iff.mp hp))))
    have t2' : ∀ p ∈ R2, (upd H9 sp2 (.lst (R2.map fun p => V.ref p.1))) p.1 = some (.tup (p.2.map V.int)) := fun p hp => s10 _ _ (pr2.tup p (perm2.mem_iff.mp hp))
    refine ⟨.list (R1.map fun p => pT p.2), .list (R2.map fun p => pT p.2), .lst (SqL.of (s10 _ _ (s9 _ _ esp1))) (dp_all R1 t1), .lst (SqL.of upd_same) (dp_all R2 t2'), shaped_pTs _, shaped_pTs _, ?_⟩
    have ev : PyData.eqv (.list (R1.map fun p => pT p.2)) (.list (R2.map fun p => pT p.2)) = true := by
      simp only [PyData.eqv]
      exact eqv_pTs eq12
    rw [ev]
    exact k _ (sT s16 (sT s7 (sT s9 s10)))
end
end Q

namespace Q
open PySem L2 QM
/-- a sum of tuples, the whole or a new one -/
def rCatS : R2 := fun x y H Q => ∃ a b xs ys, x = .ref a ∧ y = .ref b ∧ H a = some (.tup xs) ∧ H b = some (.tup ys) ∧ xs.length + ys.length ≤ sizeLine ∧ ∀ z H', Same H H' → H' z = some (.tup (xs ++ ys)) → Q (.ref z) H'
theorem op_catS {X : Cx} : OpR X (binaryOp .Add) rCatS := by
  intro pins s σ H x y v u Q I rx ry h
  obtain ⟨a, b, xs, ys, rfl, rfl, ha, hb, hz, k⟩ := h
  refine op_catA pins s σ H _ _ v u Q I rx ry ⟨a, b, xs, ys, rfl, rfl, SqT.of ha, SqT.of hb, hz, fun e => ?_, fun _ e => ?_, fun _ _ p hp => k p _ (sN hp) upd_same⟩
  · exact k b H (fun _ _ e => e) (by rw [hb, e]; rfl)
  · exact k a H (fun _ _ e => e) (by rw [ha, e, List.append_nil])
end Q

namespace Q
open PySem L2 QM
abbrev sLKeep : Stmt := top 42
theorem LWeb.ext {m : Int} {H H' : Hp} {W q p l : Addr} {L : List (Addr × List Int)} (h : LWeb H W q m L) (g : HandAt H p l) (s : Ext p H H') : LWeb H' W q m L := by
  obtain ⟨xs, e⟩ := g.hp
  have t := h.2
  exact ⟨s _ _ h.1 (ne_of h.1 e (fun z => by cases z)), ⟨s _ _ t.at_ (ne_of t.at_ e (fun z => by cases z)), fun u hu => s _ _ (t.tup u hu) (ne_of (t.tup u hu) e (fun z => by cases z)), t.ok, t.asc, t.few, t.conn⟩⟩
theorem But.ext {p : Addr} {H H' : Hp} (h : But p H H') : Ext p H H' := fun b o e n => by rw [h b n]; exact e
theorem Ext.of {p : Addr} {H H' : Hp} (h : Same H H') : Ext p H H' := fun b o e _ => h b o e
theorem hung_ex {G : Nat → Nat → Prop} {s v : Nat} {st : Nat → Option Nat} (sym : ∀ a b, G a b → G b a) (h : StOf G s st) (ex : ∃ d, st v = some d) : ∃ r, HungOf G s v r := by
  obtain ⟨d, hd⟩ := ex
  have x := (h v d).mp hd
  cases d with
  | zero => exact ⟨none, .inl ⟨rfl, x.of_zero⟩⟩
  | succ e =>
    obtain ⟨u0, du, g⟩ := x.pred
    obtain ⟨u, ⟨gu, du⟩, least⟩ := least_ex (p := fun u => G v u ∧ Dist G s u e) (n := u0) ⟨sym _ _ g, du⟩
    exact ⟨some u, .inr ⟨u, e, rfl, x, du, gu, fun o go dd => least o ⟨go, dd⟩⟩⟩
def spLKeep : Sp := fun vs H Q _ => ∃ (p l W q : Addr) (M : Nat) (L : List (Addr × List Int)), vs = [.ref p, .ref W] ∧ HandAt H p l ∧ LWeb H W q (M : Int) L ∧ 1 ≤ M ∧ M ≤ 40 ∧
  ∀ (r pa t : Addr) (T : List (Addr × List Int)) (par : Nat → Option Nat) (rk : Nat → Nat) (H' : Hp), HandAt H' p l → Ext p H H' → H' r = some (.tup [.ref pa, .ref t]) → H' pa = some (.tup (pVs M par)) → ParG M par rk L → ChoAt (fun i => (LD par M i : Int)) L (M : Int) H' t T → Q (.ref r) H'
section
variable {P : Program} {w : World} {K : PySem.W.Frag} {mg : Str → Option Value} {base : Heap}
/-- what draws a keeper -/
structure NDefs (K : PySem.W.Frag) (mg : Str → Option Value) where
  fD : Addr
  dD : FuncData
  DD : Df K mg "_law_draw" sDraw ["hand", "many"] fD dD
  fO : Addr
  dO : FuncData
  DO : Df K mg "_law_off" sOff ["web", "house", "left"] fO dO
  fU : Addr
  dU : FuncData
  DU : Df K mg "_law_hung" sHung ["web", "off", "house", "lot"] fU dU
  fG : Addr
  dG : FuncData
  DG : Df K mg "_law_grown" sGrown ["web", "factor"] fG dG
  fB : Addr
  dB : FuncData
  DB : Df K mg "_law_beside" sLBes ["web", "house"] fB dB
  fW : Addr
  dW : FuncData
  DW : Df K mg "_law_between" sBtw ["web", "parents"] fW dW
  fL : Addr
  dL : FuncData
  DL : Df K mg "_law_leader" sLLd ["parents", "house"] fL dL
  fT : Addr
  dT : FuncData
  DT : Df K mg "_law_least_ties" sLLt ["web", "parents"] fT dT
theorem scLKeep : FnScope ["hand", "web", "kind", "every", "parents", "off", "house", "found", "some", "between", "pair", "other"] ["hand", "web"] (defScope sLKeep) := ⟨rfl, rfl, rfl, by decide +kernel, rfl, by decide +kernel, by decide +kernel⟩
theorem ok_lkeep {f : Addr} {fd : FuncData} (F : Fun K "_law_keeper" "_law_keeper" sLKeep f fd) (B : Bts mg) (E : NDefs K mg) : FnOk P w K mg base CX0 4 f fd ["hand", "web"] spLKeep := by
  have GD : FnOk P w K mg base CX0 1 E.fD E.dD ["hand", "many"] spDraw := ok_draw E.DD.F B
  have GO : FnOk P w K mg base CX0 1 E.fO E.dO ["web", "house", "left"] (spOff K) := ok_off E.DO.F B
  have GU : FnOk P w K mg base CX0 2 E.fU E.dU ["web", "off", "house", "lot"] spHung := ok_hung E.DU.F B E.DB
  have GG : FnOk P w K mg base CX0 3 E.fG E.dG ["web", "factor"] spGrown := ok_grown E.DG.F B E.DO E.DU E.DB
  have GB : FnOk P w K mg base CX0 1 E.fB E.dB ["web", "house"] spLBes := ok_lbes E.DB.F B
  have GW : FnOk P w K mg base CX0 2 E.fW E.dW ["web", "parents"] spBtw := ok_btw E.DW.F B E.DL
  have GT : FnOk P w K mg base CX0 3 E.fT E.dT ["web", "parents"] spLLt := ok_llt E.DT.F B E.DL E.DW
  refine F.ok scLKeep (fun vs H Q E h => ?_) (fun cdv A outer s H vs Q E' hr h => ?_)
  · obtain ⟨p, l, W, q, M, L, rfl, _⟩ := h
    rfl
  · obtain ⟨p, l, W, q, M, L, rfl, g0, lw, m1, m40, k⟩ := h
    have nd := scLKeep.nd
    have hr1 : Room 1 _ := hr.mono (by decide)
    have hr2 : Room 2 _ := hr.mono (by decide)
    refine ⟨_, pss_cons (ps_set (i := 2) nd rfl (.inl rfl) (pe_call GD hr1 rfl E.DD.m E.DD.k E.DD.b .nil pass0 (pa_cons (pv 0) (pa_cons pe_int pa_nil))))
      (pss_cons (ps_set (i := 3) nd rfl (.inr rfl) (pe_listRg rfl (by rfl) B.list (prg_1 (by rfl) B.range (pe_ix ix_tup (pv 1) pe_int (fun _ _ => rfl)))))
      (C8.pss_cut (ps_if (pt_cmpR op_eq (pv 2) pe_int (nomark _))
        (pss_one (ps_set (i := 4) nd rfl (.inl rfl) (pe_op QT.op_repA (pe_tup (pa_cons pe_non pa_nil)) (pe_ix ix_tup (pv 1) pe_int (fun _ _ => rfl)))))
        (pss_one (ps_if (pt_cmpR op_eq (pv 2) pe_int (nomark _))
          (pss_cons (ps_set (i := 5) nd rfl (.inr rfl) (pe_call GO hr1 rfl E.DO.m E.DO.k E.DO.b .nil pass0 (pa_cons (pv 1) (pa_cons pe_int (pa_cons (pv 3) pa_nil)))))
          (pss_one (ps_set (i := 4) nd rfl (.inl rfl) (pe_op op_catS (pe_tup (pa_cons pe_non pa_nil)) (pe_callTy call_tuple_of (by rfl) B.tuple PyProof.Rows.boot_tuple (pa_cons (pe_lc (own := [("house", 6)]) (g := gName 6) (tt := tYes) rfl nd (pi_list (pe_slice sl_list (pv 3) (po_some pe_int) po_none))
            (blkOk_by (N := ["hand", "web", "kind", "every", "parents", "off", "house", "found", "some", "between", "pair", "other"]) (sc := defScope sLKeep) (by decide +kernel)) (fun _ _ _ _ _ => pg_name (i := 6) nd rfl (.inl rfl)) (fun _ _ _ _ _ => pts_nil)
            (fun _ _ _ _ _ => pe_call GU hr2 rfl E.DU.m E.DU.k E.DU.b .nil pass0 (pa_cons (pv 1) (pa_cons (pv 5) (pa_cons (pv 6) (pa_cons (pv 3) pa_nil)))))) pa_nil))))))
          (pss_one (ps_if (pt_cmpR op_eq (pv 2) pe_int (nomark _))
            (pss_one (ps_set (i := 4) nd rfl (.inl rfl) (pe_call GG hr rfl E.DG.m E.DG.k E.DG.b .nil pass0 (pa_cons (pv 1) (pa_cons (pe_op op_add pe_int (pe_call GD hr1 rfl E.DD.m E.DD.k E.DD.b .nil pass0 (pa_cons (pv 0) (pa_cons pe_int pa_nil)))) pa_nil)))))
            (pss_cons (ps_set (i := 5) nd rfl (.inr rfl) (pe_call GO hr1 rfl E.DO.m E.DO.k E.DO.b .nil pass0 (pa_cons (pv 1) (pa_cons (pe_call GD hr1 rfl E.DD.m E.DD.k E.DD.b .nil pass0 (pa_cons (pv 0) (pa_cons (pe_ix ix_tup (pv 1) pe_int (fun _ _ => rfl)) pa_nil))) (pa_cons (pv 3) pa_nil)))))
            (pss_cons (ps_set (i := 7) nd rfl (.inl rfl) (pe_lst pa_nil))
            (pss_cons (ps_for PassesOwn.never rfl (pi_list (pv 3)) (pg_name (i := 6) nd rfl (.inr rfl))
              (pss_cons (ps_set (i := 8) nd rfl (.inl rfl) (pe_op op_cat (pe_lc (own := [("other", 11)]) (g := gName 11) rfl nd (pi_list (pe_call GB hr1 rfl E.DB.m E.DB.k E.DB.b .nil pass0 (pa_cons (pv 1) (pa_cons (pv 6) pa_nil))))
                (blkOk_by (N := ["hand", "web", "kind", "every", "parents", "off", "house", "found", "some", "between", "pair", "other"]) (sc := defScope sLKeep) (by decide +kernel)) (fun _ _ _ _ _ => pg_name (i := 11) nd rfl (.inl rfl))
                (fun _ _ _ _ _ => pts_one (pt_cmpR op_lt (pe_ix (r := rIxL K) ix_list (pv 5) (pv 11) (fun _ _ => rfl)) (pe_ix (r := rIxL K) ix_list (pv 5) (pv 6) (fun _ _ => rfl)) (nomark _))) (fun _ _ _ _ _ => pv 11)) (pe_lst (pa_cons pe_non pa_nil))))
              (pss_one (ps_expr (pe_bm PySem.F.plainAttrs_list PySem.F.slot_list_append PySem.F.type_list_append mt_append (pv 7) (pa_cons (pe_ix ix_list (pv 8) (pe_call GD hr1 rfl E.DD.m E.DD.k E.DD.b .nil pass0 (pa_cons (pv 0) (pa_cons (pe_callB call_len_seq (by rfl) B.len PySem.boot_len (pa_cons (pv 8) pa_nil)) pa_nil))) (fun _ _ => rfl)) pa_nil))))))
            (pss_one (ps_set (i := 4) nd rfl (.inl rfl) (pe_callTy call_tuple_of (by rfl) B.tuple PyProof.Rows.boot_tuple (pa_cons (pv 7) pa_nil))))))))))))
      (pss_cons (ps_set (i := 9) nd rfl (.inl rfl) (pe_call GW hr2 rfl E.DW.m E.DW.k E.DW.b .nil pass0 (pa_cons (pv 1) (pa_cons (pv 4) pa_nil))))
      (pss_cons (ps_if (pt_cmpR op_lt (pv 2) pe_int (nomark _)) (pss_one (ps_ret (pe_tup (pa_cons (pv 4) (pa_cons (pe_call GT hr rfl E.DT.m E.DT.k E.DT.b .nil pass0 (pa_cons (pv 1) (pa_cons (pv 4) pa_nil))) pa_nil))))) pss_nil)
      (pss_cons (ps_set (i := 7) nd rfl (.inl rfl) (pe_lst pa_nil))
      (pss_cons (ps_for PassesOwn.never rfl (pi_list (pe_callB cr_sortedPO (by rfl) B.sorted PyProof.Rows.boot_sorted (pa_cons (pe_callTy (call_list_keysT rfl) (by rfl) B.list PyProof.Rows.boot_list (pa_cons (pe_bm0 PySem.F.plainAttrs_dict PySem.F.slot_dict_keys PySem.F.type_dict_keys mt_keysT (pv 9)) pa_nil)) pa_nil))) (pg_name (i := 10) nd rfl (.inl rfl))
        (pss_one (ps_expr (pe_bm PySem.F.plainAttrs_list PySem.F.slot_list_append PySem.F.type_list_append mt_append (pv 7) (pa_cons (pe_ix ix_list (pe_dget (hu_of hr) (pv 9) (pv 10) (by intro _ _; rfl)) (pe_call GD hr1 rfl E.DD.m E.DD.k E.DD.b .nil pass0 (pa_cons (pv 0) (pa_cons (pe_callB call_len_seq (by rfl) B.len PySem.boot_len (pa_cons (pe_dget (hu_of hr) (pv 9) (pv 10) (by intro _ _; rfl)) pa_nil)) pa_nil))) (fun _ _ => rfl)) pa_nil)))))
      (pss_one (ps_ret (pe_tup (pa_cons (pv 4) (pa_cons (pe_callTy call_tuple_of (by rfl) B.tuple PyProof.Rows.boot_tuple (pa_cons (pe_callB cr_sortedPO (by rfl) B.sorted PyProof.Rows.boot_sorted (pa_cons (pv 7) pa_nil)) pa_nil)) pa_nil))))))))))), ?_⟩
    have eM : ((M : Int)).toNat = M := Int.toNat_natCast M
    have TT : TL (M : Int) L := ⟨lw.2.ok, lw.2.conn, by omega, by omega⟩
    refine ⟨_, rfl, p, l, 6, rfl, g0, by decide, by decide, fun kd H1 kd0 kd6 g1 b1 => ?_⟩
    have x1 := b1.ext
    have lw1 := lw.ext g0 x1
    refine ⟨_, rfl, W, _, 0, _, rfl, rfl, SqT.of lw1.1, rfl, (M : Int), rfl, RgOk.of_le (by omega) (by omega) (by omega) (by omega), fun ev hev => ?_⟩
    have s2 := sN (o := .lst (rgV 0 (M : Int))) hev
    have eev : (upd H1 ev (.lst (rgV 0 (M : Int)))) ev = some (.lst ((List.range M).map nI)) := by
      rw [upd_same, rgV0]
    have nev := (g1.ne hev).1
    have g2 := g1.same s2
    have lw2 := lw1.same s2
    have x2 : Ext p H (upd H1 ev (.lst (rgV 0 (M : Int)))) := x1.same s2
    revert eev g2 lw2 x2
    clear s2
    generalize (upd H1 ev (.lst (rgV 0 (M : Int)))) = H2
    intro eev g2 lw2 x2
    clear hev g1 b1 x1 lw1
    have elsE : (List.range M).map nI = ((List.range M).map fun i : Nat => (i : Int)).map V.int := by
      rw [List.map_map]
      rfl
    refine ⟨fun σ H' => ∃ (pa : Addr) (par : Nat → Option Nat) (rk : Nat → Nat) (x5 x6 x7 x8 : Option V), σ = [some (.ref p), some (.ref W), some (.int kd), some (.ref ev), some (.ref pa), x5, x6, x7, x8, none, none, none] ∧ HandAt H' p l ∧ Ext p H H' ∧ H' pa = some (.tup (pVs M par)) ∧ ParG M par rk L, ?_, ?_⟩
    · refine ⟨_, rfl, rfl, _, rfl, ?_⟩
      rw [dec_i]
      refine ite2 (fun _ => ?_) (fun _ => ?_)
      · -- each by itself
        refine ⟨(by show 1 ≤ sizeLine; decide), fun z hz2 => ?_⟩
        have s3 := sN (o := .tup [.non]) hz2
        refine ⟨_, rfl, W, _, 0, _, rfl, rfl, SqT.of (s3 _ _ lw2.1), rfl, z, (M : Int), [.non], rfl, rfl, upd_same, by simp, by omega, by omega, (by show 1 ≤ 1000; decide), fun pp H8 s8 epp => ?_⟩
        have epp' : H8 pp = some (.tup (pVs M noPar)) := by
          rw [epp, Int.toNat_natCast, pVs_no, List.flatten_replicate_singleton]
        exact ⟨pp, noPar, fun _ => 0, _, _, _, _, rfl, g2.same (sT s3 s8), x2.same (sT s3 s8), epp', ⟨fun v u _ e => (nomatch e), fun v h => by omega⟩, fun v u _ e => (nomatch e)⟩
      refine ⟨_, rfl, rfl, _, rfl, ?_⟩
      rw [dec_i]
      refine ite2 (fun _ => ?_) (fun _ => ?_)
      · -- one tree
        refine ⟨_, rfl, _, rfl, W, q, ev, M, 0, L, (List.range M).map (fun i : Nat => (i : Int)), rfl, lw2, SqL.of (by rw [← elsE]; exact eev), by omega, m40, fun Do fo H10 s10 hDo eDo ok => ?_⟩
        have sto0 := stF_of (List.mem_range.mpr (show 0 < M by omega)) (fun v hv => List.mem_range.mp hv) ok
        rw [gb_all TT] at sto0
        have ex : ∀ v, v < M → ∃ d, stF M fo v = some d := fun v hv => by
          obtain ⟨d, h⟩ := TT.dist (s := 0) (v := v) (by omega) (by omega)
          exact ⟨d, (sto0 v d).mpr h⟩
        obtain ⟨par, hung⟩ : ∃ par : Nat → Option Nat, BetaOf L M par := by
          refine ⟨fun v => if h : v < M then Classical.choose (hung_ex (fun a b h => TL.sym a b h) sto0 (ex v h)) else none, fun v hv => ?_⟩
          show HungOf (GL L) 0 v (if h : v < M then Classical.choose (hung_ex (fun a b h => TL.sym a b h) sto0 (ex v h)) else none)
          rw [dif_pos hv]
          exact Classical.choose_spec (hung_ex (fun a b h => TL.sym a b h) sto0 (ex v hv))
        have p0 : par 0 = none := by
          rcases hung 0 (by omega) with ⟨e, _⟩ | ⟨u, d, e, x, _⟩
          · exact e
          · exact absurd (x.uniq Dist.zero) (by omega)
        have pg : ParG M par (fun v => (stF M fo v).getD 0) L := by
          refine ⟨⟨fun v u hv e => ?_, fun v hv => ?_⟩, fun v u hv e => ?_⟩
          · rcases hung v hv with ⟨z, _⟩ | ⟨u', d, z, x, xu, g, _⟩
            · rw [e] at z
              cases z
            · rw [e] at z
              cases z
              have hu := (sto0 _ _).mpr xu
              refine ⟨(stF_at hu).1, ?_⟩
              show (stF M fo u).getD 0 < (stF M fo v).getD 0
              rw [hu, (sto0 _ _).mpr x]
              exact Nat.lt_succ_self d
          · obtain ⟨d, h⟩ := ex v hv
            show (stF M fo v).getD 0 < M
            rw [h]
            exact ((sto0 v d).mp h).lt (by omega) (fun a b h => by have := (TT.in2 h).2; omega)
          · rcases hung v hv with ⟨z, _⟩ | ⟨u', d, z, x, xu, g, _⟩
            · rw [e] at z
              cases z
            · rw [e] at z
              cases z
              exact g
        have hp1 : ∀ v, v + 1 < M → ∃ u, par (v + 1) = some u ∧ u < M ∧ (GL L (v + 1) u ∧ u ∈ List.range M ∧ fo u = fo (v + 1) - 1) ∧ ∀ o : Nat, GL L (v + 1) o → o ∈ List.range M → fo o = fo (v + 1) - 1 → u ≤ o := fun v hv => by
          rcases hung (v + 1) hv with ⟨_, e⟩ | ⟨u, d, e, x, xu, g, least⟩
          · omega
          · have e1 := (stF_at ((sto0 _ _).mpr x)).2
            obtain ⟨uM, e2⟩ := stF_at ((sto0 _ _).mpr xu)
            refine ⟨u, e, uM, ⟨g, List.mem_range.mpr uM, by omega⟩, fun o go mo eo => least o go ?_⟩
            obtain ⟨d2, h2⟩ := ex o (List.mem_range.mp mo)
            have e3 := (stF_at h2).2
            have ed : d2 = d := by omega
            subst ed
            exact (sto0 _ _).mp h2
        refine ⟨(by show 1 ≤ sizeLine; decide), fun z hz3 => ?_⟩
        have s11 := sN (o := .tup [.non]) hz3
        have ez : (upd H10 z (.tup [.non])) z = some (.tup [.non]) := upd_same
        revert s11 ez
        generalize (upd H10 z (.tup [.non])) = H11
        intro s11 ez
        obtain ⟨M', rfl⟩ : ∃ M', M = M' + 1 := ⟨M - 1, by omega⟩
        have ecut : cutV ((List.range (M' + 1)).map nI) (some 1) none = (List.range M').map (fun v => nI (v + 1)) := by
          rw [cut_tl, List.range_succ_eq_map, List.map_cons, List.tail_cons, List.map_map]
          rfl
        refine ⟨_, rfl, 1, rfl, ev, _, rfl, SqL.of (s11 _ _ (s10 _ _ eev)), fun sl hsl => ?_⟩
        rw [ecut]
        have s12 := sN (o := .lst ((List.range M').map (fun v => nI (v + 1)))) hsl
        have esl : (upd H11 sl (.lst ((List.range M').map (fun v => nI (v + 1))))) sl = some (.lst ((List.range M').map (fun v => nI (v + 1)))) := upd_same
        revert s12 esl
        generalize (upd H11 sl (.lst ((List.range M').map (fun v => nI (v + 1))))) = H12
        intro s12 esl
        have s5c := sT s10 (sT s11 s12)
        refine ⟨sl, rfl, ⟨_, SqL.of esl⟩, fun D2 hD2 => lc_list (K := K) (a := sl) (xs := (List.range M').map (fun v => nI (v + 1))) (fun i H' => H' D2 = some (.lst ((List.range i).map fun v => oV (par (v + 1)))) ∧ Same H12 H') ?_ ?_ ?_ ?_⟩
        · exact ⟨upd_same, sN hD2⟩
        · rintro i H13 hi ⟨_, s13⟩
          exact SqL.of (s13 _ _ esl)
        · rintro i v H13 hv ⟨eD, s13⟩
          obtain ⟨j, hj, rfl⟩ := map_inv hv
          have hi : i < M' := by
            have z := (List.getElem?_eq_some_iff.mp hj).1
            rwa [List.length_range] at z
          rw [List.getElem?_range hi] at hj
          obtain rfl := Option.some.inj hj
          obtain ⟨u, eu, uM, c1, c2⟩ := hp1 i (by omega)
          have s5d := sT s5c s13
          refine ⟨rfl, _, rfl, _, rfl, _, rfl, _, rfl, W, q, Do, ev, M' + 1, i + 1, u, L, fo, List.range (M' + 1), rfl, lw2.same s5d, s13 _ _ (s12 _ _ (s11 _ _ eDo)), s5d _ _ eev, by omega, m40, c1, c2, fun H14 s14 => ⟨_, s14 _ _ eD, ?_, ?_, sNew (sT s13 s14) hD2⟩⟩
          · rw [List.length_map, List.length_range]
            exact Nat.lt_of_lt_of_le (show i < 64 by omega) (by decide)
          · rw [upd_same, List.range_succ, List.map_append, List.map_cons, eu]
            rfl
        rintro H13 ⟨eD2, s13⟩
        rw [List.length_map, List.length_range] at eD2
        refine ⟨D2, _, rfl, .inl ⟨SqL.of eD2, fun t2 ht2 => ?_⟩⟩
        have s14 := sN (o := .tup ((List.range M').map fun v => oV (par (v + 1)))) ht2
        refine ⟨z, t2, [.non], _, rfl, rfl, s14 _ _ (s13 _ _ (s12 _ _ ez)), upd_same, ?_, fun pb H15 s15 epb => ?_⟩
        · rw [List.length_map, List.length_range]
          exact Nat.le_trans (show 1 + M' ≤ 64 by omega) (by decide)
        have epb' : H15 pb = some (.tup (pVs (M' + 1) par)) := by
          rw [epb]
          unfold pVs
          rw [List.range_succ_eq_map, List.map_cons, List.map_map, p0]
          rfl
        have s5e := sT s5c (sT s13 (sT s14 s15))
        exact ⟨pb, par, _, _, _, _, _, rfl, g2.same s5e, x2.same s5e, epb', pg⟩
      refine ⟨_, rfl, rfl, _, rfl, ?_⟩
      rw [dec_i]
      refine ite2 (fun _ => ?_) (fun _ => ?_)
      · -- balls
        refine ⟨_, rfl, _, rfl, p, l, 3, rfl, g2, by decide, by decide, fun d H3 d0 d1 g3 b3 => ?_⟩
        have lw3 := lw2.ext g2 b3.ext
        refine ⟨_, _, rfl, rfl, W, q, M, (2 + d).toNat, L, ?_, lw3, m1, m40, by omega, by omega, fun pb par j H4 s4 epb gr => ?_⟩
        · rw [Int.toNat_of_nonneg (by omega)]
          rfl
        · obtain ⟨rk, pg⟩ := gr.parG TT
          exact ⟨pb, par, rk, _, _, _, _, rfl, g3.same s4, (x2.trans b3.ext).same s4, epb, pg⟩
      · -- drawn
        refine ⟨_, rfl, _, rfl, _, rfl, W, _, 0, _, rfl, rfl, SqT.of lw2.1, rfl, p, l, (M : Int), rfl, g2, by omega, by omega, fun d0 H3 d00 d01 g3 b3 => ?_⟩
        obtain ⟨s0, rfl⟩ : ∃ s0 : Nat, d0 = (s0 : Int) := ⟨d0.toNat, by omega⟩
        have sM : s0 < M := by omega
        have lw3 := lw2.ext g2 b3.ext
        have eev3 : H3 ev = some (.lst ((List.range M).map nI)) := by rw [b3 ev nev]; exact eev
        have x3 := x2.trans b3.ext
        refine ⟨_, rfl, W, q, ev, M, s0, L, (List.range M).map (fun i : Nat => (i : Int)), rfl, lw3, SqL.of (by rw [← elsE]; exact eev3), sM, m40, fun Do fo H4 s4 hDo eDo ok => ?_⟩
        have sto0 := stF_of (List.mem_range.mpr sM) (fun v hv => List.mem_range.mp hv) ok
        rw [gb_all TT] at sto0
        have ex : ∀ v, v < M → ∃ d : Nat, fo v = (d : Int) ∧ d < M := fun v hv => by
          obtain ⟨d, h⟩ := TT.dist (s := s0) (v := v) (by omega) (by omega)
          exact ⟨d, (stF_at ((sto0 v d).mpr h)).2, h.lt sM (fun a b h => by have := (TT.in2 h).2; omega)⟩
        have g4 := g3.same s4
        have lw4 := lw3.same s4
        have x4 := x3.same s4
        refine ⟨Nat.zero_le _, fun fn hfn => ?_⟩
        have nfn := (g4.ne hfn).1
        have s5 := sN (o := .lst []) hfn
        have efn : (upd H4 fn (.lst [])) fn = some (.lst []) := upd_same
        have hfnH : ∀ b o, H b = some o → b ≠ p → b ≠ fn := fun b o e nb z => by
          have y := x4 b o e nb
          rw [z, hfn] at y
          cases y
        have nDo : Do ≠ fn := fun z => by rw [← z, eDo] at hfn; cases hfn
        have nDp : Do ≠ p := (g3.ne hDo).1
        have nef : ev ≠ fn := fun z => by
          have y := s4 _ _ eev3
          rw [z, hfn] at y
          cases y
        have eDo5 := s5 _ _ eDo
        have eev5 := s5 _ _ (s4 _ _ eev3)
        have g5 := g4.same s5
        have lw5 := lw4.same s5
        have x5 := x4.same s5
        revert s5 efn eDo5 eev5 g5 lw5 x5
        generalize (upd H4 fn (.lst [])) = H5
        intro s5 efn eDo5 eev5 g5 lw5 x5
        have nW : ∀ {b : Addr} {zs : List V} {H' : Hp}, H5 b = some (.tup zs) → b ≠ p ∧ b ≠ fn := fun e => by
          obtain ⟨xs, y⟩ := g5.hp
          exact ⟨ne_of e y (fun z => by cases z), ne_of e efn (fun z => by cases z)⟩
        have lwO : ∀ {H' : Hp}, (∀ b o, H5 b = some o → b ≠ p → b ≠ fn → H' b = some o) → LWeb H' W q (M : Int) L := fun {H'} fr => by
          have t := lw5.2
          have f1 : ∀ {b : Addr} {zs : List V}, H5 b = some (.tup zs) → H' b = some (.tup zs) := fun e => fr _ _ e (nW (H' := H') e).1 (nW (H' := H') e).2
          exact ⟨f1 lw5.1, ⟨f1 t.at_, fun u hu => f1 (t.tup u hu), t.ok, t.asc, t.few, t.conn⟩⟩
        refine ⟨_, rfl, ev, rfl, ⟨_, SqL.of eev5⟩, for_list (K := K) (a := ev) (xs := (List.range M).map nI) (fun i σ H' => ∃ (par : Nat → Option Nat) (x6 x8 : Option V), σ = [some (.ref p), some (.ref W), some (.int kd), some (.ref ev), none, some (.ref Do), x6, some (.ref fn), x8, none, none, none] ∧ HandAt H' p l ∧ H' fn = some (.lst (pVs i par)) ∧ (∀ v u, v < i → par v = some u → GL L v u ∧ fo u < fo v) ∧ (∀ b o, H5 b = some o → b ≠ p → b ≠ fn → H' b = some o)) ?_ ?_ ?_ ?_⟩
        · exact ⟨fun _ => none, none, none, rfl, g5, efn, fun v u h _ => absurd h (Nat.not_lt_zero v), fun _ _ e _ _ => e⟩
        · rintro i σ H6 hi ⟨_, _, _, _, _, _, _, fr⟩
          exact SqL.of (fr _ _ eev5 nev nef)
        · rintro i v σ H6 hv ⟨par, x6, x8, rfl, g6, efn6, pp6, fr⟩
          obtain ⟨h, hh, rfl⟩ := map_inv hv
          have hi : i < M := by
            have z := (List.getElem?_eq_some_iff.mp hh).1
            rwa [List.length_range] at z
          rw [List.getElem?_range hi] at hh
          obtain rfl := Option.some.inj hh
          have eDo6 := fr _ _ eDo5 nDp nDo
          refine ⟨_, rfl, _, rfl, W, q, (M : Int), (i : Int), L, rfl, lwO fr, fun pb ns H7 s7 hpb epb asc mem => ⟨pb, rfl, ⟨_, SqL.of epb⟩, fun D hD => lc_list (K := K) (a := pb) (xs := ns.map V.int) (fun j H' => ∃ as : List Int, H' D = some (.lst (as.map V.int)) ∧ (∀ z ∈ as, Edge L (i : Int) z ∧ fo z.toNat < fo i) ∧ as.length ≤ j ∧ Same H7 H') ?_ ?_ ?_ ?_⟩⟩
          · exact ⟨[], upd_same, fun z h => absurd h List.not_mem_nil, Nat.le_refl _, sN hD⟩
          · rintro j H8 hj ⟨_, _, _, _, s8⟩
            exact SqL.of (s8 _ _ epb)
          · rintro j y H8 hy ⟨as, eD, pa8, la, s8⟩
            obtain ⟨o, ho, rfl⟩ := map_inv hy
            have om := (mem o).mp (List.mem_of_getElem? ho)
            have oz := TT.in2 om
            obtain ⟨o', rfl⟩ : ∃ o' : Nat, o = (o' : Int) := ⟨o.toNat, by omega⟩
            have oM : o' < M := by omega
            have eDo8 := s8 _ _ (s7 _ _ eDo6)
            have hj : j < ns.length := (List.getElem?_eq_some_iff.mp ho).1
            have nl : ns.length ≤ M := by
              have z := nd_len (ns.map Int.toNat) (List.range M) ?_ ?_
              · rw [List.length_map, List.length_range] at z
                exact z
              · refine List.pairwise_map.mpr ?_
                refine List.Pairwise.imp_of_mem (R := (· < ·)) (fun {a b} ma mb lt e => ?_) asc
                have za := TT.in2 ((mem a).mp ma)
                have zb := TT.in2 ((mem b).mp mb)
                omega
              · intro x hx
                obtain ⟨a, ma, rfl⟩ := List.mem_map.mp hx
                have za := TT.in2 ((mem a).mp ma)
                exact List.mem_range.mpr (by omega)
            refine ⟨rfl, _, rfl, _, rfl, Do, _, (o' : Int), _, rfl, rfl, SqL.of eDo8, flN_ix fo oM, _, rfl, _, rfl, Do, _, (i : Int), _, rfl, rfl, SqL.of eDo8, flN_ix fo hi, _, _, rfl, rfl, _, rfl, ite2 (fun c => ?_) (fun c => ?_)⟩
            · refine ⟨_, rfl, _, eD, ?_, as ++ [(o' : Int)], ?_, fun z hz => ?_, ?_, sNew s8 hD⟩
              · rw [List.length_map]
                exact Nat.lt_of_lt_of_le (show as.length < 64 by omega) (by decide)
              · rw [upd_same, List.map_append]
                rfl
              · rcases List.mem_append.mp hz with hz | hz
                · exact pa8 z hz
                · rw [List.mem_singleton.mp hz]
                  exact ⟨om, by rw [Int.toNat_natCast]; exact of_decide_eq_true c⟩
              · rw [List.length_append]
                exact Nat.succ_le_succ la
            · exact ⟨as, eD, pa8, Nat.le_succ_of_le la, s8⟩
          rintro H8 ⟨as, eD, pa8, la, s8⟩
          rw [List.length_map] at la
          have nl : ns.length ≤ M := by
            have z := nd_len (ns.map Int.toNat) (List.range M) ?_ ?_
            · rw [List.length_map, List.length_range] at z
              exact z
            · refine List.pairwise_map.mpr ?_
              refine List.Pairwise.imp_of_mem (R := (· < ·)) (fun {a b} ma mb lt e => ?_) asc
              have za := TT.in2 ((mem a).mp ma)
              have zb := TT.in2 ((mem b).mp mb)
              omega
            · intro x hx
              obtain ⟨a, ma, rfl⟩ := List.mem_map.mp hx
              have za := TT.in2 ((mem a).mp ma)
              exact List.mem_range.mpr (by omega)
          refine ⟨(by show 1 ≤ sizeLine; decide), fun l2 hl2 => ?_⟩
          have s9 := sN (o := .lst [.non]) hl2
          refine ⟨D, l2, _, _, rfl, rfl, s9 _ _ eD, upd_same, ?_, fun sm hsm => ?_⟩
          · rw [List.length_map]
            exact Nat.le_trans (show as.length + 1 ≤ 64 by omega) (by decide)
          have s10 := sT s9 (sN (o := .lst (as.map V.int ++ [.non])) hsm)
          have esm : (upd (upd H8 l2 (.lst [.non])) sm (.lst (as.map V.int ++ [.non]))) sm = some (.lst (as.map V.int ++ [.non])) := upd_same
          have s610 := sT s7 (sT s8 s10)
          show gName 8 (V.ref sm) _ (upd (upd H8 l2 (.lst [.non])) sm (.lst (as.map V.int ++ [.non]))) _
          revert s10 esm s610
          generalize (upd (upd H8 l2 (.lst [.non])) sm (.lst (as.map V.int ++ [.non]))) = H10
          intro s10 esm s610
          have g10 := g6.same s610
          have hsm6 : H6 sm = none := sNo (sT s7 (sT s8 s9)) hsm
          have nsm := (g6.ne hsm6).1
          have nsf : sm ≠ fn := (ne_of_none efn6 hsm6).symm
          have efn10 := s610 _ _ efn6
          have lsm : (as.map V.int ++ [V.non]).length = as.length + 1 := by rw [List.length_append, List.length_map]; rfl
          refine ⟨_, rfl, .inl ⟨rfl, _, SqL.of efn10⟩, _, rfl, _, rfl, _, rfl, sm, _, rfl, .inl (SqL.of esm), p, l, _, rfl, g10, ?_, ?_, fun d H11 dd0 dd1 g11 b11 => ?_⟩
          · rw [lsm]
            omega
          · rw [lsm]
            omega
          rw [lsm] at dd1
          obtain ⟨d', rfl⟩ : ∃ d' : Nat, d = (d' : Int) := ⟨d.toNat, by omega⟩
          obtain ⟨r, er, hr2⟩ : ∃ r : Option Nat, (as.map V.int ++ [V.non])[d']? = some (oV r) ∧ ∀ u, r = some u → GL L i u ∧ fo u < fo i := by
            by_cases c : d' < as.length
            · have em : as[d'] ∈ as := List.getElem_mem c
              obtain ⟨e1, e2⟩ := pa8 _ em
              have z := TT.in2 e1
              obtain ⟨u, eu⟩ : ∃ u : Nat, as[d'] = (u : Int) := ⟨as[d'].toNat, by omega⟩
              rw [eu] at e1 e2
              rw [Int.toNat_natCast] at e2
              refine ⟨some u, ?_, fun u' e => ?_⟩
              · rw [List.getElem?_append_left (by rw [List.length_map]; exact c), List.getElem?_map, List.getElem?_eq_getElem c, eu]
                rfl
              · cases e
                exact ⟨e1, e2⟩
            · refine ⟨none, ?_, fun u e => (nomatch e)⟩
              have : d' = as.length := by omega
              rw [List.getElem?_append_right (by rw [List.length_map]; omega), List.length_map, this, Nat.sub_self]
              rfl
          have esm11 : H11 sm = some (.lst (as.map V.int ++ [.non])) := by rw [b11 sm nsm]; exact esm
          have efn11 : H11 fn = some (.lst (pVs i par)) := by rw [b11 fn nfn]; exact efn10
          refine ⟨sm, _, (d' : Int), _, rfl, rfl, SqL.of esm11, atI_nat er, fn, _, _, rfl, rfl, efn11, ?_, ?_⟩
          · rw [pVs_len]
            exact Nat.lt_of_lt_of_le (show i < 64 by omega) (by decide)
          · refine ⟨fun v => if v = i then r else par v, _, _, rfl, ?_, ?_, fun v u hv e => ?_, fun b o e n1 n2 => ?_⟩
            · obtain ⟨ns', hl', nlp⟩ := g11.hl
              have nlf : fn ≠ l := (g4.ne hfn).2
              exact g11.stay nfn nlf
            · rw [upd_same, pVs_snoc (par := par) (i := i) (r := r) (fun v hv => by show (if v = i then r else par v) = _; rw [if_neg (by omega)]) (by show (if i = i then r else par i) = _; rw [if_pos rfl])]
            · have e' : (if v = i then r else par v) = some u := e
              by_cases c : v = i
              · rw [if_pos c] at e'
                rw [c]
                exact hr2 u e'
              · rw [if_neg c] at e'
                exact pp6 v u (by omega) e'
            · rw [upd_ne n2, b11 b n1]
              exact s610 _ _ (fr b o e n1 n2)
        · rintro σ H6 ⟨par, x6, x8, rfl, g6, efn6, pp6, fr⟩
          rw [List.length_map, List.length_range] at efn6 pp6
          refine ⟨_, rfl, fn, _, rfl, .inl ⟨SqL.of efn6, fun pt hpt => ?_⟩⟩
          have s7 := sN (o := .tup (pVs M par)) hpt
          refine ⟨pt, par, fun v => (fo v).toNat, _, _, _, _, rfl, g6.same s7, fun b o e nb => ?_, upd_same, ⟨fun v u hv e => ?_, fun v hv => ?_⟩, fun v u hv e => (pp6 v u hv e).1⟩
          · exact s7 _ _ (fr b o (x5 b o e nb) nb (hfnH b o e nb))
          · obtain ⟨g, lt⟩ := pp6 v u hv e
            have uz := TT.in2 g
            have uM : u < M := by omega
            obtain ⟨d1, e1, _⟩ := ex u uM
            refine ⟨uM, ?_⟩
            show (fo u).toNat < (fo v).toNat
            omega
          · obtain ⟨d1, e1, lt⟩ := ex v hv
            show (fo v).toNat < M
            omega
    · rintro σ H3 ⟨pa, par, rk, y5, y6, y7, y8, rfl, g3, x3, epa, pg⟩
      have lw3 := lw.ext g0 x3
      have few := lw.2.few
      have gM : ∀ i, i < M → 0 ≤ (LD par M i : Int) ∧ (LD par M i : Int) < (M : Int) := fun i hi => by
        have := pg.1.lt hi
        omega
      refine ⟨_, rfl, _, rfl, W, q, pa, M, L, par, rk, rfl, lw3, epa, pg.1, m40, fun D Eg H4 s4 hD eD I ga => ?_⟩
      have g4 := g3.same s4
      have x4 := x3.same s4
      have lw4 := lw3.same s4
      have epa4 := s4 _ _ epa
      refine ⟨_, rfl, _, _, rfl, rfl, _, rfl, ite2 (fun _ => ?_) (fun _ => ?_)⟩
      · refine ⟨_, rfl, _, rfl, _, rfl, W, q, pa, M, L, par, rk, rfl, lw4, epa4, pg.1, m40, fun t T H5 s5 _ lst => ?_⟩
        refine ⟨(by show 2 ≤ sizeLine; decide), fun r hr2 => ?_⟩
        have s6 := sN (o := .tup [.ref pa, .ref t]) hr2
        exact k r pa t T par rk _ (g4.same (sT s5 s6)) (x4.same (sT s5 s6)) upd_same (s6 _ _ (s5 _ _ epa4)) pg ((lst.same s6).cho lw.2.asc)
      · -- one tie of each group, drawn
        refine ⟨Nat.zero_le _, fun fn hfn => ?_⟩
        have nfn := (g4.ne hfn).1
        have nfl := (g4.ne hfn).2
        have s5 := sN (o := .lst []) hfn
        have efn : (upd H4 fn (.lst [])) fn = some (.lst []) := upd_same
        have hfnH : ∀ b o, H b = some o → b ≠ p → b ≠ fn := fun b o e nb z => by
          have y := x4 b o e nb
          rw [z, hfn] at y
          cases y
        have eD5 := s5 _ _ eD
        have ga5 := ga.same s5
        have g5 := g4.same s5
        have lw5 := lw4.same s5
        have x5 := x4.same s5
        have epa5 := s5 _ _ epa4
        have nDp : D ≠ p := (g3.ne hD).1
        revert s5 efn eD5 ga5 g5 lw5 x5 epa5
        generalize (upd H4 fn (.lst [])) = H5
        intro s5 efn eD5 ga5 g5 lw5 x5 epa5
        have nG : ∀ e ∈ Eg, e.2.1 ≠ p ∧ e.2.1 ≠ fn := fun e he => by
          have y4 := ga.at_ e he
          refine ⟨?_, ne_of_none y4 hfn⟩
          obtain ⟨xs, z⟩ := g4.hp
          intro zz
          rw [zz, z] at y4
          have y := HO.lst.inj (Option.some.inj y4)
          cases c : e.2.2 with
          | nil => exact absurd c (I.ne e he)
          | cons a r =>
            rw [c, List.map_cons] at y
            have y1 := (List.cons.inj y).1
            have e1 : l = a.1 := V.ref.inj y1
            obtain ⟨ns, h1, _⟩ := g4.hl
            have h2 := ga.tup e he a (by rw [c]; exact List.mem_cons_self)
            rw [← e1, h1] at h2
            cases h2
        have nDf : D ≠ fn := ne_of eD5 efn (fun z => by cases z)
        -- the keys
        refine ⟨_, rfl, .inr (.inr (.inl ⟨rfl, .inr ⟨_, eD5⟩⟩)), D, _, rfl, rfl, eD5, fun vw hvw => ?_⟩
        have s6 := sN (o := viewO "dict_keys" vw D) hvw
        refine ⟨vw, D, _, rfl, upd_same, s6 _ _ eD5, fun l1 bs hl1 hb => ?_⟩
        obtain ⟨Bs, eb1, eb2, eb3⟩ := keys_of hb
        rw [eb1]
        have s7 := sT s6 (sN (o := .lst (Bs.map fun p => V.ref p.1)) hl1)
        have el : (upd (upd H5 vw (viewO "dict_keys" vw D)) l1 (.lst (Bs.map fun p => V.ref p.1))) l1 = some (.lst (Bs.map fun p => V.ref p.1)) := upd_same
        have tb : ∀ p ∈ Bs, (upd (upd H5 vw (viewO "dict_keys" vw D)) l1 (.lst (Bs.map fun p => V.ref p.1))) p.1 = some (.tup (p.2.map V.int)) := fun p hp => sN hl1 _ _ (eb3 p hp)
        revert s7 el tb
        generalize (upd (upd H5 vw (viewO "dict_keys" vw D)) l1 (.lst (Bs.map fun p => V.ref p.1))) = H7
        intro s7 el tb
        have okB : ∀ c ∈ Bs, ∃ u v : Int, c.2 = [u, v] ∧ 0 ≤ u ∧ u < v ∧ v < (M : Int) := fun c hc => by
          have z : c.2 ∈ Eg.map (·.1) := by
            rw [← eb2]
            exact List.mem_map.mpr ⟨c, hc, rfl⟩
          obtain ⟨e, he, ee⟩ := List.mem_map.mp z
          obtain ⟨h1, ⟨r', hr', er⟩, _⟩ := I.head lw.2.asc he
          obtain ⟨x1, y1, e1, ne⟩ := I.crs e he
          obtain ⟨a, b, e2, a0, ab, bm⟩ := lw.2.ok r' hr'
          have ecr : crL (fun i => (LD par M i : Int)) r'.2 = cx (LD par M a.toNat : Int) (LD par M b.toNat : Int) := by rw [e2]; rfl
          obtain ⟨u, v, e4, h⟩ := cx_ok (gM a.toNat (by omega)) (gM b.toNat (by omega)) ⟨x1, y1, by rw [← ecr, er, h1, e1], ne⟩
          exact ⟨u, v, by rw [← ee, ← h1, ← er, ecr, e4], h⟩
        have pr2 : Pairs (M : Int) H7 l1 Bs := ⟨el, tb, okB⟩
        have kx : ∀ {H' : Hp} {Da : Addr} {Cs : List (Addr × List Int)}, Pairs (M : Int) H' Da Cs → ∀ y ∈ Cs.map (fun p => V.ref p.1), ∃ t, y = V.ref t ∧ H' t = some (.tup [.int (kH H' y).1, .int (kH H' y).2]) := fun {H' Da Cs} pr y hy => by
          obtain ⟨p, hp, rfl⟩ := List.mem_map.mp hy
          obtain ⟨a, b, e, _⟩ := pr.ok p hp
          have t := pr.tup p hp
          rw [e] at t
          refine ⟨p.1, rfl, ?_⟩
          rw [kH_at t]
          exact t
        refine ⟨l1, _, kH H7, rfl, SqL.of pr2.at_, kx pr2, fun ys2 sp2 sr2 sb2 hsp2 => ?_⟩
        obtain ⟨R, rfl, perm, _⟩ := sorted_nd pr2 (by rw [eb2]; exact I.nd) sb2.perm sr2
        have s8 := sT s7 (sN (o := .lst (R.map fun p => V.ref p.1)) hsp2)
        have esp : (upd H7 sp2 (.lst (R.map fun p => V.ref p.1))) sp2 = some (.lst (R.map fun p => V.ref p.1)) := upd_same
        have tR : ∀ r ∈ R, (upd H7 sp2 (.lst (R.map fun p => V.ref p.1))) r.1 = some (.tup (r.2.map V.int)) := fun r hr2 => sN hsp2 _ _ (pr2.tup r (perm.mem_iff.mp hr2))
        have hsp5 : H5 sp2 = none := sNo s7 hsp2
        have nsp := (g5.ne hsp5).1
        have nspf : sp2 ≠ fn := (ne_of_none efn hsp5).symm
        have efn8 : (upd H7 sp2 (.lst (R.map fun p => V.ref p.1))) fn = some (.lst []) := s8 _ _ efn
        have g8 := g5.same s8
        revert s8 esp tR efn8 g8
        generalize (upd H7 sp2 (.lst (R.map fun p => V.ref p.1))) = H8
        intro s8 esp tR efn8 g8
        have keyR : ∀ r ∈ R, ∃ e ∈ Eg, e.1 = r.2 := fun r hr2 => by
          have z : r.2 ∈ Eg.map (·.1) := by
            rw [← eb2]
            exact List.mem_map.mpr ⟨r, perm.mem_iff.mp hr2, rfl⟩
          obtain ⟨e, he, ee⟩ := List.mem_map.mp z
          exact ⟨e, he, ee⟩
        have lenR : R.length = Eg.length := by
          rw [perm.length_eq]
          have z := congrArg List.length eb2
          rwa [List.length_map, List.length_map] at z
        have lenE := I.len
        have nTup : ∀ {b : Addr} {zs : List V}, H8 b = some (.tup zs) → b ≠ p ∧ b ≠ fn := fun e => by
          obtain ⟨xs, y⟩ := g8.hp
          exact ⟨ne_of e y (fun z => by cases z), ne_of e efn8 (fun z => by cases z)⟩
        refine ⟨sp2, rfl, ⟨_, SqL.of esp⟩, for_list (K := K) (a := sp2) (xs := R.map fun p => V.ref p.1) (fun i σ H' => ∃ (Fs : List (Addr × List Int)) (x10 : Option V), σ = [some (.ref p), some (.ref W), some (.int kd), some (.ref ev), some (.ref pa), y5, y6, some (.ref fn), y8, some (.ref D), x10, none] ∧ HandAt H' p l ∧ H' fn = some (.lst (Fs.map fun q => V.ref q.1)) ∧ Fs.map (fun q => crL (fun i => (LD par M i : Int)) q.2) = (R.take i).map (·.2) ∧ (∀ q ∈ Fs, H8 q.1 = some (.tup (q.2.map V.int)) ∧ ∃ r ∈ L, r.2 = q.2) ∧ (∀ b o, H8 b = some o → b ≠ p → b ≠ fn → H' b = some o)) ?_ ?_ ?_ ?_⟩
        · exact ⟨[], _, rfl, g8, efn8, rfl, fun q h => absurd h List.not_mem_nil, fun _ _ e _ _ => e⟩
        · rintro i σ H9 hi ⟨_, _, _, _, _, _, _, fr⟩
          exact SqL.of (fr _ _ esp nsp nspf)
        · rintro i v σ H9 hv ⟨Fs, x10, rfl, g9, efn9, ev9, tF, fr⟩
          obtain ⟨r, hr2, rfl⟩ := map_inv hv
          have hi : i < R.length := (List.getElem?_eq_some_iff.mp hr2).1
          have hm := List.mem_of_getElem? hr2
          obtain ⟨e, he, ee⟩ := keyR r hm
          have eD9 := fr _ _ (s8 _ _ eD5) nDp nDf
          have nt := nTup (tR r hm)
          have er9 : H9 r.1 = some (.tup ((e.1.map Sum.inl).map kV)) := by
            rw [fr _ _ (tR r hm) nt.1 nt.2, ← ee, List.map_map]
            rfl
          have gt : valV (kG Eg) (e.1.map Sum.inl) = some (.ref e.2.1) := kG_at I.nd he
          have el9 := fr _ _ (s8 _ _ (ga5.at_ e he)) (nG e he).1 (nG e he).2
          have ne2 := I.ne e he
          have lpos : 0 < e.2.2.length := List.length_pos_iff.mpr ne2
          have le2 : e.2.2.length ≤ L.length := by
            have z := congrArg List.length (I.grp e he)
            rw [List.length_map, List.length_map, List.take_length] at z
            rw [z]
            exact List.length_filter_le _ _
          have lF : Fs.length = i := by
            have z := congrArg List.length ev9
            rw [List.length_map, List.length_map, List.length_take] at z
            omega
          refine ⟨_, rfl, .inl ⟨rfl, _, SqL.of efn9⟩, _, rfl, _, rfl, D, V.ref e.2.1, rfl, by rw [← gt]; exact DGet.t eD9 er9, ?_⟩
          refine ⟨_, rfl, _, rfl, _, rfl, D, V.ref e.2.1, rfl, by rw [← gt]; exact DGet.t eD9 er9, e.2.1, _, rfl, .inl (SqL.of el9), p, l, _, rfl, g9, ?_, ?_, fun d H10 d0 d1 g10 b10 => ?_⟩
          · rw [List.length_map]
            omega
          · rw [List.length_map]
            omega
          rw [List.length_map] at d1
          obtain ⟨d', rfl⟩ : ∃ d' : Nat, d = (d' : Int) := ⟨d.toNat, by omega⟩
          have dl : d' < e.2.2.length := by omega
          have em : e.2.2[d'] ∈ e.2.2 := List.getElem_mem dl
          have el10 : H10 e.2.1 = some (.lst (e.2.2.map fun p => V.ref p.1)) := by rw [b10 _ (nG e he).1]; exact el9
          have efn10 : H10 fn = some (.lst (Fs.map fun q => V.ref q.1)) := by rw [b10 fn nfn]; exact efn9
          have mg : (e.2.2[d']).2 ∈ ((L.take L.length).filter fun p => decide (crL (fun i => (LD par M i : Int)) p.2 = e.1)).map (·.2) := by
            rw [← I.grp e he]
            exact List.mem_map.mpr ⟨_, em, rfl⟩
          obtain ⟨r0, hr0, er0⟩ := List.mem_map.mp mg
          obtain ⟨mr0, cr0⟩ := List.mem_filter.mp hr0
          rw [List.take_length] at mr0
          have cr0' := of_decide_eq_true cr0
          refine ⟨e.2.1, _, (d' : Int), _, rfl, rfl, SqL.of el10, atI_nat (by rw [List.getElem?_map, List.getElem?_eq_getElem dl]; rfl), fn, _, _, rfl, rfl, efn10, ?_, ?_⟩
          · rw [List.length_map]
            exact Nat.lt_of_lt_of_le (show Fs.length < 1001 by omega) (by decide)
          · refine ⟨Fs ++ [e.2.2[d']], _, rfl, ?_, ?_, ?_, fun q hq => ?_, fun b o eb n1 n2 => ?_⟩
            · exact g10.stay nfn nfl
            · rw [upd_same, List.map_append]
              rfl
            · rw [List.map_append, ev9, take_snoc hr2, List.map_append, List.map_cons, ← er0, cr0', ee]
              rfl
            · rcases List.mem_append.mp hq with hq | hq
              · exact tF q hq
              · rw [List.mem_singleton.mp hq]
                exact ⟨s8 _ _ (ga5.tup e he _ em), r0, mr0, er0⟩
            · rw [upd_ne n2, b10 b n1]
              exact fr b o eb n1 n2
        rintro σ H9 ⟨Fs, x10, rfl, g9, efn9, ev9, tF, fr⟩
        rw [List.length_map, List.take_length] at ev9
        have lF : Fs.length = Eg.length := by
          have z := congrArg List.length ev9
          rw [List.length_map, List.length_map] at z
          omega
        have ndC : (Fs.map fun q => crL (fun i => (LD par M i : Int)) q.2).Nodup := by
          rw [ev9]
          exact ((perm.map (·.2)).nodup_iff).mpr (by rw [eb2]; exact I.nd)
        have ndF : (Fs.map (·.2)).Nodup := by
          have z := ndC
          rw [show (Fs.map fun q => crL (fun i => (LD par M i : Int)) q.2) = (Fs.map (·.2)).map (crL fun i => (LD par M i : Int)) by rw [List.map_map]; rfl] at z
          exact (List.pairwise_map.mp z).imp fun {a b} h e => h (by rw [e])
        have tF9 : ∀ q ∈ Fs, H9 q.1 = some (.tup (q.2.map V.int)) := fun q hq => fr _ _ (tF q hq).1 (nTup (tF q hq).1).1 (nTup (tF q hq).1).2
        have pr : Pairs (M : Int) H9 fn Fs := ⟨efn9, tF9, fun q hq => by
          obtain ⟨r, hr2, e⟩ := (tF q hq).2
          rw [← e]
          exact lw.2.ok r hr2⟩
        have epa9 := fr _ _ (s8 _ _ epa5) (nTup (s8 _ _ epa5)).1 (nTup (s8 _ _ epa5)).2
        refine ⟨_, rfl, _, rfl, fn, _, kH H9, rfl, SqL.of efn9, kx pr, fun ys sp sr sb hsp => ?_⟩
        obtain ⟨Ts, rfl, permT, asc⟩ := sorted_nd pr ndF sb.perm sr
        have s10 := sN (o := .lst (Ts.map fun p => V.ref p.1)) hsp
        refine ⟨sp, _, rfl, .inl ⟨SqL.of upd_same, fun t ht => ?_⟩⟩
        have s11 := sT s10 (sN (o := .tup (Ts.map fun p => V.ref p.1)) ht)
        have et : (upd (upd H9 sp (.lst (Ts.map fun p => V.ref p.1))) t (.tup (Ts.map fun p => V.ref p.1))) t = some (.tup (Ts.map fun p => V.ref p.1)) := upd_same
        revert s11 et
        generalize (upd (upd H9 sp (.lst (Ts.map fun p => V.ref p.1))) t (.tup (Ts.map fun p => V.ref p.1))) = H11
        intro s11 et
        refine ⟨(by show 2 ≤ sizeLine; decide), fun r hr2 => ?_⟩
        have s12 := sN (o := .tup [.ref pa, .ref t]) hr2
        have x9 : Ext p H H9 := fun b o e nb => fr b o (s8 _ _ (x5 b o e nb)) nb (hfnH b o e nb)
        have cho : ChoAt (fun i => (LD par M i : Int)) L (M : Int) H11 t Ts := by
          refine ⟨et, fun q hq => s11 _ _ (tF9 q (permT.mem_iff.mp hq)), fun q hq => pr.ok q (permT.mem_iff.mp hq), asc, by rw [permT.length_eq, lF]; exact lenE, fun q hq => (tF q (permT.mem_iff.mp hq)).2, fun q hq => ?_, fun r hr2 c => ?_, ?_⟩
          · have z : crL (fun i => (LD par M i : Int)) q.2 ∈ R.map (·.2) := by
              rw [← ev9]
              exact List.mem_map.mpr ⟨q, permT.mem_iff.mp hq, rfl⟩
            obtain ⟨r, hr2, er⟩ := List.mem_map.mp z
            obtain ⟨e, he, ee⟩ := keyR r hr2
            obtain ⟨x1, y1, e1, ne⟩ := I.crs e he
            exact ⟨x1, y1, by rw [← er, ← ee, e1], ne⟩
          · obtain ⟨e, he, ee⟩ := I.all r (by rw [List.take_length]; exact hr2) c
            have z : e.1 ∈ Fs.map fun q => crL (fun i => (LD par M i : Int)) q.2 := by
              rw [ev9]
              refine (perm.map (·.2)).mem_iff.mpr ?_
              rw [eb2]
              exact List.mem_map.mpr ⟨e, he, rfl⟩
            obtain ⟨q, hq, eq⟩ := List.mem_map.mp z
            exact ⟨q, permT.mem_iff.mpr hq, by rw [eq, ee]⟩
          · exact ((permT.map fun q => crL (fun i => (LD par M i : Int)) q.2).nodup_iff).mpr ndC
        exact k r pa t Ts par rk _ ((g9.same s11).same s12) ((x9.same s11).same s12) upd_same (s12 _ _ (s11 _ _ epa9)) pg (cho.same s12)
end
end Q

namespace Q
open PySem L2
theorem NoInt.int {K : PySem.W.Frag} {H : Hp} {i : Int} (n : NoInt K H (.int i)) : False := by
  obtain ⟨t, b, c, ty, k1, k2, e⟩ := n
  cases ty with
  | base ty =>
    cases ty
    have z1 : some b = some true := k1.symm.trans kInt_int
    have z2 : some c = some false := k2.symm.trans kBool_int
    cases z1
    cases z2
    cases e
/-- a thing whose kind is known -/
inductive Kd (H : Hp) : V → Prop
  | int (i : Int) : Kd H (.int i)
  | non : Kd H .non
  | bl (b : Bool) : Kd H (.bl b)
  | str (z : Str) : Kd H (.str z)
  | tup {a : Addr} {xs : List V} (e : H a = some (.tup xs)) : Kd H (.ref a)
  | lst {a : Addr} {xs : List V} (e : H a = some (.lst xs)) : Kd H (.ref a)
  | dk {a : Addr} {kvs : List (Key × V)} (e : H a = some (.dK kvs)) : Kd H (.ref a)
theorem Kd.same {H H' : Hp} {v : V} (h : Kd H v) (s : Same H H') : Kd H' v := by
  cases h with
  | int i => exact .int i
  | non => exact .non
  | bl b => exact .bl b
  | str z => exact .str z
  | tup e => exact .tup (s _ _ e)
  | lst e => exact .lst (s _ _ e)
  | dk e => exact .dk (s _ _ e)
theorem Kd.ext {H H' : Hp} {v : V} {p l : Addr} (h : Kd H v) (g : HandAt H p l) (g' : HandAt H' p l) (x : Ext p H H') : Kd H' v := by
  obtain ⟨xs0, e0⟩ := g.hp
  obtain ⟨xs1, e1⟩ := g'.hp
  cases h with
  | int i => exact .int i
  | non => exact .non
  | bl b => exact .bl b
  | str z => exact .str z
  | tup e => exact .tup (x _ _ e (ne_of e e0 (fun z => by cases z)))
  | @lst a xs e =>
    by_cases c : a = p
    · rw [c]
      exact .lst e1
    · exact .lst (x _ _ e c)
  | dk e => exact .dk (x _ _ e (ne_of e e0 (fun z => by cases z)))
theorem Kd.cl {K : PySem.W.Frag} {H : Hp} {v : V} (h : Kd H v) : (∃ i : Int, v = .int i) ∨ NoInt K H v := by
  cases h with
  | int i => exact .inl ⟨i, rfl⟩
  | non => exact .inr ⟨_, false, false, .base .non, kit_ty (by decide +kernel), kit_ty (by decide +kernel), rfl⟩
  | bl b => exact .inr ⟨_, true, true, .base (.bl b), kit_ty (by decide +kernel), kit_ty (by decide +kernel), rfl⟩
  | str z => exact .inr ⟨_, false, false, .base (.str z), kit_ty (by decide +kernel), kit_ty (by decide +kernel), rfl⟩
  | tup e => exact .inr ⟨_, false, false, .base (.tup e), kit_ty (by decide +kernel), kit_ty (by decide +kernel), rfl⟩
  | lst e => exact .inr ⟨_, false, false, .base (.lst e), kit_ty (by decide +kernel), kit_ty (by decide +kernel), rfl⟩
  | dk e => exact .inr ⟨_, false, false, .base (.dK e), kit_ty (by decide +kernel), kit_ty (by decide +kernel), rfl⟩
theorem Kd.tyT {K : PySem.W.Frag} {H : Hp} {v : V} (h : Kd H v) : ∃ (t : Value) (b : Bool), TyX K H v t ∧ PySem.W.kitOne K t (.type "tuple") = some b ∧ ((b = true ∧ ∃ a xs, v = .ref a ∧ H a = some (.tup xs)) ∨ (b = false ∧ ∀ a xs, v = .ref a → H a = some (.tup xs) → False)) := by
  cases h with
  | int i => exact ⟨_, false, .base (.int _), kit_ty (by decide +kernel), .inr ⟨rfl, fun a xs e => nomatch e⟩⟩
  | non => exact ⟨_, false, .base .non, kit_ty (by decide +kernel), .inr ⟨rfl, fun a xs e => nomatch e⟩⟩
  | bl b => exact ⟨_, false, .base (.bl b), kit_ty (by decide +kernel), .inr ⟨rfl, fun a xs e => nomatch e⟩⟩
  | str z => exact ⟨_, false, .base (.str z), kit_ty (by decide +kernel), .inr ⟨rfl, fun a xs e => nomatch e⟩⟩
  | tup e => exact ⟨_, true, .base (.tup e), kit_ty (by decide +kernel), .inl ⟨rfl, _, _, rfl, e⟩⟩
  | lst e => exact ⟨_, false, .base (.lst e), kit_ty (by decide +kernel), .inr ⟨rfl, fun a xs e1 e2 => by
      cases e1
      rw [e] at e2
      cases e2⟩⟩
  | dk e => exact ⟨_, false, .base (.dK e), kit_ty (by decide +kernel), .inr ⟨rfl, fun a xs e1 e2 => by
      cases e1
      rw [e] at e2
      cases e2⟩⟩
theorem Kd.at_ {H : Hp} {a : Addr} (h : Kd H (.ref a)) : ∃ o, H a = some o := by
  cases h with
  | tup e => exact ⟨_, e⟩
  | lst e => exact ⟨_, e⟩
  | dk e => exact ⟨_, e⟩
end Q

/-! things of known kinds; what parents are -/
namespace Q
open PySem L2 QM
/-- of known kinds, to nesting n -/
def Kt (H : Hp) : Nat → V → Prop
  | 0 => fun _ => True
  | n + 1 => fun v => Kd H v ∧ ∀ a xs, v = .ref a → H a = some (.tup xs) → xs.length ≤ 4000 ∧ ∀ x ∈ xs, Kt H n x
def Wk (H : Hp) (v : V) : Prop := ∀ n, Kt H n v
theorem Wk.kd {H : Hp} {v : V} (h : Wk H v) : Kd H v := (h 1).1
theorem Wk.items {H : Hp} {a : Addr} {xs : List V} (h : Wk H (.ref a)) (e : H a = some (.tup xs)) : xs.length ≤ 4000 ∧ ∀ x ∈ xs, Wk H x :=
  ⟨((h 1).2 a xs rfl e).1, fun x hx n => ((h (n + 1)).2 a xs rfl e).2 x hx⟩
theorem Wk.tup {H : Hp} {a : Addr} {xs : List V} (e : H a = some (.tup xs)) (hl : xs.length ≤ 4000) (h : ∀ x ∈ xs, Wk H x) : Wk H (.ref a)
  | 0 => trivial
  | n + 1 => ⟨.tup e, fun a' ys e1 e2 => by
    cases e1
    rw [e] at e2
    cases e2
    exact ⟨hl, fun x hx => h x hx n⟩⟩
theorem Wk.nt {H : Hp} {v : V} (k : Kd H v) (no : ∀ a xs, v = .ref a → H a = some (.tup xs) → False) : Wk H v
  | 0 => trivial
  | n + 1 => ⟨k, fun a xs e1 e2 => (no a xs e1 e2).elim⟩
theorem Wk.int {H : Hp} (i : Int) : Wk H (.int i) := .nt (.int i) fun _ _ e => nomatch e
theorem Wk.non {H : Hp} : Wk H .non := .nt .non fun _ _ e => nomatch e
theorem Wk.bl {H : Hp} (b : Bool) : Wk H (.bl b) := .nt (.bl b) fun _ _ e => nomatch e
theorem Wk.str {H : Hp} (z : Str) : Wk H (.str z) := .nt (.str z) fun _ _ e => nomatch e
theorem Wk.lst {H : Hp} {a : Addr} {xs : List V} (e : H a = some (.lst xs)) : Wk H (.ref a) := .nt (.lst e) fun a' _ e1 e2 => by
  cases e1
  rw [e] at e2
  cases e2
theorem Wk.dk {H : Hp} {a : Addr} {xs : List (Key × V)} (e : H a = some (.dK xs)) : Wk H (.ref a) := .nt (.dk e) fun a' _ e1 e2 => by
  cases e1
  rw [e] at e2
  cases e2
theorem Kt.ext {H H' : Hp} {p l : Addr} (g : HandAt H p l) (g' : HandAt H' p l) (s : Ext p H H') : ∀ {n : Nat} {v : V}, Kt H n v → Kt H' n v
  | 0, _, _ => trivial
  | n + 1, v, h => ⟨h.1.ext g g' s, fun a xs e1 e2 => by
    subst e1
    obtain ⟨o, eo⟩ := h.1.at_
    obtain ⟨zs, ez⟩ := g'.hp
    have ne : a ≠ p := ne_of e2 ez (fun z => by cases z)
    rw [s _ _ eo ne] at e2
    cases e2
    obtain ⟨h1, h2⟩ := h.2 a xs rfl eo
    exact ⟨h1, fun x hx => (h2 x hx).ext g g' s⟩⟩
theorem Wk.ext {H H' : Hp} {p l : Addr} {v : V} (h : Wk H v) (g : HandAt H p l) (g' : HandAt H' p l) (s : Ext p H H') : Wk H' v := fun n => (h n).ext g g' s
theorem Kt.same {H H' : Hp} (s : Same H H') : ∀ {n : Nat} {v : V}, Kt H n v → Kt H' n v
  | 0, _, _ => trivial
  | n + 1, v, h => ⟨h.1.same s, fun a xs e1 e2 => by
    subst e1
    obtain ⟨o, eo⟩ := h.1.at_
    rw [s _ _ eo] at e2
    cases e2
    obtain ⟨h1, h2⟩ := h.2 a xs rfl eo
    exact ⟨h1, fun x hx => (h2 x hx).same s⟩⟩
theorem Wk.same {H H' : Hp} {v : V} (h : Wk H v) (s : Same H H') : Wk H' v := fun n => (h n).same s
theorem Kd.tupBack {H H' : Hp} {a : Addr} {xs : List V} (k : Kd H (.ref a)) (s : Same H H') (e : H' a = some (.tup xs)) : H a = some (.tup xs) := by
  obtain ⟨o, eo⟩ := k.at_
  rw [s _ _ eo] at e
  rw [eo, e]
/-! ### parents, or not -/
/-- up, at most so often -/
theorem ldr_stop {par : Nat → Option Nat} {v : Nat} (e : par v = none) : ∀ n, ldr par n v = v
  | 0 => rfl
  | n + 1 => by
    show (match par v with | none => v | some u => ldr par n u) = v
    rw [e]
theorem ldr_step {par : Nat → Option Nat} {v u : Nat} (e : par v = some u) (n : Nat) : ldr par (n + 1) v = ldr par n u := by
  show (match par v with | none => v | some u => ldr par n u) = _
  rw [e]
theorem ldr_lt {M : Nat} {par : Nat → Option Nat} (up : ∀ v u, v < M → par v = some u → u < M) : ∀ (n v : Nat), v < M → ldr par n v < M
  | 0, _, h => h
  | n + 1, v, h => by
    cases e : par v with
    | none =>
      rw [ldr_stop e]
      exact h
    | some u =>
      rw [ldr_step e]
      exact ldr_lt up n u (up v u h e)
/-- how far below its leader -/
def cnt (par : Nat → Option Nat) : Nat → Nat → Nat
  | 0, _ => 0
  | n + 1, v => match par v with
    | none => 0
    | some u => cnt par n u + 1
inductive HgtA (par : Nat → Option Nat) (M : Nat) : Nat → Nat → List Nat → Prop
  | zero {v : Nat} : par v = none → v < M → HgtA par M v 0 [v]
  | succ {v u n : Nat} {ws : List Nat} : par v = some u → v < M → HgtA par M u n ws → HgtA par M v (n + 1) (v :: ws)
theorem HgtA.uniq {par : Nat → Option Nat} {M v m n : Nat} {ws zs : List Nat} (h : HgtA par M v m ws) (g : HgtA par M v n zs) : m = n := by
  induction h generalizing n zs with
  | zero e =>
    cases g with
    | zero _ => rfl
    | succ e2 _ => rw [e] at e2; cases e2
  | succ e _ _ ih =>
    cases g with
    | zero e2 => rw [e] at e2; cases e2
    | succ e2 _ g =>
      rw [e] at e2
      cases e2
      rw [ih g]
theorem HgtA.mem {par : Nat → Option Nat} {M v m : Nat} {ws : List Nat} (h : HgtA par M v m ws) : ws.length = m + 1 ∧ ∀ x ∈ ws, x < M ∧ ∃ e zs, e ≤ m ∧ HgtA par M x e zs := by
  induction h with
  | @zero v e lt =>
    refine ⟨rfl, fun x hx => ?_⟩
    obtain rfl := List.mem_singleton.mp hx
    exact ⟨lt, 0, _, Nat.le_refl _, .zero e lt⟩
  | @succ v u n ws e lt g ih =>
    refine ⟨by rw [List.length_cons, ih.1], fun x hx => ?_⟩
    rcases List.mem_cons.mp hx with rfl | hx
    · exact ⟨lt, n + 1, _, Nat.le_refl _, .succ e lt g⟩
    · obtain ⟨h1, e2, zs, h2, h3⟩ := ih.2 x hx
      exact ⟨h1, e2, zs, by omega, h3⟩
theorem HgtA.nodup {par : Nat → Option Nat} {M v m : Nat} {ws : List Nat} (h : HgtA par M v m ws) : ws.Nodup := by
  induction h with
  | zero e lt => exact List.nodup_cons.mpr ⟨List.not_mem_nil, List.nodup_nil⟩
  | @succ v u n ws e lt g ih =>
    refine List.nodup_cons.mpr ⟨fun hm => ?_, ih⟩
    obtain ⟨_, e2, zs, le, h3⟩ := g.mem.2 v hm
    have := h3.uniq (.succ e lt g)
    omega
theorem nd_lenA : ∀ (a b : List Nat), a.Nodup → (∀ x ∈ a, x ∈ b) → a.length ≤ b.length
  | [], _, _, _ => Nat.zero_le _
  | x :: a, b, h, k => by
    obtain ⟨h1, h2⟩ := List.nodup_cons.mp h
    have m := k x List.mem_cons_self
    have z := nd_lenA a (b.erase x) h2 fun y hy => (List.mem_erase_of_ne (fun (e : y = x) => h1 (e ▸ hy))).mpr (k y (List.mem_cons_of_mem _ hy))
    rw [List.length_erase_of_mem m] at z
    have := List.length_pos_of_mem m
    rw [List.length_cons]
    omega
theorem HgtA.lt {par : Nat → Option Nat} {M v m : Nat} {ws : List Nat} (h : HgtA par M v m ws) : m < M := by
  have z := nd_lenA ws (List.range M) h.nodup fun x hx => List.mem_range.mpr (h.mem.2 x hx).1
  rw [h.mem.1, List.length_range] at z
  omega
theorem hgt_ofA {M : Nat} {par : Nat → Option Nat} (up : ∀ v u, v < M → par v = some u → u < M) : ∀ (n v : Nat), v < M → par (ldr par n v) = none → ∃ m ws, HgtA par M v m ws
  | 0, v, h, e => ⟨0, _, .zero e h⟩
  | n + 1, v, h, e => by
    cases c : par v with
    | none => exact ⟨0, _, .zero c h⟩
    | some u =>
      rw [ldr_step c] at e
      obtain ⟨m, ws, g⟩ := hgt_ofA up n u (up v u h c) e
      exact ⟨m + 1, _, .succ c h g⟩
/-- no circles: these are parents -/
theorem ParOk.of_stop {M : Nat} {par : Nat → Option Nat} (up : ∀ v u, v < M → par v = some u → u < M) (st : ∀ v, v < M → par (ldr par M v) = none) : ∃ rk, ParOk M par rk := by
  have key : ∀ v, ∃ m, v < M → ∃ ws, HgtA par M v m ws := fun v => by
    by_cases h : v < M
    · obtain ⟨m, ws, g⟩ := hgt_ofA up M v h (st v h)
      exact ⟨m, fun _ => ⟨ws, g⟩⟩
    · exact ⟨0, fun z => absurd z h⟩
  refine ⟨fun v => Classical.choose (key v), ⟨fun v u hv e => ?_, fun v hv => ?_⟩⟩
  · have hu := up v u hv e
    refine ⟨hu, ?_⟩
    obtain ⟨ws, g⟩ := Classical.choose_spec (key v) hv
    obtain ⟨zs, g2⟩ := Classical.choose_spec (key u) hu
    have := g.uniq (.succ e hv g2)
    show Classical.choose (key u) < Classical.choose (key v)
    omega
  · obtain ⟨ws, g⟩ := Classical.choose_spec (key v) hv
    exact g.lt
theorem ParOk.stop {M : Nat} {par : Nat → Option Nat} {rk : Nat → Nat} (p : ParOk M par rk) {v : Nat} (hv : v < M) : par (ldr par M v) = none := (p.root hv).top
/-- the thing is parents of this web -/
def GoodP (L : List (Addr × List Int)) (M : Nat) (H : Hp) (v : V) : Prop := ∃ pa par rk, v = .ref pa ∧ H pa = some (.tup (pVs M par)) ∧ ParG M par rk L
theorem GoodP.same {L : List (Addr × List Int)} {M : Nat} {H H' : Hp} {v : V} (h : GoodP L M H v) (s : Same H H') : GoodP L M H' v := by
  obtain ⟨pa, par, rk, e, e2, g⟩ := h
  exact ⟨pa, par, rk, e, s _ _ e2, g⟩
theorem GoodP.iff {L : List (Addr × List Int)} {M : Nat} {H H' : Hp} {v : V} (k : Kd H v) (s : Same H H') : GoodP L M H v ↔ GoodP L M H' v :=
  ⟨fun h => h.same s, fun ⟨pa, par, rk, e, e2, g⟩ => by
    subst e
    exact ⟨pa, par, rk, rfl, k.tupBack s e2, g⟩⟩
theorem oV_inj {a b : Option Nat} (h : oV a = oV b) : a = b := by
  cases a with
  | none =>
    cases b with
    | none => rfl
    | some u => cases h
  | some u =>
    cases b with
    | none => cases h
    | some w =>
      have := V.int.inj h
      rw [Int.ofNat.inj this]
theorem pVs_of {M : Nat} {xs : List V} (len : xs.length = M) (h : ∀ i, i < M → ∃ o : Option Nat, xs[i]? = some (oV o)) : ∃ par, xs = pVs M par := by
  have key : ∀ i, ∃ o : Option Nat, i < M → xs[i]? = some (oV o) := fun i => by
    by_cases c : i < M
    · obtain ⟨o, e⟩ := h i c
      exact ⟨o, fun _ => e⟩
    · exact ⟨none, fun z => absurd z c⟩
  refine ⟨fun i => Classical.choose (key i), List.ext_getElem? fun i => ?_⟩
  by_cases c : i < M
  · rw [Classical.choose_spec (key i) c, pVs_get _ c]
  · rw [List.getElem?_eq_none (by omega), List.getElem?_eq_none (by rw [pVs_len]; omega)]
end Q

/-! neighbours, ways up, leaders: also of what is no parents -/
namespace Q
open PySem L2 QM
def UpM (M : Nat) (par : Nat → Option Nat) : Prop := ∀ v u, v < M → par v = some u → u < M
def spIsNbG (C : Addr) : Sp := fun vs H Q _ => ∃ (w dx q r : Addr) (m : Int) (L : List (Addr × List Int)) (bs : List Addr) (nb : Nat → List Int) (h : Nat) (v : V), vs = [.ref w, .int (h : Int), v] ∧ WebIn C m L H w dx q r bs nb ∧ h < m.toNat ∧ Kd H v ∧
  ∀ b : Bool, (b = true ↔ ∃ u : Nat, v = nI u ∧ (u : Int) < m ∧ (u : Int) ∈ nb h) → Q (.bl b) H
def spUpG : Sp := fun vs H Q _ => ∃ (pa : Addr) (M v : Nat) (par : Nat → Option Nat), vs = [.ref pa, nI v] ∧ H pa = some (.tup (pVs M par)) ∧ UpM M par ∧ v < M ∧ M ≤ 40 ∧
  ∀ (p : Addr) (pre : List Nat) (H' : Hp), Same H H' → H p = none → H' p = some (.lst ((pre ++ [LD par M v]).map nI)) → Q (.ref p) H'
def spLdsG : Sp := fun vs H Q _ => ∃ (pa : Addr) (M : Nat) (par : Nat → Option Nat), vs = [.ref pa] ∧ H pa = some (.tup (pVs M par)) ∧ UpM M par ∧ M ≤ 40 ∧
  ∀ (p : Addr) (H' : Hp), Same H H' → H' p = some (.tup (flN M fun i => (LD par M i : Int))) → Q (.ref p) H'
def spLLdG : Sp := fun vs H Q _ => ∃ (pa : Addr) (M v : Nat) (par : Nat → Option Nat), vs = [.ref pa, nI v] ∧ H pa = some (.tup (pVs M par)) ∧ UpM M par ∧ v < M ∧ M ≤ 40 ∧
  (par (LD par M v) = none → Q (nI (LD par M v)) H) ∧ (par (LD par M v) ≠ none → Q .non H)
def spLNumG : Sp := fun vs H Q _ => ∃ (v : V) (lo hi : Int), vs = [v, .int lo, .int hi] ∧ Kd H v ∧ ∀ b : Bool, (b = true ↔ ∃ i : Int, v = .int i ∧ lo ≤ i ∧ i ≤ hi) → Q (.bl b) H
section
variable {P : Program} {w : World} {K : PySem.W.Frag} {mg : Str → Option Value} {base : Heap}
theorem noint_ne {H : Hp} {v : V} (n : NoInt K H v) (i : Int) : v ≠ .int i := fun e => by
  subst e
  exact n.int
theorem ok_isnbG {f C fB : Addr} {fd dB : FuncData} (F : Fun K "is_neighbour" "is_neighbour" sIsNb f fd) (B : Bts mg) (T : WTxt K mg C) (D : WDefs K mg) (DB : Df K mg "neighbours" sNbr ["web", "house"] fB dB) : FnOk P w K mg base CX0 4 f fd ["web", "house", "thing"] (spIsNbG C) := by
  have GB : FnOk P w K mg base CX0 3 fB dB ["web", "house"] (spNbr C) := ok_nbr DB.F B T D
  have GN : FnOk P w K mg base CX0 2 D.fN D.dN ["limit", "thing"] (spNum K) := ok_num D.DN.F B D.DP
  refine F.ok scIsNb (fun vs H Q E h => ?_) (fun cdv A outer s H vs Q E hr h => ?_)
  · obtain ⟨w, dx, q, r, m, L, bs, nb, h, v, rfl, _⟩ := h
    rfl
  · obtain ⟨w, dx, q, r, m, L, bs, nb, h, v, rfl, x, lt, kd, k⟩ := h
    have hr2 : Room 2 _ := hr.mono (by decide)
    refine ⟨_, pss_one (ps_ret (pe_and (pe_call GN hr2 rfl D.DN.m D.DN.k D.DN.b .nil pass0 (pa_cons (pe_fld (pv 0) rfl) (pa_cons (pv 2) pa_nil)))
      (pe_one (pe_cmpR op_in_seq (pv 2) (pe_call GB hr rfl DB.m DB.k DB.b .nil pass0 (pa_cons (pv 0) (pa_cons (pv 1) pa_nil))) rfl)))), ?_⟩
    refine ⟨_, rfl, w, C, dx, _, _, rfl, x.at_, T.cl, T.nM, wf_many _ _ _, _, rfl, m, v, rfl, ?_⟩
    rcases kd.cl (K := K) with ⟨i, rfl⟩ | n
    · refine .inl ⟨i, rfl, _, rfl, ?_⟩
      by_cases c : 0 ≤ i ∧ i < m
      · rw [decide_eq_true c.1, decide_eq_true c.2]
        refine iteT ⟨_, rfl, _, rfl, _, rfl, w, dx, q, r, m, L, bs, nb, h, rfl, x, lt, fun t ht => ⟨t, _, rfl, .inr (SqT.of ht), rfl, flat_int _, ?_⟩⟩
        rw [if_neg Bool.false_ne_true, inV_int]
        refine k _ ⟨fun z => ⟨i.toNat, by rw [show i = ((i.toNat : Nat) : Int) from (Int.toNat_of_nonneg c.1).symm]; rfl, by omega, by rw [Int.toNat_of_nonneg c.1]; exact of_decide_eq_true z⟩, ?_⟩
        rintro ⟨u, e, _, z⟩
        rw [V.int.inj e]
        exact decide_eq_true z
      · have e : (decide (0 ≤ i) && decide (i < m)) = false := by
          by_cases c1 : 0 ≤ i
          · rw [decide_eq_true c1, decide_eq_false (fun z => c ⟨c1, z⟩)]
            rfl
          · rw [decide_eq_false c1]
            rfl
        rw [e]
        refine iteF (k _ ⟨fun z => (Bool.false_ne_true z).elim, ?_⟩)
        rintro ⟨u, e, z, _⟩
        have := V.int.inj e
        omega
    · refine .inr ⟨n, _, rfl, iteF (k _ ⟨fun z => (Bool.false_ne_true z).elim, ?_⟩)⟩
      rintro ⟨u, e, _⟩
      exact (noint_ne n _ e).elim
theorem ok_upG {f : Addr} {fd : FuncData} (F : Fun K "way_up" "way_up" sUp f fd) (B : Bts mg) : FnOk P w K mg base CX0 1 f fd ["parents", "house"] spUpG := by
  refine F.ok scUp (fun vs H Q E h => ?_) (fun cdv A outer s H vs Q E hr h => ?_)
  · obtain ⟨pa, M, v, par, rfl, _⟩ := h
    rfl
  · obtain ⟨pa, M, v, par, rfl, hp, up, hv, m40, k⟩ := h
    have nd := scUp.nd
    refine ⟨_, pss_cons (ps_set (i := 2) nd rfl (.inl rfl) (pe_lst (pa_cons (pv 1) pa_nil)))
      (pss_cons (ps_while PassesOwn.never (PW.pt (pw_and (pt_cmp (pc_notN (pe_ix ix_tup (pv 0) (pe_ix ix_list (pv 2) (pe_un un_neg pe_int) (fun _ _ => rfl)) (fun _ _ => rfl))))
          (pw_and1 (pt_cmpR op_le (pe_callB call_len_seq (by rfl) B.len PySem.boot_len (pa_cons (pv 2) pa_nil)) (pe_callB call_len_seq (by rfl) B.len PySem.boot_len (pa_cons (pv 0) pa_nil)) (nomark _)))))
        (pss_one (ps_expr (pe_bm PySem.F.plainAttrs_list PySem.F.slot_list_append PySem.F.type_list_append mt_append (pv 2) (pa_cons (pe_ix ix_tup (pv 0) (pe_ix ix_list (pv 2) (pe_un un_neg pe_int) (fun _ _ => rfl)) (fun _ _ => rfl)) pa_nil)))))
      (pss_one (ps_ret (pv 2)))), ?_⟩
    refine ⟨_, rfl, (by show 1 ≤ sizeLine; decide), fun D hD => ?_⟩
    refine ⟨fun n σ H' => ∃ (pre : List Nat) (x : Nat), σ = [some (.ref pa), some (nI v), some (.ref D)] ∧ H' D = some (.lst ((pre ++ [x]).map nI)) ∧ x < M ∧ ldr par (M - pre.length) x = LD par M v ∧ pre.length ≤ M ∧ n = M - pre.length ∧ Same H H', ⟨M, [], v, rfl, upd_same, hv, rfl, Nat.zero_le _, rfl, sN hD⟩, ?_⟩
    rintro n σ H1 ⟨pre, x, rfl, eD, hx, hw, hl, rfl, s1⟩
    have ex : atI ((pre ++ [x]).map nI) (-1) = some (nI x) := by
      rw [List.map_append]
      exact atI_last _ _
    refine ⟨_, rfl, _, rfl, _, rfl, D, _, -1, _, rfl, rfl, SqL.of eD, ex, pa, _, (x : Int), _, rfl, rfl, SqT.of (s1 _ _ hp), pVs_at par hx, _, rfl, ?_⟩
    cases e : par x with
    | none =>
      refine ite2 (fun c => absurd c (by simp [oV])) (fun _ => ?_)
      rw [ldr_stop e] at hw
      subst hw
      exact iteF ⟨_, rfl, k D pre H1 s1 hD eD⟩
    | some u =>
      have u1 := up x u hx e
      refine ite2 (fun _ => ?_) (fun c => absurd (by simp [oV, nI]) c)
      refine ⟨_, rfl, D, _, rfl, .inl (SqL.of eD), _, rfl, pa, _, rfl, .inr (SqT.of (s1 _ _ hp)), _, _, rfl, rfl, _, rfl, ?_⟩
      have el : (((pre ++ [x]).map nI).length : Int) = ((pre.length + 1 : Nat) : Int) := by
        rw [List.length_map, List.length_append]
        rfl
      rw [el, pVs_len]
      by_cases le : pre.length + 1 ≤ M
      · rw [decide_eq_true (show ((pre.length + 1 : Nat) : Int) ≤ (M : Int) by omega)]
        refine iteT ⟨_, fun σ1 H1 h => ⟨M - (pre.length + 1), (by omega), h⟩, ?_⟩
        refine ⟨_, rfl, .inl ⟨rfl, _, SqL.of eD⟩, _, rfl, _, rfl, _, rfl, D, _, -1, _, rfl, rfl, SqL.of eD, ex, pa, _, (x : Int), _, rfl, rfl, SqT.of (s1 _ _ hp), pVs_at par hx, D, _, _, rfl, rfl, eD, ?_, ?_⟩
        · rw [List.length_map, List.length_append]
          exact Nat.lt_of_lt_of_le (show pre.length + 1 < 64 by omega) (by decide)
        · refine ⟨pre ++ [x], u, rfl, ?_, u1, ?_, ?_, ?_, sNew s1 hD⟩
          · rw [upd_same, e, List.map_append (l₁ := pre ++ [x])]
            rfl
          · rw [List.length_append]
            show ldr par (M - (pre.length + 1)) u = _
            rw [← ldr_step e, ← hw, show M - (pre.length + 1) + 1 = M - pre.length by omega]
          · rw [List.length_append]
            exact le
          · rw [List.length_append]
            rfl
      · rw [decide_eq_false (show ¬ ((pre.length + 1 : Nat) : Int) ≤ (M : Int) by omega)]
        rw [show M - pre.length = 0 by omega] at hw
        have hw' : x = LD par M v := hw
        subst hw'
        exact iteF ⟨_, rfl, k D pre H1 s1 hD eD⟩
theorem ok_ldsG {f fU : Addr} {fd dU : FuncData} (F : Fun K "leaders_by" "leaders_by" sLds f fd) (B : Bts mg) (DU : Df K mg "way_up" sUp ["parents", "house"] fU dU) : FnOk P w K mg base CX0 2 f fd ["parents"] spLdsG := by
  have GU : FnOk P w K mg base CX0 1 fU dU ["parents", "house"] spUpG := ok_upG DU.F B
  refine F.ok scLds (fun vs H Q E h => ?_) (fun cdv A outer s H vs Q E hr h => ?_)
  · obtain ⟨pa, M, par, rfl, _⟩ := h
    rfl
  · obtain ⟨pa, M, par, rfl, hp, up, m40, k⟩ := h
    have nd := scLds.nd
    refine ⟨_, pss_one (ps_ret (pe_callTy call_tuple_of (by rfl) B.tuple PyProof.Rows.boot_tuple (pa_cons (pe_lc (own := [("house", 1)]) (g := gName 1) (tt := tYes) rfl nd (pi_range1 rfl B.range (pa_cons (pe_callB call_len_seq (by rfl) B.len PySem.boot_len (pa_cons (pv 0) pa_nil)) pa_nil))
      (blkOk_by (N := ["parents", "house"]) (sc := defScope sLds) (by decide +kernel)) (fun _ _ _ _ _ => pg_name (i := 1) nd rfl (.inl rfl)) (fun _ _ _ _ _ => pts_nil)
      (fun _ _ _ _ _ => pe_ix (r := rIxL K) ix_list (pe_call GU hr rfl DU.m DU.k DU.b .nil pass0 (pa_cons (pv 0) (pa_cons (pv 1) pa_nil))) (pe_un un_neg pe_int) (fun _ _ => rfl))) pa_nil))), ?_⟩
    refine ⟨_, rfl, pa, _, rfl, .inr (SqT.of hp), ?_⟩
    rw [pVs_len]
    refine ⟨(M : Int), rfl, by omega, by omega, fun D hD => lc_range (lo := 0) (n := (M : Int).toNat) (fun i H' => H' D = some (.lst (flN i fun i => (LD par M i : Int))) ∧ Same H H') ?_ ?_ ?_⟩
    · exact ⟨upd_same, sN hD⟩
    · rintro i H1 hi ⟨eD, s1⟩
      rw [Int.toNat_natCast] at hi
      rw [Int.zero_add]
      refine ⟨rfl, ?_⟩
      refine ⟨_, rfl, _, rfl, pa, M, i, par, rfl, s1 _ _ hp, up, hi, m40, fun p pre H2 s2 hp2 ep => ?_⟩
      have el : atI ((pre ++ [LD par M i]).map nI) (-1) = some (nI (LD par M i)) := by
        rw [List.map_append]
        exact atI_last _ _
      refine ⟨_, rfl, p, _, -1, _, rfl, rfl, SqL.of ep, el, _, s2 _ _ eD, ?_, ?_, sNew (sT s1 s2) hD⟩
      · rw [flN_len]
        exact Nat.lt_of_lt_of_le (show i < 64 by omega) (by decide)
      · rw [upd_same]
        unfold flN
        rw [List.range_succ, List.map_append]
        rfl
    · rintro H1 ⟨eD, s1⟩
      rw [Int.toNat_natCast] at eD
      exact ⟨D, _, rfl, .inl ⟨SqL.of eD, fun t ht => k t _ (sT s1 (sN ht)) upd_same⟩⟩
theorem ok_lldG {f : Addr} {fd : FuncData} (F : Fun K "_law_leader" "_law_leader" sLLd f fd) (B : Bts mg) : FnOk P w K mg base CX0 1 f fd ["parents", "house"] spLLdG := by
  refine F.ok scLLd (fun vs H Q E h => ?_) (fun cdv A outer s H vs Q E hr h => ?_)
  · obtain ⟨pa, M, v, par, rfl, _⟩ := h
    rfl
  · obtain ⟨pa, M, v, par, rfl, hp, up, hv, m40, k1, k2⟩ := h
    have nd := scLLd.nd
    refine ⟨_, pss_cons (ps_set (i := 2) nd rfl (.inl rfl) (pv 1))
      (pss_cons (ps_for PassesOwn.never rfl (pi_range1 rfl B.range (pa_cons (pe_op op_add (pe_callB call_len_seq (by rfl) B.len PySem.boot_len (pa_cons (pv 0) pa_nil)) pe_int) pa_nil)) (pg_name (i := 3) nd rfl (.inl rfl))
        (pss_cons (ps_if (pt_cmp (pc_isN (pe_ix ix_tup (pv 0) (pv 2) (fun _ _ => rfl)))) (pss_one (ps_ret (pv 2))) pss_nil)
        (pss_one (ps_set (i := 2) nd rfl (.inl rfl) (pe_ix ix_tup (pv 0) (pv 2) (fun _ _ => rfl))))))
      (pss_one (ps_ret pe_non))), ?_⟩
    refine ⟨_, rfl, _, rfl, pa, _, rfl, .inr (SqT.of hp), _, _, rfl, rfl, ?_⟩
    rw [pVs_len]
    refine ⟨(M : Int) + 1, rfl, by omega, by omega, for_range (lo := 0) (n := ((M : Int) + 1).toNat) (fun i σ H' => H' = H ∧ ∃ (x : Nat) (x3 : Option V), σ = [some (.ref pa), some (nI v), some (nI x), x3] ∧ x < M ∧ ((i ≤ M ∧ ldr par (M - i) x = LD par M v) ∨ (i = M + 1 ∧ par (LD par M v) ≠ none))) ?_ ?_ ?_⟩
    · exact ⟨rfl, v, none, rfl, hv, .inl ⟨Nat.zero_le _, rfl⟩⟩
    · rintro i σ H1 hi ⟨rfl, x, x3, rfl, hx, hc⟩
      have hi' : i ≤ M := by omega
      have hw : ldr par (M - i) x = LD par M v := by
        rcases hc with h | h
        · exact h.2
        · omega
      refine ⟨_, rfl, _, rfl, pa, _, (x : Int), _, rfl, rfl, SqT.of hp, pVs_at par hx, _, rfl, ?_⟩
      cases e : par x with
      | none =>
        refine ite2 (fun _ => ?_) (fun c => absurd (by simp [oV]) c)
        rw [ldr_stop e] at hw
        subst hw
        exact ⟨_, rfl, k1 e⟩
      | some u =>
        refine ite2 (fun c => absurd c (by simp [oV, nI])) (fun _ => ?_)
        refine ⟨_, rfl, _, rfl, pa, _, (x : Int), _, rfl, rfl, SqT.of hp, pVs_at par hx, ?_⟩
        rw [e]
        refine ⟨rfl, u, _, rfl, up x u hx e, ?_⟩
        by_cases c : i = M
        · refine .inr ⟨by omega, ?_⟩
          rw [c, Nat.sub_self] at hw
          have hw' : x = LD par M v := hw
          rw [← hw', e]
          exact fun z => nomatch z
        · refine .inl ⟨by omega, ?_⟩
          rw [← ldr_step e, ← hw, show M - (i + 1) + 1 = M - i by omega]
    · rintro σ H1 ⟨rfl, x, x3, rfl, hx, hc⟩
      have e : ((M : Int) + 1).toNat = M + 1 := by omega
      rw [e] at hc
      rcases hc with h | h
      · omega
      · exact k2 h.2
theorem scLNumG : FnScope ["thing", "least", "most"] ["thing", "least", "most"] (defScope sLNum) := ⟨rfl, rfl, rfl, by decide +kernel, rfl, by decide +kernel, by decide +kernel⟩
theorem ok_lnumG {f : Addr} {fd : FuncData} (F : Fun K "_law_number" "_law_number" sLNum f fd) (B : Bts mg) : FnOk P w K mg base CX0 1 f fd ["thing", "least", "most"] spLNumG := by
  refine F.ok scLNumG (fun vs H Q E h => ?_) (fun cdv A outer s H vs Q E hr h => ?_)
  · obtain ⟨v, lo, hi, rfl, _⟩ := h
    rfl
  · obtain ⟨v, lo, hi, rfl, kd, k⟩ := h
    refine ⟨_, pss_one (ps_ret (pe_and (pe_callB call_isi (by rfl) B.isinstance PyProof.Rows.boot_isinstance (pa_cons (pv 0) (pa_cons (pe_bltn (v := .ty "int") rfl B.int PyProof.Rows.boot_int rfl) pa_nil)))
      (pe_and (pe_not (pe_callB call_isi (by rfl) B.isinstance PyProof.Rows.boot_isinstance (pa_cons (pv 0) (pa_cons (pe_bltn (v := .ty "bool") rfl B.bool (by decide +kernel) rfl) pa_nil))))
        (pe_one (pe_chain op_le op_le (pv 1) (pv 0) (pv 2)))))), ?_⟩
    rcases kd.cl (K := K) with ⟨i, rfl⟩ | n
    · have k' : Q (.bl (decide (lo ≤ i) && decide (i ≤ hi))) H := k _ ⟨fun z => by
        rw [Bool.and_eq_true] at z
        exact ⟨i, rfl, of_decide_eq_true z.1, of_decide_eq_true z.2⟩, by
        rintro ⟨j, e, h1, h2⟩
        rw [V.int.inj e, decide_eq_true h1, decide_eq_true h2]
        rfl⟩
      clear k
      refine ⟨_, rfl, .int i, .ty "int", .type "int", .type "int", true, rfl, .ty _, .base (.int _), kit_ty (by decide +kernel), _, rfl, iteT ?_⟩
      refine ⟨_, rfl, .int i, .ty "bool", .type "int", .type "bool", false, rfl, .ty _, .base (.int _), kit_ty (by decide +kernel), _, rfl, _, rfl, iteT ?_⟩
      refine ⟨_, rfl, _, rfl, _, _, rfl, rfl, _, rfl, ?_⟩
      by_cases c : lo ≤ i
      · rw [decide_eq_true c] at k' ⊢
        exact iteT ⟨_, rfl, _, _, rfl, rfl, k'⟩
      · rw [decide_eq_false c] at k' ⊢
        exact iteF k'
    · have k' : Q (.bl false) H := k _ ⟨fun z => (Bool.false_ne_true z).elim, by
        rintro ⟨j, e, _⟩
        exact (noint_ne n _ e).elim⟩
      obtain ⟨t, b, c, ty, k1, k2, e⟩ := n
      refine ⟨_, rfl, v, .ty "int", t, .type "int", b, rfl, .ty _, ty, k1, _, rfl, ?_⟩
      cases b with
      | false => exact iteF k'
      | true =>
        cases c with
        | false => cases e
        | true => exact iteT ⟨_, rfl, v, .ty "bool", t, .type "bool", true, rfl, .ty _, ty, k2, _, rfl, _, rfl, iteF k'⟩
end
end Q

/-! are they parents? -/
namespace Q
open PySem L2 QM
def spArePG (C : Addr) : Sp := fun vs H Q _ => ∃ (w dx q r : Addr) (M : Nat) (L : List (Addr × List Int)) (bs : List Addr) (nb : Nat → List Int) (v : V), vs = [.ref w, v] ∧ WebIn C (M : Int) L H w dx q r bs nb ∧ NbG (GL L) M nb ∧ Wk H v ∧ M ≤ 40 ∧
  ∀ (b : Bool) H', Same H H' → (b = true ↔ GoodP L M H v) → Q (.bl b) H'
/-- the bools of a list, made one by one -/
def boL (f : Nat → Bool) (i : Nat) : List V := ((List.range i).map f).map V.bl
theorem boL_succ (f : Nat → Bool) (i : Nat) : boL f (i + 1) = boL f i ++ [V.bl (f i)] := by
  unfold boL
  rw [List.range_succ, List.map_append, List.map_append]
  rfl
theorem boL_len (f : Nat → Bool) (i : Nat) : (boL f i).length = i := by
  unfold boL
  rw [List.length_map, List.length_map, List.length_range]
theorem boL_all (f : Nat → Bool) (i : Nat) : (((List.range i).map f).all id = true) ↔ ∀ j, j < i → f j = true := by
  rw [List.all_eq_true]
  constructor
  · intro h j hj
    exact h _ (List.mem_map.mpr ⟨j, List.mem_range.mpr hj, rfl⟩)
  · intro h x hx
    obtain ⟨j, hj, rfl⟩ := List.mem_map.mp hx
    exact h j (List.mem_range.mp hj)
theorem parG_of {L : List (Addr × List Int)} {M : Nat} {par : Nat → Option Nat} (h : ∀ j, j < M → ∀ u, par j = some u → u < M ∧ GL L j u) (st : ∀ v, v < M → par (LD par M v) = none) : ∃ rk, ParG M par rk L := by
  obtain ⟨rk, p⟩ := ParOk.of_stop (par := par) (M := M) (fun v u hv e => (h v hv u e).1) st
  exact ⟨rk, p, fun v u hv e => (h v hv u e).2⟩
/-- up to i, every one is nothing or a neighbour -/
def CellsTo (L : List (Addr × List Int)) (M : Nat) (xs : List V) (i : Nat) : Prop := ∀ j, j < i → ∃ o : Option Nat, xs[j]? = some (oV o) ∧ ∀ u, o = some u → u < M ∧ GL L j u
theorem CellsTo.snoc {L : List (Addr × List Int)} {M i : Nat} {xs : List V} (h : CellsTo L M xs i) {o : Option Nat} (e : xs[i]? = some (oV o)) (g : ∀ u, o = some u → u < M ∧ GL L i u) : CellsTo L M xs (i + 1) := fun j hj => by
  by_cases c : j = i
  · subst c
    exact ⟨o, e, g⟩
  · exact h j (by omega)
theorem CellsTo.par {L : List (Addr × List Int)} {M : Nat} {xs : List V} (len : xs.length = M) (h : CellsTo L M xs M) : ∃ par, xs = pVs M par ∧ ∀ j, j < M → ∀ u, par j = some u → u < M ∧ GL L j u := by
  obtain ⟨par, e⟩ := pVs_of len fun i hi => by
    obtain ⟨o, e, _⟩ := h i hi
    exact ⟨o, e⟩
  refine ⟨par, e, fun j hj u eu => ?_⟩
  obtain ⟨o, e2, g⟩ := h j hj
  rw [e, pVs_get par hj] at e2
  have := oV_inj (Option.some.inj e2)
  exact g u (by rw [← this]; exact eu)
theorem goodP_at {L : List (Addr × List Int)} {M : Nat} {H : Hp} {pa : Addr} {xs : List V} (hp : H pa = some (.tup xs)) (g : GoodP L M H (.ref pa)) : ∃ par rk, xs = pVs M par ∧ ParG M par rk L := by
  obtain ⟨pa', par, rk, e, e2, h⟩ := g
  cases e
  rw [hp] at e2
  exact ⟨par, rk, HO.tup.inj (Option.some.inj e2), h⟩
theorem goodP_cell {L : List (Addr × List Int)} {M i : Nat} {H : Hp} {pa : Addr} {xs : List V} {v : V} (hp : H pa = some (.tup xs)) (g : GoodP L M H (.ref pa)) (hi : i < M) (hv : xs[i]? = some v) (nn : v ≠ .non) : ∃ u : Nat, v = nI u ∧ u < M ∧ GL L i u := by
  obtain ⟨par, rk, e, pg⟩ := goodP_at hp g
  rw [e, pVs_get par hi] at hv
  obtain rfl := Option.some.inj hv
  cases c : par i with
  | none =>
    rw [c] at nn
    exact absurd rfl nn
  | some u => exact ⟨u, rfl, (pg.1.up i u hi c).1, pg.2 i u hi c⟩
section
variable {P : Program} {w : World} {K : PySem.W.Frag} {mg : Str → Option Value} {base : Heap}
theorem scArePG : FnScope ["web", "thing", "house", "parent", "leader"] ["web", "thing"] (defScope sAreP) := ⟨rfl, rfl, rfl, by decide +kernel, rfl, by decide +kernel, by decide +kernel⟩
theorem ok_arepG {f C fB fI fU fL : Addr} {fd dB dI dU dL : FuncData} (F : Fun K "are_parents" "are_parents" sAreP f fd) (B : Bts mg) (ha : mg "all" = none) (T : WTxt K mg C) (D : WDefs K mg) (DB : Df K mg "neighbours" sNbr ["web", "house"] fB dB)
    (DI : Df K mg "is_neighbour" sIsNb ["web", "house", "thing"] fI dI) (DU : Df K mg "way_up" sUp ["parents", "house"] fU dU) (DL : Df K mg "leaders_by" sLds ["parents"] fL dL) : FnOk P w K mg base CX0 5 f fd ["web", "thing"] (spArePG C) := by
  have GI : FnOk P w K mg base CX0 4 fI dI ["web", "house", "thing"] (spIsNbG C) := ok_isnbG DI.F B T D DB
  have GL' : FnOk P w K mg base CX0 2 fL dL ["parents"] spLdsG := ok_ldsG DL.F B DU
  refine F.ok scArePG (fun vs H Q E h => ?_) (fun cdv A outer s H vs Q E hr h => ?_)
  · obtain ⟨w, dx, q, r, M, L, bs, nb, v, rfl, _⟩ := h
    rfl
  · obtain ⟨w, dx, q, r, M, L, bs, nb, v, rfl, x, hg, wk, m40, k⟩ := h
    have nd := scArePG.nd
    have hr2 : Room 2 _ := hr.mono (by decide)
    refine ⟨_, pss_cons (ps_if (PW.pt (pw_or (pt_not (pt_val (pe_callB call_isi (by rfl) B.isinstance PyProof.Rows.boot_isinstance (pa_cons (pv 1) (pa_cons (pe_bltn (v := .ty "tuple") rfl B.tuple PyProof.Rows.boot_tuple rfl) pa_nil)))))
        (pw_or1 (pt_cmpR op_ne (pe_callB call_len_seq (by rfl) B.len PySem.boot_len (pa_cons (pv 1) pa_nil)) (pe_fld (pv 0) rfl) (nomark _))))) (pss_one (ps_ret pe_bl)) pss_nil)
      (pss_cons (ps_for PassesOwn.never rfl (pi_enumT rfl B.enumerate (pa_cons (pv 1) pa_nil)) (pg_tup rfl (pgs_cons (pg_name (i := 2) nd rfl (.inl rfl)) (pgs_cons (pg_name (i := 3) nd rfl (.inl rfl)) pgs_nil)))
        (pss_one (ps_if (PW.pt (pw_and (pt_cmp (pc_notN (pv 3))) (pw_and1 (pt_not (pt_val (pe_call GI hr rfl DI.m DI.k DI.b .nil pass0 (pa_cons (pv 0) (pa_cons (pv 2) (pa_cons (pv 3) pa_nil))))))))) (pss_one (ps_ret pe_bl)) pss_nil)))
      (pss_one (ps_ret (pe_callB (cr_all rfl) (by rfl) ha PyProof.Rows.boot_all (pa_cons (pe_lc (own := [("leader", 4)]) (g := gName 4) (tt := tYes) rfl nd (pi_tup (pe_call GL' hr2 rfl DL.m DL.k DL.b .nil pass0 (pa_cons (pv 1) pa_nil)))
        (blkOk_by (N := ["web", "thing", "house", "parent", "leader"]) (sc := defScope sAreP) (by decide +kernel)) (fun _ _ _ _ _ => pg_name (i := 4) nd rfl (.inl rfl)) (fun _ _ _ _ _ => pts_nil)
        (fun _ _ _ _ _ => pe_cmp (pc_isN (pe_ix (r := rIxT K) ix_tup (pv 1) (pv 4) (fun _ _ => rfl))))) pa_nil))))), ?_⟩
    have rs : Same H H := fun _ _ e => e
    obtain ⟨t, b, ty, kb, cs⟩ := wk.kd.tyT (K := K)
    refine ⟨_, rfl, v, .ty "tuple", t, .type "tuple", b, rfl, .ty _, ty, kb, _, rfl, ?_⟩
    rcases cs with ⟨rfl, pa, xs, rfl, hp⟩ | ⟨rfl, no⟩
    rotate_left
    · refine iteT (k false H rs ⟨(fun z => nomatch z), ?_⟩)
      rintro ⟨pa, par, rk, e, e2, _⟩
      exact (no _ _ e e2).elim
    refine iteF ?_
    obtain ⟨l4000, wi⟩ := wk.items hp
    refine ⟨_, rfl, pa, _, rfl, .inr (SqT.of hp), _, rfl, w, C, dx, _, _, rfl, x.at_, T.cl, T.nM, wf_many _ _ _, rfl, _, rfl, ?_⟩
    by_cases len : xs.length = M
    rotate_left
    · rw [decide_eq_false (fun z => len (by have := V.int.inj z; omega))]
      refine iteT (k false H rs ⟨(fun z => nomatch z), fun g => ?_⟩)
      obtain ⟨par, rk, e, _⟩ := goodP_at hp g
      exact (len (by rw [e, pVs_len])).elim
    rw [len, decide_eq_true (rfl : V.int (M : Int) = V.int (M : Int))]
    refine iteF ?_
    refine ⟨_, rfl, pa, _, rfl, SqT.of hp, for_enT (a := pa) (xs := xs) (fun i σ H' => ∃ (x2 x3 : Option V), σ = [some (.ref w), some (.ref pa), x2, x3, none] ∧ Same H H' ∧ CellsTo L M xs i) ?_ ?_ ?_ ?_⟩
    · exact ⟨none, none, rfl, rs, fun j hj => absurd hj (Nat.not_lt_zero _)⟩
    · rintro i σ H1 hi ⟨x2, x3, rfl, s1, _⟩
      exact SqT.of (s1 _ _ hp)
    · rintro i v T' σ H1 hv ⟨x2, x3, rfl, s1, ct⟩ hT
      have hi : i < M := by
        have z := (List.getElem?_eq_some_iff.mp hv).1
        rw [len] at z
        exact z
      have wv := wi v (List.mem_of_getElem? hv)
      have s2 := sT s1 (sN (o := .tup [.int (i : Nat), v]) hT)
      refine ⟨T', _, rfl, SqT.of upd_same, rfl, _, _, rfl, _, _, rfl, rfl, ?_⟩
      refine ⟨_, rfl, _, rfl, ?_⟩
      refine ite2 (fun c => ?_) (fun c => ?_)
      · have nn : v ≠ .non := by
          rintro rfl
          simp at c
        refine ⟨_, rfl, _, rfl, _, rfl, w, dx, q, r, (M : Int), L, bs, nb, i, v, rfl, x.same s2, by omega, wv.kd.same s2, fun b hb => ⟨_, rfl, ?_⟩⟩
        cases b with
        | true =>
          obtain ⟨u, e, u1, u2⟩ := hb.mp rfl
          obtain ⟨u', eu, g⟩ := (hg i hi _).mp u2
          obtain rfl := Int.ofNat.inj eu
          exact iteF ⟨_, _, rfl, s2, ct.snoc (o := some u) (by rw [hv, e]; rfl) fun u' e' => by
            cases e'
            exact ⟨by omega, g⟩⟩
        | false =>
          refine iteT (k false _ s2 ⟨(fun z => nomatch z), fun g => ?_⟩)
          obtain ⟨u, e, u1, u2⟩ := goodP_cell hp g hi hv nn
          exact hb.mpr ⟨u, e, by omega, (hg i hi _).mpr ⟨u, rfl, u2⟩⟩
      · have ev : v = .non := by
          by_cases z : v = .non
          · exact z
          · exact absurd (by simp [z]) c
        subst ev
        exact iteF ⟨_, _, rfl, s2, ct.snoc (o := none) hv fun u' e' => nomatch e'⟩
    · rintro σ H1 ⟨x2, x3, rfl, s1, ct⟩
      rw [len] at ct
      obtain ⟨par, rfl, hu⟩ := CellsTo.par len ct
      refine ⟨_, rfl, pa, M, par, rfl, s1 _ _ hp, fun v u hv e => (hu v hv u e).1, m40, fun la H2 s2 hla => ?_⟩
      refine ⟨la, rfl, ⟨_, SqT.of hla⟩, fun D0 hD0 => lc_tup (K := K) (a := la) (xs := flN M fun i => (LD par M i : Int)) (fun i H' => H' D0 = some (.lst (boL (fun j => (par (LD par M j)).isNone) i)) ∧ Same H2 H') ?_ ?_ ?_ ?_⟩
      · exact ⟨upd_same, sN hD0⟩
      · rintro i H3 hi ⟨_, s3⟩
        exact SqT.of (s3 _ _ hla)
      · rintro i v H3 hv ⟨eD, s3⟩
        have hi : i < M := by
          have z := (List.getElem?_eq_some_iff.mp hv).1
          rw [flN_len] at z
          exact z
        rw [flN_at _ hi] at hv
        obtain rfl := Option.some.inj hv
        have lt : LD par M i < M := ldr_lt (fun v u hv e => (hu v hv u e).1) M i hi
        refine ⟨rfl, _, rfl, _, rfl, pa, _, (LD par M i : Int), _, rfl, rfl, SqT.of (s3 _ _ (s2 _ _ (s1 _ _ hp))), pVs_at par lt, ?_⟩
        refine ⟨_, eD, ?_, ?_, sNew s3 hD0⟩
        · rw [boL_len]
          exact Nat.lt_of_lt_of_le (show i < 64 by omega) (by decide)
        · rw [upd_same, boL_succ]
          cases par (LD par M i) with
          | none => rfl
          | some u => rfl
      · rintro H3 ⟨eD, s3⟩
        rw [flN_len] at eD
        refine ⟨D0, (List.range M).map fun j => (par (LD par M j)).isNone, rfl, SqL.of eD, ?_⟩
        refine k _ _ (sT s1 (sT s2 s3)) ?_
        rw [boL_all]
        constructor
        · intro h
          obtain ⟨rk, pg⟩ := parG_of hu fun v hv => by
            have := h v hv
            cases e : par (LD par M v) with
            | none => rfl
            | some u => rw [e] at this; cases this
          exact ⟨pa, par, rk, rfl, hp, pg⟩
        · intro g j hj
          obtain ⟨par', rk, e, pg⟩ := goodP_at hp g
          have ep : ∀ i, i < M → par i = par' i := fun i hi => oV_inj (Option.some.inj (by rw [← pVs_get par hi, ← pVs_get par' hi, e]))
          have el : ∀ n v, v < M → ldr par n v = ldr par' n v := fun n => by
            induction n with
            | zero => exact fun v _ => rfl
            | succ n ih =>
              intro v hv
              cases c : par v with
              | none => rw [ldr_stop c, ldr_stop (by rw [← ep v hv]; exact c)]
              | some u => rw [ldr_step c, ldr_step (par := par') (by rw [← ep v hv]; exact c), ih u (hu v hv u c).1]
          have := pg.1.stop hj
          have e2 : LD par M j = LD par' M j := el M j hj
          show (par (LD par M j)).isNone = true
          rw [e2, ep _ (pg.1.lt hj)]
          have z : par' (LD par' M j) = none := pg.1.stop hj
          rw [z]
          rfl
end
end Q

/-! are they parents? the law's own account -/
namespace Q
open PySem L2 QM
def spLArePG : Sp := fun vs H Q _ => ∃ (W q : Addr) (M : Nat) (L : List (Addr × List Int)) (v : V), vs = [.ref W, v] ∧ LWeb H W q (M : Int) L ∧ Wk H v ∧ M ≤ 40 ∧ ∀ (b : Bool) H', Same H H' → (b = true ↔ GoodP L M H v) → Q (.bl b) H'
theorem ldr_congr {M : Nat} {par par' : Nat → Option Nat} (up : UpM M par) (ep : ∀ i, i < M → par i = par' i) : ∀ n v, v < M → ldr par n v = ldr par' n v
  | 0, _, _ => rfl
  | n + 1, v, hv => by
    cases c : par v with
    | none => rw [ldr_stop c, ldr_stop (by rw [← ep v hv]; exact c)]
    | some u => rw [ldr_step c, ldr_step (par := par') (by rw [← ep v hv]; exact c), ldr_congr up ep n u (up v u hv c)]
theorem goodP_iff {L : List (Addr × List Int)} {M : Nat} {H : Hp} {pa : Addr} {par : Nat → Option Nat} (hp : H pa = some (.tup (pVs M par))) (hu : ∀ j, j < M → ∀ u, par j = some u → u < M ∧ GL L j u) : GoodP L M H (.ref pa) ↔ ∀ j, j < M → par (LD par M j) = none := by
  constructor
  · intro g j hj
    obtain ⟨par', rk, e, pg⟩ := goodP_at hp g
    have ep : ∀ i, i < M → par i = par' i := fun i hi => oV_inj (Option.some.inj (by rw [← pVs_get par hi, ← pVs_get par' hi, e]))
    have e2 : LD par M j = LD par' M j := ldr_congr (fun v u hv e => (hu v hv u e).1) ep M j hj
    have z : par' (LD par' M j) = none := pg.1.stop hj
    rw [e2, ep _ (pg.1.lt hj), z]
  · intro h
    obtain ⟨rk, pg⟩ := parG_of hu h
    exact ⟨pa, par, rk, rfl, hp, pg⟩
section
variable {P : Program} {w : World} {K : PySem.W.Frag} {mg : Str → Option Value} {base : Heap}
theorem scLArePG : FnScope ["web", "thing", "house"] ["web", "thing"] (defScope sLAreP) := ⟨rfl, rfl, rfl, by decide +kernel, rfl, by decide +kernel, by decide +kernel⟩
theorem ok_larepG {f fN fB fL : Addr} {fd dN dB dL : FuncData} (F : Fun K "_law_are_parents" "_law_are_parents" sLAreP f fd) (B : Bts mg) (ha : mg "all" = none) (DN : Df K mg "_law_number" sLNum ["thing", "least", "most"] fN dN)
    (DB : Df K mg "_law_beside" sLBes ["web", "house"] fB dB) (DL : Df K mg "_law_leader" sLLd ["parents", "house"] fL dL) : FnOk P w K mg base CX0 2 f fd ["web", "thing"] spLArePG := by
  have GN : FnOk P w K mg base CX0 1 fN dN ["thing", "least", "most"] spLNumG := ok_lnumG DN.F B
  have GB : FnOk P w K mg base CX0 1 fB dB ["web", "house"] spLBes := ok_lbes DB.F B
  have GD : FnOk P w K mg base CX0 1 fL dL ["parents", "house"] spLLdG := ok_lldG DL.F B
  refine F.ok scLArePG (fun vs H Q E h => ?_) (fun cdv A outer s H vs Q E hr h => ?_)
  · obtain ⟨W, q, M, L, v, rfl, _⟩ := h
    rfl
  · obtain ⟨W, q, M, L, v, rfl, lw, wk, m40, k⟩ := h
    have nd := scLArePG.nd
    have rs : Same H H := fun _ _ e => e
    have eM : ((M : Int)).toNat = M := Int.toNat_natCast M
    refine ⟨_, pss_cons (ps_if (PW.pt (pw_or (pt_not (pt_val (pe_callB call_isi (by rfl) B.isinstance PyProof.Rows.boot_isinstance (pa_cons (pv 1) (pa_cons (pe_bltn (v := .ty "tuple") rfl B.tuple PyProof.Rows.boot_tuple rfl) pa_nil)))))
        (pw_or1 (pt_cmpR op_ne (pe_callB call_len_seq (by rfl) B.len PySem.boot_len (pa_cons (pv 1) pa_nil)) (pe_ix ix_tup (pv 0) pe_int (fun _ _ => rfl)) (nomark _))))) (pss_one (ps_ret pe_bl)) pss_nil)
      (pss_cons (ps_for PassesOwn.never rfl (pi_range1 rfl B.range (pa_cons (pe_ix ix_tup (pv 0) pe_int (fun _ _ => rfl)) pa_nil)) (pg_name (i := 2) nd rfl (.inl rfl))
        (pss_cons (ps_if (PW.pt (pw_and (pt_cmp (pc_notN (pe_ix ix_tup (pv 1) (pv 2) (fun _ _ => rfl)))) (pw_and1 (pt_not (pt_val (pe_call GN hr rfl DN.m DN.k DN.b .nil pass0 (pa_cons (pe_ix ix_tup (pv 1) (pv 2) (fun _ _ => rfl)) (pa_cons pe_int (pa_cons (pe_op op_sub (pe_ix ix_tup (pv 0) pe_int (fun _ _ => rfl)) pe_int) pa_nil))))))))) (pss_one (ps_ret pe_bl)) pss_nil)
        (pss_one (ps_if (PW.pt (pw_and (pt_cmp (pc_notN (pe_ix ix_tup (pv 1) (pv 2) (fun _ _ => rfl)))) (pw_and1 (pt_cmpR op_notIn_seq (pe_ix ix_tup (pv 1) (pv 2) (fun _ _ => rfl)) (pe_call GB hr rfl DB.m DB.k DB.b .nil pass0 (pa_cons (pv 0) (pa_cons (pv 2) pa_nil))) rfl)))) (pss_one (ps_ret pe_bl)) pss_nil))))
      (pss_one (ps_ret (pe_callB (cr_all rfl) (by rfl) ha PyProof.Rows.boot_all (pa_cons (pe_lc (own := [("house", 2)]) (g := gName 2) (tt := tYes) rfl nd (pi_range1 rfl B.range (pa_cons (pe_ix ix_tup (pv 0) pe_int (fun _ _ => rfl)) pa_nil))
        (blkOk_by (N := ["web", "thing", "house"]) (sc := defScope sLAreP) (by decide +kernel)) (fun _ _ _ _ _ => pg_name (i := 2) nd rfl (.inl rfl)) (fun _ _ _ _ _ => pts_nil)
        (fun _ _ _ _ _ => pe_cmp (pc_notN (pe_call GD hr rfl DL.m DL.k DL.b .nil pass0 (pa_cons (pv 1) (pa_cons (pv 2) pa_nil)))))) pa_nil))))), ?_⟩
    obtain ⟨t, b, ty, kb, cs⟩ := wk.kd.tyT (K := K)
    refine ⟨_, rfl, v, .ty "tuple", t, .type "tuple", b, rfl, .ty _, ty, kb, _, rfl, ?_⟩
    rcases cs with ⟨rfl, pa, xs, rfl, hp⟩ | ⟨rfl, no⟩
    rotate_left
    · refine iteT (k false H rs ⟨(fun z => nomatch z), ?_⟩)
      rintro ⟨pa, par, rk, e, e2, _⟩
      exact (no _ _ e e2).elim
    refine iteF ?_
    obtain ⟨l4000, wi⟩ := wk.items hp
    refine ⟨_, rfl, pa, _, rfl, .inr (SqT.of hp), _, rfl, W, _, 0, _, rfl, rfl, SqT.of lw.1, rfl, rfl, _, rfl, ?_⟩
    by_cases len : xs.length = M
    rotate_left
    · rw [decide_eq_false (fun z => len (by have := V.int.inj z; omega))]
      refine iteT (k false H rs ⟨(fun z => nomatch z), fun g => ?_⟩)
      obtain ⟨par, rk, e, _⟩ := goodP_at hp g
      exact (len (by rw [e, pVs_len])).elim
    rw [len, decide_eq_true (rfl : V.int (M : Int) = V.int (M : Int))]
    refine iteF ?_
    refine ⟨_, rfl, W, _, 0, _, rfl, rfl, SqT.of lw.1, rfl, (M : Int), rfl, by omega, by omega, for_range (lo := 0) (n := (M : Int).toNat) (fun i σ H' => ∃ x2 : Option V, σ = [some (.ref W), some (.ref pa), x2] ∧ Same H H' ∧ CellsTo L M xs i) ?_ ?_ ?_⟩
    · exact ⟨none, rfl, rs, fun j hj => absurd hj (Nat.not_lt_zero _)⟩
    · rintro i σ H1 hi ⟨x2, rfl, s1, ct⟩
      rw [eM] at hi
      rw [Int.zero_add]
      obtain ⟨v, hv⟩ : ∃ v, xs[i]? = some v := ⟨_, List.getElem?_eq_getElem (by omega)⟩
      have wv := wi v (List.mem_of_getElem? hv)
      have ix : atI xs (i : Int) = some v := atI_nat hv
      refine ⟨_, rfl, _, rfl, pa, _, (i : Int), _, rfl, rfl, SqT.of (s1 _ _ hp), ix, _, rfl, ?_⟩
      refine ite2 (fun c => ?_) (fun c => ?_)
      · have nn : v ≠ .non := by
          rintro rfl
          simp at c
        refine ⟨_, rfl, _, rfl, pa, _, (i : Int), _, rfl, rfl, SqT.of (s1 _ _ hp), ix, _, rfl, W, _, 0, _, rfl, rfl, SqT.of (s1 _ _ lw.1), rfl, _, _, rfl, rfl, ?_⟩
        refine ⟨v, 0, (M : Int) - 1, rfl, wv.kd.same s1, fun b hb => ⟨_, rfl, ?_⟩⟩
        cases b with
        | false =>
          refine iteT (k false _ s1 ⟨(fun z => nomatch z), fun g => ?_⟩)
          obtain ⟨u, e, u1, u2⟩ := goodP_cell hp g hi hv nn
          exact hb.mpr ⟨u, e, by omega, by omega⟩
        | true =>
          obtain ⟨z, rfl, z0, z1⟩ := hb.mp rfl
          obtain ⟨u, rfl⟩ : ∃ u : Nat, z = (u : Int) := ⟨z.toNat, by omega⟩
          refine iteF ⟨_, rfl, _, rfl, pa, _, (i : Int), _, rfl, rfl, SqT.of (s1 _ _ hp), ix, _, rfl, ?_⟩
          refine ite2 (fun _ => ?_) (fun c => absurd (by simp) c)
          refine ⟨_, rfl, _, rfl, pa, _, (i : Int), _, rfl, rfl, SqT.of (s1 _ _ hp), ix, _, rfl, _, rfl, W, q, (M : Int), (i : Int), L, rfl, lw.same s1, fun p ns H2 s2 hp2 ep _ mem => ?_⟩
          refine ⟨p, _, rfl, .inl (SqL.of ep), rfl, flat_int _, _, rfl, ?_⟩
          rw [if_pos rfl, inV_int]
          have s12 := sT s1 s2
          by_cases g : GL L i u
          · rw [decide_eq_true ((mem (u : Int)).mpr g)]
            exact iteF ⟨_, rfl, s12, ct.snoc (o := some u) hv fun u' e' => by
              cases e'
              exact ⟨by omega, g⟩⟩
          · rw [decide_eq_false (fun z => g ((mem (u : Int)).mp z))]
            refine iteT (k false _ s12 ⟨(fun z => nomatch z), fun gg => ?_⟩)
            obtain ⟨u', e, _, u2⟩ := goodP_cell hp gg hi hv nn
            obtain rfl := Int.ofNat.inj (V.int.inj e)
            exact absurd u2 g
      · have ev : v = .non := by
          by_cases z : v = .non
          · exact z
          · exact absurd (by simp [z]) c
        subst ev
        refine iteF ⟨_, rfl, _, rfl, pa, _, (i : Int), _, rfl, rfl, SqT.of (s1 _ _ hp), ix, _, rfl, ?_⟩
        refine ite2 (fun c => absurd c (by simp)) (fun _ => ?_)
        exact iteF ⟨_, rfl, s1, ct.snoc (o := none) hv fun u' e' => nomatch e'⟩
    · rintro σ H1 ⟨x2, rfl, s1, ct⟩
      rw [eM] at ct
      obtain ⟨par, rfl, hu⟩ := CellsTo.par len ct
      refine ⟨_, rfl, W, _, 0, _, rfl, rfl, SqT.of (s1 _ _ lw.1), rfl, (M : Int), rfl, by omega, by omega, fun D0 hD0 => lc_range (lo := 0) (n := (M : Int).toNat) (fun i H' => H' D0 = some (.lst (boL (fun j => (par (LD par M j)).isNone) i)) ∧ Same H1 H') ?_ ?_ ?_⟩
      · exact ⟨upd_same, sN hD0⟩
      · rintro i H3 hi ⟨eD, s3⟩
        rw [eM] at hi
        rw [Int.zero_add]
        have fin : ∀ b : Bool, b = (par (LD par M i)).isNone → ∃ acc, H3 D0 = some (.lst acc) ∧ acc.length < sizeLine ∧ (upd H3 D0 (.lst (acc ++ [V.bl b]))) D0 = some (.lst (boL (fun j => (par (LD par M j)).isNone) (i + 1))) ∧ Same H1 (upd H3 D0 (.lst (acc ++ [V.bl b]))) := by
          rintro b rfl
          refine ⟨_, eD, ?_, ?_, sNew s3 hD0⟩
          · rw [boL_len]
            exact Nat.lt_of_lt_of_le (show i < 64 by omega) (by decide)
          · rw [upd_same, boL_succ]
        refine ⟨rfl, _, rfl, _, rfl, pa, M, i, par, rfl, s3 _ _ (s1 _ _ hp), fun v u hv e => (hu v hv u e).1, hi, m40, fun e => ?_, fun e => ?_⟩
        · exact fin true (by rw [e]; rfl)
        · refine fin false ?_
          cases c : par (LD par M i) with
          | none => exact absurd c e
          | some u => rfl
      · rintro H3 ⟨eD, s3⟩
        rw [eM] at eD
        refine ⟨D0, (List.range M).map fun j => (par (LD par M j)).isNone, rfl, SqL.of eD, ?_⟩
        refine k _ _ (sT s1 s3) ?_
        rw [boL_all, goodP_iff hp hu]
        constructor
        · intro h j hj
          have := h j hj
          cases e : par (LD par M j) with
          | none => rfl
          | some u => rw [e] at this; cases this
        · intro h j hj
          rw [h j hj]
          rfl
end
end Q

/-! ties, or not; ascending, or not -/
namespace Q
open PySem L2 QM
def TieV (m : Int) (H : Hp) (v : V) : Prop := ∃ (t : Addr) (a b : Int), v = .ref t ∧ H t = some (.tup [.int a, .int b]) ∧ 0 ≤ a ∧ a < b ∧ b < m
theorem TieV.same {m : Int} {H H' : Hp} {v : V} (h : TieV m H v) (s : Same H H') : TieV m H' v := by
  obtain ⟨t, a, b, e, e2, r⟩ := h
  exact ⟨t, a, b, e, s _ _ e2, r⟩
theorem TieV.back {m : Int} {H H' : Hp} {v : V} (k : Kd H v) (s : Same H H') (h : TieV m H' v) : TieV m H v := by
  obtain ⟨t, a, b, e, e2, r⟩ := h
  subst e
  exact ⟨t, a, b, rfl, k.tupBack s e2, r⟩
def spTieG : Sp := fun vs H Q _ => ∃ (m : Int) (v : V), vs = [.int m, v] ∧ Wk H v ∧ ∀ b : Bool, (b = true ↔ TieV m H v) → Q (.bl b) H
def spAscG : Sp := fun vs H Q _ => ∃ (t : Addr) (T : List (Addr × List Int)), vs = [.ref t] ∧ H t = some (.tup (T.map fun p => V.ref p.1)) ∧ (∀ p ∈ T, H p.1 = some (.tup (p.2.map V.int))) ∧ (∀ p ∈ T, ∃ a b : Int, p.2 = [a, b]) ∧ T.length ≤ 4000 ∧
  ∀ (c : Bool) H', Same H H' → (c = true ↔ T.Pairwise (fun x y => ltP x.2 y.2)) → Q (.bl c) H'
theorem lexLt_iff {a b c d : Int} : HT.lexLt [a, b] [c, d] = true ↔ ltP [a, b] [c, d] := by
  constructor
  · intro h
    have h' : (if a = c then (if b = d then HT.lexLt [] [] else decide (b < d)) else decide (a < c)) = true := h
    refine ⟨a, b, c, d, rfl, rfl, ?_⟩
    by_cases e : a = c
    · rw [if_pos e] at h'
      by_cases e2 : b = d
      · rw [if_pos e2] at h'
        cases h'
      · rw [if_neg e2] at h'
        exact .inr ⟨e, of_decide_eq_true h'⟩
    · rw [if_neg e] at h'
      exact .inl (of_decide_eq_true h')
  · exact lexLt_of
theorem adj_pair {α : Type} {R : α → α → Prop} (tr : ∀ x y z, R x y → R y z → R x z) : ∀ (T : List α), (∀ i p r, T[i]? = some p → T[i + 1]? = some r → R p r) → T.Pairwise R
  | [], _ => .nil
  | [x], _ => List.pairwise_singleton _ _
  | x :: y :: r, h => by
    have ih := adj_pair tr (y :: r) fun i p q e1 e2 => h (i + 1) p q e1 e2
    refine List.pairwise_cons.mpr ⟨fun z hz => ?_, ih⟩
    have h0 := h 0 x y rfl rfl
    rcases List.mem_cons.mp hz with rfl | hz
    · exact h0
    · exact tr _ _ _ h0 ((List.pairwise_cons.mp ih).1 z hz)
section
variable {P : Program} {w : World} {K : PySem.W.Frag} {mg : Str → Option Value} {base : Heap}
theorem ok_tieG {f fP fN : Addr} {fd fdP fdN : FuncData} (F : Fun K "is_tie" "is_tie" sTie f fd) (B : Bts mg) (DP : Df K mg "is_plain_int" sPlain ["thing"] fP fdP) (DN : Df K mg "is_number_below" sNum ["limit", "thing"] fN fdN) : FnOk P w K mg base CX0 3 f fd ["many", "thing"] spTieG := by
  have GN : FnOk P w K mg base CX0 2 fN fdN ["limit", "thing"] (spNum K) := ok_num DN.F B DP
  refine F.ok scTie (fun vs H Q E h => ?_) (fun cdv A outer s H vs Q E hr h => ?_)
  · obtain ⟨m, v, rfl, _⟩ := h
    rfl
  · obtain ⟨m, v, rfl, wk, k⟩ := h
    have nd := scTie.nd
    refine ⟨_, pss_cons (ps_if (PW.pt (pw_or (pt_not (pt_val (pe_callB call_isi (by rfl) B.isinstance PyProof.Rows.boot_isinstance (pa_cons (pv 1) (pa_cons (pe_bltn (v := .ty "tuple") rfl B.tuple PyProof.Rows.boot_tuple rfl) pa_nil)))))
        (pw_or1 (pt_cmpR op_ne (pe_callB call_len_seq (by rfl) B.len PySem.boot_len (pa_cons (pv 1) pa_nil)) pe_int (nomark _))))) (pss_one (ps_ret pe_bl)) pss_nil)
      (pss_cons (ps_asg (pv 1) (pg_tup rfl (pgs_cons (pg_name (i := 2) nd rfl (.inl rfl)) (pgs_cons (pg_name (i := 3) nd rfl (.inl rfl)) pgs_nil))))
      (pss_one (ps_ret (pe_and (pe_call GN hr rfl DN.m DN.k DN.b .nil pass0 (pa_cons (pv 0) (pa_cons (pv 2) pa_nil)))
        (pe_and (pe_call GN hr rfl DN.m DN.k DN.b .nil pass0 (pa_cons (pv 0) (pa_cons (pv 3) pa_nil))) (pe_one (pe_cmpR op_lt (pv 2) (pv 3) (nomark _)))))))), ?_⟩
    obtain ⟨t, b, ty, kb, cs⟩ := wk.kd.tyT (K := K)
    refine ⟨_, rfl, v, .ty "tuple", t, .type "tuple", b, rfl, .ty _, ty, kb, _, rfl, ?_⟩
    rcases cs with ⟨rfl, q, xs, rfl, hq⟩ | ⟨rfl, no⟩
    rotate_left
    · refine iteT (k false ⟨(fun z => nomatch z), ?_⟩)
      rintro ⟨q, a, c, e, e2, _⟩
      exact (no _ _ e e2).elim
    obtain ⟨l4000, wi⟩ := wk.items hq
    refine iteF ⟨_, rfl, q, _, rfl, .inr (SqT.of hq), rfl, _, rfl, ?_⟩
    have shut : ∀ {R : Prop}, TieV m H (.ref q) → (∀ a c : Int, xs = [.int a, .int c] → 0 ≤ a → a < c → c < m → R) → R := fun h f => by
      obtain ⟨q', a, c, e, e2, h0, h1, h2⟩ := h
      cases e
      rw [hq] at e2
      exact f a c (HO.tup.inj (Option.some.inj e2)) h0 h1 h2
    by_cases len : xs.length = 2
    rotate_left
    · rw [decide_eq_false (fun z => len (by have := V.int.inj z; omega))]
      exact iteT (k false ⟨(fun z => nomatch z), fun h => shut h fun a c e _ _ _ => absurd (by rw [e]; rfl) len⟩)
    obtain ⟨y, z, rfl⟩ : ∃ y z, xs = [y, z] := by
      match xs, len with
      | [y, z], _ => exact ⟨y, z, rfl⟩
    have wy := wi y List.mem_cons_self
    have wz := wi z (List.mem_cons_of_mem _ List.mem_cons_self)
    refine iteF ?_
    refine ⟨_, rfl, q, _, rfl, SqT.of hq, rfl, _, _, rfl, _, _, rfl, rfl, ?_⟩
    have nb : ∀ i : Int, (decide (0 ≤ i) && decide (i < m)) = true ∧ 0 ≤ i ∧ i < m ∨ (decide (0 ≤ i) && decide (i < m)) = false ∧ ¬ (0 ≤ i ∧ i < m) := fun i => by
      by_cases c : 0 ≤ i ∧ i < m
      · exact .inl ⟨by rw [decide_eq_true c.1, decide_eq_true c.2]; rfl, c⟩
      · refine .inr ⟨?_, c⟩
        cases e : (decide (0 ≤ i) && decide (i < m)) with
        | false => rfl
        | true =>
          rw [Bool.and_eq_true] at e
          exact absurd ⟨of_decide_eq_true e.1, of_decide_eq_true e.2⟩ c
    rcases wy.kd.cl (K := K) with ⟨a, rfl⟩ | n
    · refine ⟨_, rfl, _, rfl, m, _, rfl, .inl ⟨a, rfl, ?_⟩⟩
      rcases nb a with ⟨e, a0, am⟩ | ⟨e, no⟩
      · rw [e]
        refine ⟨_, rfl, iteT ?_⟩
        rcases wz.kd.cl (K := K) with ⟨c, rfl⟩ | n
        · refine ⟨_, rfl, _, rfl, m, _, rfl, .inl ⟨c, rfl, ?_⟩⟩
          rcases nb c with ⟨e, c0, cm⟩ | ⟨e, no⟩
          · rw [e]
            refine ⟨_, rfl, iteT ⟨_, rfl, _, rfl, _, _, rfl, rfl, ?_⟩⟩
            refine k (decide (a < c)) ⟨fun h => ⟨q, a, c, rfl, hq, a0, of_decide_eq_true h, cm⟩, fun h => shut h fun a' c' e _ h3 _ => ?_⟩
            cases e
            exact decide_eq_true h3
          · rw [e]
            refine ⟨_, rfl, iteF (k false ⟨(fun z => nomatch z), fun h => shut h fun a' c' e h0 h3 h4 => ?_⟩)⟩
            cases e
            exact absurd ⟨by omega, h4⟩ no
        · refine ⟨_, rfl, _, rfl, m, _, rfl, .inr ⟨n, _, rfl, iteF (k false ⟨(fun z => nomatch z), fun h => shut h fun a' c' e h0 h3 h4 => ?_⟩)⟩⟩
          cases e
          exact absurd rfl (noint_ne n c')
      · rw [e]
        refine ⟨_, rfl, iteF (k false ⟨(fun z => nomatch z), fun h => shut h fun a' c' e h0 h3 h4 => ?_⟩)⟩
        cases e
        exact absurd ⟨h0, by omega⟩ no
    · refine ⟨_, rfl, _, rfl, m, _, rfl, .inr ⟨n, _, rfl, iteF (k false ⟨(fun z => nomatch z), fun h => shut h fun a' c' e h0 h3 h4 => ?_⟩)⟩⟩
      cases e
      exact absurd rfl (noint_ne n a')
theorem ok_ascG {f : Addr} {fd : FuncData} (F : Fun K "is_ascending" "is_ascending" sAsc f fd) (B : Bts mg) (hz : mg "zip" = none) (ha : mg "all" = none) : FnOk P w K mg base CX0 1 f fd ["things"] spAscG := by
  refine F.ok scAsc (fun vs H Q E h => ?_) (fun cdv A outer s H vs Q E hr h => ?_)
  · obtain ⟨t, T, rfl, _⟩ := h
    rfl
  · obtain ⟨t, T, rfl, ht, tp, prs, hl, k⟩ := h
    have nd := scAsc.nd
    have hu := hr.units0
    refine ⟨_, pss_one (ps_ret (pe_callB (cr_all rfl) (by rfl) ha PyProof.Rows.boot_all (pa_cons (pe_lc (own := [("low", 1), ("high", 2)]) (g := gTup K 2 (gCons (gName 1) (gCons (gName 2) gNil))) (tt := tYes) rfl nd (RZ.pi_zipA rfl hz (pa_cons (pv 0) (pa_cons (pe_slice sl_C (pv 0) (po_some pe_int) po_none) pa_nil)))
      (blkOk_by (N := ["things", "low", "high"]) (sc := defScope sAsc) (by decide +kernel)) (fun _ _ _ _ _ => pg_tup rfl (pgs_cons (pg_name (i := 1) nd rfl (.inl rfl)) (pgs_cons (pg_name (i := 2) nd rfl (.inl rfl)) pgs_nil))) (fun _ _ _ _ _ => pts_nil)
      (fun _ _ _ _ _ => pe_cmpR (r := rLtT K) (op_ltT hu) (pv 1) (pv 2) (nomark _))) pa_nil))), ?_⟩
    refine ⟨_, rfl, _, rfl, 1, rfl, t, _, rfl, ht, fun z H1 s1 hz1 => ?_⟩
    rw [cut_tl, ← List.map_tail] at hz1
    refine ⟨t, z, T.map (fun p => V.ref p.1), T.tail.map (fun p => V.ref p.1), rfl, .inr ⟨SqT.of (s1 _ _ ht), SqT.of hz1, fun D hD => lc_it (walk_zipT (K := K) (a := t) (b := z) (xs := T.map fun p => V.ref p.1) (ys := T.tail.map fun p => V.ref p.1) (n := T.length - 1) (by rw [List.length_map, List.length_map, List.length_tail]; omega)) (fun i H' => (∃ bs : List Bool, H' D = some (.lst (bs.map V.bl)) ∧ bs.length = i ∧ (bs.all id = true ↔ ∀ j p r, j < i → T[j]? = some p → T[j + 1]? = some r → ltP p.2 r.2)) ∧ i ≤ T.length ∧ Same H1 H') ?_ ?_ ?_ ?_⟩⟩
    · exact ⟨⟨[], upd_same, rfl, ⟨fun _ j p r hj => absurd hj (Nat.not_lt_zero _), fun _ => rfl⟩⟩, Nat.zero_le _, sN hD⟩
    · rintro i H3 hi ⟨_, _, s3⟩
      exact ⟨SqT.of (s3 _ _ (s1 _ _ ht)), SqT.of (s3 _ _ hz1)⟩
    · rintro i v H3 H4 hi ⟨⟨bs, eD, lb, hb⟩, _, s3⟩ ⟨T', x, y, rfl, hT, rfl, hx, hy⟩
      have s4 := sN (o := .tup [x, y]) hT
      have hx' : (T.map fun p => V.ref p.1)[i]? = some x := hx
      have hy' : (T.tail.map fun p => V.ref p.1)[i]? = some y := hy
      obtain ⟨p, hp, rfl⟩ := map_inv hx'
      obtain ⟨r, hr2, rfl⟩ := map_inv hy'
      have hr3 : T[i + 1]? = some r := by
        rw [List.getElem?_tail] at hr2
        exact hr2
      have h1 : i < T.length := (List.getElem?_eq_some_iff.mp hp).1
      have ss := sT s1 (sT s3 s4)
      refine ⟨T', _, rfl, SqT.of upd_same, rfl, _, _, rfl, _, _, rfl, rfl, rfl, ?_⟩
      refine ⟨_, rfl, _, rfl, p.1, r.1, p.2, r.2, rfl, rfl, SqT.of (ss _ _ (tp p (List.mem_of_getElem? hp))), SqT.of (ss _ _ (tp r (List.mem_of_getElem? hr3))), ?_⟩
      obtain ⟨a, b, e1⟩ := prs p (List.mem_of_getElem? hp)
      obtain ⟨c, d, e2⟩ := prs r (List.mem_of_getElem? hr3)
      have lx : HT.lexLt p.2 r.2 = true ↔ ltP p.2 r.2 := by rw [e1, e2]; exact lexLt_iff
      refine ⟨_, s4 _ _ eD, ?_, ⟨bs ++ [HT.lexLt p.2 r.2], ?_, ?_, ?_⟩, by omega, ?_⟩
      · rw [List.length_map, lb]
        exact Nat.lt_of_lt_of_le (show i < 4001 by omega) (by decide)
      · rw [upd_same, List.map_append]
        rfl
      · rw [List.length_append, lb]
        rfl
      · rw [List.all_append, Bool.and_eq_true, hb]
        constructor
        · rintro ⟨h, h2⟩ j p' r' hj e3 e4
          by_cases c : j = i
          · subst c
            rw [hp] at e3
            rw [hr3] at e4
            cases e3
            cases e4
            refine lx.mp ?_
            have : (HT.lexLt p.2 r.2 && true) = true := h2
            rwa [Bool.and_true] at this
          · exact h j p' r' (by omega) e3 e4
        · intro h
          refine ⟨fun j p' r' hj => h j p' r' (by omega), ?_⟩
          show (HT.lexLt p.2 r.2 && true) = true
          rw [Bool.and_true]
          exact lx.mpr (h i p r (by omega) hp hr3)
      · exact sNew (sT s3 s4) hD
    · rintro H3 ⟨⟨bs, eD, lb, hb⟩, _, s3⟩
      refine ⟨D, bs, rfl, SqL.of eD, ?_⟩
      refine k _ _ (sT s1 s3) ?_
      rw [hb]
      constructor
      · intro h
        refine adj_pair (R := fun x y : Addr × List Int => ltP x.2 y.2) (fun x y z h1 h2 => ltP_trans h1 h2) T fun i p r e1 e2 => h i p r ?_ e1 e2
        have := (List.getElem?_eq_some_iff.mp e2).1
        omega
      · intro h j p r _ e1 e2
        obtain ⟨h1, f1⟩ := List.getElem?_eq_some_iff.mp e1
        obtain ⟨h2, f2⟩ := List.getElem?_eq_some_iff.mp e2
        have z := List.pairwise_iff_getElem.mp h j (j + 1) h1 h2 (by omega)
        rw [f1, f2] at z
        exact z
end
end Q

/-! no chosen ties -/
namespace Q
open PySem L2 QM
theorem perm_lift {α β : Type} {f : α → β} {ys zs : List β} (h : ys.Perm zs) : ∀ Cs : List α, zs = Cs.map f → ∃ R : List α, ys = R.map f ∧ R.Perm Cs := by
  induction h with
  | nil =>
    intro Cs e
    exact ⟨Cs, e, .refl _⟩
  | cons x _ ih =>
    intro Cs e
    cases Cs with
    | nil => cases e
    | cons c r =>
      rw [List.map_cons] at e
      obtain ⟨e1, e2⟩ := List.cons.inj e
      obtain ⟨R, e3, p⟩ := ih r e2
      exact ⟨c :: R, by rw [List.map_cons, ← e1, ← e3], p.cons c⟩
  | swap x y l =>
    intro Cs e
    match Cs, e with
    | a :: b :: r, e =>
      rw [List.map_cons, List.map_cons] at e
      obtain ⟨e1, e2⟩ := List.cons.inj e
      obtain ⟨e3, e4⟩ := List.cons.inj e2
      exact ⟨b :: a :: r, by rw [List.map_cons, List.map_cons, ← e1, ← e3, ← e4], .swap _ _ _⟩
  | trans _ _ ih1 ih2 =>
    intro Cs e
    obtain ⟨R2, e2, p2⟩ := ih2 Cs e
    obtain ⟨R1, e1, p1⟩ := ih1 R2 e2
    exact ⟨R1, e1, p1.trans p2⟩
theorem eqv_pTs_inv : ∀ {L L' : List (Addr × List Int)}, PyData.eqvAll (L.map fun p => pT p.2) (L'.map fun p => pT p.2) = true → L.map (·.2) = L'.map (·.2)
  | [], [], _ => rfl
  | [], _ :: _, e => by simp [PyData.eqvAll] at e
  | _ :: _, [], e => by simp [PyData.eqvAll] at e
  | p :: r, p' :: r', e => by
    rw [List.map_cons, List.map_cons] at e
    simp only [PyData.eqvAll, Bool.and_eq_true] at e
    have e0 : PyData.eqv (pT p.2) (pT p'.2) = true := e.1
    unfold pT at e0
    simp only [PyData.eqv, eqv_ints] at e0
    rw [List.map_cons, List.map_cons, of_decide_eq_true e0, eqv_pTs_inv e.2]
theorem nd_lenI : ∀ (a b : List (List Int)), a.Nodup → (∀ x ∈ a, x ∈ b) → a.length ≤ b.length
  | [], _, _, _ => Nat.zero_le _
  | x :: a, b, h, k => by
    obtain ⟨h1, h2⟩ := List.nodup_cons.mp h
    have m := k x List.mem_cons_self
    have z := nd_lenI a (b.erase x) h2 fun y hy => (List.mem_erase_of_ne (fun (e : y = x) => h1 (e ▸ hy))).mpr (k y (List.mem_cons_of_mem _ hy))
    rw [List.length_erase_of_mem m] at z
    have := List.length_pos_of_mem m
    rw [List.length_cons]
    omega
/-- the thing is chosen ties -/
def GoodC (g : Nat → Int) (L : List (Addr × List Int)) (M : Nat) (H : Hp) (v : V) : Prop := ∃ t T, v = .ref t ∧ ChoAt g L (M : Int) H t T
theorem GoodC.same {g : Nat → Int} {L : List (Addr × List Int)} {M : Nat} {H H' : Hp} {v : V} (h : GoodC g L M H v) (s : Same H H') : GoodC g L M H' v := by
  obtain ⟨t, T, e, c⟩ := h
  exact ⟨t, T, e, c.same s⟩
theorem Wk.tupB {H H' : Hp} {a : Addr} {xs : List V} (k : Wk H (.ref a)) (s : Same H H') (e : H' a = some (.tup xs)) : H a = some (.tup xs) := k.kd.tupBack s e
theorem GoodC.back {g : Nat → Int} {L : List (Addr × List Int)} {M : Nat} {H H' : Hp} {v : V} (k : Wk H v) (s : Same H H') (h : GoodC g L M H' v) : GoodC g L M H v := by
  obtain ⟨t, T, rfl, c⟩ := h
  have e := k.tupB s c.at_
  exact ⟨t, T, rfl, e, fun p hp => ((k.items e).2 _ (List.mem_map.mpr ⟨p, hp, rfl⟩)).tupB s (c.tup p hp), c.ok, c.asc, c.len, c.sub, c.crs, c.all, c.nd⟩
/-- what stands there are ties -/
theorem ties_of {H : Hp} {m : Int} : ∀ {xs : List V}, (∀ v ∈ xs, TieV m H v) → ∃ T : List (Addr × List Int), xs = T.map (fun p => V.ref p.1) ∧ (∀ p ∈ T, H p.1 = some (.tup (p.2.map V.int))) ∧ ∀ p ∈ T, ∃ a b : Int, p.2 = [a, b] ∧ 0 ≤ a ∧ a < b ∧ b < m
  | [], _ => ⟨[], rfl, fun p h => absurd h List.not_mem_nil, fun p h => absurd h List.not_mem_nil⟩
  | v :: xs, h => by
    obtain ⟨T, e, h1, h2⟩ := ties_of fun u hu => h u (List.mem_cons_of_mem _ hu)
    obtain ⟨t, a, b, e0, e1, r⟩ := h v List.mem_cons_self
    refine ⟨(t, [a, b]) :: T, by rw [e0, e]; rfl, fun p hp => ?_, fun p hp => ?_⟩
    · rcases List.mem_cons.mp hp with rfl | hp
      · exact e1
      · exact h1 p hp
    · rcases List.mem_cons.mp hp with rfl | hp
      · exact ⟨a, b, rfl, r⟩
      · exact h2 p hp
theorem all_ties {H : Hp} {m : Int} {xs : List V} (h : ∀ j v, j < xs.length → xs[j]? = some v → TieV m H v) : ∀ v ∈ xs, TieV m H v := fun v hv => by
  obtain ⟨j, hj⟩ := List.mem_iff_getElem?.mp hv
  exact h j v (List.getElem?_eq_some_iff.mp hj).1 hj
theorem ChoAt.of_perm {g : Nat → Int} {L : List (Addr × List Int)} {M : Nat} {H H2 : Hp} {t t2 : Addr} {T T2 : List (Addr × List Int)} (at_ : H t = some (.tup (T.map fun p => V.ref p.1))) (tup : ∀ p ∈ T, H p.1 = some (.tup (p.2.map V.int)))
    (ok : ∀ p ∈ T, ∃ a b : Int, p.2 = [a, b] ∧ 0 ≤ a ∧ a < b ∧ b < (M : Int)) (asc : T.Pairwise (fun x y => ltP x.2 y.2)) (sub : ∀ p ∈ T, ∃ r ∈ L, r.2 = p.2) (crs : ∀ l ∈ T.map (fun p => crL g p.2), ∃ x y : Int, l = [x, y] ∧ x ≠ y)
    (nd : (T.map fun p => crL g p.2).Nodup) (all : ∀ r ∈ L, CrossL g r.2 → crL g r.2 ∈ T.map (fun p => crL g p.2)) : ChoAt g L (M : Int) H t T := by
  refine ⟨at_, tup, ok, asc, ?_, sub, fun p hp => crs _ (List.mem_map.mpr ⟨p, hp, rfl⟩), fun r hr c => ?_, nd⟩
  · have n1 : (T.map (·.2)).Nodup := List.pairwise_map.mpr (asc.imp fun {x y} (h : ltP x.2 y.2) (e : x.2 = y.2) => ltP_irr (l := y.2) (e ▸ h))
    have z := nd_lenI (T.map (·.2)) (L.map (·.2)) n1 fun l hl => by
      obtain ⟨p, hp, rfl⟩ := List.mem_map.mp hl
      obtain ⟨r, hr, e⟩ := sub p hp
      exact List.mem_map.mpr ⟨r, hr, e⟩
    rwa [List.length_map, List.length_map] at z
  · obtain ⟨p, hp, e⟩ := List.mem_map.mp (all r hr c)
    exact ⟨p, hp, e⟩
def spAreCN (C : Addr) : Sp := fun vs H Q _ => ∃ (w dx q r la : Addr) (v : V) (M : Nat) (L : List (Addr × List Int)) (bs : List Addr) (nb : Nat → List Int) (g : Nat → Int), vs = [.ref w, .ref la, v] ∧ WebIn C (M : Int) L H w dx q r bs nb ∧ TiesAt (M : Int) H q L ∧ H la = some (.tup (flN M g)) ∧ (∀ i, i < M → 0 ≤ g i ∧ g i < (M : Int)) ∧ Wk H v ∧ ¬ GoodC g L M H v ∧ M ≤ 40 ∧
  ∀ H', Same H H' → Q (.bl false) H'
/-- the bools of a list so far -/
def BoS (Pp : Nat → Prop) (H : Hp) (D : Addr) (i : Nat) : Prop := ∃ bs : List Bool, H D = some (.lst (bs.map V.bl)) ∧ bs.length = i ∧ (bs.all id = true ↔ ∀ j, j < i → Pp j)
theorem BoS.nil {Pp : Nat → Prop} {H : Hp} {D : Addr} : BoS Pp (upd H D (.lst [])) D 0 := ⟨[], upd_same, rfl, ⟨fun _ j hj => absurd hj (Nat.not_lt_zero _), fun _ => rfl⟩⟩
theorem BoS.push {Pp : Nat → Prop} {H H' : Hp} {D : Addr} {i : Nat} {b : Bool} {xs : List V} (h : BoS Pp H D i) (e : H' D = some (.lst xs)) (ex : ∃ ys, H D = some (.lst ys) ∧ xs = ys) (hb : b = true ↔ Pp i) : BoS Pp (upd H' D (.lst (xs ++ [V.bl b]))) D (i + 1) := by
  obtain ⟨bs, e1, l1, a1⟩ := h
  obtain ⟨ys, e2, rfl⟩ := ex
  rw [e1] at e2
  obtain rfl := HO.lst.inj (Option.some.inj e2)
  refine ⟨bs ++ [b], ?_, by rw [List.length_append, l1]; rfl, ?_⟩
  · rw [upd_same, List.map_append]
    rfl
  · rw [List.all_append, Bool.and_eq_true, a1]
    have e3 : ([b].all id = true) ↔ b = true := by cases b <;> decide
    rw [e3, hb]
    constructor
    · rintro ⟨h1, h2⟩ j hj
      by_cases c : j = i
      · rw [c]
        exact h2
      · exact h1 j (by omega)
    · intro h
      exact ⟨fun j hj => h j (by omega), h i (by omega)⟩
theorem BoS.e {Pp : Nat → Prop} {H : Hp} {D : Addr} {i : Nat} (h : BoS Pp H D i) : ∃ bs : List Bool, H D = some (.lst (bs.map V.bl)) ∧ bs.length = i ∧ True := by
  obtain ⟨bs, e, l, _⟩ := h
  exact ⟨bs, e, l, trivial⟩
section
variable {P : Program} {w : World} {K : PySem.W.Frag} {mg : Str → Option Value} {base : Heap}
theorem scAreCN : FnScope ["web", "leaders", "thing", "due", "tie"] ["web", "leaders", "thing"] (defScope sAreC) := ⟨rfl, rfl, rfl, by decide +kernel, rfl, by decide +kernel, by decide +kernel⟩
theorem ok_arecN {f C fC fA fL : Addr} {fd dC dA dL : FuncData} (F : Fun K "are_chosen" "are_chosen" sAreC f fd) (B : Bts mg) (hz : mg "zip" = none) (ha : mg "all" = none) (T0 : WTxt K mg C) (D0 : WDefs K mg) (DC : Df K mg "crossed_by" sCross ["leaders", "tie"] fC dC)
    (DA : Df K mg "is_ascending" sAsc ["things"] fA dA) (DL : Df K mg "least_ties" sLeast ["web", "leaders"] fL dL) : FnOk P w K mg base CX0 4 f fd ["web", "leaders", "thing"] (spAreCN C) := by
  have GC : FnOk P w K mg base CX0 1 fC dC ["leaders", "tie"] spCross := ok_cross DC.F B
  have GA : FnOk P w K mg base CX0 1 fA dA ["things"] spAscG := ok_ascG DA.F B hz ha
  have GL2 : FnOk P w K mg base CX0 2 fL dL ["web", "leaders"] (spLeast C) := ok_least DL.F B T0 DC
  have GT : FnOk P w K mg base CX0 3 D0.fT D0.dT ["many", "thing"] spTieG := ok_tieG D0.DT.F B D0.DP D0.DN
  refine F.ok scAreCN (fun vs H Q E h => ?_) (fun cdv A outer s H vs Q E hr h => ?_)
  · obtain ⟨w, dx, q, r, la, v, M, L, bs, nb, g, rfl, _⟩ := h
    rfl
  · obtain ⟨w, dx, q, r, la, v, M, L, bs, nb, g, rfl, x, tt, hla, gM, wk, bad, m40, k⟩ := h
    have nd := scAreCN.nd
    have hr1 : Room 1 _ := hr.mono (by decide)
    have hr2 : Room 2 _ := hr.mono (by decide)
    have hu := hr.units
    refine ⟨_, pss_cons (ps_if (PW.pt (pw_or (pt_not (pt_val (pe_callB call_isi (by rfl) B.isinstance PyProof.Rows.boot_isinstance (pa_cons (pv 2) (pa_cons (pe_bltn (v := .ty "tuple") rfl B.tuple PyProof.Rows.boot_tuple rfl) pa_nil)))))
        (pw_or1 (pt_not (pt_val (pe_callB (cr_all rfl) (by rfl) ha PyProof.Rows.boot_all (pa_cons (pe_lc (own := [("tie", 4)]) (g := gName 4) (tt := tYes) rfl nd (pi_tup (pv 2))
          (blkOk_by (N := ["web", "leaders", "thing", "due", "tie"]) (sc := defScope sAreC) (by decide +kernel)) (fun _ _ _ _ _ => pg_name (i := 4) nd rfl (.inl rfl)) (fun _ _ _ _ _ => pts_nil)
          (fun _ _ _ _ _ => pe_call GT hr rfl D0.DT.m D0.DT.k D0.DT.b .nil pass0 (pa_cons (pe_fldK (K := K) rfl (pv 0) rfl) (pa_cons (pv 4) pa_nil)))) pa_nil))))))) (pss_one (ps_ret pe_bl)) pss_nil)
      (pss_cons (ps_if (PW.pt (pw_or (pt_not (pt_val (pe_call GA hr1 rfl DA.m DA.k DA.b .nil pass0 (pa_cons (pv 2) pa_nil))))
        (pw_or1 (pt_not (pt_val (pe_callB (cr_all rfl) (by rfl) ha PyProof.Rows.boot_all (pa_cons (pe_lc (own := [("tie", 4)]) (g := gName 4) (tt := tYes) rfl nd (pi_tup (pv 2))
          (blkOk_by (N := ["web", "leaders", "thing", "due", "tie"]) (sc := defScope sAreC) (by decide +kernel)) (fun _ _ _ _ _ => pg_name (i := 4) nd rfl (.inl rfl)) (fun _ _ _ _ _ => pts_nil)
          (fun _ _ _ _ _ => pe_cmpR (op_inP hu) (pv 4) (pe_fldK (K := K) rfl (pv 0) rfl) rfl)) pa_nil))))))) (pss_one (ps_ret pe_bl)) pss_nil)
      (pss_cons (ps_setLc (i := 3) (own := [("tie", 4)]) (g := gName 4) (tt := tYes) rfl nd rfl rfl (sw_true rfl rfl rfl (by decide +kernel)) (pi_tup (pe_call GL2 hr2 rfl DL.m DL.k DL.b .nil pass0 (pa_cons (pv 0) (pa_cons (pv 1) pa_nil))))
          (blkOk_by (N := ["web", "leaders", "thing", "due", "tie"]) (sc := defScope sAreC) (by decide +kernel)) (fun _ _ _ _ _ => pg_name (i := 4) nd rfl (.inl rfl)) (fun _ _ _ _ _ => pts_nil)
          (fun _ _ _ _ _ => pe_call GC hr1 rfl DC.m DC.k DC.b .nil pass0 (pa_cons (pv 1) (pa_cons (pv 4) pa_nil))))
      (pss_one (ps_ret (pe_cmpR (op_eqD hu) (pe_callB cr_sortedPO (by rfl) B.sorted PyProof.Rows.boot_sorted (pa_cons (pe_lc (own := [("tie", 4)]) (g := gName 4) (tt := tYes) rfl nd (pi_tup (pv 2))
          (blkOk_by (N := ["web", "leaders", "thing", "due", "tie"]) (sc := defScope sAreC) (by decide +kernel)) (fun _ _ _ _ _ => pg_name (i := 4) nd rfl (.inl rfl)) (fun _ _ _ _ _ => pts_nil)
          (fun _ _ _ _ _ => pe_call GC hr1 rfl DC.m DC.k DC.b .nil pass0 (pa_cons (pv 1) (pa_cons (pv 4) pa_nil)))) pa_nil)) (pe_callB cr_sortedPO (by rfl) B.sorted PyProof.Rows.boot_sorted (pa_cons (pv 3) pa_nil)) (nomark _)))))), ?_⟩
    have few := tt.few
    have rs : Same H H := fun _ _ e => e
    obtain ⟨t', b, ty, kb, cs⟩ := wk.kd.tyT (K := K)
    refine ⟨_, rfl, v, .ty "tuple", t', .type "tuple", b, rfl, .ty _, ty, kb, _, rfl, ?_⟩
    rcases cs with ⟨rfl, t, xs, rfl, ht⟩ | ⟨rfl, no⟩
    rotate_left
    · exact iteT (k H rs)
    obtain ⟨l4000, wi⟩ := wk.items ht
    refine iteF ?_
    refine ⟨_, rfl, t, rfl, ⟨_, SqT.of ht⟩, fun D1 hD1 => lc_tup (K := K) (a := t) (xs := xs) (fun i H' => BoS (fun j => ∀ v, xs[j]? = some v → TieV (M : Int) H v) H' D1 i ∧ Same H H') ?_ ?_ ?_ ?_⟩
    · exact ⟨BoS.nil, sN hD1⟩
    · rintro i H1 hi ⟨_, s1⟩
      exact SqT.of (s1 _ _ ht)
    · rintro i v H1 hv ⟨bo, s1⟩
      have hi : i < xs.length := (List.getElem?_eq_some_iff.mp hv).1
      have wv := wi v (List.mem_of_getElem? hv)
      obtain ⟨bs0, eD, lb, _⟩ := bo.e
      refine ⟨rfl, _, rfl, w, C, dx, _, _, rfl, s1 _ _ x.at_, T0.cl, T0.nM, wf_many _ _ _, _, rfl, (M : Int), v, rfl, wv.same s1, fun b hb => ⟨_, eD, ?_, bo.push eD ⟨_, eD, rfl⟩ ?_, sNew s1 hD1⟩⟩
      · rw [List.length_map, lb]
        exact Nat.lt_of_lt_of_le (show i < 4001 by omega) (by decide)
      · rw [hb]
        exact ⟨fun h v' e => by rw [hv] at e; cases e; exact h.back wv.kd s1, fun h => (h v hv).same s1⟩
    rintro H1 ⟨⟨bs1, eD1, lb1, hb1⟩, s1⟩
    refine ⟨D1, bs1, rfl, SqL.of eD1, ?_⟩
    cases c1 : bs1.all id with
    | false => exact ⟨_, rfl, iteT (k _ s1)⟩
    | true =>
    refine ⟨_, rfl, iteF ?_⟩
    obtain ⟨T, rfl, tup, ok⟩ := ties_of (all_ties fun j v hj e => hb1.mp c1 j hj v e)
    have lT : T.length ≤ 4000 := by rwa [List.length_map] at l4000
    refine ⟨_, rfl, t, T, rfl, s1 _ _ ht, fun p hp => s1 _ _ (tup p hp), fun p hp => (by
      obtain ⟨a, b, e, _⟩ := ok p hp
      exact ⟨a, b, e⟩), lT, fun c H2 s2 hc => ⟨_, rfl, ?_⟩⟩
    have s12 := sT s1 s2
    cases c with
    | false => exact iteT (k _ s12)
    | true =>
    have asc := hc.mp rfl
    refine iteF ?_
    refine ⟨_, rfl, t, rfl, ⟨_, SqT.of (s12 _ _ ht)⟩, fun D2 hD2 => lc_tup (K := K) (a := t) (xs := T.map fun p => V.ref p.1) (fun i H' => BoS (fun j => ∀ p, T[j]? = some p → p.2 ∈ L.map (·.2)) H' D2 i ∧ Same H2 H') ?_ ?_ ?_ ?_⟩
    · exact ⟨BoS.nil, sN hD2⟩
    · rintro i H3 hi ⟨_, s3⟩
      exact SqT.of (s3 _ _ (s12 _ _ ht))
    · rintro i v H3 hv ⟨bo, s3⟩
      obtain ⟨p, hp, rfl⟩ := map_inv hv
      have hi : i < T.length := (List.getElem?_eq_some_iff.mp hp).1
      have hm := List.mem_of_getElem? hp
      have s13 := sT s12 s3
      obtain ⟨bs0, eD, lb, _⟩ := bo.e
      refine ⟨rfl, _, rfl, _, rfl, w, C, dx, _, _, rfl, s13 _ _ x.at_, T0.cl, T0.nT, wf_ties _ _ _, p.1, q, p.2, L, rfl, rfl, s13 _ _ (tup p hm), s13 _ _ tt.at_, fun z hz2 => s13 _ _ (tt.tup z hz2), _, eD, ?_, bo.push eD ⟨_, eD, rfl⟩ ?_, sNew s3 hD2⟩
      · rw [List.length_map, lb]
        exact Nat.lt_of_lt_of_le (show i < 4001 by omega) (by decide)
      · constructor
        · intro h p' e
          rw [hp] at e
          cases e
          exact of_decide_eq_true h
        · intro h
          exact decide_eq_true (h p hp)
    rintro H3 ⟨⟨bs2, eD2, lb2, hb2⟩, s3⟩
    refine ⟨D2, bs2, rfl, SqL.of eD2, ?_⟩
    have s03 := sT s12 s3
    cases c2 : bs2.all id with
    | false => exact ⟨_, rfl, iteT (k _ s03)⟩
    | true =>
    refine ⟨_, rfl, iteF ?_⟩
    have sub : ∀ p ∈ T, ∃ r ∈ L, r.2 = p.2 := fun p hp => by
      obtain ⟨j, hj⟩ := List.mem_iff_getElem?.mp hp
      have hj1 : j < T.length := (List.getElem?_eq_some_iff.mp hj).1
      have z := hb2.mp c2 j (by rw [List.length_map]; exact hj1) p hj
      obtain ⟨r, hr, e⟩ := List.mem_map.mp z
      exact ⟨r, hr, e⟩
    refine ⟨_, rfl, _, rfl, w, dx, q, r, la, M, L, bs, nb, g, rfl, x.same s03, tt.same s03, s03 _ _ hla, m40, fun t2 T2 H4 s4 _ lst => ?_⟩
    have cho2 := lst.cho tt.asc
    have s04 := sT s03 s4
    refine ⟨t2, rfl, ⟨_, SqT.of lst.at_⟩, fun D3 hD3 => lc_tup (K := K) (a := t2) (xs := T2.map fun p => V.ref p.1) (fun i H' => ∃ Cs : List (Addr × List Int), H' D3 = some (.lst (Cs.map fun c => V.ref c.1)) ∧ Cs.map (·.2) = (T2.take i).map (fun p => crL g p.2) ∧ (∀ c ∈ Cs, H' c.1 = some (.tup (c.2.map V.int))) ∧ Same H4 H' ) ?_ ?_ ?_ ?_⟩
    · exact ⟨[], upd_same, rfl, fun c hc => absurd hc List.not_mem_nil, sN hD3⟩
    · rintro i H5 hi ⟨_, _, _, _, s5⟩
      exact SqT.of (s5 _ _ lst.at_)
    · rintro i v H5 hv ⟨Cs, eD, ev, tc, s5⟩
      obtain ⟨p, hp, rfl⟩ := map_inv hv
      have hi : i < T2.length := (List.getElem?_eq_some_iff.mp hp).1
      have hm := List.mem_of_getElem? hp
      obtain ⟨a, b, e2, a0, ab, bm⟩ := lst.ok p hm
      obtain ⟨a', rfl⟩ : ∃ a' : Nat, a = (a' : Int) := ⟨a.toNat, by omega⟩
      obtain ⟨b', rfl⟩ : ∃ b' : Nat, b = (b' : Int) := ⟨b.toNat, by omega⟩
      have ht := s5 _ _ (lst.tup p hm)
      have ecr : crL g p.2 = cx (g a') (g b') := by
        rw [e2]
        show cx (g ((a' : Int)).toNat) (g ((b' : Int)).toNat) = _
        rw [Int.toNat_natCast, Int.toNat_natCast]
      rw [e2] at ht
      have lc : Cs.length = i := by
        have z := congrArg List.length ev
        rw [List.length_map, List.length_map, List.length_take] at z
        omega
      refine ⟨rfl, _, rfl, _, rfl, la, p.1, M, a', b', g, rfl, s5 _ _ (s04 _ _ hla), ht, by omega, by omega, fun c hc => ?_⟩
      have s6 := sN (o := .tup ((cx (g a') (g b')).map V.int)) hc
      have ncD : c ≠ D3 := fun e => by rw [e, eD] at hc; cases hc
      refine ⟨_, s6 _ _ eD, ?_, Cs ++ [(c, crL g p.2)], ?_, ?_, fun z hz2 => ?_, sNew (sT s5 s6) hD3⟩
      · rw [List.length_map, lc]
        exact Nat.lt_of_lt_of_le (show i < 1001 by have := lst.len; omega) (by decide)
      · rw [upd_same, List.map_append]
        rfl
      · rw [List.map_append, ev, take_snoc hp, List.map_append]
        rfl
      · rcases List.mem_append.mp hz2 with hz2 | hz2
        · have z1 := s6 _ _ (tc z hz2)
          rw [upd_ne (ne_of z1 (s6 _ _ eD) (fun z => by cases z))]
          exact z1
        · rw [List.mem_singleton.mp hz2, upd_ne ncD]
          show (upd H5 c (.tup ((cx (g a') (g b')).map V.int))) c = some (.tup ((crL g p.2).map V.int))
          rw [upd_same, ecr]
    rintro H5 ⟨Cs2, eD3, ev2, tc2, s5⟩
    rw [List.length_map, List.take_length] at ev2
    have s05 := sT s04 s5
    refine ⟨_, rfl, t, rfl, ⟨_, SqT.of (s05 _ _ ht)⟩, fun D4 hD4 => lc_tup (K := K) (a := t) (xs := T.map fun p => V.ref p.1) (fun i H' => ∃ Cs : List (Addr × List Int), H' D4 = some (.lst (Cs.map fun c => V.ref c.1)) ∧ Cs.map (·.2) = (T.take i).map (fun p => crL g p.2) ∧ (∀ c ∈ Cs, H' c.1 = some (.tup (c.2.map V.int))) ∧ Same H5 H' ) ?_ ?_ ?_ ?_⟩
    · exact ⟨[], upd_same, rfl, fun c hc => absurd hc List.not_mem_nil, sN hD4⟩
    · rintro i H6 hi ⟨_, _, _, _, s6⟩
      exact SqT.of (s6 _ _ (s05 _ _ ht))
    · rintro i v H6 hv ⟨Cs, eD, ev, tc, s6⟩
      obtain ⟨p, hp, rfl⟩ := map_inv hv
      have hi : i < T.length := (List.getElem?_eq_some_iff.mp hp).1
      have hm := List.mem_of_getElem? hp
      obtain ⟨a, b, e2, a0, ab, bm⟩ := ok p hm
      obtain ⟨a', rfl⟩ : ∃ a' : Nat, a = (a' : Int) := ⟨a.toNat, by omega⟩
      obtain ⟨b', rfl⟩ : ∃ b' : Nat, b = (b' : Int) := ⟨b.toNat, by omega⟩
      have ht := s6 _ _ ((fun p hp => s05 _ _ (tup p hp)) p hm)
      have ecr : crL g p.2 = cx (g a') (g b') := by
        rw [e2]
        show cx (g ((a' : Int)).toNat) (g ((b' : Int)).toNat) = _
        rw [Int.toNat_natCast, Int.toNat_natCast]
      rw [e2] at ht
      have lc : Cs.length = i := by
        have z := congrArg List.length ev
        rw [List.length_map, List.length_map, List.length_take] at z
        omega
      refine ⟨rfl, _, rfl, _, rfl, la, p.1, M, a', b', g, rfl, s6 _ _ (s05 _ _ hla), ht, by omega, by omega, fun c hc => ?_⟩
      have s7 := sN (o := .tup ((cx (g a') (g b')).map V.int)) hc
      have ncD : c ≠ D4 := fun e => by rw [e, eD] at hc; cases hc
      refine ⟨_, s7 _ _ eD, ?_, Cs ++ [(c, crL g p.2)], ?_, ?_, fun z hz2 => ?_, sNew (sT s6 s7) hD4⟩
      · rw [List.length_map, lc]
        exact Nat.lt_of_lt_of_le (show i < 4001 by omega) (by decide)
      · rw [upd_same, List.map_append]
        rfl
      · rw [List.map_append, ev, take_snoc hp, List.map_append]
        rfl
      · rcases List.mem_append.mp hz2 with hz2 | hz2
        · have z1 := s7 _ _ (tc z hz2)
          rw [upd_ne (ne_of z1 (s7 _ _ eD) (fun z => by cases z))]
          exact z1
        · rw [List.mem_singleton.mp hz2, upd_ne ncD]
          show (upd H6 c (.tup ((cx (g a') (g b')).map V.int))) c = some (.tup ((crL g p.2).map V.int))
          rw [upd_same, ecr]
    rintro H6 ⟨Cs1, eD4, ev1, tc1, s6⟩
    rw [List.length_map, List.take_length] at ev1
    have prs : ∀ (X Cs : List (Addr × List Int)), (∀ p ∈ X, ∃ a b : Int, p.2 = [a, b] ∧ 0 ≤ a ∧ a < b ∧ b < (M : Int)) → Cs.map (·.2) = X.map (fun p => crL g p.2) → ∀ c ∈ Cs, ∃ u v : Int, c.2 = [u, v] := fun X Cs ok ev c hc => by
      have z : c.2 ∈ X.map (fun p => crL g p.2) := by
        rw [← ev]
        exact List.mem_map.mpr ⟨c, hc, rfl⟩
      obtain ⟨p, hp, e⟩ := List.mem_map.mp z
      obtain ⟨a, b, e2, _⟩ := ok p hp
      have ecr : crL g p.2 = [if g b.toNat < g a.toNat then g b.toNat else g a.toNat, if g b.toNat > g a.toNat then g b.toNat else g a.toNat] := by rw [e2]; rfl
      exact ⟨_, _, e.symm.trans ecr⟩
    have kx : ∀ {H' : Hp} {Cs : List (Addr × List Int)}, (∀ c ∈ Cs, H' c.1 = some (.tup (c.2.map V.int))) → (∀ c ∈ Cs, ∃ u v : Int, c.2 = [u, v]) → ∀ y ∈ Cs.map (fun p => V.ref p.1), ∃ t, y = V.ref t ∧ H' t = some (.tup [.int (kH H' y).1, .int (kH H' y).2]) := fun {H' Cs} tc pc y hy => by
      obtain ⟨p, hp, rfl⟩ := List.mem_map.mp hy
      obtain ⟨a, b, e⟩ := pc p hp
      have t := tc p hp
      rw [e] at t
      refine ⟨p.1, rfl, ?_⟩
      rw [kH_at t]
      exact t
    refine ⟨D4, _, kH H6, rfl, SqL.of eD4, kx tc1 (prs T Cs1 ok ev1), fun ys1 sp1 sr1 sb1 hsp1 => ?_⟩
    obtain ⟨R1, rfl, perm1⟩ := perm_lift sb1.perm Cs1 rfl
    have s7 := sN (o := .lst (R1.map fun p => V.ref p.1)) hsp1
    have esp1 : (upd H6 sp1 (.lst (R1.map fun p => V.ref p.1))) sp1 = some (.lst (R1.map fun p => V.ref p.1)) := upd_same
    revert s7 esp1
    generalize upd H6 sp1 (.lst (R1.map fun p => V.ref p.1)) = H7
    intro s7 esp1
    have s67 := sT s6 s7
    have tc2' : ∀ c ∈ Cs2, H7 c.1 = some (.tup (c.2.map V.int)) := fun c hc => s67 _ _ (tc2 c hc)
    refine ⟨_, rfl, D3, _, kH H7, rfl, SqL.of (s67 _ _ eD3), kx tc2' (prs T2 Cs2 lst.ok ev2), fun ys2 sp2 sr2 sb2 hsp2 => ?_⟩
    obtain ⟨R2, rfl, perm2⟩ := perm_lift sb2.perm Cs2 rfl
    have s8 := sN (o := .lst (R2.map fun p => V.ref p.1)) hsp2
    have t1 : ∀ p ∈ R1, (upd H7 sp2 (.lst (R2.map fun p => V.ref p.1))) p.1 = some (.tup (p.2.map V.int)) := fun p hp => s8 _ _ (s7 _ _ (tc1 p (perm1.mem_iff.mp hp)))
    have t2' : ∀ p ∈ R2, (upd H7 sp2 (.lst (R2.map fun p => V.ref p.1))) p.1 = some (.tup (p.2.map V.int)) := fun p hp => s8 _ _ (tc2' p (perm2.mem_iff.mp hp))
    refine ⟨.list (R1.map fun p => pT p.2), .list (R2.map fun p => pT p.2), .lst (SqL.of (s8 _ _ esp1)) (dp_all R1 t1), .lst (SqL.of upd_same) (dp_all R2 t2'), shaped_pTs _, shaped_pTs _, ?_⟩
    have ev : PyData.eqv (.list (R1.map fun p => pT p.2)) (.list (R2.map fun p => pT p.2)) = false := by
      cases c3 : PyData.eqv (.list (R1.map fun p => pT p.2)) (.list (R2.map fun p => pT p.2)) with
      | false => rfl
      | true =>
        simp only [PyData.eqv] at c3
        have e12 := eqv_pTs_inv c3
        have pm : (T.map fun p => crL g p.2).Perm (T2.map fun p => crL g p.2) := by
          rw [← ev1, ← ev2]
          exact ((perm1.map (·.2)).symm.trans (by rw [e12])).trans (perm2.map (·.2))
        refine absurd ⟨t, T, rfl, ChoAt.of_perm (H2 := H) (t2 := t) (T2 := T2) ht tup ok asc sub (fun l hl => ?_) (pm.nodup_iff.mpr cho2.nd) (fun r hr c => ?_)⟩ bad
        · obtain ⟨p, hp, e⟩ := List.mem_map.mp (pm.mem_iff.mp hl)
          obtain ⟨x1, y1, e3, ne⟩ := cho2.crs p hp
          exact ⟨x1, y1, by rw [← e, e3], ne⟩
        · obtain ⟨p, hp, e⟩ := cho2.all r hr c
          exact pm.mem_iff.mpr (List.mem_map.mpr ⟨p, hp, e⟩)
    rw [ev]
    exact k _ (sT s05 (sT s67 s8))
end
end Q

/-! no chosen ties, by the law's own account -/
namespace Q
open PySem L2 QM
def crB (g : Nat → Int) (l : List Int) : Bool := match crL g l with
  | [x, y] => decide (x ≠ y)
  | _ => false
theorem crB_iff {g : Nat → Int} {l : List Int} : crB g l = true ↔ CrossL g l := by
  constructor
  · intro h
    unfold crB at h
    split at h
    · rename_i x y e
      exact ⟨x, y, e, of_decide_eq_true h⟩
    · cases h
  · rintro ⟨x, y, e, ne⟩
    unfold crB
    rw [e]
    exact decide_eq_true ne
theorem no_key {g : Nat → Int} {L : List (Addr × List Int)} {E : List Grp} (I : GI g L L.length E) {l : List Int} (h : ¬ CrossL g l) : E.filter (fun e => decide (e.1 = crL g l)) = [] :=
  List.filter_eq_nil_iff.mpr fun e he z => h (by
    obtain ⟨x, y, e1, ne⟩ := I.crs e he
    exact ⟨x, y, by rw [← of_decide_eq_true z, e1], ne⟩)
/-- a tie of this web -/
def TieL (L : List (Addr × List Int)) (H : Hp) (v : V) : Prop := ∃ (t : Addr) (a b : Int), v = .ref t ∧ H t = some (.tup [.int a, .int b]) ∧ ([a, b] : List Int) ∈ L.map (·.2)
theorem tiesL_of {L : List (Addr × List Int)} {H : Hp} : ∀ {xs : List V}, (∀ v ∈ xs, TieL L H v) → ∃ T : List (Addr × List Int), xs = T.map (fun p => V.ref p.1) ∧ (∀ p ∈ T, H p.1 = some (.tup (p.2.map V.int))) ∧ (∀ p ∈ T, ∃ a b : Int, p.2 = [a, b]) ∧ ∀ p ∈ T, ∃ r ∈ L, r.2 = p.2
  | [], _ => ⟨[], rfl, fun p h => absurd h List.not_mem_nil, fun p h => absurd h List.not_mem_nil, fun p h => absurd h List.not_mem_nil⟩
  | v :: xs, h => by
    obtain ⟨T, e, h1, h2, h3⟩ := tiesL_of fun u hu => h u (List.mem_cons_of_mem _ hu)
    obtain ⟨t, a, b, e0, e1, m⟩ := h v List.mem_cons_self
    refine ⟨(t, [a, b]) :: T, by rw [e0, e]; rfl, fun p hp => ?_, fun p hp => ?_, fun p hp => ?_⟩
    · rcases List.mem_cons.mp hp with rfl | hp
      · exact e1
      · exact h1 p hp
    · rcases List.mem_cons.mp hp with rfl | hp
      · exact ⟨a, b, rfl⟩
      · exact h2 p hp
    · rcases List.mem_cons.mp hp with rfl | hp
      · obtain ⟨r, hr, e⟩ := List.mem_map.mp m
        exact ⟨r, hr, e⟩
      · exact h3 p hp
def spLAreCN : Sp := fun vs H Q _ => ∃ (W q pa : Addr) (v : V) (M : Nat) (L : List (Addr × List Int)) (par : Nat → Option Nat) (rk : Nat → Nat), vs = [.ref W, .ref pa, v] ∧ LWeb H W q (M : Int) L ∧ H pa = some (.tup (pVs M par)) ∧ ParOk M par rk ∧ M ≤ 40 ∧ Wk H v ∧ ¬ GoodC (fun i => (LD par M i : Int)) L M H v ∧
  ∀ H', Same H H' → Q (.bl false) H'
section
variable {P : Program} {w : World} {K : PySem.W.Frag} {mg : Str → Option Value} {base : Heap}
theorem scLAreCN : FnScope ["web", "parents", "thing", "tie", "between", "pairs", "end", "one", "other", "pair"] ["web", "parents", "thing"] (defScope sLAreC) := ⟨rfl, rfl, rfl, by decide +kernel, rfl, by decide +kernel, by decide +kernel⟩
theorem ok_larecN {f fN fL fB : Addr} {fd dN dL dB : FuncData} (F : Fun K "_law_are_chosen" "_law_are_chosen" sLAreC f fd) (B : Bts mg) (hz : mg "zip" = none) (ha : mg "all" = none) (DN : Df K mg "_law_number" sLNum ["thing", "least", "most"] fN dN)
    (DL : Df K mg "_law_leader" sLLd ["parents", "house"] fL dL) (DB : Df K mg "_law_between" sBtw ["web", "parents"] fB dB) : FnOk P w K mg base CX0 3 f fd ["web", "parents", "thing"] spLAreCN := by
  have GN : FnOk P w K mg base CX0 1 fN dN ["thing", "least", "most"] spLNumG := ok_lnumG DN.F B
  have GB : FnOk P w K mg base CX0 2 fB dB ["web", "parents"] spBtw := ok_btw DB.F B DL
  refine F.ok scLAreCN (fun vs H Q E h => ?_) (fun cdv A outer s H vs Q E hr h => ?_)
  · obtain ⟨W, q, pa, v, M, L, par, rk, rfl, _⟩ := h
    rfl
  · obtain ⟨W, q, pa, v, M, L, par, rk, rfl, lw, hpa, po, m40, wk, bad, k⟩ := h
    have nd := scLAreCN.nd
    have hu := hr.units
    have hu0 := hr.units0
    have hr1 : Room 1 _ := hr.mono (by decide)
    refine ⟨_, pss_cons (ps_if (pt_not (pt_val (pe_callB call_isi (by rfl) B.isinstance PyProof.Rows.boot_isinstance (pa_cons (pv 2) (pa_cons (pe_bltn (v := .ty "tuple") rfl B.tuple PyProof.Rows.boot_tuple rfl) pa_nil))))) (pss_one (ps_ret pe_bl)) pss_nil)
      (pss_cons (ps_for PassesOwn.never rfl (pi_tup (pv 2)) (pg_name (i := 3) nd rfl (.inr rfl))
        (pss_cons (ps_if (PW.pt (pw_or (pt_not (pt_val (pe_callB call_isi (by rfl) B.isinstance PyProof.Rows.boot_isinstance (pa_cons (pv 3) (pa_cons (pe_bltn (v := .ty "tuple") rfl B.tuple PyProof.Rows.boot_tuple rfl) pa_nil)))))
          (pw_or (pt_cmpR op_ne (pe_callB call_len_seq (by rfl) B.len PySem.boot_len (pa_cons (pv 3) pa_nil)) pe_int (nomark _))
          (pw_or1 (pt_not (pt_val (pe_callB (cr_all rfl) (by rfl) ha PyProof.Rows.boot_all (pa_cons (pe_lc (own := [("end", 6)]) (g := gName 6) (tt := tYes) rfl nd (pi_tup (pv 3))
            (blkOk_by (N := ["web", "parents", "thing", "tie", "between", "pairs", "end", "one", "other", "pair"]) (sc := defScope sLAreC) (by decide +kernel)) (fun _ _ _ _ _ => pg_name (i := 6) nd rfl (.inl rfl)) (fun _ _ _ _ _ => pts_nil)
            (fun _ _ _ _ _ => pe_call GN hr1 rfl DN.m DN.k DN.b .nil pass0 (pa_cons (pv 6) (pa_cons pe_int (pa_cons pe_int pa_nil))))) pa_nil)))))))) (pss_one (ps_ret pe_bl)) pss_nil)
        (pss_one (ps_if (pt_cmpR (op_notInP hu) (pv 3) (pe_ix ix_tup (pv 0) pe_int (fun _ _ => rfl)) rfl) (pss_one (ps_ret pe_bl)) pss_nil))))
      (pss_cons (ps_if (pt_not (pt_val (pe_callB (cr_all rfl) (by rfl) ha PyProof.Rows.boot_all (pa_cons (pe_lc (own := [("one", 7), ("other", 8)]) (g := gTup K 2 (gCons (gName 7) (gCons (gName 8) gNil))) (tt := tYes) rfl nd (RZ.pi_zipA rfl hz (pa_cons (pv 2) (pa_cons (pe_slice sl_C (pv 2) (po_some pe_int) po_none) pa_nil)))
            (blkOk_by (N := ["web", "parents", "thing", "tie", "between", "pairs", "end", "one", "other", "pair"]) (sc := defScope sLAreC) (by decide +kernel)) (fun _ _ _ _ _ => pg_tup rfl (pgs_cons (pg_name (i := 7) nd rfl (.inl rfl)) (pgs_cons (pg_name (i := 8) nd rfl (.inl rfl)) pgs_nil))) (fun _ _ _ _ _ => pts_nil)
            (fun _ _ _ _ _ => pe_cmpR (r := rLtT K) (op_ltT hu0) (pv 7) (pv 8) (nomark _))) pa_nil)))) (pss_one (ps_ret pe_bl)) pss_nil)
      (pss_cons (ps_set (i := 4) nd rfl (.inr rfl) (pe_call GB hr rfl DB.m DB.k DB.b .nil pass0 (pa_cons (pv 0) (pa_cons (pv 1) pa_nil))))
      (pss_cons (ps_set (i := 5) nd rfl (.inl rfl) (pe_lst pa_nil))
      (pss_cons (ps_for PassesOwn.never rfl (pi_tup (pv 2)) (pg_name (i := 3) nd rfl (.inr rfl))
        (pss_one (ps_set (i := 5) nd rfl (.inl rfl) (pe_op op_cat (pv 5) (pe_lock (pe_lc (own := [("pair", 9)]) (g := gName 9) rfl nd (pi_keys (pv 4))
          (blkOk_by (N := ["web", "parents", "thing", "tie", "between", "pairs", "end", "one", "other", "pair"]) (sc := defScope sLAreC) (by decide +kernel)) (fun _ _ _ _ _ => pg_name (i := 9) nd rfl (.inl rfl))
          (fun _ _ _ _ _ => pts_one (pt_cmpR (op_inPL hu) (pv 3) (pe_dget (hu_of hr) (pv 4) (pv 9) (by intro _ _; rfl)) rfl)) (fun _ _ _ _ _ => pv 9)))))))
      (pss_one (ps_ret (pe_and (pe_cmpR op_eq (pe_callB call_len_seq (by rfl) B.len PySem.boot_len (pa_cons (pv 5) pa_nil)) (pe_callB call_len_seq (by rfl) B.len PySem.boot_len (pa_cons (pv 2) pa_nil)) (nomark _))
        (pe_one (pe_cmpR (op_eqD hu) (pe_callB cr_sortedPO (by rfl) B.sorted PyProof.Rows.boot_sorted (pa_cons (pv 5) pa_nil))
          (pe_callB cr_sortedPO (by rfl) B.sorted PyProof.Rows.boot_sorted (pa_cons (pe_callTy (call_list_keysT rfl) (by rfl) B.list PyProof.Rows.boot_list (pa_cons (pe_bm0 PySem.F.plainAttrs_dict PySem.F.slot_dict_keys PySem.F.type_dict_keys mt_keysT (pv 4)) pa_nil)) pa_nil)) (nomark _))))))))))), ?_⟩
    have few := lw.2.few
    have rs : Same H H := fun _ _ e => e
    obtain ⟨t', b, ty, kb, cs⟩ := wk.kd.tyT (K := K)
    refine ⟨_, rfl, v, .ty "tuple", t', .type "tuple", b, rfl, .ty _, ty, kb, _, rfl, ?_⟩
    rcases cs with ⟨rfl, t, xs, rfl, ht⟩ | ⟨rfl, no⟩
    rotate_left
    · exact iteT (k H rs)
    obtain ⟨l4000, wi⟩ := wk.items ht
    refine iteF ?_
    refine ⟨_, rfl, t, rfl, ⟨_, SqT.of ht⟩, for_tup (K := K) (a := t) (xs := xs) (fun i σ H' => ∃ x3 : Option V, σ = [some (.ref W), some (.ref pa), some (.ref t), x3, none, none, none, none, none, none] ∧ Same H H' ∧ ∀ j v, j < i → xs[j]? = some v → TieL L H v) ?_ ?_ ?_ ?_⟩
    · exact ⟨none, rfl, rs, fun j v hj => absurd hj (Nat.not_lt_zero _)⟩
    · rintro i σ H1 hi ⟨_, _, s1, _⟩
      exact SqT.of (s1 _ _ ht)
    · rintro i v σ H1 hv ⟨x3, rfl, s1, tl⟩
      have wv := wi v (List.mem_of_getElem? hv)
      obtain ⟨t1, b1, ty1, kb1, cs1⟩ := (wv.same s1).kd.tyT (K := K)
      refine ⟨_, rfl, v, .ty "tuple", t1, .type "tuple", b1, rfl, .ty _, ty1, kb1, _, rfl, ?_⟩
      rcases cs1 with ⟨rfl, p, ys, rfl, hp1⟩ | ⟨rfl, no⟩
      rotate_left
      · exact iteT (k _ s1)
      have hp := wv.tupB s1 hp1
      refine iteF ⟨_, rfl, p, _, rfl, .inr (SqT.of hp1), rfl, _, rfl, ?_⟩
      by_cases len : ys.length = 2
      rotate_left
      · rw [decide_eq_false (fun z => len (by have := V.int.inj z; omega))]
        exact iteT (k _ s1)
      obtain ⟨y, z, rfl⟩ : ∃ y z, ys = [y, z] := by
        match ys, len with
        | [y, z], _ => exact ⟨y, z, rfl⟩
      have wys := ((wv.same s1).items hp1).2
      refine iteF ⟨_, rfl, p, rfl, ⟨_, SqT.of hp1⟩, fun D1 hD1 => lc_tup (K := K) (a := p) (xs := [y, z]) (fun i H' => BoS (fun j => ∀ u, [y, z][j]? = some u → ∃ n : Int, u = .int n ∧ 0 ≤ n ∧ n ≤ 39) H' D1 i ∧ Same H1 H') ?_ ?_ ?_ ?_⟩
      · exact ⟨BoS.nil, sN hD1⟩
      · rintro i H2 hi ⟨_, s2⟩
        exact SqT.of (s2 _ _ hp1)
      · rintro i u H2 hu2 ⟨bo, s2⟩
        have hi : i < 2 := (List.getElem?_eq_some_iff.mp hu2).1
        have wu := wys u (List.mem_of_getElem? hu2)
        obtain ⟨bs0, eD, lb, _⟩ := bo.e
        refine ⟨rfl, _, rfl, u, 0, 39, rfl, wu.kd.same s2, fun b hb => ⟨_, eD, ?_, bo.push eD ⟨_, eD, rfl⟩ ?_, sNew s2 hD1⟩⟩
        · rw [List.length_map, lb]
          exact Nat.lt_of_lt_of_le (show i < 64 by omega) (by decide)
        · rw [hb]
          exact ⟨fun h u' e => by rw [hu2] at e; cases e; exact h, fun h => h u hu2⟩
      rintro H2 ⟨⟨bs, eD, lb, hb⟩, s2⟩
      refine ⟨D1, bs, rfl, SqL.of eD, ?_⟩
      have s12 := sT s1 s2
      cases c : bs.all id with
      | false => exact ⟨_, rfl, iteT (k _ s12)⟩
      | true =>
      obtain ⟨a, rfl, _⟩ := hb.mp c 0 (Nat.zero_lt_succ _) y rfl
      obtain ⟨b, rfl, _⟩ := hb.mp c 1 (Nat.lt_succ_self 1) z rfl
      refine ⟨_, rfl, iteF ?_⟩
      refine ⟨_, rfl, _, rfl, W, _, 1, _, rfl, rfl, SqT.of (s12 _ _ lw.1), rfl, p, q, [a, b], L, rfl, rfl, s2 _ _ hp1, s12 _ _ lw.2.at_, fun z hz2 => s12 _ _ (lw.2.tup z hz2), ?_⟩
      by_cases m : ([a, b] : List Int) ∈ L.map (·.2)
      rotate_left
      · rw [decide_eq_false m]
        exact ⟨_, rfl, iteT (k _ s12)⟩
      rw [decide_eq_true m]
      refine ⟨_, rfl, iteF ⟨_, rfl, s12, fun j v hj e => ?_⟩⟩
      by_cases cj : j = i
      · subst cj
        rw [hv] at e
        cases e
        exact ⟨p, a, b, rfl, hp, m⟩
      · exact tl j v (by omega) e
    rintro σ H1 ⟨x3, rfl, s1, tl⟩
    obtain ⟨T, rfl, tup, prs, sub⟩ := tiesL_of (fun v hv => by
      obtain ⟨j, hj⟩ := List.mem_iff_getElem?.mp hv
      exact tl j v (List.getElem?_eq_some_iff.mp hj).1 hj)
    have lT : T.length ≤ 4000 := by rwa [List.length_map] at l4000
    -- ascending
    refine ⟨_, rfl, _, rfl, 1, rfl, t, _, rfl, s1 _ _ ht, fun z H2 s2 hz1 => ?_⟩
    rw [cut_tl, ← List.map_tail] at hz1
    have s12 := sT s1 s2
    refine ⟨t, z, T.map (fun p => V.ref p.1), T.tail.map (fun p => V.ref p.1), rfl, .inr ⟨SqT.of (s12 _ _ ht), SqT.of hz1, fun D hD => lc_it (walk_zipT (K := K) (a := t) (b := z) (xs := T.map fun p => V.ref p.1) (ys := T.tail.map fun p => V.ref p.1) (n := T.length - 1) (by rw [List.length_map, List.length_map, List.length_tail]; omega)) (fun i H' => BoS (fun j => ∀ p r, T[j]? = some p → T[j + 1]? = some r → ltP p.2 r.2) H' D i ∧ i ≤ T.length ∧ Same H2 H') ?_ ?_ ?_ ?_⟩⟩
    · exact ⟨BoS.nil, Nat.zero_le _, sN hD⟩
    · rintro i H3 hi ⟨_, _, s3⟩
      exact ⟨SqT.of (s3 _ _ (s12 _ _ ht)), SqT.of (s3 _ _ hz1)⟩
    · rintro i v H3 H4 hi ⟨bo, _, s3⟩ ⟨T', x, y, rfl, hT, rfl, hx, hy⟩
      have s4 := sN (o := .tup [x, y]) hT
      have hx' : (T.map fun p => V.ref p.1)[i]? = some x := hx
      have hy' : (T.tail.map fun p => V.ref p.1)[i]? = some y := hy
      obtain ⟨p, hp, rfl⟩ := map_inv hx'
      obtain ⟨r, hr2, rfl⟩ := map_inv hy'
      have hr3 : T[i + 1]? = some r := by
        rw [List.getElem?_tail] at hr2
        exact hr2
      have h1 : i < T.length := (List.getElem?_eq_some_iff.mp hp).1
      have ss := sT s12 (sT s3 s4)
      obtain ⟨bs0, eD, lb, _⟩ := bo.e
      obtain ⟨a, b, e1⟩ := prs p (List.mem_of_getElem? hp)
      obtain ⟨c, d, e2⟩ := prs r (List.mem_of_getElem? hr3)
      have lx : HT.lexLt p.2 r.2 = true ↔ ltP p.2 r.2 := by rw [e1, e2]; exact lexLt_iff
      refine ⟨T', _, rfl, SqT.of upd_same, rfl, _, _, rfl, _, _, rfl, rfl, rfl, ?_⟩
      refine ⟨_, rfl, _, rfl, p.1, r.1, p.2, r.2, rfl, rfl, SqT.of (ss _ _ (tup p (List.mem_of_getElem? hp))), SqT.of (ss _ _ (tup r (List.mem_of_getElem? hr3))), ?_⟩
      refine ⟨_, s4 _ _ eD, ?_, bo.push (s4 _ _ eD) ⟨_, eD, rfl⟩ ?_, by omega, ?_⟩
      · rw [List.length_map, lb]
        exact Nat.lt_of_lt_of_le (show i < 4001 by omega) (by decide)
      · rw [lx]
        exact ⟨fun h p' r' e3 e4 => by rw [hp] at e3; rw [hr3] at e4; cases e3; cases e4; exact h, fun h => h p r hp hr3⟩
      · exact sNew (sT s3 s4) hD
    rintro H3 ⟨⟨bs, eD0, lb, hb⟩, _, s3⟩
    refine ⟨D, bs, rfl, SqL.of eD0, ?_⟩
    have s13 := sT s12 s3
    cases c : bs.all id with
    | false => exact ⟨_, rfl, iteT (k _ s13)⟩
    | true =>
    have asc : T.Pairwise (fun x y => ltP x.2 y.2) := adj_pair (R := fun x y : Addr × List Int => ltP x.2 y.2) (fun x y z h1 h2 => ltP_trans h1 h2) T fun i p r e1 e2 => hb.mp c i (by
      have := (List.getElem?_eq_some_iff.mp e2).1
      omega) p r e1 e2
    refine ⟨_, rfl, iteF ?_⟩
    clear eD0 hb lb hD D hz1 z
    refine ⟨_, rfl, _, rfl, W, q, pa, M, L, par, rk, rfl, ⟨s13 _ _ lw.1, lw.2.same s13⟩, s13 _ _ hpa, po, m40, fun D E H4 s4 hD eD I ga => ?_⟩
    have s14 := sT s13 s4
    refine ⟨Nat.zero_le _, fun Pl0 hPl0 => ?_⟩
    have s5 := sN (o := .lst []) hPl0
    have ePl0 : (upd H4 Pl0 (.lst [])) Pl0 = some (.lst []) := upd_same
    have eD5 := s5 _ _ eD
    have ga5 := ga.same s5
    have s15 := sT s14 s5
    revert s5 ePl0 eD5 ga5 s15
    generalize (upd H4 Pl0 (.lst [])) = H5
    intro s5 ePl0 eD5 ga5 s15
    have lenE := I.len
    refine ⟨_, rfl, t, rfl, ⟨_, SqT.of (s15 _ _ ht)⟩, for_tup (K := K) (a := t) (xs := T.map fun p => V.ref p.1) (fun i σ H' => ∃ (x3 : Option V) (Pl : Addr) (Cs : List (Addr × List Int)), σ = [some (.ref W), some (.ref pa), some (.ref t), x3, some (.ref D), some (.ref Pl), none, none, none, none] ∧ H' Pl = some (.lst (Cs.map fun c => V.ref c.1)) ∧ Cs.map (·.2) = ((T.take i).filter (fun p => crB (fun i => (LD par M i : Int)) p.2)).map (fun p => crL (fun i => (LD par M i : Int)) p.2) ∧ (∀ c ∈ Cs, H' c.1 = some (.tup (c.2.map V.int))) ∧ Same H5 H') ?_ ?_ ?_ ?_⟩
    · exact ⟨_, Pl0, [], rfl, ePl0, rfl, fun c h => absurd h List.not_mem_nil, fun _ _ e => e⟩
    · rintro i σ H6 hi ⟨_, _, _, _, _, _, _, s6⟩
      exact SqT.of (s6 _ _ (s15 _ _ ht))
    · rintro i v σ H6 hv ⟨x3, Pl, Cs, rfl, ePl, ev, tc, s6⟩
      obtain ⟨p, hp, rfl⟩ := map_inv hv
      have hi : i < T.length := (List.getElem?_eq_some_iff.mp hp).1
      have hm := List.mem_of_getElem? hp
      have eD6 := s6 _ _ eD5
      have htp := s6 _ _ (s15 _ _ (tup p hm))
      have lcs : Cs.length ≤ i := by
        have z := congrArg List.length ev
        rw [List.length_map, List.length_map] at z
        have z2 := List.length_filter_le (fun p : Addr × List Int => crB (fun i => (LD par M i : Int)) p.2) (T.take i)
        rw [List.length_take] at z2
        omega
      obtain ⟨r', hr', er⟩ := sub p hm
      refine ⟨_, rfl, D, _, eD6, trivial, fun od => ?_⟩
      refine ⟨_, rfl, D, od, rfl, .inr ⟨_, upd_same, fun Dl hDl => lc_it (walk_keysT (d := D) (o := od) (kvs := kG E)) (fun j H' => ∃ Xs : List (Addr × List Int), H' Dl = some (.lst (Xs.map fun c => V.ref c.1)) ∧ Xs.map (·.2) = ((E.take j).filter (fun e => decide (e.1 = crL (fun i => (LD par M i : Int)) p.2))).map (·.1) ∧ (∀ c ∈ Xs, H' c.1 = some (.tup (c.2.map V.int))) ∧ j ≤ E.length ∧ H' D = some (.frz od (.dT (kG E))) ∧ (∀ b o, H6 b = some o → b ≠ D → H' b = some o)) ?_ ?_ ?_ ?_⟩⟩
      · have nd2 : D ≠ Dl := fun e => by rw [← e, upd_same] at hDl; cases hDl
        refine ⟨[], upd_same, rfl, fun c h => absurd h List.not_mem_nil, Nat.zero_le _, by rw [upd_ne nd2, upd_same], fun b o e nb => ?_⟩
        have hb : b ≠ Dl := fun z => by rw [← z, upd_ne nb, e] at hDl; cases hDl
        rw [upd_ne hb, upd_ne nb]
        exact e
      · rintro j H7 hj ⟨_, _, _, _, _, eF, _⟩
        exact eF
      · rintro j x H7 H8 hj ⟨Xs, eL, ex, tx, _, eF, kp⟩ ⟨rfl, ky, vv, qk, hk, rfl, eqk⟩
        have hjE : j < E.length := by
          unfold kG at hj
          rw [List.length_map] at hj
          exact hj
        have hje : E[j]? = some E[j] := List.getElem?_eq_getElem hjE
        have hke : (kG E)[j]? = some (E[j].1.map Sum.inl, V.ref E[j].2.1) := by
          unfold kG
          rw [List.getElem?_map, hje]
          rfl
        rw [hke] at hk
        obtain ⟨rfl, rfl⟩ := Prod.mk.inj (Option.some.inj hk)
        have hmE : E[j] ∈ E := List.getElem_mem hjE
        have hl := s6 _ _ (ga5.at_ _ hmE)
        have nD : E[j].2.1 ≠ D := ne_of hl eD6 (fun z => by cases z)
        have nP : p.1 ≠ D := ne_of htp eD6 (fun z => by cases z)
        have eq2 : H8 qk = some (.tup (E[j].1.map V.int)) := by
          have z : H8 qk = some (.tup ((E[j].1.map Sum.inl).map kV)) := eqk
          rw [z, List.map_map]
          rfl
        have lx : Xs.length ≤ j := by
          have z := congrArg List.length ex
          rw [List.length_map, List.length_map] at z
          have z2 := List.length_filter_le (fun e : Grp => decide (e.1 = crL (fun i => (LD par M i : Int)) p.2)) (E.take j)
          rw [List.length_take] at z2
          omega
        have DlD : D ≠ Dl := fun z => by rw [← z, eF] at eL; cases eL
        have nDl : ∀ {b : Addr} {o : HO}, H6 b = some o → b ≠ D → b ≠ Dl := fun {b o} e nb z => by
          rw [← z, upd_ne nb, e] at hDl
          cases hDl
        refine ⟨rfl, _, rfl, _, rfl, _, rfl, D, _, rfl, .inr ⟨_, _, qk, .inr ⟨od, eF⟩, rfl, eqk, (kG_at I.nd hmE).symm⟩, p.1, E[j].2.1, p.2, E[j].2.2, rfl, rfl, kp _ _ htp nP, kp _ _ hl nD, fun z hz2 => ?_, ?_⟩
        · have y := s6 _ _ (ga5.tup _ hmE z hz2)
          exact kp _ _ y (ne_of y eD6 (fun z => by cases z))
        have dd : decide (p.2 ∈ E[j].2.2.map (·.2)) = decide (E[j].1 = crL (fun i => (LD par M i : Int)) p.2) := by
          have := I.has hmE p.2 ⟨r', hr', er⟩
          by_cases c : E[j].1 = crL (fun i => (LD par M i : Int)) p.2
          · rw [decide_eq_true c, decide_eq_true (this.mpr c)]
          · rw [decide_eq_false c, decide_eq_false fun z => c (this.mp z)]
        rw [dd]
        refine ⟨_, rfl, ite2 (fun c => ?_) (fun c => ?_)⟩
        · refine ⟨_, rfl, _, eL, ?_, Xs ++ [(qk, E[j].1)], ?_, ?_, fun z hz2 => ?_, hjE, ?_, fun b o e nb => ?_⟩
          · rw [List.length_map]
            exact Nat.lt_of_lt_of_le (show Xs.length < 1001 by omega) (by decide)
          · rw [upd_same, List.map_append]
            rfl
          · rw [List.map_append, ex, take_snoc hje, List.filter_append, List.filter_cons_of_pos (p := fun e : Grp => decide (e.1 = crL (fun i => (LD par M i : Int)) p.2)) c, List.map_append]
            rfl
          · rcases List.mem_append.mp hz2 with hz2 | hz2
            · have y := tx z hz2
              rw [upd_ne (ne_of y eL (fun z => by cases z))]
              exact y
            · rw [List.mem_singleton.mp hz2]
              show (upd H8 Dl _) qk = _
              rw [upd_ne (ne_of eq2 eL (fun z => by cases z))]
              exact eq2
          · rw [upd_ne DlD]
            exact eF
          · rw [upd_ne (nDl e nb)]
            exact kp b o e nb
        · refine ⟨Xs, eL, ?_, tx, hjE, eF, kp⟩
          rw [ex, take_snoc hje, List.filter_append, List.filter_cons_of_neg (p := fun e : Grp => decide (e.1 = crL (fun i => (LD par M i : Int)) p.2)) c]
          rw [List.filter_nil, List.append_nil]
      · rintro H7 ⟨Xs, eL, ex, tx, _, eF, kp⟩
        have lk : (kG E).length = E.length := by
          unfold kG
          rw [List.length_map]
        rw [lk, List.take_length] at ex
        have ex2 : Xs.map (·.2) = if crB (fun i => (LD par M i : Int)) p.2 = true then [crL (fun i => (LD par M i : Int)) p.2] else [] := by
          by_cases cc : crB (fun i => (LD par M i : Int)) p.2 = true
          · rw [if_pos cc, ex]
            refine one_key I.nd ?_
            obtain ⟨e, he, z⟩ := I.all r' (by rw [List.take_length]; exact hr') (by rw [er]; exact crB_iff.mp cc)
            exact ⟨e, he, by rw [z, er]⟩
          · rw [if_neg cc, ex, no_key I (fun h => cc (crB_iff.mpr h))]
            rfl
        refine ⟨eF, ?_⟩
        have s67 : Same H6 (upd H7 D (.dT (kG E))) := fun b o e => by
          by_cases nb : b = D
          · rw [nb, upd_same]
            rw [nb] at e
            exact eD6.symm.trans e
          · rw [upd_ne nb]
            exact kp b o e nb
        have DlD : Dl ≠ D := fun z => by rw [z, eF] at eL; cases eL
        have eL2 : (upd H7 D (.dT (kG E))) Dl = some (.lst (Xs.map fun c => V.ref c.1)) := by
          rw [upd_ne DlD]
          exact eL
        have tx2 : ∀ c ∈ Xs, (upd H7 D (.dT (kG E))) c.1 = some (.tup (c.2.map V.int)) := fun c hc => by
          rw [upd_ne (ne_of (tx c hc) eF (fun z => by cases z))]
          exact tx c hc
        revert s67 eL2 tx2
        generalize upd H7 D (.dT (kG E)) = H8
        intro s67 eL2 tx2
        have lx : Xs.length ≤ 1 := by
          have z := congrArg List.length ex2
          rw [List.length_map] at z
          split at z
          · exact Nat.le_of_eq z
          · rw [z]
            exact Nat.zero_le _
        refine ⟨Pl, Dl, _, _, rfl, rfl, s67 _ _ ePl, eL2, ?_, fun Pn hPn => ?_⟩
        · rw [List.length_map, List.length_map]
          exact Nat.le_trans (show Cs.length + Xs.length ≤ 8000 by omega) (by decide)
        · have s8 := sN (o := .lst ((Cs.map fun c => V.ref c.1) ++ (Xs.map fun c => V.ref c.1))) hPn
          refine ⟨_, Pn, Cs ++ Xs, rfl, ?_, ?_, fun c hc => ?_, sT s6 (sT s67 s8)⟩
          · rw [upd_same, List.map_append]
          · rw [List.map_append, ev, ex2, take_snoc hp, List.filter_append, List.map_append]
            by_cases cc : crB (fun i => (LD par M i : Int)) p.2 = true
            · rw [if_pos cc, List.filter_cons_of_pos (p := fun p : Addr × List Int => crB (fun i => (LD par M i : Int)) p.2) cc]
              rfl
            · rw [if_neg cc, List.filter_cons_of_neg (p := fun p : Addr × List Int => crB (fun i => (LD par M i : Int)) p.2) cc]
              rfl
          · rcases List.mem_append.mp hc with hc | hc
            · exact s8 _ _ (s67 _ _ (tc c hc))
            · exact s8 _ _ (tx2 c hc)
    rintro σ H6 ⟨x3, Pl, Cs, rfl, ePl, ev, tc, s6⟩
    rw [List.length_map, List.take_length] at ev
    have s16 := sT s15 s6
    refine ⟨_, rfl, Pl, _, rfl, .inl (SqL.of ePl), _, rfl, t, _, rfl, .inr (SqT.of (s16 _ _ ht)), rfl, _, rfl, ?_⟩
    rw [List.length_map, List.length_map]
    by_cases same : Cs.length = T.length
    rotate_left
    · rw [decide_eq_false (fun z => same (by have := V.int.inj z; omega))]
      exact iteF (k _ s16)
    rw [same, decide_eq_true rfl]
    refine iteT ?_
    have fl : T.filter (fun p => crB (fun i => (LD par M i : Int)) p.2) = T := by
      refine List.Sublist.eq_of_length List.filter_sublist ?_
      have z := congrArg List.length ev
      rw [List.length_map, List.length_map] at z
      omega
    rw [fl] at ev
    have crsT : ∀ p ∈ T, CrossL (fun i => (LD par M i : Int)) p.2 := fun p hp => by
      rw [← fl] at hp
      exact crB_iff.mp (List.mem_filter.mp hp).2
    have prC : ∀ c ∈ Cs, ∃ u v : Int, c.2 = [u, v] := fun c hc => by
      have z : c.2 ∈ T.map (fun p => crL (fun i => (LD par M i : Int)) p.2) := by
        rw [← ev]
        exact List.mem_map.mpr ⟨c, hc, rfl⟩
      obtain ⟨p, hp, e⟩ := List.mem_map.mp z
      obtain ⟨x1, y1, e1, _⟩ := crsT p hp
      exact ⟨x1, y1, by rw [← e, e1]⟩
    have kx : ∀ {H' : Hp} {Cs : List (Addr × List Int)}, (∀ c ∈ Cs, H' c.1 = some (.tup (c.2.map V.int))) → (∀ c ∈ Cs, ∃ u v : Int, c.2 = [u, v]) → ∀ y ∈ Cs.map (fun p => V.ref p.1), ∃ t, y = V.ref t ∧ H' t = some (.tup [.int (kH H' y).1, .int (kH H' y).2]) := fun {H' Cs} tc pc y hy => by
      obtain ⟨p, hp, rfl⟩ := List.mem_map.mp hy
      obtain ⟨a, b, e⟩ := pc p hp
      have t := tc p hp
      rw [e] at t
      refine ⟨p.1, rfl, ?_⟩
      rw [kH_at t]
      exact t
    refine ⟨_, rfl, Pl, _, kH H6, rfl, SqL.of ePl, kx tc prC, fun ys1 sp1 sr1 sb1 hsp1 => ?_⟩
    obtain ⟨R1, rfl, perm1⟩ := perm_lift sb1.perm Cs rfl
    have s7 := sN (o := .lst (R1.map fun p => V.ref p.1)) hsp1
    have esp1 : (upd H6 sp1 (.lst (R1.map fun p => V.ref p.1))) sp1 = some (.lst (R1.map fun p => V.ref p.1)) := upd_same
    revert s7 esp1
    generalize upd H6 sp1 (.lst (R1.map fun p => V.ref p.1)) = H7
    intro s7 esp1
    have eD7 := s7 _ _ (s6 _ _ eD5)
    refine ⟨_, rfl, .inr (.inr (.inl ⟨rfl, .inr ⟨_, eD7⟩⟩)), D, _, rfl, rfl, eD7, fun vw hvw => ?_⟩
    have s8 := sN (o := viewO "dict_keys" vw D) hvw
    have eD8 : (upd H7 vw (viewO "dict_keys" vw D)) D = some (.dT (kG E)) := by rw [upd_ne (ne_of_none eD7 hvw)]; exact eD7
    refine ⟨vw, D, _, rfl, upd_same, eD8, fun l bs hl hb => ?_⟩
    obtain ⟨Bs, eb1, eb2, eb3⟩ := keys_of hb
    rw [eb1]
    have s9 := sT s8 (sN (o := .lst (Bs.map fun p => V.ref p.1)) hl)
    have el : (upd (upd H7 vw (viewO "dict_keys" vw D)) l (.lst (Bs.map fun p => V.ref p.1))) l = some (.lst (Bs.map fun p => V.ref p.1)) := upd_same
    have tb : ∀ p ∈ Bs, (upd (upd H7 vw (viewO "dict_keys" vw D)) l (.lst (Bs.map fun p => V.ref p.1))) p.1 = some (.tup (p.2.map V.int)) := fun p hp => sN hl _ _ (eb3 p hp)
    revert s9 el tb
    generalize (upd (upd H7 vw (viewO "dict_keys" vw D)) l (.lst (Bs.map fun p => V.ref p.1))) = H9
    intro s9 el tb
    have prB : ∀ c ∈ Bs, ∃ u v : Int, c.2 = [u, v] := fun c hc => by
      have z : c.2 ∈ E.map (·.1) := by
        rw [← eb2]
        exact List.mem_map.mpr ⟨c, hc, rfl⟩
      obtain ⟨e, he, ee⟩ := List.mem_map.mp z
      obtain ⟨x1, y1, e1, _⟩ := I.crs e he
      exact ⟨x1, y1, by rw [← ee, e1]⟩
    refine ⟨l, _, kH H9, rfl, SqL.of el, kx tb prB, fun ys2 sp2 sr2 sb2 hsp2 => ?_⟩
    obtain ⟨R2, rfl, perm2⟩ := perm_lift sb2.perm Bs rfl
    have s10 := sN (o := .lst (R2.map fun p => V.ref p.1)) hsp2
    have t1 : ∀ p ∈ R1, (upd H9 sp2 (.lst (R2.map fun p => V.ref p.1))) p.1 = some (.tup (p.2.map V.int)) := fun p hp => s10 _ _ (s9 _ _ (s7 _ _ (tc p (perm1.mem_iff.mp hp))))
    have t2' : ∀ p ∈ R2, (upd H9 sp2 (.lst (R2.map fun p => V.ref p.1))) p.1 = some (.tup (p.2.map V.int)) := fun p hp => s10 _ _ (tb p (perm2.mem_iff.mp hp))
    refine ⟨.list (R1.map fun p => pT p.2), .list (R2.map fun p => pT p.2), .lst (SqL.of (s10 _ _ (s9 _ _ esp1))) (dp_all R1 t1), .lst (SqL.of upd_same) (dp_all R2 t2'), shaped_pTs _, shaped_pTs _, ?_⟩
    have evF : PyData.eqv (.list (R1.map fun p => pT p.2)) (.list (R2.map fun p => pT p.2)) = false := by
      cases c3 : PyData.eqv (.list (R1.map fun p => pT p.2)) (.list (R2.map fun p => pT p.2)) with
      | false => rfl
      | true =>
        simp only [PyData.eqv] at c3
        have e12 := eqv_pTs_inv c3
        have pm : (T.map fun p => crL (fun i => (LD par M i : Int)) p.2).Perm (E.map (·.1)) := by
          rw [← ev, ← eb2]
          exact ((perm1.map (·.2)).symm.trans (by rw [e12])).trans (perm2.map (·.2))
        refine absurd ⟨t, T, rfl, ChoAt.of_perm (H2 := H) (t2 := t) (T2 := T) ht tup (fun p hp => ?_) asc sub (fun l hl => ?_) (pm.nodup_iff.mpr I.nd) (fun r hr c => ?_)⟩ bad
        · obtain ⟨r', hr', er⟩ := sub p hp
          obtain ⟨a, b, e2, r⟩ := lw.2.ok r' hr'
          exact ⟨a, b, by rw [← er, e2], r⟩
        · obtain ⟨p, hp, e⟩ := List.mem_map.mp hl
          obtain ⟨x1, y1, e3, ne⟩ := crsT p hp
          exact ⟨x1, y1, by rw [← e, e3], ne⟩
        · obtain ⟨e, he, z⟩ := I.all r (by rw [List.take_length]; exact hr) c
          exact pm.mem_iff.mpr (List.mem_map.mpr ⟨e, he, z⟩)
    rw [evF]
    exact k _ (sT s16 (sT s7 (sT s9 s10)))
end
end Q

/-! a Keeper that is refused -/
namespace Q
open PySem L2 QM
abbrev sPart : Stmt := inClass (top 4) 0
def xdP (y : V) : HO := .xd [("part", y)]
def spPart (CB : Addr) : Sp := fun vs H Q _ => ∃ (a : Addr) (y : V), vs = [.ref a, y] ∧ H a = some (exo a CB none) ∧ ∀ d, H d = none → d ≠ a → Q .non (upd (upd H d (exd d [("part", y)])) a (exo a CB (some d)))
/-- what the top says of BadKeeper -/
structure BTxt (K : PySem.W.Frag) (mg : Str → Option Value) (CB fI : Addr) (fd : FuncData) : Prop where
  ox : OexC K CB
  iC : PySem.W.findIn K (.ref CB) "__init__" = some (some (.ref fI))
  tI : PySem.W.typeIn K (.ref fI) = some (.type "function")
  F : Fun K "__init__" "BadKeeper.__init__" sPart fI fd
  b : Binds K fd ["self", "part"] []
  no : PySem.W.findIn K (.ref CB) "part" = some none
  g : mg "BadKeeper" = some (.ref CB)
  ex : PySem.W.exmOne K (.ref CB) (.ref CB) = some true
  xf : XfC K CB
/-- why a Keeper is refused -/
def Refused (L : List (Addr × List Int)) (M : Nat) (H : Hp) (v u : V) (r : V) : Prop :=
  (¬ GoodP L M H v ∧ r = .str "parents") ∨ (∃ (pa : Addr) (par : Nat → Option Nat) (rk : Nat → Nat), v = .ref pa ∧ H pa = some (.tup (pVs M par)) ∧ ParG M par rk L ∧ ¬ GoodC (fun i => (LD par M i : Int)) L M H u ∧ r = .str "chosen")
def spKeepN (C CK CB : Addr) : Sp := fun vs H Q E => ∃ (x dx w q : Addr) (v u r : V) (M : Nat) (L : List (Addr × List Int)), vs = [.ref x, .ref w, v, u] ∧ H x = some (.ins CK dx []) ∧ WebQ C M H w q L ∧ 1 ≤ M ∧ M ≤ 40 ∧ Wk H v ∧ Wk H u ∧ Refused L M H v u r ∧
  ∀ d H', H' d = some (xdP r) → Same H H' → E (.ref CB) (some d) H'
section
variable {P : Program} {w : World} {K : PySem.W.Frag} {mg : Str → Option Value} {base : Heap}
theorem scPart : FnScope ["self", "part"] ["self", "part"] (defScope sPart) := ⟨rfl, rfl, rfl, by decide +kernel, rfl, by decide +kernel, by decide +kernel⟩
theorem ok_part {CB fI : Addr} {fd : FuncData} (T : BTxt K mg CB fI fd) (B : Bts mg) : FnOk P w K mg base CX0 1 fI fd ["self", "part"] (spPart CB) := by
  refine T.F.ok scPart (fun vs H Q E h => ?_) (fun cdv A outer s H vs Q E hr h => ?_)
  · obtain ⟨a, y, rfl, _⟩ := h
    rfl
  · obtain ⟨a, y, rfl, e, k⟩ := h
    refine ⟨_, pss_one (ps_ost (pv 0) (pv 1)), ?_⟩
    exact ⟨_, rfl, _, rfl, a, CB, rfl, T.ox, T.no, .inl ⟨e, fun d n ne => k d n ne⟩⟩
/-- raise BadKeeper(y) -/
theorem bad_raise {CB : Addr} {H H1 : Hp} {y : V} {E : XK} (s : Same H H1) (k : ∀ d H', H' d = some (xdP y) → Same H H' → E (.ref CB) (some d) H') :
    [y].length ≤ 1000 ∧ ∀ a, H1 a = none → spPart CB (.ref a :: ([y] ++ [])) (upd H1 a (exo a CB none)) (fun v H2 => v = .non ∧ ∃ (d : Addr) (fs : List (Str × V)), H2 a = some (exo a CB (some d)) ∧ H2 d = some (exd d fs) ∧ H1 d = none ∧ E (.ref CB) (some d) (upd (del H2 a) d (.xd fs))) (fun _ _ _ => False) := by
  refine ⟨(by show 1 ≤ 1000; decide), fun a ha => ⟨a, y, rfl, upd_same, fun d hd hda => ⟨rfl, d, _, upd_same, ?_, ?_, k d _ upd_same fun b o e => ?_⟩⟩⟩
  · rw [upd_ne hda, upd_same]
  · rw [upd_ne hda] at hd
    exact hd
  · have hb := s _ _ e
    have nba : b ≠ a := ne_of_none hb ha
    rw [upd_ne hda] at hd
    have nbd : b ≠ d := ne_of_none hb hd
    rw [upd_ne nbd, del_ne nba, upd_ne nba, upd_ne nbd, upd_ne nba]
    exact hb
theorem scKeepN : FnScope ["self", "web", "parents", "chosen", "leaders"] ["self", "web", "parents", "chosen"] (defScope sKeep) := ⟨rfl, rfl, rfl, by decide +kernel, rfl, by decide +kernel, by decide +kernel⟩
theorem ok_keepN {f C CK CB fI : Addr} {fd fdI : FuncData} (F : Fun K "__init__" "Keeper.__init__" sKeep f fd) (B : Bts mg) (hz : mg "zip" = none) (ha : mg "all" = none) (T : WTxt K mg C) (TK : KTxt K mg CK) (D : WDefs K mg) (G : GDefs K mg) (BT : BTxt K mg CB fI fdI) : FnOk P w K mg base (L2.CX P w) 6 f fd ["self", "web", "parents", "chosen"] (spKeepN C CK CB) := by
  have GP : FnOk P w K mg base CX0 5 G.fP G.dP ["web", "thing"] (spArePG C) := ok_arepG G.DP.F B ha T D G.DN G.DI G.DU G.DL
  have GL2 : FnOk P w K mg base CX0 2 G.fL G.dL ["parents"] spLds := ok_lds G.DL.F B G.DU
  have GC : FnOk P w K mg base CX0 4 G.fC G.dC ["web", "leaders", "thing"] (spAreCN C) := ok_arecN G.DC.F B hz ha T D G.DX G.DA G.DT
  have GH : FnOk P w K mg base CX0 1 G.fH G.dH ["parents"] spChild := ok_child G.DH.F B
  have GB : FnOk P w K mg base CX0 1 D.fB D.dB ["many", "ties"] spBeside := ok_beside D.DB.F B
  have GI : FnOk P w K mg base CX0 1 fI fdI ["self", "part"] (spPart CB) := ok_part BT B
  refine F.okX scKeepN (fun vs H Q E h => ?_) (fun cdv A outer s H vs Q E hr h => ?_)
  · obtain ⟨x, dx, w, q, v, u, r, M, L, rfl, _⟩ := h
    rfl
  · obtain ⟨x, dx, w, q, v, u, r, M, L, rfl, hx, ⟨dw, rr, bs, nb, wi, tt⟩, m1, m40, wv, wu, ref, k⟩ := h
    have nd := scKeepN.nd
    have hr1 : Room 1 _ := hr.mono (by decide)
    have hr2 : Room 2 _ := hr.mono (by decide)
    have hr4 : Room 4 _ := hr.mono (by decide)
    refine ⟨_, pss_cons (ps_if (pt_not (pt_val (pe_call GP hr rfl G.DP.m G.DP.k G.DP.b .nil pass0 (pa_cons (pv 1) (pa_cons (pv 2) pa_nil))))) (pss_one (ps_raise rfl (takes_of rfl rfl rfl rfl) (pmk_oex BT.ox BT.iC BT.tI GI hr2 BT.b .nil pass0 rfl BT.g (pa_cons pe_str pa_nil)))) pss_nil)
      (pss_cons (ps_set (i := 4) nd rfl (.inl rfl) (pe_call GL2 hr2 rfl G.DL.m G.DL.k G.DL.b .nil pass0 (pa_cons (pv 2) pa_nil)))
      (pss_cons (ps_if (pt_not (pt_val (pe_call GC hr4 rfl G.DC.m G.DC.k G.DC.b .nil pass0 (pa_cons (pv 1) (pa_cons (pv 4) (pa_cons (pv 3) pa_nil)))))) (pss_one (ps_raise rfl (takes_of rfl rfl rfl rfl) (pmk_oex BT.ox BT.iC BT.tI GI hr2 BT.b .nil pass0 rfl BT.g (pa_cons pe_str pa_nil)))) pss_nil)
      (pss_cons (ps_fld (pv 0) (pv 1) rfl)
      (pss_cons (ps_fld (pv 0) (pv 2) rfl)
      (pss_cons (ps_fld (pv 0) (pv 3) rfl)
      (pss_cons (ps_fld (pv 0) (pv 4) rfl)
      (pss_cons (ps_fld (pv 0) (pe_call GH hr1 rfl G.DH.m G.DH.k G.DH.b .nil pass0 (pa_cons (pv 2) pa_nil)) rfl)
      (pss_one (ps_fld (pv 0) (pe_call GB hr1 rfl D.DB.m D.DB.k D.DB.b .nil pass0 (pa_cons (pe_fld (pv 1) rfl) (pa_cons (pv 3) pa_nil))) rfl))))))))), ?_⟩
    have TT : TL (M : Int) L := ⟨tt.ok, tt.conn, by omega, by omega⟩
    have hn : NbOf L M nb := by
      have := wi.nb
      rwa [Int.toNat_natCast] at this
    have hg : NbG (GL L) M nb := by
      have := TT.nb (nb := nb) (by simpa using hn)
      simpa using this
    refine ⟨_, rfl, _, rfl, w, dw, q, rr, M, L, bs, nb, v, rfl, wi, hg, wv, m40, fun b H1 s1 hb => ⟨_, rfl, ?_⟩⟩
    rcases ref with ⟨bad, rfl⟩ | ⟨pa, par, rk, rfl, hpa, pg, bad, rfl⟩
    · have e : b = false := by
        cases b with
        | false => rfl
        | true => exact absurd (hb.mp rfl) bad
      subst e
      exact iteT (bad_raise s1 fun d H' e s => k d H' e s)
    · have e : b = true := hb.mpr ⟨pa, par, rk, rfl, hpa, pg⟩
      subst e
      have gM : ∀ i, i < M → 0 ≤ (LD par M i : Int) ∧ (LD par M i : Int) < (M : Int) := fun i hi => by
        have := pg.1.lt hi
        omega
      refine iteF ⟨_, rfl, pa, M, par, rk, rfl, s1 _ _ hpa, pg.1, m40, fun la H2 s2 hla => ?_⟩
      have s12 := sT s1 s2
      refine ⟨_, rfl, _, rfl, _, rfl, w, dw, q, rr, la, u, M, L, bs, nb, _, rfl, wi.same s12, tt.same s12, hla, gM, wu.same s12, fun g => bad (g.back wu s12), m40, fun H3 s3 => ⟨_, rfl, ?_⟩⟩
      exact iteT (bad_raise (sT s12 s3) fun d H' e s => k d H' e s)
end
end Q

/-! try, more than one except clause, all that comes being the first one's -/
namespace L2
open PySem PySem.Spec PyProof.Rows
/-- what comes is of the class c: into slot i, and the suite -/
def wFst (K : PySem.W.Frag) (c : Value) (i : Nat) (ts : Addr → Value → Option Addr → TS) (D : Ends) : WX := fun cls d σ H =>
  PySem.W.exmOne K cls c = some true ∧ ∀ a, H a = none → ts a cls d { nx := fun σ' H' => D.nx (σ'.set i none) H', rt := D.rt, bk := fun σ' H' => D.bk (σ'.set i none) H', ct := fun σ' H' => D.ct (σ'.set i none) H' } (σ.set i (some (.ref a))) H
section
variable {X : Cx} {x n : Str} {c : Value} {i : Nat} {body suite : List Stmt} {b₀ : Stmt} {np pos pos' : Pos} {tb : WX → TS} {ts : Addr → Value → Option Addr → TS} {more : List ExceptHandler}
theorem ps_try_fst (hs : X.stack = X.env :: X.outer) (hf : X.env.frame = some X.env.locals) (hN : X.N.Nodup) (hi : X.N[i]? = some n) (hln : X.env.kindOf n = some .local) (hc : Names X x c)
    (hb : ∀ (W : WX) (pn : List (Addr × Obj)) (xe : Value → Shared → Prop), Takes (X.tr pn xe) W → PassesOwn (model X.prog X.w) X.A X.env xe → PSs (X.tr pn xe) body (tb W))
    (hsu : ∀ (a : Addr) (oe : Obj) (cls : Value) (d : Option Addr) (pn : List (Addr × Obj)), Zc cls d oe → (∃ vs, oe.data = .fields vs) → PSs (X.suite a ((a, oe) :: pn)) (b₀ :: suite) (ts a cls d)) :
    PS X (.Try body (.ExceptHandler (some (.Name x np)) (some n) (b₀ :: suite) pos' :: more) [] [] pos) (fun D σ H => tb (wFst X.K c i ts D) D σ H) := by
  refine ⟨fun pins s σ H D I h => wpAny_Try_except ?_⟩
  have ok := I.ok
  have here : Loc X.env.scope n := .inl hln
  have frs' : X.A.frames = some (X.env :: X.outer) := by rw [ok.frames, hs]
  refine wpAny_mono ((hb (wFst X.K c i ts D) (X.pn ++ pins) (fun e s₁ => wpAny (model X.prog X.w) X.A (noteFrame e X.env) (fun _ s₂ => wpAny (model X.prog X.w) X.A (setFlight e none) (fun _ s₃ =>
    wpAny (model X.prog X.w) X.A (handleBy e X.env (.ExceptHandler (some (.Name x np)) (some n) (b₀ :: suite) pos' :: more)) (SP X pins D) X.xe s₃) X.xe s₂) X.xe s₁) (fun u s' xx => ?_) PassesOwn.looking).run [] s σ H D (I.toTry _) h) (fun f s1 hsp => ?_) (fun e s1 he => he)
  · obtain ⟨a, B, sI, pins', σ', H', cls, d, rfl, J', nb, up, sky, na, os, ag, hb1, yes⟩ := xx
    have J : Inv X pins σ' H' sI := J'.ofTry ok
    rw [show (X.tr (X.pn ++ pins) _).stack = X.env :: X.outer from hs] at sky
    show wpAny (model X.prog X.w) X.A (noteFrame (.ref a) X.env) _ _ _
    refine Sky.land Zc.steady frs' hf sky fun h3 fl3 up3 => ?_
    have J3 : Inv X pins σ' H' { s' with heap := h3 } := J.landed nb fl3.1 (up.trans up3) os ag
    obtain ⟨oe3, vs3, he3, hz3, hd3⟩ := fl3.there
    have nfr : a ∉ frs (X.env :: X.outer) := fun hm => by
      obtain ⟨_, o', e', hnf⟩ := fl3.2.2.1.mem hm
      rw [he3] at e'
      cases e'
      exact hnf _ hd3
    have nL : a ≠ X.env.locals := fun z => nfr (List.mem_filterMap.mpr ⟨X.env, List.mem_cons_self, by rw [hf, z]⟩)
    have nF : a ∉ X.fs := fun hm => by
      obtain ⟨e, he, q⟩ := List.mem_filterMap.mp hm
      exact nfr (List.mem_filterMap.mpr ⟨e, List.mem_cons_of_mem _ he, q⟩)
    have S3 := J3.suite he3 hd3 na nL nF
    refine wpAny_handleBy_cons (codeAny_handlers_test ?_) (by intro q; cases q)
    have LT : PySem.W.Looks (model X.prog X.w) h3 (typeOf (.ref a)) cls := fun A Q E s k q => wpAny_typeOf_ref (k _ _ he3) (by rw [hz3.1]; exact q)
    have LM := PySem.W.exm_one (M := model X.prog X.w) (J3.kIn) LT hb1
    have test : ∀ {Q : Value → Shared → Prop} {E : Value → Shared → Prop}, Q c { s' with heap := h3 } → wpAny (model X.prog X.w) (X.A.mark (some (.ref a))) (eval (.Name x np) X.env) Q E { s' with heap := h3 } := fun {Q E} q => by
      obtain ⟨hg, hdbg, hm | ⟨hm, hv, hnn⟩⟩ := hc
      · exact ld_glob (X := X.suite a ((a, oe3) :: (X.pn ++ pins))) S3 hg hm q hdbg
      · exact ld_blt (X := X.suite a ((a, oe3) :: (X.pn ++ pins))) S3 hg hm hv q hnn hdbg
    refine test (LM.here (codeAny_handlers_suite_as ?_))
    refine HandSPX.lands_againZ fl3 fun h4 fl4 up4 => ?_
    have J4 : Inv X pins σ' H' { s' with heap := h4 } := J.landed nb fl4.1 ((up.trans up3).trans up4) os ag
    obtain ⟨oe4, vs4, he4, hz4, hd4⟩ := fl4.there
    have S4 := J4.suite he4 hd4 na nL nF
    refine store_ok (X := X.suite a ((a, oe4) :: (X.pn ++ pins))) (v := .ref a) S4 hN hi here rfl (fun s5 S5 => ?_) (.inr hln)
    refine wpAny_mono ((hsu a oe4 cls d (X.pn ++ pins) hz4 ⟨_, hd4⟩).run [] s5 _ H' _ S5 (yes a na)) (fun f s6 hsp => ?_) (fun _ _ z => False.elim z)
    have fin : ∀ {σ6 : St} {H6 : Hp} {Q : Shared → Prop}, Inv (X.suite a ((a, oe4) :: (X.pn ++ pins))) [] σ6 H6 s6 → (∀ s7, Inv X pins (σ6.set i none) H6 s7 → Q s7) →
        wpAny (model X.prog X.w) X.A (do bindName X.env n .none; unbindBehindTheSuite X.env n pos') (fun _ s7 => Q s7) X.xe s6 := fun {σ6 H6 Q} S6 hq => gone_ok (S6.unsuite ok) hN hi hln hq
    cases f with
    | next =>
      obtain ⟨σ6, H6, S6, q6⟩ := hsp
      exact fin S6 fun s7 J7 => ⟨_, _, J7, q6⟩
    | brk =>
      obtain ⟨σ6, H6, S6, q6⟩ := hsp
      exact fin S6 fun s7 J7 => ⟨_, _, J7, q6⟩
    | cont =>
      obtain ⟨σ6, H6, S6, q6⟩ := hsp
      exact fin S6 fun s7 J7 => ⟨_, _, J7, q6⟩
    | ret u =>
      obtain ⟨v6, σ6, H6, S6, r6, q6⟩ := hsp
      exact fin S6 fun s7 J7 => ⟨_, _, _, J7, r6, q6⟩
  · cases f with
    | next =>
      obtain ⟨σ', H', J', q⟩ := hsp
      exact wpAny_execs_nil ⟨σ', H', J'.ofTry ok, q⟩
    | brk =>
      obtain ⟨σ', H', J', q⟩ := hsp
      exact ⟨σ', H', J'.ofTry ok, q⟩
    | cont =>
      obtain ⟨σ', H', J', q⟩ := hsp
      exact ⟨σ', H', J'.ofTry ok, q⟩
    | ret u =>
      obtain ⟨v, σ', H', J', r, q⟩ := hsp
      exact ⟨v, σ', H', J'.ofTry ok, r, q⟩
end
end L2

/-! a Keeper, told or refused -/
namespace Q
open PySem L2 QM
abbrev sMade : Stmt := top 45
/-- what never raises may be called where something is caught -/
theorem fn_up {P : Program} {w : World} {K : PySem.W.Frag} {mg : Str → Option Value} {base : Heap} {k : Nat} {f : Addr} {fd : FuncData} {ps : List Str} {sp : Sp} {CX : CXT} (F : FnOk P w K mg base CX0 k f fd ps sp) : FnOk P w K mg base CX k f fd ps sp :=
  ⟨F.len, fun A outer s H args us vs Q E hr he hb hv hs => codeAny_mono (F.run A outer s H args us vs Q E hr he hb hv hs) fun r s' h => by
    match r, h with
    | .ok (.ret u), h => exact h
    | .error e, h => exact h.elim⟩
/-- one promise or the other -/
theorem fn_or {P : Program} {w : World} {K : PySem.W.Frag} {mg : Str → Option Value} {base : Heap} {k : Nat} {f : Addr} {fd : FuncData} {ps : List Str} {sp sp' : Sp} {CX : CXT} (F : FnOk P w K mg base CX k f fd ps sp) (G : FnOk P w K mg base CX k f fd ps sp') :
    FnOk P w K mg base CX k f fd ps (fun vs H Q E => sp vs H Q E ∨ sp' vs H Q E) :=
  ⟨fun vs H Q E h => h.elim (F.len vs H Q E) (G.len vs H Q E), fun A outer s H args us vs Q E hr he hb hv hs => hs.elim (F.run A outer s H args us vs Q E hr he hb hv) (G.run A outer s H args us vs Q E hr he hb hv)⟩
section
variable {X : Cx} {CX : CXT} {k : Nat} {f C : Addr} {fd : FuncData} {ps : List Str} {sp : Sp} {E : St → XK} {x : Str} {p pos : Pos} {e : Expr} {es : List Expr} {t : TA}
def tMakeS (C : Addr) (sp : Sp) (E : St → XK) (t : TA) : TE := fun σ H Q => t σ H fun vs H1 => ∀ x dx, H1 x = none → H1 dx = none → dx ≠ x → sp (.ref x :: vs) (upd (upd H1 dx (.own x)) x (.ins C dx [])) (fun v H2 => v = .non ∧ Q (.ref x) H2) (E σ)
theorem run_makeS {pins : List (Addr × Obj)} {σ : St} {H : Hp} {s : Shared} {Q : VK} {us : List Value} {vs : List V} (M : Mk X.K C f) (F : FnOk X.prog X.w X.K X.mg X.base CX k f fd ps sp) (hr : Room (k + 1) X.A) (hb : Binds X.K fd ps [])
    (hx : PassesAt CX X σ (E σ)) (I : Inv X pins σ H s) (r : Vals vs us)
    (h : ∀ x dx, H x = none → H dx = none → dx ≠ x → sp (.ref x :: vs) (upd (upd H dx (.own x)) x (.ins C dx [])) (fun v H2 => v = .non ∧ Q (.ref x) H2) (E σ)) :
    wpAny (model X.prog X.w) X.A (call (.ref C) us) (EP X pins σ Q) X.xe s := by
  have hq := h (s.heap.objs.size + 1) s.heap.objs.size (I.hok.fresh (Nat.le_succ _)) (I.hok.fresh (Nat.le_refl _)) (Nat.ne_of_lt (Nat.lt_succ_self _))
  have I2 := Inv.made (C := C) I
  have r2 : Vals (V.ref (s.heap.objs.size + 1) :: vs) (Value.ref (s.heap.objs.size + 1) :: us) := .cons rfl r
  have hl : (Value.ref (s.heap.objs.size + 1) :: us).length = ps.length := by
    have e := r2.length
    rw [F.len _ _ _ _ hq] at e
    exact e.symm
  have bb := hb { heap := _, gens := _, drawn := _, toks := _, os := _ } (Value.ref (s.heap.objs.size + 1) :: us) I2.kIn (by rw [List.append_nil]; exact hl)
  rw [List.append_nil] at bb
  refine wpAny_call (make_map (f := f) I.kIn M.makes M.init (beq_iff_eq.mp M.fn) (codeAny_mono (F.run _ X.stack _ _ ⟨Value.ref (s.heap.objs.size + 1) :: us, []⟩ (Value.ref (s.heap.objs.size + 1) :: us) _ _ (E σ) (hr.make C us [])
    (I2.env0.make C us []) bb r2 hq) fun r s' hq' => ?_))
  cases r with
  | error e => exact hx pins _ _ e s' I2 hq'
  | ok fl =>
    cases fl with
    | ret u =>
      obtain ⟨v, H', I3, rv, ev, q3⟩ := I2.after hq'
      subst ev
      exact ⟨rv, ⟨V.ref (s.heap.objs.size + 1), H', I3, rfl, q3⟩⟩
    | next => exact False.elim hq'
    | brk => exact False.elim hq'
    | cont => exact False.elim hq'
theorem pe_makeS (M : Mk X.K C f) (F : FnOk X.prog X.w X.K X.mg X.base CX k f fd ps sp) (hr : Room (k + 1) X.A) (hg : Gl X x) (hm : X.mg x = some (.ref C)) (hb : Binds X.K fd ps []) (hx : ∀ σ, PassesAt CX X σ (E σ))
    (ha : PA X (e :: es) t) (hdb : (x == ("__debug__" : Str)) = false := by decide) (he : starEach (e :: es) X.env = (false, eval e X.env) :: starEach es X.env := by rfl) (hpl : (backTo pos (starEach es X.env)).any (·.1) = false := by rfl) :
    PE X (.Call (.Name x p) (e :: es) [] pos) (tMakeS C sp E t) := by
  refine ⟨fun pins s σ H Q I h => ?_⟩
  refine wpAny_Call_Name_kw (ld_glob I hg hm ?_ hdb)
  refine PySem.W.callWith_K (h₀ := X.base) I.ok.mod.kin M.kp (thn (ha.run pos pins s σ H _ I h) fun us s1 ⟨vs, H1, I1, r, q⟩ => ⟨I1.kIn, ?_⟩) he hpl
  exact run_makeS M F hr hb (hx σ) I1 r q
end
theorem part_look (y : V) : List.lookup ("part" : Str) ([(("part" : Str), y)] : List (Str × V)) = some y := by
  show (match (("part" : Str) == ("part" : Str)) with | true => some y | false => List.lookup ("part" : Str) []) = some y
  rw [show (("part" : Str) == ("part" : Str)) = true by decide]
theorem Refused.same {L : List (Addr × List Int)} {M : Nat} {H H' : Hp} {v u r : V} (wv : Wk H v) (wu : Wk H u) (s : Same H H') (h : Refused L M H v u r) : Refused L M H' v u r := by
  rcases h with ⟨n, e⟩ | ⟨pa, par, rk, e, hp, pg, n, e2⟩
  · exact .inl ⟨fun g => n ((GoodP.iff wv.kd s).mpr g), e⟩
  · exact .inr ⟨pa, par, rk, e, s _ _ hp, pg, fun g => n (g.back wu s), e2⟩
theorem KeepIn.same {C : Addr} {M : Nat} {H H' : Hp} {w pa t : Addr} {L T : List (Addr × List Int)} {par : Nat → Option Nat} (h : KeepIn C M H w pa t L T par) (s : Same H H') : KeepIn C M H' w pa t L T par := by
  obtain ⟨⟨dx, q, r, bs, nb, rk, wi, tt, pn⟩, hp, cho, m1, m40⟩ := h
  exact ⟨⟨dx, q, r, bs, nb, rk, wi.same s, tt.same s, pn⟩, s _ _ hp, cho.same s, m1, m40⟩
def spMade (C CK : Addr) : Sp := fun vs H Q _ => ∃ (w q : Addr) (v u : V) (M : Nat) (L : List (Addr × List Int)), vs = [.ref w, v, u] ∧ WebQ C M H w q L ∧ 1 ≤ M ∧ M ≤ 40 ∧ Wk H v ∧ Wk H u ∧
  ((∃ r, Refused L M H v u r ∧ ∀ t H', Same H H' → H' t = some (.tup [.str "refused", r]) → Q (.ref t) H') ∨
   (∃ (pa tt : Addr) (T : List (Addr × List Int)) (par : Nat → Option Nat), v = .ref pa ∧ u = .ref tt ∧ KeepIn C M H w pa tt L T par ∧
    ∀ (t x dx : Addr) (la ch ac : V) H', Same H H' → H' t = some (.tup [.str "told", .ref x]) → H' x = some (.ins CK dx (kf (.ref w) (.ref pa) (.ref tt) la ch ac)) → LdAt H' la M par → Q (.ref t) H'))
section
variable {P : Program} {w : World} {K : PySem.W.Frag} {mg : Str → Option Value} {base : Heap}
theorem scMade : FnScope ["web", "parents", "chosen", "error"] ["web", "parents", "chosen"] (defScope sMade) := ⟨rfl, rfl, rfl, by decide +kernel, rfl, by decide +kernel, by decide +kernel⟩
theorem ok_made {f C CK CB fK fI : Addr} {fd fdK fdI : FuncData} (F : Fun K "_law_made" "_law_made" sMade f fd) (B : Bts mg) (hz : mg "zip" = none) (ha : mg "all" = none) (T : WTxt K mg C) (TK : KTxt K mg CK) (D : WDefs K mg) (G : GDefs K mg) (BT : BTxt K mg CB fI fdI)
    (MK : Mk K CK fK) (FK : Fun K "__init__" "Keeper.__init__" sKeep fK fdK) (bK : Binds K fdK ["self", "web", "parents", "chosen"] []) : FnOk P w K mg base CX0 8 f fd ["web", "parents", "chosen"] (spMade C CK) := by
  have GK : FnOk P w K mg base (L2.CX P w) 6 fK fdK ["self", "web", "parents", "chosen"] (fun vs H Q E => spKeep C CK vs H Q E ∨ spKeepN C CK CB vs H Q E) := fn_or (fn_up (ok_keep FK B hz ha T TK D G)) (ok_keepN FK B hz ha T TK D G BT)
  refine F.ok scMade (fun vs H Q E h => ?_) (fun cdv A outer s H vs Q E hr h => ?_)
  · obtain ⟨w, q, v, u, M, L, rfl, _⟩ := h
    rfl
  · obtain ⟨w, q, v, u, M, L, rfl, hw, m1, m40, wv, wu, k⟩ := h
    have nd := scMade.nd
    have hr7 : Room 7 _ := hr.mono (by decide)
    refine ⟨_, pss_one (ps_try_fst (i := 3) (tb := fun W => tRet (tTup (tCons (tC (.str "told")) (tCons (tMakeS CK (fun vs H Q E => spKeep C CK vs H Q E ∨ spKeepN C CK CB vs H Q E) (WE W) (tCons (tVar 0) (tCons (tVar 1) (tCons (tVar 2) tNil)))) tNil))))
      (ts := fun a cls d => tRet (tTup (tCons (tC (.str "refused")) (tCons (tXf a cls d CB "part" (tVar 3)) tNil)))) rfl rfl nd rfl rfl ⟨rfl, by decide, .inl BT.g⟩
      (fun W pn xe tk _ => pss_one (ps_ret (pe_tup (pa_cons pe_str (pa_cons (by exact (pe_makeS MK GK hr7 rfl TK.mgC bK (fun σ => passAt tk σ) (by exact (pa_cons (pv 0) (pa_cons (pv 1) (pa_cons (pv 2) pa_nil)))))) pa_nil)))))
      (fun a oe cls d pn hz hf => pss_one (ps_ret (pe_tup (pa_cons pe_str (pa_cons (pe_xf BT.xf BT.no hz hf (pv 3)) pa_nil)))))), ?_⟩
    refine ⟨_, rfl, _, rfl, _, rfl, fun x dx nx ndx nex => ?_⟩
    have sx : Same H (upd (upd H dx (.own x)) x (.ins CK dx [])) := sNew (sNew (fun _ _ e => e) ndx) nx
    rcases k with ⟨r, ref, k⟩ | ⟨pa, tt, Tl, par, rfl, rfl, kin, k⟩
    · refine .inr ⟨x, dx, w, q, v, u, r, M, L, rfl, upd_same, hw.same sx, m1, m40, wv.same sx, wu.same sx, ref.same wv wu sx, fun d H1 ed s1 => ⟨BT.ex, fun a ha => ?_⟩⟩
      refine ⟨_, rfl, rfl, rfl, d, _, _, rfl, ed, part_look r, (by show 2 ≤ sizeLine; decide), fun t ht => ?_⟩
      exact k t _ (sT sx (sT s1 (sN ht))) upd_same
    · refine .inl ⟨x, dx, w, pa, tt, M, L, Tl, par, rfl, upd_same, kin.same sx, fun la ch ac H1 ex ld st => ⟨rfl, (by show 2 ≤ sizeLine; decide), fun t ht => ?_⟩⟩
      have s1 : Same H H1 := fun b o e => st b o (sx _ _ e) (ne_of_none e nx)
      have s2 := sN (o := .tup [.str "told", .ref x]) ht
      exact k t x dx la ch ac _ (sT s1 s2) upd_same (s2 _ _ ex) (ld.same s2)
end
end Q

/-! a deep thing -/
namespace Q
open PySem L2 QM
abbrev sDeep : Stmt := top 32
def spDeep : Sp := fun vs H Q _ => ∃ (p l : Addr), vs = [.ref p] ∧ HandAt H p l ∧ ∀ (v : V) (H' : Hp), Wk H' v → HandAt H' p l → Ext p H H' → Q v H'
theorem pick_in {xs : List V} {i : Int} (h0 : 0 ≤ i) (h : i < xs.length) : ∃ v ∈ xs, atI xs i = some v := by
  obtain ⟨n, rfl⟩ : ∃ n : Nat, i = (n : Int) := ⟨i.toNat, by omega⟩
  have hn : n < xs.length := by omega
  exact ⟨xs[n], List.getElem_mem hn, atI_nat (List.getElem?_eq_getElem hn)⟩
theorem cut_mem {xs : List V} {a b : Option Int} {v : V} (h : v ∈ cutV xs a b) : v ∈ xs := List.mem_of_mem_drop (List.mem_of_mem_take h)
theorem cut_len (xs : List V) (a b : Option Int) : (cutV xs a b).length ≤ xs.length := by
  unfold cutV
  rw [List.length_take, List.length_drop]
  omega
theorem Ext.one {p : Addr} {H H1 H2 : Hp} (h : Ext p H H1) (b : But p H1 H2) : Ext p H H2 := fun c o e n => by
  rw [b c n]
  exact h c o e n
section
variable {P : Program} {w : World} {K : PySem.W.Frag} {mg : Str → Option Value} {base : Heap}
theorem scDeep : FnScope ["hand", "found", "turn"] ["hand"] (defScope sDeep) := ⟨rfl, rfl, rfl, by decide +kernel, rfl, by decide +kernel, by decide +kernel⟩
theorem ok_deep {f fD : Addr} {fd dD : FuncData} (F : Fun K "_law_deep" "_law_deep" sDeep f fd) (B : Bts mg) (DD : Df K mg "_law_draw" sDraw ["hand", "many"] fD dD) : FnOk P w K mg base CX0 2 f fd ["hand"] spDeep := by
  have GD : FnOk P w K mg base CX0 1 fD dD ["hand", "many"] spDraw := ok_draw DD.F B
  refine F.ok scDeep (fun vs H Q E h => ?_) (fun cdv A outer s H vs Q E hr h => ?_)
  · obtain ⟨p, l, rfl, _⟩ := h
    rfl
  · obtain ⟨p, l, rfl, g0, k⟩ := h
    have nd := scDeep.nd
    refine ⟨_, pss_cons (ps_set (i := 1) nd rfl (.inl rfl) (pe_ix ix_list (pe_lst (pa_cons pe_non (pa_cons pe_str (pa_cons (pe_un un_neg pe_int) (pa_cons pe_dnewK pa_nil))))) (pe_call GD hr rfl DD.m DD.k DD.b .nil pass0 (pa_cons (pv 0) (pa_cons pe_int pa_nil))) (fun _ _ => rfl)))
      (pss_cons (ps_for PassesOwn.never rfl (pi_range1 rfl B.range (pa_cons (pe_op op_add pe_int (pe_call GD hr rfl DD.m DD.k DD.b .nil pass0 (pa_cons (pv 0) (pa_cons pe_int pa_nil)))) pa_nil)) (pg_name (i := 2) nd rfl (.inl rfl))
        (pss_one (ps_set (i := 1) nd rfl (.inl rfl) (pe_ix ix_list (pe_lst (pa_cons (pe_tup (pa_cons (pv 1) pa_nil)) (pa_cons (pe_lst (pa_cons (pv 1) pa_nil)) (pa_cons (pe_slice sl_C (pe_tup (pa_cons (pv 1) (pa_cons (pv 1) pa_nil))) po_none (po_some pe_int)) (pa_cons (pe_disp (pps_cons pe_int (pv 1) pps_nil) rfl rfl (fun z => nomatch z) (by decide)) pa_nil)))))
          (pe_call GD hr rfl DD.m DD.k DD.b .nil pass0 (pa_cons (pv 0) (pa_cons pe_int pa_nil))) (fun _ _ => rfl)))))
      (pss_one (ps_ret (pv 1)))), ?_⟩
    refine ⟨_, rfl, fun a1 n1 => ⟨(by show 4 ≤ sizeLine; decide), fun t ht => ?_⟩⟩
    have s1 := sT (sN (o := .dK []) n1) (sN (o := .lst [.non, .str "a", .int (-1), .ref a1]) ht)
    have et : (upd (upd H a1 (.dK [])) t (.lst [.non, .str "a", .int (-1), .ref a1])) t = some (.lst [.non, .str "a", .int (-1), .ref a1]) := upd_same
    have ea : (upd (upd H a1 (.dK [])) t (.lst [.non, .str "a", .int (-1), .ref a1])) a1 = some (.dK []) := sN ht _ _ upd_same
    have np : t ≠ p := fun e => by
      obtain ⟨xs, z⟩ := g0.hp
      have z2 := sN n1 (o := .dK []) _ _ z
      rw [← e, ht] at z2
      cases z2
    have x1 : Ext p H (upd (upd H a1 (.dK [])) t (.lst [.non, .str "a", .int (-1), .ref a1])) := fun b o e n => s1 _ _ e
    have g1 := g0.same s1
    refine ⟨_, rfl, p, l, 4, rfl, g1, by decide, by decide, fun d H1 d0 d1 g2 b1 => ?_⟩
    have x2 := x1.one b1
    have et2 : H1 t = _ := (b1 t np).trans et
    obtain ⟨v, hv, e⟩ := pick_in (xs := [V.non, V.str "a", V.int (-1), V.ref a1]) d0 (by show d < 4; exact d1)
    have na : a1 ≠ p := fun z => by
      obtain ⟨xs, y⟩ := g0.hp
      rw [z] at n1
      rw [n1] at y
      cases y
    have wv : Wk H1 v := by
      simp only [List.mem_cons, List.not_mem_nil, or_false] at hv
      rcases hv with rfl | rfl | rfl | rfl
      · exact .non
      · exact .str _
      · exact .int _
      · exact .dk ((b1 a1 na).trans ea)
    refine ⟨t, _, d, v, rfl, rfl, SqL.of et2, e, ?_⟩
    refine ⟨_, rfl, p, l, 30, rfl, g2, by decide, by decide, fun d2 H2 d20 d21 g3 b2 => ?_⟩
    have wv2 := wv.ext g2 g3 b2.ext
    have x3 := x2.one b2
    refine ⟨_, _, rfl, rfl, 1 + d2, rfl, by omega, by omega, for_range (lo := 0) (n := (1 + d2).toNat) (fun i σ H' => ∃ (v : V) (x2 : Option V), σ = [some (.ref p), some v, x2] ∧ Wk H' v ∧ HandAt H' p l ∧ Ext p H H') ?_ ?_ ?_⟩
    · exact ⟨v, none, rfl, wv2, g3, x3⟩
    · rintro i σ H4 hi ⟨v, y2, rfl, wv, g4, x4⟩
      refine ⟨_, rfl, (by show 1 ≤ sizeLine; decide), fun q1 n1 => ?_⟩
      refine ⟨_, rfl, (by show 1 ≤ sizeLine; decide), fun q2 n2 => ?_⟩
      refine ⟨_, rfl, _, rfl, (by show 2 ≤ sizeLine; decide), fun q3 n3 => ?_⟩
      refine ⟨1, rfl, q3, _, rfl, upd_same, fun q4 H5 s5 e4 => ?_⟩
      refine fun q5 n5 => ⟨_, rfl, upd_same, [(Sum.inl 0, v)], rfl, (by show 1 ≤ 15; decide), (by show 4 ≤ sizeLine; decide), fun t n6 => ?_⟩
      have sA := sN (o := .tup [v]) n1
      have sB := sN (o := .lst [v]) n2
      have sC := sN (o := .tup [v, v]) n3
      have c1 := s5 _ _ (sC _ _ (sB _ _ (upd_same (H := H4) (a := q1) (o := .tup [v]))))
      have c2 := s5 _ _ (sC _ _ (upd_same (H := upd H4 q1 (.tup [v])) (a := q2) (o := .lst [v])))
      have s4 : Same H4 H5 := sT sA (sT sB (sT sC s5))
      have sD : Same H5 (upd (upd H5 q5 (.dK [])) q5 (.dK (mergeK [] [(Sum.inl 0, v)]))) := by
        rw [upd_upd]
        exact sN n5
      have c5 : (upd (upd H5 q5 (.dK [])) q5 (.dK (mergeK [] [(Sum.inl 0, v)]))) q5 = some (.dK (mergeK [] [(Sum.inl 0, v)])) := upd_same
      revert sD c5 n6
      generalize (upd (upd H5 q5 (.dK [])) q5 (.dK (mergeK [] [(Sum.inl 0, v)]))) = H6
      intro n6 sD c5
      have sF := sN (o := .lst [.ref q1, .ref q2, .ref q4, .ref q5]) n6
      have et : (upd H6 t (.lst [.ref q1, .ref q2, .ref q4, .ref q5])) t = some (.lst [.ref q1, .ref q2, .ref q4, .ref q5]) := upd_same
      have s7 := sT s4 (sT sD sF)
      have s57 := sT sD sF
      have c5' := sF _ _ c5
      revert s7 et s57 c5'
      generalize (upd H6 t (.lst [.ref q1, .ref q2, .ref q4, .ref q5])) = H7
      intro et s7 s57 c5'
      have g7 := g4.same s7
      have x7 : Ext p H H7 := fun b o e n => s7 _ _ (x4 b o e n)
      refine ⟨_, rfl, p, l, 4, rfl, g7, by decide, by decide, fun d H8 d0 d1 g8 b8 => ?_⟩
      have nn : ∀ {b : Addr} {o : HO}, H7 b = some o → (∀ xs, o ≠ .lst xs) → b ≠ p := fun {b o} e no z => by
        obtain ⟨xs, y⟩ := g7.hp
        rw [z, y] at e
        exact no _ (Option.some.inj e).symm
      have wv7 := wv.same s7
      have w1 : Wk H7 (.ref q1) := .tup (s57 _ _ c1) (by show 1 ≤ 4000; decide) fun x hx => by
        rw [List.mem_singleton.mp hx]
        exact wv7
      have w2 : Wk H7 (.ref q2) := .lst (s57 _ _ c2)
      have w4 : Wk H7 (.ref q4) := .tup (s57 _ _ e4) (Nat.le_trans (cut_len _ _ _) (by show 2 ≤ 4000; decide)) fun x hx => by
        have z := cut_mem hx
        simp only [List.mem_cons, List.not_mem_nil, or_false, or_self] at z
        rw [z]
        exact wv7
      have w5 : Wk H7 (.ref q5) := .dk c5'
      obtain ⟨u, hu, e⟩ := pick_in (xs := [V.ref q1, V.ref q2, V.ref q4, V.ref q5]) d0 (by show d < 4; exact d1)
      have wu : Wk H7 u := by
        simp only [List.mem_cons, List.not_mem_nil, or_false] at hu
        rcases hu with rfl | rfl | rfl | rfl
        · exact w1
        · exact w2
        · exact w4
        · exact w5
      have npt : t ≠ p := fun z => by
        obtain ⟨xs, y⟩ := g4.hp
        have y2 := (sT s4 sD) _ _ y
        rw [← z, n6] at y2
        cases y2
      exact ⟨t, _, d, u, rfl, rfl, SqL.of ((b8 t npt).trans et), e, u, _, rfl, wu.ext g7 g8 b8.ext, g8, x7.one b8⟩
    · rintro σ H4 ⟨v, y2, rfl, wv, g4, x4⟩
      exact ⟨_, rfl, k v H4 wv g4 x4⟩
end
end Q

/-! bent parents -/
namespace Q
open PySem L2 QM
abbrev sBentP : Stmt := top 46
/-- t[lo:hi], some of its items -/
def rSlS : V → Option Int → Option Int → Hp → VK → Prop := fun x lo hi H Q => ∃ a xs, x = .ref a ∧ H a = some (.tup xs) ∧ ∀ z H' ys, Same H H' → H' z = some (.tup ys) → ys.length ≤ xs.length → (∀ y ∈ ys, y ∈ xs) → Q (.ref z) H'
theorem sl_S {X : Cx} : SlR X rSlS := by
  intro pins s σ H x v vl vu lo hi sl Q I rx hs pl pu h
  obtain ⟨a, xs, rfl, ha, k⟩ := h
  refine sl_tupA pins s σ H _ v vl vu lo hi sl Q I rx hs pl pu ⟨a, xs, rfl, SqT.of ha, fun _ => k a H xs (fun _ _ e => e) ha (Nat.le_refl _) (fun _ h => h), fun _ p hp => k p _ _ (sN hp) upd_same (cut_len _ _ _) fun y hy => cut_mem hy⟩
/-- all of known kinds -/
def Wks (H : Hp) (xs : List V) : Prop := ∀ x ∈ xs, Wk H x
theorem Wks.same {H H' : Hp} {xs : List V} (h : Wks H xs) (s : Same H H') : Wks H' xs := fun x hx => (h x hx).same s
theorem Wks.ext {H H' : Hp} {p l : Addr} {xs : List V} (h : Wks H xs) (g : HandAt H p l) (g' : HandAt H' p l) (s : Ext p H H') : Wks H' xs := fun x hx => (h x hx).ext g g' s
theorem Wks.app {H : Hp} {xs ys : List V} (h : Wks H xs) (k : Wks H ys) : Wks H (xs ++ ys) := fun x hx => (List.mem_append.mp hx).elim (h x) (k x)
theorem Wks.sub {H : Hp} {xs ys : List V} (h : Wks H xs) (s : ∀ y ∈ ys, y ∈ xs) : Wks H ys := fun y hy => h y (s y hy)
theorem Wks.one {H : Hp} {v : V} (h : Wk H v) : Wks H [v] := fun x hx => by
  rw [List.mem_singleton.mp hx]
  exact h
theorem Wks.nil {H : Hp} : Wks H [] := fun x hx => absurd hx List.not_mem_nil
theorem Wks.cons {H : Hp} {v : V} {xs : List V} (h : Wk H v) (k : Wks H xs) : Wks H (v :: xs) := fun x hx => (List.mem_cons.mp hx).elim (fun e => by rw [e]; exact h) (k x)
theorem wk_par {H : Hp} (M : Nat) (par : Nat → Option Nat) : Wks H (pVs M par) := fun x hx => by
  unfold pVs at hx
  obtain ⟨i, _, rfl⟩ := List.mem_map.mp hx
  cases par i with
  | none => exact .non
  | some u => exact .int _
theorem asc_lenA {l : List Int} {n : Nat} (h : l.Pairwise (· < ·)) (b : ∀ x ∈ l, 0 ≤ x ∧ x < (n : Int)) : l.length ≤ n := by
  have nd : (l.map Int.toNat).Nodup := List.pairwise_map.mpr (h.imp_of_mem fun {x y} hx hy lt e => by
    have := (b x hx).1
    have := (b y hy).1
    omega)
  have z := nd_lenA (l.map Int.toNat) (List.range n) nd fun x hx => by
    obtain ⟨y, hy, rfl⟩ := List.mem_map.mp hx
    have := b y hy
    exact List.mem_range.mpr (by omega)
  rwa [List.length_map, List.length_range] at z
theorem hand_ne {H : Hp} {p l t : Addr} (g : HandAt H p l) (n : H t = none) : t ≠ p := (g.ne n).1
theorem But.keep {H H' : Hp} {p t : Addr} {o : HO} (b : But p H H') (e : H t = some o) (n : t ≠ p) : H' t = some o := (b t n).trans e
theorem hand_ne' {H : Hp} {p l a : Addr} {xs : List V} (g : HandAt H p l) (e : H a = some (.tup xs)) : a ≠ p := fun z => by
  obtain ⟨ys, y⟩ := g.hp
  rw [z, y] at e
  cases e
def spBentP : Sp := fun vs H Q _ => ∃ (p l W q pa : Addr) (M : Nat) (L : List (Addr × List Int)) (par : Nat → Option Nat), vs = [.ref p, .ref W, .ref pa] ∧ HandAt H p l ∧ LWeb H W q (M : Int) L ∧ H pa = some (.tup (pVs M par)) ∧ 1 ≤ M ∧ M ≤ 40 ∧
  ∀ (v : V) (H' : Hp), Wk H' v → HandAt H' p l → Ext p H H' → Q v H'
section
variable {P : Program} {w : World} {K : PySem.W.Frag} {mg : Str → Option Value} {base : Heap}
theorem scBentP : FnScope ["hand", "web", "parents", "house", "some", "other", "kind", "beside", "near", "swapped"] ["hand", "web", "parents"] (defScope sBentP) := ⟨rfl, rfl, rfl, by decide +kernel, rfl, by decide +kernel, by decide +kernel⟩
theorem ok_bentp {f fD fB fP : Addr} {fd dD dB dP : FuncData} (F : Fun K "_law_bent_parents" "_law_bent_parents" sBentP f fd) (B : Bts mg) (DD : Df K mg "_law_draw" sDraw ["hand", "many"] fD dD)
    (DB : Df K mg "_law_beside" sLBes ["web", "house"] fB dB) (DP : Df K mg "_law_deep" sDeep ["hand"] fP dP) : FnOk P w K mg base CX0 3 f fd ["hand", "web", "parents"] spBentP := by
  have GD : FnOk P w K mg base CX0 1 fD dD ["hand", "many"] spDraw := ok_draw DD.F B
  have GB : FnOk P w K mg base CX0 1 fB dB ["web", "house"] spLBes := ok_lbes DB.F B
  have GP : FnOk P w K mg base CX0 2 fP dP ["hand"] spDeep := ok_deep DP.F B DD
  refine F.ok scBentP (fun vs H Q E h => ?_) (fun cdv A outer s H vs Q E hr h => ?_)
  · obtain ⟨p, l, W, q, pa, M, L, par, rfl, _⟩ := h
    rfl
  · obtain ⟨p, l, W, q, pa, M, L, par, rfl, g0, lw, hpa, m1, m40, k⟩ := h
    have nd := scBentP.nd
    have hr1 : Room 1 _ := hr.mono (by decide)
    refine ⟨_, pss_cons (ps_set (i := 3) nd rfl (.inl rfl) (pe_call GD hr1 rfl DD.m DD.k DD.b .nil pass0 (pa_cons (pv 0) (pa_cons (pe_ix ix_tup (pv 1) pe_int (fun _ _ => rfl)) pa_nil))))
      (pss_cons (ps_set (i := 4) nd rfl (.inl rfl) (pe_lst (pa_cons (pe_call GD hr1 rfl DD.m DD.k DD.b .nil pass0 (pa_cons (pv 0) (pa_cons (pe_ix ix_tup (pv 1) pe_int (fun _ _ => rfl)) pa_nil))) (pa_cons pe_non (pa_cons (pe_un un_neg pe_int) (pa_cons (pe_ix ix_tup (pv 1) pe_int (fun _ _ => rfl)) (pa_cons pe_bl (pa_cons pe_str (pa_cons (pv 3) (pa_cons (pe_lst (pa_cons pe_int pa_nil)) (pa_cons (pe_op op_pow pe_int pe_int) pa_nil)))))))))))
      (pss_cons (ps_set (i := 5) nd rfl (.inl rfl) (pe_ix ix_list (pv 4) (pe_call GD hr1 rfl DD.m DD.k DD.b .nil pass0 (pa_cons (pv 0) (pa_cons pe_int pa_nil))) (fun _ _ => rfl)))
      (pss_cons (ps_set (i := 6) nd rfl (.inl rfl) (pe_call GD hr1 rfl DD.m DD.k DD.b .nil pass0 (pa_cons (pv 0) (pa_cons pe_int pa_nil))))
      (pss_cons (ps_if (pt_cmpR op_eq (pv 6) pe_int (nomark _)) (pss_one (ps_ret (pe_ix ix_list (pe_lst (pa_cons (pe_slice sl_S (pv 2) (po_some pe_int) po_none) (pa_cons (pe_op op_catS (pv 2) (pe_tup (pa_cons pe_non pa_nil))) (pa_cons (pe_callTy call_list_of (by rfl) B.list PyProof.Rows.boot_list (pa_cons (pv 2) pa_nil))
          (pa_cons pe_non (pa_cons (pe_tup pa_nil) (pa_cons (pe_call GP hr rfl DP.m DP.k DP.b .nil pass0 (pa_cons (pv 0) pa_nil)) pa_nil))))))) (pe_call GD hr1 rfl DD.m DD.k DD.b .nil pass0 (pa_cons (pv 0) (pa_cons pe_int pa_nil))) (fun _ _ => rfl)))) pss_nil)
      (pss_cons (ps_if (pt_cmpR op_eq (pv 6) pe_int (nomark _))
        (pss_cons (ps_set (i := 7) nd rfl (.inl rfl) (pe_call GB hr1 rfl DB.m DB.k DB.b .nil pass0 (pa_cons (pv 1) (pa_cons (pv 3) pa_nil))))
        (pss_one (ps_if (pt_cmpR op_gt (pe_callB call_len_seq (by rfl) B.len PySem.boot_len (pa_cons (pv 7) pa_nil)) pe_int (nomark _))
          (pss_cons (ps_set (i := 8) nd rfl (.inl rfl) (pe_ix ix_list (pv 7) (pe_call GD hr1 rfl DD.m DD.k DD.b .nil pass0 (pa_cons (pv 0) (pa_cons (pe_callB call_len_seq (by rfl) B.len PySem.boot_len (pa_cons (pv 7) pa_nil)) pa_nil))) (fun _ _ => rfl)))
          (pss_cons (ps_set (i := 9) nd rfl (.inl rfl) (pe_op op_catS (pe_op op_catS (pe_slice sl_S (pv 2) po_none (po_some (pv 3))) (pe_tup (pa_cons (pv 8) pa_nil))) (pe_slice sl_S (pv 2) (po_some (pe_op op_add (pv 3) pe_int)) po_none)))
          (pss_one (ps_ret (pe_op op_catS (pe_op op_catS (pe_slice sl_S (pv 9) po_none (po_some (pv 8))) (pe_tup (pa_cons (pv 3) pa_nil))) (pe_slice sl_S (pv 9) (po_some (pe_op op_add (pv 8) pe_int)) po_none)))))) pss_nil))) pss_nil)
      (pss_one (ps_ret (pe_op op_catS (pe_op op_catS (pe_slice sl_S (pv 2) po_none (po_some (pv 3))) (pe_tup (pa_cons (pv 5) pa_nil))) (pe_slice sl_S (pv 2) (po_some (pe_op op_add (pv 3) pe_int)) po_none))))))))), ?_⟩
    refine ⟨_, rfl, _, rfl, W, _, 0, _, rfl, rfl, SqT.of lw.1, rfl, p, l, (M : Int), rfl, g0, by omega, by omega, fun h H1 h0 hM g1 b1 => ?_⟩
    have x1 := b1.ext
    have lw1 := lw.ext g0 x1
    refine ⟨_, rfl, _, rfl, W, _, 0, _, rfl, rfl, SqT.of lw1.1, rfl, p, l, (M : Int), rfl, g1, by omega, by omega, fun r H2 r0 rM g2 b2 => ?_⟩
    have x2 := x1.one b2
    have lw2 := lw.ext g0 x2
    refine ⟨_, rfl, _, rfl, W, _, 0, _, rfl, rfl, SqT.of lw2.1, rfl, _, rfl, (by show 1 ≤ sizeLine; decide), fun q1 n1 => ?_⟩
    refine ⟨_, _, rfl, rfl, ⟨by decide, by decide, by decide⟩, (by show 9 ≤ sizeLine; decide), fun t ht => ?_⟩
    have s2 := sT (sN (o := .lst [.int 0]) n1) (sN (o := .lst [.int r, .non, .int (-1), .int (M : Int), .bl true, .str "0", .int h, .ref q1, .int (10 ^ (19 : Int).toNat)]) ht)
    have et : (upd (upd H2 q1 (.lst [.int 0])) t (.lst [.int r, .non, .int (-1), .int (M : Int), .bl true, .str "0", .int h, .ref q1, .int (10 ^ (19 : Int).toNat)])) t = some (.lst [.int r, .non, .int (-1), .int (M : Int), .bl true, .str "0", .int h, .ref q1, .int (10 ^ (19 : Int).toNat)]) := upd_same
    have eq1 : (upd (upd H2 q1 (.lst [.int 0])) t (.lst [.int r, .non, .int (-1), .int (M : Int), .bl true, .str "0", .int h, .ref q1, .int (10 ^ (19 : Int).toNat)])) q1 = some (.lst [.int 0]) := sN ht _ _ upd_same
    have nt : t ≠ p := hand_ne (g2.new (o := .lst [.int 0]) n1) ht
    have nq : q1 ≠ p := hand_ne g2 n1
    revert s2 et eq1
    generalize (upd (upd H2 q1 (.lst [.int 0])) t (.lst [.int r, .non, .int (-1), .int (M : Int), .bl true, .str "0", .int h, .ref q1, .int (10 ^ (19 : Int).toNat)])) = H3
    intro s2 et eq1
    have g3 := g2.same s2
    have x3 : Ext p H H3 := x2.same s2
    refine ⟨_, rfl, _, rfl, p, l, 9, rfl, g3, by decide, by decide, fun d H4 d0 d9 g4 b4 => ?_⟩
    obtain ⟨o, ho, eo⟩ := pick_in (xs := [V.int r, .non, .int (-1), .int (M : Int), .bl true, .str "0", .int h, .ref q1, .int (10 ^ (19 : Int).toNat)]) d0 (by show d < 9; exact d9)
    have x4 := x3.one b4
    have wo : Wk H4 o := by
      simp only [List.mem_cons, List.not_mem_nil, or_false] at ho
      rcases ho with rfl | rfl | rfl | rfl | rfl | rfl | rfl | rfl | rfl
      · exact .int _
      · exact .non
      · exact .int _
      · exact .int _
      · exact .bl _
      · exact .str _
      · exact .int _
      · exact .lst (b4.keep eq1 nq)
      · exact .int _
    refine ⟨t, _, d, o, rfl, rfl, SqL.of (b4.keep et nt), eo, ?_⟩
    refine ⟨_, rfl, p, l, 8, rfl, g4, by decide, by decide, fun kd H5 kd0 kd8 g5 b5 => ?_⟩
    have x5 := x4.one b5
    have wo5 := wo.ext g4 g5 b5.ext
    have ep : ∀ {H' : Hp}, Ext p H H' → H' pa = some (.tup (pVs M par)) := fun x => x _ _ hpa (fun z => hand_ne' g0 hpa z)
    have lM : (pVs M par).length = M := pVs_len M par
    have hp5 := ep x5
    obtain ⟨hh, rfl⟩ : ∃ hh : Nat, h = (hh : Int) := ⟨h.toNat, by omega⟩
    -- one put into the place of another
    refine ⟨_, rfl, rfl, _, rfl, ite2 (fun _ => ?_) (fun _ => ?_)⟩
    · refine ⟨_, rfl, 1, rfl, pa, _, rfl, hp5, fun z1 H6 ys1 s6 e1 l1 m1' => ?_⟩
      refine ⟨_, rfl, (by show 1 ≤ sizeLine; decide), fun z2 n2 => ?_⟩
      have s7 := sT s6 (sN (o := .tup [.non]) n2)
      refine ⟨pa, z2, _, _, rfl, rfl, s7 _ _ hp5, upd_same, ?_, fun z3 H7 s8 e3 => ?_⟩
      · rw [lM]
        exact Nat.le_trans (show M + 1 ≤ 64 by omega) (by decide)
      have s57 := sT s7 s8
      refine ⟨_, rfl, pa, _, rfl, .inr (SqT.of (s57 _ _ hp5)), fun z4 n4 => ?_⟩
      refine ⟨Nat.zero_le _, fun z5 n5 => ?_⟩
      have s9 := sT (sN (o := .lst (pVs M par)) n4) (sN (o := .tup []) n5)
      have e4 : (upd (upd H7 z4 (.lst (pVs M par))) z5 (.tup [])) z4 = some (.lst (pVs M par)) := sN n5 _ _ upd_same
      have e5 : (upd (upd H7 z4 (.lst (pVs M par))) z5 (.tup [])) z5 = some (.tup []) := upd_same
      revert s9 e4 e5
      generalize (upd (upd H7 z4 (.lst (pVs M par))) z5 (.tup [])) = H9
      intro s9 e4 e5
      have s59 := sT s57 s9
      have g9 := g5.same s59
      have x9 : Ext p H H9 := x5.same s59
      refine ⟨_, rfl, p, l, rfl, g9, fun v H10 wv g10 x10 => ⟨(by show 6 ≤ sizeLine; decide), fun t2 nt2 => ?_⟩⟩
      have w1 : Wk H9 (.ref z1) := .tup (s9 _ _ (s8 _ _ (sN n2 _ _ e1))) (by omega) ((wk_par M par).sub m1')
      have w3 : Wk H9 (.ref z3) := .tup (s9 _ _ e3) (by rw [List.length_append, lM]; show M + 1 ≤ 4000; omega) ((wk_par M par).app (.one .non))
      have w4 : Wk H9 (.ref z4) := .lst e4
      have w5 : Wk H9 (.ref z5) := .tup e5 (Nat.zero_le _) Wks.nil
      have all : Wks H10 [.ref z1, .ref z3, .ref z4, .non, .ref z5, v] := .cons (w1.ext g9 g10 x10) (.cons (w3.ext g9 g10 x10) (.cons (w4.ext g9 g10 x10) (.cons .non (.cons (w5.ext g9 g10 x10) (.one wv)))))
      have st := sN (o := .lst [.ref z1, .ref z3, .ref z4, .non, .ref z5, v]) nt2
      have npt := hand_ne g10 nt2
      have g11 := g10.same st
      have x11 : Ext p H (upd H10 t2 (.lst [.ref z1, .ref z3, .ref z4, .non, .ref z5, v])) := (x9.trans x10).same st
      refine ⟨_, rfl, p, l, 6, rfl, g11, by decide, by decide, fun d H12 d0 d6 g12 b12 => ?_⟩
      obtain ⟨u, hu, eu⟩ := pick_in (xs := [V.ref z1, .ref z3, .ref z4, .non, .ref z5, v]) d0 (by show d < 6; exact d6)
      exact ⟨t2, _, d, u, rfl, rfl, SqL.of (b12.keep upd_same npt), eu, k u H12 (((all u hu).same st).ext g11 g12 b12.ext) g12 (x11.one b12)⟩
    refine ⟨_, rfl, rfl, _, rfl, ite2 (fun _ => ?_) (fun _ => ?_)⟩
    · have lw5 := lw.ext g0 x5
      refine ⟨_, rfl, _, rfl, W, q, (M : Int), (hh : Int), L, rfl, lw5, fun bd ns H6 s6 nbd ebd nasc mem => ?_⟩
      have g6 := g5.same s6
      have x6 : Ext p H H6 := x5.same s6
      have nbp := hand_ne g5 nbd
      refine ⟨_, rfl, bd, _, rfl, .inl (SqL.of ebd), _, _, rfl, rfl, _, rfl, ite2 (fun c => ?_) (fun _ => ?_)⟩
      · have c' := of_decide_eq_true c
        rw [List.length_map] at c'
        have nlen : ns.length ≤ M := asc_lenA nasc fun j hj => by
          obtain ⟨pr, hpr, e⟩ := (mem j).mp hj
          obtain ⟨a, b, e2, a0, ab, bm⟩ := lw5.2.ok pr hpr
          rw [e2] at e
          simp only [List.cons.injEq, and_true] at e
          omega
        refine ⟨_, rfl, _, rfl, _, rfl, bd, _, rfl, .inl (SqL.of ebd), p, l, _, rfl, g6, ?_, ?_, fun d H7 d0 d1 g7 b7 => ?_⟩
        · rw [List.length_map]
          omega
        · rw [List.length_map]
          omega
        rw [List.length_map] at d1
        have ebd7 := b7.keep ebd nbp
        obtain ⟨nr, hnr, enr⟩ : ∃ j ∈ ns, atI (ns.map V.int) d = some (.int j) := by
          obtain ⟨v, hv, e⟩ := pick_in (xs := ns.map V.int) d0 (by rw [List.length_map]; exact d1)
          obtain ⟨j, hj, rfl⟩ := List.mem_map.mp hv
          exact ⟨j, hj, e⟩
        refine ⟨bd, _, d, .int nr, rfl, rfl, SqL.of ebd7, enr, ?_⟩
        have x7 := x6.one b7
        have hp7 := ep x7
        refine ⟨_, rfl, _, rfl, _, rfl, pa, _, rfl, hp7, fun z1 H8 ys1 s8 e1 l1 i1 => ?_⟩
        refine ⟨_, rfl, (by show 1 ≤ sizeLine; decide), fun z2 n2 => ?_⟩
        have s9 := sT s8 (sN (o := .tup [.int nr]) n2)
        refine ⟨z1, z2, _, _, rfl, rfl, sN n2 _ _ e1, upd_same, ?_, fun z3 H10 s10 e3 => ?_⟩
        · exact Nat.le_trans (show ys1.length + 1 ≤ 64 by omega) (by decide)
        have x10 : Ext p H H10 := x7.same (sT s9 s10)
        have hp10 := ep x10
        refine ⟨_, rfl, _, rfl, _, _, rfl, rfl, (hh : Int) + 1, rfl, pa, _, rfl, hp10, fun z4 H11 ys2 s11 e4 l2 i2 => ?_⟩
        refine ⟨z3, z4, _, _, rfl, rfl, s11 _ _ e3, e4, ?_, fun z5 H12 s12 e5 => ?_⟩
        · rw [List.length_append]
          exact Nat.le_trans (show ys1.length + 1 + ys2.length ≤ 200 by omega) (by decide)
        have x12 : Ext p H H12 := x10.same (sT s11 s12)
        have sw : Wks H12 (ys1 ++ [.int nr] ++ ys2) := (((wk_par M par).sub i1).app (.one (.int _))).app ((wk_par M par).sub i2)
        have lsw : (ys1 ++ [V.int nr] ++ ys2).length ≤ 2 * M + 1 := by
          rw [List.length_append, List.length_append]
          show ys1.length + 1 + ys2.length ≤ _
          omega
        revert e5 sw lsw
        generalize (ys1 ++ [V.int nr] ++ ys2) = sws
        intro e5 sw lsw
        refine ⟨_, rfl, _, rfl, nr, rfl, z5, _, rfl, e5, fun y1 H13 zs1 t13 f1 k1 j1 => ?_⟩
        refine ⟨_, rfl, (by show 1 ≤ sizeLine; decide), fun y2 nn2 => ?_⟩
        have t14 := sT t13 (sN (o := .tup [.int (hh : Int)]) nn2)
        refine ⟨y1, y2, _, _, rfl, rfl, sN nn2 _ _ f1, upd_same, ?_, fun y3 H15 t15 f3 => ?_⟩
        · exact Nat.le_trans (show zs1.length + 1 ≤ 200 by omega) (by decide)
        refine ⟨_, rfl, _, rfl, _, _, rfl, rfl, nr + 1, rfl, z5, _, rfl, (sT t14 t15) _ _ e5, fun y4 H16 zs2 t16 f4 k2 j2 => ?_⟩
        refine ⟨y3, y4, _, _, rfl, rfl, t16 _ _ f3, f4, ?_, fun y5 H17 t17 f5 => ?_⟩
        · rw [List.length_append]
          exact Nat.le_trans (show zs1.length + 1 + zs2.length ≤ 400 by omega) (by decide)
        have sAll := sT t14 (sT t15 (sT t16 t17))
        have x17 : Ext p H H17 := x12.same sAll
        have sw17 := sw.same sAll
        refine k (.ref y5) H17 (.tup f5 ?_ (((sw17.sub j1).app (.one (.int _))).app (sw17.sub j2))) (((g7.same (sT s9 s10)).same (sT s11 s12)).same sAll) x17
        rw [List.length_append, List.length_append]
        show zs1.length + 1 + zs2.length ≤ 4000
        omega
      · refine ⟨_, rfl, _, rfl, (hh : Int), rfl, pa, _, rfl, ep x6, fun z1 H8 ys1 s8 e1 l1 i1 => ?_⟩
        refine ⟨_, rfl, (by show 1 ≤ sizeLine; decide), fun z2 n2 => ?_⟩
        have s9 := sT s8 (sN (o := .tup [o]) n2)
        refine ⟨z1, z2, _, _, rfl, rfl, sN n2 _ _ e1, upd_same, ?_, fun z3 H10 s10 e3 => ?_⟩
        · exact Nat.le_trans (show ys1.length + 1 ≤ 64 by omega) (by decide)
        have x10 : Ext p H H10 := Ext.same x6 (sT s9 s10)
        refine ⟨_, rfl, _, rfl, _, _, rfl, rfl, (hh : Int) + 1, rfl, pa, _, rfl, ep x10, fun z4 H11 ys2 s11 e4 l2 i2 => ?_⟩
        refine ⟨z3, z4, _, _, rfl, rfl, s11 _ _ e3, e4, ?_, fun z5 H12 s12 e5 => ?_⟩
        · rw [List.length_append]
          exact Nat.le_trans (show ys1.length + 1 + ys2.length ≤ 200 by omega) (by decide)
        have sAll := sT s9 (sT s10 (sT s11 s12))
        refine k (.ref z5) H12 (.tup e5 ?_ ((((wk_par M par).sub i1).app (.one (Wk.same (wo5.same s6) sAll))).app ((wk_par M par).sub i2))) (HandAt.same g6 sAll) (Ext.same x6 sAll)
        rw [List.length_append, List.length_append]
        show ys1.length + 1 + ys2.length ≤ 4000
        omega
    · refine ⟨_, rfl, _, rfl, (hh : Int), rfl, pa, _, rfl, ep x5, fun z1 H8 ys1 s8 e1 l1 i1 => ?_⟩
      refine ⟨_, rfl, (by show 1 ≤ sizeLine; decide), fun z2 n2 => ?_⟩
      have s9 := sT s8 (sN (o := .tup [o]) n2)
      refine ⟨z1, z2, _, _, rfl, rfl, sN n2 _ _ e1, upd_same, ?_, fun z3 H10 s10 e3 => ?_⟩
      · exact Nat.le_trans (show ys1.length + 1 ≤ 64 by omega) (by decide)
      have x10 : Ext p H H10 := Ext.same x5 (sT s9 s10)
      refine ⟨_, rfl, _, rfl, _, _, rfl, rfl, (hh : Int) + 1, rfl, pa, _, rfl, ep x10, fun z4 H11 ys2 s11 e4 l2 i2 => ?_⟩
      refine ⟨z3, z4, _, _, rfl, rfl, s11 _ _ e3, e4, ?_, fun z5 H12 s12 e5 => ?_⟩
      · rw [List.length_append]
        exact Nat.le_trans (show ys1.length + 1 + ys2.length ≤ 200 by omega) (by decide)
      have sAll := sT s9 (sT s10 (sT s11 s12))
      refine k (.ref z5) H12 (.tup e5 ?_ ((((wk_par M par).sub i1).app (.one (Wk.same wo5 sAll))).app ((wk_par M par).sub i2))) (HandAt.same g5 sAll) (Ext.same x5 sAll)
      rw [List.length_append, List.length_append]
      show ys1.length + 1 + ys2.length ≤ 4000
      omega
end
end Q

/-! t[::-1] of a tuple -/
namespace HT
open PySem PySem.Calls PySem.W PyProof.Rows
theorem adjust_back (n : Nat) : Builtin.Slice.sliceAdjust none none (-1) (n : Int) = ((n : Int) - 1, -1) := by
  unfold Builtin.Slice.sliceAdjust
  rfl
theorem places_back (n : Nat) : Builtin.Slice.slicePlaces ((n : Int) - 1) (-1) (-1) = n := by
  unfold Builtin.Slice.slicePlaces
  have h1 : ¬ ((-1 : Int) > 0) := by decide
  rw [if_neg h1]
  by_cases c : (n : Int) - 1 > -1
  · rw [if_pos c, show (- -1 : Int) = 1 by decide, Int.ediv_one]
    omega
  · rw [if_neg c]
    omega
theorem fm_congr {α β : Type} {f g : α → Option β} : ∀ {l : List α}, (∀ x ∈ l, f x = g x) → l.filterMap f = l.filterMap g
  | [], _ => rfl
  | a :: l, h => by
    rw [List.filterMap_cons, List.filterMap_cons, h a List.mem_cons_self, fm_congr fun x hx => h x (List.mem_cons_of_mem _ hx)]
theorem pick_back (xs : Array Value) : (List.range xs.size).filterMap (fun (k : Nat) => xs[((xs.size : Int) - 1 + (k : Int) * (-1)).toNat]?) = xs.toList.reverse := by
  have e : (List.range xs.size).filterMap (fun (k : Nat) => xs[((xs.size : Int) - 1 + (k : Int) * (-1)).toNat]?) = ((List.range xs.size).map fun k => xs.size - 1 - k).filterMap (xs[·]?) := by
    rw [List.filterMap_map]
    refine fm_congr fun k hk => ?_
    have := List.mem_range.mp hk
    show xs[((xs.size : Int) - 1 + (k : Int) * (-1)).toNat]? = xs[xs.size - 1 - k]?
    rw [show ((xs.size : Int) - 1 + (k : Int) * (-1)).toNat = xs.size - 1 - k by omega]
  rw [e, PySem.W.krv_range, List.filterMap_reverse, PySem.W.krv_all]
section
variable {prog : Program} {w : World} {A : Around} {E : Value → Shared → Prop} {s : Shared}
theorem sliceApplied_back {sl : Addr} {vs : Value} {n : Nat} {Q : Int × Int × Nat → Shared → Prop} (hs : s.heap.IsSliceOf sl .none .none vs) (ps : IsPart vs (some (-1)))
    (h : Q ((n : Int) - 1, -1, n) s) : wpAny (model prog w) A (Builtin.Slice.sliceApplied (.ref sl) (pure (n : Int))) Q E s := by
  obtain ⟨os, hos, hcs, hds⟩ := id hs
  unfold Builtin.Slice.sliceApplied Builtin.Slice.sliceFields
  refine wpAny_bind (wpAny_bind (wpAny_field hos hds (x := .none) rfl (wpAny_bind (wpAny_field hos hds (x := .none) rfl (wpAny_bind (wpAny_field hos hds (x := vs) rfl (wpAny_pure ?_)))))))
  refine wpAny_bind (slicePart_ ps ?_)
  show wpAny _ _ (if ((-1 : Int) == 0) = true then _ else _) _ _ s
  rw [if_neg (by decide)]
  refine wpAny_bind (slicePart_ .none (wpAny_bind (slicePart_ .none (wpAny_bind (wpAny_pure ?_)))))
  show wpAny _ _ (match Builtin.Slice.sliceAdjust none none (-1) (n : Int) with | (lo, hi) => pure (lo, (-1 : Int), Builtin.Slice.slicePlaces lo hi (-1))) _ _ s
  rw [adjust_back n]
  show wpAny _ _ (pure ((n : Int) - 1, (-1 : Int), Builtin.Slice.slicePlaces ((n : Int) - 1) (-1) (-1))) _ _ s
  rw [places_back]
  exact wpAny_pure h
theorem getItem_tuple_back {t sl : Addr} {items : Array Value} {vs : Value} {Q : Value → Shared → Prop} (ht : IsTup s.heap t items) (hs : s.heap.IsSliceOf sl .none .none vs) (ps : IsPart vs (some (-1)))
    (h : Q (.ref s.heap.objs.size) { s with heap := s.heap.push { cls := .type "tuple", data := .seq items.toList.reverse.toArray } }) (hsz : items.size ≤ sizeLine) : wpAny (model prog w) A (getItem (.ref t) (.ref sl)) Q E s := by
  have fits : sizeOk (.seq items.toList.reverse.toArray) := by
    show items.toList.reverse.toArray.size ≤ sizeLine
    rw [List.size_toArray, List.length_reverse, Array.length_toList]
    exact hsz
  obtain ⟨os, hos, hcs, hds⟩ := id hs
  have hTs : s.TypeIs (.ref sl) "slice" := ⟨os, hos, hcs⟩
  unfold getItem
  try with_reducible refine wpAny_holding ?_
  first | refine wpAny_bind (wpAny_pure ?_) | skip
  refine wpAny_bind (wpAny_sequenceKey ht.typeIs (by decide) ?_)
  refine wpAny_bind (wpAny_callSpecial?_slot (name := Str.ofString "__getitem__") ht.typeIs PyProof.Rows.slot_tuple_getitem
    (wpAny_call_entry PyProof.Rows.slot_tuple_getitem ht.typeIs entry_tuple_getitem ?_ (args_tuple_getitem _ _)))
  show wpAny _ _ (Builtin.Tuple.tupleItemsOf (.ref t) >>= _) _ _ s
  refine wpAny_bind (tupleItemsOf_ ht ?_)
  refine wpAny_bind (wpAny_typeOf hTs ?_)
  rw [if_pos (by decide)]
  refine wpAny_bind (sliceApplied_back hs ps ?_)
  have no : ¬ ((((items.size : Int) - 1) == 0 && (-1 : Int) == 1 && items.size == items.size) = true) := by
    intro q
    rw [Bool.and_eq_true, Bool.and_eq_true] at q
    exact absurd q.1.2 (by decide)
  show wpAny _ _ (if (((items.size : Int) - 1) == 0 && (-1 : Int) == 1 && items.size == items.size) = true then _ else _) _ _ s
  rw [if_neg no, pick_back]
  first
    | exact wpAny_bind (m := Builtin.Tuple.tupleExact _) (wpAny_newObj_type (wpAny_pure ⟨_, rfl, wpAny_pure h⟩) fits)
    | exact wpAny_bind (m := Builtin.Tuple.tupleExact _) (wpAny_newObj_type (wpAny_bind (wpAny_pure (wpAny_pure ⟨_, rfl, wpAny_pure h⟩))) fits)
    | exact wpAny_bind (wpAny_bind (m := Builtin.Tuple.tupleExact _) (wpAny_newObj_type (wpAny_pure (wpAny_pure ⟨_, rfl, wpAny_pure h⟩)) fits))
    | exact wpAny_bind (wpAny_bind (m := Builtin.Tuple.tupleExact _) (wpAny_newObj_type (wpAny_pure ⟨_, rfl, wpAny_pure h⟩) fits))
end
end HT
namespace L2
open PySem PySem.Spec PyProof.Rows HT
section
variable {X : Cx}
/-- t[::-1], the items turned about -/
def tRevT (K : PySem.W.Frag) (te : TE) : TE := fun σ H Q => te σ H fun x H1 => ∃ a xs, x = .ref a ∧ SqT K H1 a xs ∧ ∀ p, H1 p = none → Q (.ref p) (upd H1 p (.tup xs.reverse))
theorem pe_revT {e : Expr} {te : TE} {k : Nat} {p1 p2 p3 pos : Pos} (he : PE X e te) : PE X (.Subscript e (.Slice none none (some (.UnaryOp .USub (.Constant (.int 1) k p1) p2)) p3) pos) (tRevT X.K te) := by
  refine ⟨fun pins s σ H Q I h => Subscript_ (thn (he.run pins s σ H _ I h) fun v s1 ⟨x, H1, I1, r1, q1⟩ => ?_)⟩
  obtain ⟨a, xs, rfl, hx, q⟩ := q1
  cases r1
  have hst : PO X (some (.UnaryOp .USub (.Constant (.int 1) k p1) p2)) (tPart (tUn (rU fun i => .int (-i)) (tC (.int 1)))) := po_some (pe_un un_neg pe_int)
  refine wpAny_Slice (thn (po_none.run pins s1 σ H1 (fun o H2 => o = none ∧ H2 = H1) I1 ⟨rfl, rfl⟩) fun vl s2 ⟨l, H2, I2, pl, el, e2⟩ => ?_)
  subst el e2
  refine thn (po_none.run pins s2 σ H2 (fun o H3 => o = none ∧ H3 = H2) I2 ⟨rfl, rfl⟩) fun vu s3 ⟨u, H3, I3, pu, eu, e3⟩ => ?_
  subst eu e3
  refine thn (hst.run pins s3 σ H3 (fun o H4 => o = some (-1) ∧ H4 = H3) I3 ⟨1, rfl, -1, rfl, rfl, rfl⟩) fun vs s4 ⟨o, H4, I4, ps, eo, e4⟩ => ?_
  subst eo e4
  have I5 : Inv X pins σ H4 { s4 with heap := s4.heap.push { cls := .type "slice", data := .fields #[vl, vu, vs] } } := I4.kept (t' := s4.toks) fun b ob q => Heap.get?_push_of_some _ q
  obtain ⟨its, r, ht, hz⟩ := I5.tuple hx
  have hlen := r.length
  cases pl
  cases pu
  show wpAny (model X.prog X.w) X.A (subscriptTail e (.Slice none none (some (.UnaryOp .USub (.Constant (.int 1) k p1) p2)) p3) (.ref a) (.ref s4.heap.objs.size)) (EP X pins σ Q) X.xe _
  refine tail_any (ops := [.ref a, .ref s4.heap.objs.size]) ht.typeIs PyProof.Rows.slot_tuple_getitem.lookup ?_ (by with_unfolding_all rfl)
  refine getItem_tuple_back ht (Heap.IsSliceOf.new _ .none .none vs) ps ?_ (by rw [List.size_toArray]; omega)
  refine ⟨.ref _, _, I5.laid (t' := s4.toks) (o := .tup xs.reverse) (fun b ob q => Heap.get?_push_of_some _ q) (Nat.le_refl _) ?_, rfl, q _ (I5.hok.fresh (Nat.le_refl _))⟩
  exact ⟨by rw [List.length_reverse]; exact hz, _, r.reverse, IsTup.new _ _⟩
end
end L2

/-! bent chosen ties -/
namespace Q
open PySem L2 QM
abbrev sBentC : Stmt := top 47
theorem fn_imp {P : Program} {w : World} {K : PySem.W.Frag} {mg : Str → Option Value} {base : Heap} {k : Nat} {f : Addr} {fd : FuncData} {ps : List Str} {sp sp' : Sp} {CX : CXT} (F : FnOk P w K mg base CX k f fd ps sp) (h : ∀ vs H Q E, sp' vs H Q E → sp vs H Q E) : FnOk P w K mg base CX k f fd ps sp' :=
  ⟨fun vs H Q E q => F.len vs H Q E (h _ _ _ _ q), fun A outer s H args us vs Q E hr he hb hv hs => F.run A outer s H args us vs Q E hr he hb hv (h _ _ _ _ hs)⟩
def spLAreCG : Sp := fun vs H Q _ => ∃ (W q pa : Addr) (v : V) (M : Nat) (L : List (Addr × List Int)) (par : Nat → Option Nat) (rk : Nat → Nat), vs = [.ref W, .ref pa, v] ∧ LWeb H W q (M : Int) L ∧ H pa = some (.tup (pVs M par)) ∧ ParOk M par rk ∧ M ≤ 40 ∧ Wk H v ∧
  ∀ (b : Bool) H', Same H H' → (b = true ↔ GoodC (fun i => (LD par M i : Int)) L M H v) → Q (.bl b) H'
theorem larecG_imp (vs : List V) (H : Hp) (Q : VK) (E : XK) (h : spLAreCG vs H Q E) : spLAreC vs H Q E ∨ spLAreCN vs H Q E := by
  obtain ⟨W, q, pa, v, M, L, par, rk, rfl, lw, hpa, po, m40, wk, k⟩ := h
  by_cases g : GoodC (fun i => (LD par M i : Int)) L M H v
  · obtain ⟨t, T, rfl, cho⟩ := id g
    exact .inl ⟨W, q, pa, t, M, L, T, par, rk, rfl, lw, hpa, po, m40, cho, fun H' s => k true H' s ⟨fun _ => g, fun _ => rfl⟩⟩
  · exact .inr ⟨W, q, pa, v, M, L, par, rk, rfl, lw, hpa, po, m40, wk, g, fun H' s => k false H' s ⟨(fun z => nomatch z), fun z => absurd z g⟩⟩
/-- x in (), x being any datum -/
def rInE (K : PySem.W.Frag) : R2 := fun x y H Q => ∃ (q : Addr) (d : PyData), y = .ref q ∧ H q = some (.tup []) ∧ Dp K H x d ∧ d.canLay0 = true ∧ Q (.bl false) H
theorem op_inE {X : Cx} (hu : X.A.units + 64 < cLine) : OpR X (compareOp .In) (rInE X.K) := by
  intro pins s σ H x y v u Q I rx ry h
  obtain ⟨q, d, rfl, hq, dx, lay, k⟩ := h
  obtain ⟨as, r1⟩ := Dp.reads I d x v dx rx
  obtain ⟨bs, r2⟩ := Dp.reads I (.tuple []) _ u (.tup (SqT.of hq) .nil) ry
  refine SeqAt.in_tuple_reads r2 r1 (by simp [PyData.canLayAll0]) lay ?_ ?_
  · have e : PyData.depthAll [] = 0 := by simp [PyData.depthAll]
    rw [e, Nat.zero_min]
    omega
  · exact ⟨.bl _, H, I, rfl, k⟩
theorem op_alt {X : Cx} {f : Value → Value → Sem Value} {r1 r2 : R2} (h1 : OpR X f r1) (h2 : OpR X f r2) : OpR X f (fun x y H Q => r1 x y H Q ∨ r2 x y H Q) := by
  intro pins s σ H x y v u Q I rx ry h
  exact h.elim (h1 pins s σ H x y v u Q I rx ry) (h2 pins s σ H x y v u Q I rx ry)
/-- odd ties -/
def TieD (H : Hp) (v : V) : Prop := v = .non ∨ (∃ (a : Addr) (l : List Int), v = .ref a ∧ H a = some (.tup (l.map V.int)) ∧ l.length ≤ 2) ∨ (∃ a : Addr, v = .ref a ∧ H a = some (.lst [.int 0, .int 1])) ∨ (∃ a : Addr, v = .ref a ∧ H a = some (.tup [.int 0, .bl true]))
theorem TieD.same {H H' : Hp} {v : V} (h : TieD H v) (s : Same H H') : TieD H' v := by
  rcases h with h | ⟨a, l, e, e2, le⟩ | ⟨a, e, e2⟩ | ⟨a, e, e2⟩
  · exact .inl h
  · exact .inr (.inl ⟨a, l, e, s _ _ e2, le⟩)
  · exact .inr (.inr (.inl ⟨a, e, s _ _ e2⟩))
  · exact .inr (.inr (.inr ⟨a, e, s _ _ e2⟩))
theorem TieD.ext {H H' : Hp} {v : V} {p l : Addr} (h : TieD H v) (g : HandAt H p l) (x : Ext p H H') : TieD H' v := by
  obtain ⟨ys, y⟩ := g.hp
  rcases h with h | ⟨a, l, e, e2, le⟩ | ⟨a, e, e2⟩ | ⟨a, e, e2⟩
  · exact .inl h
  · exact .inr (.inl ⟨a, l, e, x _ _ e2 (ne_of e2 y fun z => by cases z), le⟩)
  · exact .inr (.inr (.inl ⟨a, e, x _ _ e2 (ne_of e2 y fun z => by cases z)⟩))
  · exact .inr (.inr (.inr ⟨a, e, x _ _ e2 (ne_of e2 y fun z => by cases z)⟩))
theorem wk_ints {H : Hp} (l : List Int) : Wks H (l.map V.int) := fun x hx => by
  obtain ⟨i, _, rfl⟩ := List.mem_map.mp hx
  exact .int _
theorem TieD.wk {H : Hp} {v : V} (h : TieD H v) : Wk H v := by
  rcases h with rfl | ⟨a, l, rfl, e2, le⟩ | ⟨a, rfl, e2⟩ | ⟨a, rfl, e2⟩
  · exact .non
  · exact .tup e2 (by rw [List.length_map]; omega) (wk_ints l)
  · exact .lst e2
  · exact .tup e2 (by show 2 ≤ 4000; decide) (Wks.cons (.int _) (Wks.one (.bl _)))
theorem TieD.dp {K : PySem.W.Frag} {H : Hp} {v : V} (h : TieD H v) : ∃ d, Dp K H v d ∧ d.canLay0 = true := by
  rcases h with rfl | ⟨a, l, rfl, e2, le⟩ | ⟨a, rfl, e2⟩ | ⟨a, rfl, e2⟩
  · exact ⟨_, .non, by simp [PyData.canLay0]⟩
  · exact ⟨pT l, .tup (SqT.of e2) (dp_ints l), lay_pT l⟩
  · exact ⟨_, .lst (SqL.of e2) (.cons (.int _) (.cons (.int _) .nil)), by simp [PyData.canLay0, PyData.canLayAll0]⟩
  · exact ⟨_, .tup (SqT.of e2) (.cons (.int _) (.cons (.bl _) .nil)), by simp [PyData.canLay0, PyData.canLayAll0]⟩
def spBentC : Sp := fun vs H Q _ => ∃ (p l W q t : Addr) (M : Nat) (L T : List (Addr × List Int)), vs = [.ref p, .ref W, .ref t] ∧ HandAt H p l ∧ LWeb H W q (M : Int) L ∧ H t = some (.tup (T.map fun p => V.ref p.1)) ∧ (∀ c ∈ T, H c.1 = some (.tup (c.2.map V.int))) ∧ (∀ c ∈ T, ∃ a b : Int, c.2 = [a, b]) ∧ T.length ≤ 1000 ∧ 1 ≤ M ∧ M ≤ 40 ∧
  ∀ (v : V) (H' : Hp), Wk H' v → HandAt H' p l → Ext p H H' → Q v H'
section
variable {P : Program} {w : World} {K : PySem.W.Frag} {mg : Str → Option Value} {base : Heap}
theorem scBentC : FnScope ["hand", "web", "chosen", "at", "kind", "tie"] ["hand", "web", "chosen"] (defScope sBentC) := ⟨rfl, rfl, rfl, by decide +kernel, rfl, by decide +kernel, by decide +kernel⟩
theorem ok_bentc {f fD fP fC fN fL fW : Addr} {fd dD dP dC dN dL dW : FuncData} (F : Fun K "_law_bent_chosen" "_law_bent_chosen" sBentC f fd) (B : Bts mg) (hz : mg "zip" = none) (ha : mg "all" = none) (DD : Df K mg "_law_draw" sDraw ["hand", "many"] fD dD)
    (DP : Df K mg "_law_deep" sDeep ["hand"] fP dP) (DC : Df K mg "_law_are_chosen" sLAreC ["web", "parents", "thing"] fC dC) (DN : Df K mg "_law_number" sLNum ["thing", "least", "most"] fN dN)
    (DL : Df K mg "_law_leader" sLLd ["parents", "house"] fL dL) (DW : Df K mg "_law_between" sBtw ["web", "parents"] fW dW) : FnOk P w K mg base CX0 4 f fd ["hand", "web", "chosen"] spBentC := by
  have GD : FnOk P w K mg base CX0 1 fD dD ["hand", "many"] spDraw := ok_draw DD.F B
  have GP : FnOk P w K mg base CX0 2 fP dP ["hand"] spDeep := ok_deep DP.F B DD
  have GC : FnOk P w K mg base CX0 3 fC dC ["web", "parents", "thing"] spLAreCG := fn_imp (fn_or (ok_larec DC.F B hz ha DN DL DW) (ok_larecN DC.F B hz ha DN DL DW)) larecG_imp
  refine F.ok scBentC (fun vs H Q E h => ?_) (fun cdv A outer s H vs Q E hr h => ?_)
  · obtain ⟨p, l, W, q, t, M, L, T, rfl, _⟩ := h
    rfl
  · obtain ⟨p, l, W, q, t, M, L, T, rfl, g0, lw, ht, tup, prs, lT, m1, m40, k⟩ := h
    have nd := scBentC.nd
    have hu := hr.units
    have hr1 : Room 1 _ := hr.mono (by decide)
    have hr2 : Room 2 _ := hr.mono (by decide)
    refine ⟨_, pss_cons (ps_set (i := 3) nd rfl (.inl rfl) (pe_call GD hr1 rfl DD.m DD.k DD.b .nil pass0 (pa_cons (pv 0) (pa_cons (pe_op op_add (pe_callB call_len_seq (by rfl) B.len PySem.boot_len (pa_cons (pv 2) pa_nil)) pe_int) pa_nil))))
      (pss_cons (ps_set (i := 4) nd rfl (.inl rfl) (pe_call GD hr1 rfl DD.m DD.k DD.b .nil pass0 (pa_cons (pv 0) (pa_cons pe_int pa_nil))))
      (pss_cons (ps_if (pt_cmpR op_eq (pv 4) pe_int (nomark _)) (pss_one (ps_ret (pe_ix ix_list (pe_lst (pa_cons (pe_callTy call_list_of (by rfl) B.list PyProof.Rows.boot_list (pa_cons (pv 2) pa_nil)) (pa_cons pe_non (pa_cons pe_int (pa_cons (pe_tup (pa_cons pe_int pa_nil)) (pa_cons (pe_revT (pv 2))
          (pa_cons (pe_call GP hr2 rfl DP.m DP.k DP.b .nil pass0 (pa_cons (pv 0) pa_nil)) pa_nil))))))) (pe_call GD hr1 rfl DD.m DD.k DD.b .nil pass0 (pa_cons (pv 0) (pa_cons pe_int pa_nil))) (fun _ _ => rfl)))) pss_nil)
      (pss_cons (ps_if (pt_cmpR op_eq (pv 4) pe_int (nomark _)) (pss_one (ps_ret (pe_op op_catS (pe_slice sl_S (pv 2) po_none (po_some (pv 3))) (pe_slice sl_S (pv 2) (po_some (pe_op op_add (pv 3) pe_int)) po_none)))) pss_nil)
      (pss_cons (ps_if (pt_cmpR op_eq (pv 4) pe_int (nomark _)) (pss_one (ps_ret (pe_op op_catS (pv 2) (pe_slice sl_S (pv 2) po_none (po_some pe_int))))) pss_nil)
      (pss_cons (ps_set (i := 5) nd rfl (.inl rfl) (pe_ix ix_list (pe_lst (pa_cons (pe_tup (pa_cons pe_int (pa_cons pe_int pa_nil))) (pa_cons (pe_tup (pa_cons pe_int (pa_cons pe_int pa_nil))) (pa_cons (pe_tup (pa_cons pe_int (pa_cons pe_int pa_nil))) (pa_cons (pe_tup (pa_cons pe_int (pa_cons pe_bl pa_nil)))
          (pa_cons (pe_lst (pa_cons pe_int (pa_cons pe_int pa_nil))) (pa_cons (pe_tup (pa_cons pe_int pa_nil)) (pa_cons pe_non (pa_cons (pe_tup (pa_cons pe_int (pa_cons pe_int pa_nil))) pa_nil))))))))) (pe_call GD hr1 rfl DD.m DD.k DD.b .nil pass0 (pa_cons (pv 0) (pa_cons pe_int pa_nil))) (fun _ _ => rfl)))
      (C8.pss_cut (ps_if (PW.pt (pw_and (pt_cmpR op_gt (pe_callB call_len_seq (by rfl) B.len PySem.boot_len (pa_cons (pe_ix ix_tup (pv 1) pe_int (fun _ _ => rfl)) pa_nil)) pe_int (nomark _)) (pw_and1 (pt_cmpR op_lt (pv 4) pe_int (nomark _)))))
          (pss_one (ps_set (i := 5) nd rfl (.inl rfl) (pe_ix ix_tup (pe_ix ix_tup (pv 1) pe_int (fun _ _ => rfl)) (pe_call GD hr1 rfl DD.m DD.k DD.b .nil pass0 (pa_cons (pv 0) (pa_cons (pe_callB call_len_seq (by rfl) B.len PySem.boot_len (pa_cons (pe_ix ix_tup (pv 1) pe_int (fun _ _ => rfl)) pa_nil)) pa_nil))) (fun _ _ => rfl)))) pss_nil)
      (pss_cons (ps_if (pt_cmpR op_eq (pe_op op_mod (pv 4) pe_int) pe_int (nomark _)) (pss_one (ps_ret (pe_callTy call_tuple_of (by rfl) B.tuple PyProof.Rows.boot_tuple (pa_cons (pe_op op_catS (pe_op op_catS (pe_slice sl_S (pv 2) po_none (po_some (pv 3))) (pe_tup (pa_cons (pv 5) pa_nil))) (pe_slice sl_S (pv 2) (po_some (pe_op op_add (pv 3) pe_int)) po_none)) pa_nil)))) pss_nil)
      (pss_cons (ps_if (PW.pt (pw_or (pt_val (pe_call GC hr rfl DC.m DC.k DC.b .nil pass0 (pa_cons (pv 1) (pa_cons (pe_op QT.op_repA (pe_tup (pa_cons pe_non pa_nil)) (pe_ix ix_tup (pv 1) pe_int (fun _ _ => rfl))) (pa_cons (pe_tup (pa_cons (pv 5) pa_nil)) pa_nil)))))
            (pw_or1 (pt_cmpR (op_alt (op_inP hu) (op_inE hu)) (pv 5) (pe_ix ix_tup (pv 1) pe_int (fun _ _ => rfl)) rfl))))
          (pss_one (ps_ret (pe_callTy call_tuple_of (by rfl) B.tuple PyProof.Rows.boot_tuple (pa_cons (pe_callB cr_sortedPO (by rfl) B.sorted PyProof.Rows.boot_sorted (pa_cons (pe_op op_cat (pe_callTy call_list_of (by rfl) B.list PyProof.Rows.boot_list (pa_cons (pv 2) pa_nil)) (pe_lst (pa_cons (pv 5) pa_nil))) pa_nil)) pa_nil)))) pss_nil)
      (pss_one (ps_ret (pe_op op_catS (pv 2) (pe_tup (pa_cons (pv 5) pa_nil))))))))))))), ?_⟩
    refine ⟨_, rfl, _, rfl, t, _, rfl, .inr (SqT.of ht), _, _, rfl, rfl, p, l, _, rfl, g0, ?_, ?_, fun at_ H1 a0 aM g1 b1 => ?_⟩
    · rw [List.length_map]
      omega
    · rw [List.length_map]
      omega
    have x1 := b1.ext
    have ep : ∀ {H' : Hp}, Ext p H H' → H' t = some (.tup (T.map fun p => V.ref p.1)) := fun x => x _ _ ht (hand_ne' g0 ht)
    have etup : ∀ {H' : Hp}, Ext p H H' → ∀ c ∈ T, H' c.1 = some (.tup (c.2.map V.int)) := fun x c hc => x _ _ (tup c hc) (hand_ne' g0 (tup c hc))
    have wkT : ∀ {H' : Hp}, Ext p H H' → Wks H' (T.map fun p => V.ref p.1) := fun x v hv => by
      obtain ⟨c, hc, rfl⟩ := List.mem_map.mp hv
      obtain ⟨a, b, e⟩ := prs c hc
      exact .tup (etup x c hc) (by rw [e]; show 2 ≤ 4000; decide) (wk_ints _)
    have lxs : (T.map fun p => V.ref p.1).length ≤ 1000 := by rwa [List.length_map]
    have sz : ∀ {n : Nat}, n ≤ 9000 → n ≤ sizeLine := fun h => Nat.le_trans h (by decide)
    refine ⟨_, rfl, p, l, 7, rfl, g1, by decide, by decide, fun kd H2 kd0 kd7 g2 b2 => ?_⟩
    have x2 := x1.one b2
    generalize exs : (T.map fun p => V.ref p.1) = xs at ep wkT lxs
    have e2 := ep x2
    refine ⟨_, rfl, rfl, _, rfl, ite2 (fun _ => ?_) (fun _ => ?_)⟩
    · refine ⟨_, rfl, t, _, rfl, .inr (SqT.of e2), fun z1 n1 => ?_⟩
      refine ⟨(by show 1 ≤ sizeLine; decide), fun z2 n2 => ?_⟩
      have s3 := sT (sN (o := .lst xs) n1) (sN (o := .tup [.int 0]) n2)
      refine ⟨_, rfl, t, _, rfl, SqT.of (s3 _ _ e2), fun z3 n3 => ?_⟩
      have s4 := sT s3 (sN (o := .tup xs.reverse) n3)
      have f1 : (upd (upd (upd H2 z1 (.lst xs)) z2 (.tup [.int 0])) z3 (.tup xs.reverse)) z1 = some (.lst xs) := sN n3 _ _ (sN n2 _ _ upd_same)
      have f2 : (upd (upd (upd H2 z1 (.lst xs)) z2 (.tup [.int 0])) z3 (.tup xs.reverse)) z2 = some (.tup [.int 0]) := sN n3 _ _ upd_same
      have f3 : (upd (upd (upd H2 z1 (.lst xs)) z2 (.tup [.int 0])) z3 (.tup xs.reverse)) z3 = some (.tup xs.reverse) := upd_same
      revert s4 f1 f2 f3
      generalize (upd (upd (upd H2 z1 (.lst xs)) z2 (.tup [.int 0])) z3 (.tup xs.reverse)) = H9
      intro s9 f1 f2 f3
      have g9 := g2.same s9
      have x9 : Ext p H H9 := x2.same s9
      refine ⟨_, rfl, p, l, rfl, g9, fun v H10 wv g10 x10 => ⟨(by show 6 ≤ sizeLine; decide), fun t2 nt2 => ?_⟩⟩
      have w1 : Wk H9 (.ref z1) := .lst f1
      have w2 : Wk H9 (.ref z2) := .tup f2 (by show 1 ≤ 4000; decide) (Wks.one (.int _))
      have w3 : Wk H9 (.ref z3) := .tup f3 (by rw [List.length_reverse]; omega) fun y hy => wkT x9 y (List.mem_reverse.mp hy)
      have all : Wks H10 [.ref z1, .non, .int 0, .ref z2, .ref z3, v] := .cons (w1.ext g9 g10 x10) (.cons .non (.cons (.int _) (.cons (w2.ext g9 g10 x10) (.cons (w3.ext g9 g10 x10) (.one wv)))))
      have st := sN (o := .lst [.ref z1, .non, .int 0, .ref z2, .ref z3, v]) nt2
      have npt := hand_ne g10 nt2
      have g11 := g10.same st
      have x11 : Ext p H (upd H10 t2 (.lst [.ref z1, .non, .int 0, .ref z2, .ref z3, v])) := (x9.trans x10).same st
      refine ⟨_, rfl, p, l, 6, rfl, g11, by decide, by decide, fun d H12 d0 d6 g12 b12 => ?_⟩
      obtain ⟨u, hu, eu⟩ := pick_in (xs := [V.ref z1, .non, .int 0, .ref z2, .ref z3, v]) d0 (by show d < 6; exact d6)
      exact ⟨t2, _, d, u, rfl, rfl, SqL.of (b12.keep upd_same npt), eu, k u H12 (((all u hu).same st).ext g11 g12 b12.ext) g12 (x11.one b12)⟩
    refine ⟨_, rfl, rfl, _, rfl, ite2 (fun _ => ?_) (fun _ => ?_)⟩
    · refine ⟨_, rfl, _, rfl, at_, rfl, t, _, rfl, e2, fun z1 Ha ys1 sa f1 l1 i1 => ?_⟩
      refine ⟨_, rfl, _, rfl, _, _, rfl, rfl, at_ + 1, rfl, t, _, rfl, sa _ _ e2, fun z2 Hb ys2 sb f2 l2 i2 => ?_⟩
      refine ⟨z1, z2, _, _, rfl, rfl, sb _ _ f1, f2, sz (by omega), fun z3 Hc sc f3 => ?_⟩
      have sAll := sT sa (sT sb sc)
      exact k (.ref z3) Hc (.tup f3 (by rw [List.length_append]; omega) (((wkT (x2.same sAll)).sub i1).app ((wkT (x2.same sAll)).sub i2))) (g2.same sAll) (x2.same sAll)
    refine ⟨_, rfl, rfl, _, rfl, ite2 (fun _ => ?_) (fun _ => ?_)⟩
    · refine ⟨_, rfl, _, rfl, 1, rfl, t, _, rfl, e2, fun z1 Ha ys1 sa f1 l1 i1 => ?_⟩
      refine ⟨t, z1, _, _, rfl, rfl, sa _ _ e2, f1, sz (by omega), fun z3 Hc sc f3 => ?_⟩
      have sAll := sT sa sc
      exact k (.ref z3) Hc (.tup f3 (by rw [List.length_append]; omega) ((wkT (x2.same sAll)).app ((wkT (x2.same sAll)).sub i1))) (g2.same sAll) (x2.same sAll)
    refine ⟨(by show 2 ≤ sizeLine; decide), fun q1 n1 => ⟨(by show 2 ≤ sizeLine; decide), fun q2 n2 => ⟨(by show 2 ≤ sizeLine; decide), fun q3 n3 => ⟨(by show 2 ≤ sizeLine; decide), fun q4 n4 => ⟨(by show 2 ≤ sizeLine; decide), fun q5 n5 => ⟨(by show 1 ≤ sizeLine; decide), fun q6 n6 => ⟨(by show 2 ≤ sizeLine; decide), fun q7 n7 => ⟨(by show 8 ≤ sizeLine; decide), fun ml hml => ?_⟩⟩⟩⟩⟩⟩⟩⟩
    have s9 : Same H2 (upd (upd (upd (upd (upd (upd (upd (upd H2 q1 (.tup [.int 0, .int 1])) q2 (.tup [.int 1, .int 0])) q3 (.tup [.int 0, .int 0])) q4 (.tup [.int 0, .bl true])) q5 (.lst [.int 0, .int 1])) q6 (.tup [.int 0])) q7 (.tup [.int 0, .int 40])) ml (.lst [.ref q1, .ref q2, .ref q3, .ref q4, .ref q5, .ref q6, .non, .ref q7])) := sT (sN n1) (sT (sN n2) (sT (sN n3) (sT (sN n4) (sT (sN n5) (sT (sN n6) (sT (sN n7) (sN hml)))))))
    have f1 : (upd (upd (upd (upd (upd (upd (upd (upd H2 q1 (.tup [.int 0, .int 1])) q2 (.tup [.int 1, .int 0])) q3 (.tup [.int 0, .int 0])) q4 (.tup [.int 0, .bl true])) q5 (.lst [.int 0, .int 1])) q6 (.tup [.int 0])) q7 (.tup [.int 0, .int 40])) ml (.lst [.ref q1, .ref q2, .ref q3, .ref q4, .ref q5, .ref q6, .non, .ref q7])) q1 = some (.tup [.int 0, .int 1]) := sN hml _ _ (sN n7 _ _ (sN n6 _ _ (sN n5 _ _ (sN n4 _ _ (sN n3 _ _ (sN n2 _ _ upd_same))))))
    have f2 : (upd (upd (upd (upd (upd (upd (upd (upd H2 q1 (.tup [.int 0, .int 1])) q2 (.tup [.int 1, .int 0])) q3 (.tup [.int 0, .int 0])) q4 (.tup [.int 0, .bl true])) q5 (.lst [.int 0, .int 1])) q6 (.tup [.int 0])) q7 (.tup [.int 0, .int 40])) ml (.lst [.ref q1, .ref q2, .ref q3, .ref q4, .ref q5, .ref q6, .non, .ref q7])) q2 = some (.tup [.int 1, .int 0]) := sN hml _ _ (sN n7 _ _ (sN n6 _ _ (sN n5 _ _ (sN n4 _ _ (sN n3 _ _ upd_same)))))
    have f3 : (upd (upd (upd (upd (upd (upd (upd (upd H2 q1 (.tup [.int 0, .int 1])) q2 (.tup [.int 1, .int 0])) q3 (.tup [.int 0, .int 0])) q4 (.tup [.int 0, .bl true])) q5 (.lst [.int 0, .int 1])) q6 (.tup [.int 0])) q7 (.tup [.int 0, .int 40])) ml (.lst [.ref q1, .ref q2, .ref q3, .ref q4, .ref q5, .ref q6, .non, .ref q7])) q3 = some (.tup [.int 0, .int 0]) := sN hml _ _ (sN n7 _ _ (sN n6 _ _ (sN n5 _ _ (sN n4 _ _ upd_same))))
    have f4 : (upd (upd (upd (upd (upd (upd (upd (upd H2 q1 (.tup [.int 0, .int 1])) q2 (.tup [.int 1, .int 0])) q3 (.tup [.int 0, .int 0])) q4 (.tup [.int 0, .bl true])) q5 (.lst [.int 0, .int 1])) q6 (.tup [.int 0])) q7 (.tup [.int 0, .int 40])) ml (.lst [.ref q1, .ref q2, .ref q3, .ref q4, .ref q5, .ref q6, .non, .ref q7])) q4 = some (.tup [.int 0, .bl true]) := sN hml _ _ (sN n7 _ _ (sN n6 _ _ (sN n5 _ _ upd_same)))
    have f5 : (upd (upd (upd (upd (upd (upd (upd (upd H2 q1 (.tup [.int 0, .int 1])) q2 (.tup [.int 1, .int 0])) q3 (.tup [.int 0, .int 0])) q4 (.tup [.int 0, .bl true])) q5 (.lst [.int 0, .int 1])) q6 (.tup [.int 0])) q7 (.tup [.int 0, .int 40])) ml (.lst [.ref q1, .ref q2, .ref q3, .ref q4, .ref q5, .ref q6, .non, .ref q7])) q5 = some (.lst [.int 0, .int 1]) := sN hml _ _ (sN n7 _ _ (sN n6 _ _ upd_same))
    have f6 : (upd (upd (upd (upd (upd (upd (upd (upd H2 q1 (.tup [.int 0, .int 1])) q2 (.tup [.int 1, .int 0])) q3 (.tup [.int 0, .int 0])) q4 (.tup [.int 0, .bl true])) q5 (.lst [.int 0, .int 1])) q6 (.tup [.int 0])) q7 (.tup [.int 0, .int 40])) ml (.lst [.ref q1, .ref q2, .ref q3, .ref q4, .ref q5, .ref q6, .non, .ref q7])) q6 = some (.tup [.int 0]) := sN hml _ _ (sN n7 _ _ upd_same)
    have f7 : (upd (upd (upd (upd (upd (upd (upd (upd H2 q1 (.tup [.int 0, .int 1])) q2 (.tup [.int 1, .int 0])) q3 (.tup [.int 0, .int 0])) q4 (.tup [.int 0, .bl true])) q5 (.lst [.int 0, .int 1])) q6 (.tup [.int 0])) q7 (.tup [.int 0, .int 40])) ml (.lst [.ref q1, .ref q2, .ref q3, .ref q4, .ref q5, .ref q6, .non, .ref q7])) q7 = some (.tup [.int 0, .int 40]) := sN hml _ _ upd_same
    have fm : (upd (upd (upd (upd (upd (upd (upd (upd H2 q1 (.tup [.int 0, .int 1])) q2 (.tup [.int 1, .int 0])) q3 (.tup [.int 0, .int 0])) q4 (.tup [.int 0, .bl true])) q5 (.lst [.int 0, .int 1])) q6 (.tup [.int 0])) q7 (.tup [.int 0, .int 40])) ml (.lst [.ref q1, .ref q2, .ref q3, .ref q4, .ref q5, .ref q6, .non, .ref q7])) ml = some (.lst [.ref q1, .ref q2, .ref q3, .ref q4, .ref q5, .ref q6, .non, .ref q7]) := upd_same
    have nml : ml ≠ p := hand_ne (((((((g2.new n1).new n2).new n3).new n4).new n5).new n6).new n7) hml
    clear n1 n2 n3 n4 n5 n6 n7 hml
    revert s9 f1 f2 f3 f4 f5 f6 f7 fm
    generalize (upd (upd (upd (upd (upd (upd (upd (upd H2 q1 (.tup [.int 0, .int 1])) q2 (.tup [.int 1, .int 0])) q3 (.tup [.int 0, .int 0])) q4 (.tup [.int 0, .bl true])) q5 (.lst [.int 0, .int 1])) q6 (.tup [.int 0])) q7 (.tup [.int 0, .int 40])) ml (.lst [.ref q1, .ref q2, .ref q3, .ref q4, .ref q5, .ref q6, .non, .ref q7])) = H9
    intro s9 f1 f2 f3 f4 f5 f6 f7 fm
    have g9 := g2.same s9
    have x9 : Ext p H H9 := x2.same s9
    refine ⟨_, rfl, p, l, 8, rfl, g9, by decide, by decide, fun d H10 d0 d8 g10 b10 => ?_⟩
    obtain ⟨o, ho, eo⟩ := pick_in (xs := ([.ref q1, .ref q2, .ref q3, .ref q4, .ref q5, .ref q6, .non, .ref q7] : List V)) d0 (by show d < 8; exact d8)
    have td : TieD H9 o := by
      simp only [List.mem_cons, List.not_mem_nil, or_false] at ho
      rcases ho with rfl | rfl | rfl | rfl | rfl | rfl | rfl | rfl
      · exact .inr (.inl ⟨q1, [0, 1], rfl, f1, by decide⟩)
      · exact .inr (.inl ⟨q2, [1, 0], rfl, f2, by decide⟩)
      · exact .inr (.inl ⟨q3, [0, 0], rfl, f3, by decide⟩)
      · exact .inr (.inr (.inr ⟨q4, rfl, f4⟩))
      · exact .inr (.inr (.inl ⟨q5, rfl, f5⟩))
      · exact .inr (.inl ⟨q6, [0], rfl, f6, by decide⟩)
      · exact .inl rfl
      · exact .inr (.inl ⟨q7, [0, 40], rfl, f7, by decide⟩)
    refine ⟨ml, _, d, o, rfl, rfl, SqL.of (b10.keep fm nml), eo, ?_⟩
    have td10 := td.ext g9 b10.ext
    have x10 := x9.one b10
    have few := lw.2.few
    refine ⟨fun σ H' => ∃ tie : V, σ = [some (.ref p), some (.ref W), some (.ref t), some (.int at_), some (.int kd), some tie] ∧ HandAt H' p l ∧ Ext p H H' ∧ TieD H' tie ∧ (L ≠ [] → kd < 6 → ∃ c ∈ L, tie = .ref c.1), ?_, ?_⟩
    · have lw10 := lw.ext g0 x10
      refine ⟨_, rfl, W, _, 1, _, rfl, rfl, SqT.of lw10.1, rfl, q, _, rfl, .inr (SqT.of lw10.2.at_), _, _, rfl, rfl, _, rfl, ite2 (fun c => ?_) (fun c => ?_)⟩
      · have c' := of_decide_eq_true c
        rw [List.length_map] at c'
        refine ⟨_, rfl, _, _, rfl, rfl, _, rfl, ite2 (fun cc => ?_) (fun cc => ?_)⟩
        · refine ⟨_, rfl, W, _, 1, _, rfl, rfl, SqT.of lw10.1, rfl, _, rfl, _, rfl, W, _, 1, _, rfl, rfl, SqT.of lw10.1, rfl, q, _, rfl, .inr (SqT.of lw10.2.at_), p, l, _, rfl, g10, ?_, ?_, fun d2 H11 d20 d21 g11 b11 => ?_⟩
          · rw [List.length_map]
            omega
          · rw [List.length_map]
            omega
          rw [List.length_map] at d21
          have x11 := x10.one b11
          have lw11 := lw.ext g0 x11
          obtain ⟨v, hv, ev⟩ := pick_in (xs := L.map fun p => V.ref p.1) d20 (by rw [List.length_map]; exact d21)
          obtain ⟨c, hc, rfl⟩ := List.mem_map.mp hv
          obtain ⟨a, b, e3, _⟩ := lw.2.ok c hc
          exact ⟨q, _, d2, _, rfl, rfl, SqT.of lw11.2.at_, ev, _, rfl, g11, x11, .inr (.inl ⟨c.1, c.2, rfl, lw11.2.tup c hc, by rw [e3]; show 2 ≤ 2; decide⟩), fun _ _ => ⟨c, hc, rfl⟩⟩
        · exact ⟨o, rfl, g10, x10, td10, fun _ z => absurd (decide_eq_true z) cc⟩
      · refine ⟨o, rfl, g10, x10, td10, fun z _ => absurd ?_ z⟩
        cases L with
        | nil => rfl
        | cons a r => exact absurd (decide_eq_true (by rw [List.length_map, List.length_cons]; show (0 : Int) < ((r.length + 1 : Nat) : Int); omega)) c
    rintro σ H12 ⟨tie, rfl, g12, x12, td12, lk⟩
    have lw12 := lw.ext g0 x12
    have e12 := ep x12
    have wt := td12.wk
    refine ⟨_, rfl, _, _, rfl, rfl, (by show (0 : Int) < 2; decide), rfl, _, rfl, ?_⟩
    rw [dec_i]
    refine ite2 (fun _ => ?_) (fun co => ?_)
    · refine ⟨_, rfl, _, rfl, at_, rfl, t, _, rfl, e12, fun z1 H8 ys1 s8 f1 l1 i1 => ?_⟩
      refine ⟨_, rfl, (by show 1 ≤ sizeLine; decide), fun z2 n2 => ?_⟩
      have s9 := sT s8 (sN (o := .tup [tie]) n2)
      refine ⟨z1, z2, _, _, rfl, rfl, sN n2 _ _ f1, upd_same, sz (show ys1.length + 1 ≤ 9000 by omega), fun z3 H10 s10 f3 => ?_⟩
      refine ⟨_, rfl, _, rfl, _, _, rfl, rfl, at_ + 1, rfl, t, _, rfl, (sT s9 s10) _ _ e12, fun z4 H11 ys2 s11 f4 l2 i2 => ?_⟩
      refine ⟨z3, z4, _, _, rfl, rfl, s11 _ _ f3, f4, ?_, fun z5 H13 s12 f5 => ?_⟩
      · rw [List.length_append]
        exact sz (show ys1.length + 1 + ys2.length ≤ 9000 by omega)
      have sAll := sT s9 (sT s10 (sT s11 s12))
      refine ⟨z5, _, rfl, .inr ⟨SqT.of f5, ?_⟩⟩
      refine k (.ref z5) H13 (.tup f5 ?_ ((((wkT (x12.same sAll)).sub i1).app (.one (wt.same sAll))).app ((wkT (x12.same sAll)).sub i2))) (g12.same sAll) (x12.same sAll)
      rw [List.length_append, List.length_append]
      show ys1.length + 1 + ys2.length ≤ 4000
      omega
    have k6 : kd < 6 := by
      have z : ¬ kd % 2 = 0 := fun z => co (decide_eq_true z)
      omega
    refine ⟨_, rfl, (by show 1 ≤ sizeLine; decide), fun z nz => ?_⟩
    have s3 := sN (o := .tup [.non]) nz
    refine ⟨_, rfl, W, _, 0, _, rfl, rfl, SqT.of (s3 _ _ lw12.1), rfl, z, (M : Int), [.non], rfl, rfl, upd_same, by simp, by omega, by omega, (by show 1 ≤ 1000; decide), fun pp H8 s8 epp => ?_⟩
    have epp' : H8 pp = some (.tup (pVs M noPar)) := by
      rw [epp, Int.toNat_natCast, pVs_no, List.flatten_replicate_singleton]
    refine ⟨_, rfl, (by show 1 ≤ sizeLine; decide), fun z6 n6 => ?_⟩
    have s13 := sT s3 (sT s8 (sN (o := .tup [tie]) n6))
    have td13 := td12.same s13
    have e6 : (upd H8 z6 (.tup [tie])) z6 = some (.tup [tie]) := upd_same
    have epp6 := sN (o := .tup [tie]) n6 _ _ epp'
    have lw13 := lw12.same s13
    have g13 := g12.same s13
    have x13 : Ext p H (upd H8 z6 (.tup [tie])) := x12.same s13
    revert s13 td13 e6 epp6 lw13 g13 x13
    generalize upd H8 z6 (.tup [tie]) = H13
    intro s13 td13 e6 epp6 lw13 g13 x13
    refine ⟨W, q, pp, .ref z6, M, L, noPar, fun _ => 0, rfl, lw13, epp6, ⟨fun v u _ e => (nomatch e), fun v h => by omega⟩, m40, .tup e6 (by show 1 ≤ 4000; decide) (Wks.one td13.wk), fun b H14 s14 hb => ⟨_, rfl, ?_⟩⟩
    have x14 : Ext p H H14 := x13.same s14
    have g14 := g13.same s14
    have lw14 := lw13.same s14
    have e14 := ep x14
    by_cases em : L = []
    · have bf : b = false := by
        cases b with
        | false => rfl
        | true =>
          obtain ⟨tt, T', e, cho⟩ := hb.mp rfl
          cases e
          have z := cho.at_
          rw [e6] at z
          have z2 := HO.tup.inj (Option.some.inj z)
          cases T' with
          | nil => cases z2
          | cons c r =>
            obtain ⟨r', hr', _⟩ := cho.sub c List.mem_cons_self
            rw [em] at hr'
            exact absurd hr' List.not_mem_nil
      subst bf
      obtain ⟨dd, dp, lay⟩ := (td13.same s14).dp (K := K)
      have e0 := lw14.2.at_
      rw [em] at e0
      refine iteF ⟨_, rfl, _, rfl, W, _, 1, _, rfl, rfl, SqT.of lw14.1, rfl, .inr ⟨q, dd, rfl, e0, dp, lay, _, rfl, iteF ?_⟩⟩
      refine ⟨_, rfl, _, rfl, (by show 1 ≤ sizeLine; decide), fun z7 n7 => ?_⟩
      have s15 := sN (o := .tup [tie]) n7
      refine ⟨t, z7, _, _, rfl, rfl, s15 _ _ e14, upd_same, sz (show xs.length + 1 ≤ 9000 by omega), fun z8 H16 s16 f8 => ?_⟩
      have sAll := sT s15 s16
      refine k (.ref z8) H16 (.tup f8 ?_ ((wkT (x14.same sAll)).app (.one (((td13.same s14).same sAll).wk)))) (g14.same sAll) (x14.same sAll)
      rw [List.length_append]
      show xs.length + 1 ≤ 4000
      omega
    · obtain ⟨c, hc, rfl⟩ := lk em k6
      obtain ⟨a, b', ec, _⟩ := lw.2.ok c hc
      have ecc : H14 c.1 = some (.tup (c.2.map V.int)) := lw14.2.tup c hc
      cases b
      case' true => refine iteT ?_
      case' false =>
        refine iteF ⟨_, rfl, _, rfl, W, _, 1, _, rfl, rfl, SqT.of lw14.1, rfl, .inl ⟨c.1, q, c.2, L, rfl, rfl, ecc, lw14.2.at_, lw14.2.tup, ?_⟩⟩
        rw [decide_eq_true (List.mem_map.mpr ⟨c, hc, rfl⟩)]
        refine ⟨_, rfl, iteT ?_⟩
      all_goals
        refine ⟨_, rfl, t, _, rfl, .inr (SqT.of e14), fun l1 n1 => ?_⟩
        refine ⟨_, rfl, (by show 1 ≤ sizeLine; decide), fun l2 n2 => ?_⟩
        have s15 := sT (sN (o := .lst xs) n1) (sN (o := .lst [.ref c.1]) n2)
        refine ⟨l1, l2, _, _, rfl, rfl, sN n2 _ _ upd_same, upd_same, sz (show xs.length + 1 ≤ 9000 by omega), fun l3 n3 => ?_⟩
        have s16 := sT s15 (sN (o := .lst (xs ++ [.ref c.1])) n3)
        have e16 : (upd (upd (upd H14 l1 (.lst xs)) l2 (.lst [.ref c.1])) l3 (.lst (xs ++ [.ref c.1]))) l3 = some (.lst (xs ++ [.ref c.1])) := upd_same
        revert s16 e16
        generalize (upd (upd (upd H14 l1 (.lst xs)) l2 (.lst [.ref c.1])) l3 (.lst (xs ++ [.ref c.1]))) = H17
        intro s16 e16
        have x17 := x14.same s16
        have kx : ∀ y ∈ xs ++ [V.ref c.1], ∃ t, y = V.ref t ∧ H17 t = some (.tup [.int (kH H17 y).1, .int (kH H17 y).2]) := fun y hy => by
          have : ∃ (u : Addr) (i j : Int), y = .ref u ∧ H17 u = some (.tup [.int i, .int j]) := by
            rcases List.mem_append.mp hy with hy | hy
            · rw [← exs] at hy
              obtain ⟨r, hr, rfl⟩ := List.mem_map.mp hy
              obtain ⟨i, j, e⟩ := prs r hr
              have z := etup x17 r hr
              rw [e] at z
              exact ⟨r.1, i, j, rfl, z⟩
            · rw [List.mem_singleton.mp hy]
              have z := s16 _ _ ecc
              rw [ec] at z
              exact ⟨c.1, a, b', rfl, z⟩
          obtain ⟨u, i, j, rfl, z⟩ := this
          refine ⟨u, rfl, ?_⟩
          rw [kH_at z]
          exact z
        refine ⟨l3, _, kH H17, rfl, SqL.of e16, kx, fun ys sp sr sb hsp => ?_⟩
        have s18 := sN (o := .lst ys) hsp
        refine ⟨sp, _, rfl, .inl ⟨SqL.of upd_same, fun t9 n9 => ?_⟩⟩
        have s19 := sT s16 (sT s18 (sN (o := .tup ys) n9))
        have wc : Wk H14 (.ref c.1) := .tup ecc (by rw [ec]; show 2 ≤ 4000; decide) (wk_ints _)
        refine k (.ref t9) _ (.tup upd_same ?_ fun y hy => ?_) (g14.same s19) (x14.same s19)
        · rw [sb.perm.length_eq, List.length_append]
          show xs.length + 1 ≤ 4000
          omega
        · have hy2 := sb.perm.mem_iff.mp hy
          rcases List.mem_append.mp hy2 with hy2 | hy2
          · exact wkT (x14.same s19) y hy2
          · rw [List.mem_singleton.mp hy2]
            exact wc.same s19
end
end Q

namespace Q
open PySem L2 QM
abbrev sEqW : Stmt := inClass (top 11) 1
abbrev sEqK : Stmt := inClass (top 18) 1
section
variable {X : Cx}
/-- a == b by the own __eq__ of a's class -/
def rEqI (C : Addr) (sp : Sp) : R2 := fun x y H Q => ∃ (a dx : Addr) (fs : List (Str × V)), x = .ref a ∧ H a = some (.ins C dx fs) ∧ ((∃ b dy gs, y = .ref b ∧ H b = some (.ins C dy gs)) ∨ (∃ b ys, y = .ref b ∧ H b = some (.tup ys))) ∧ sp [x, y] H (fun v H' => (∃ c, v = .bl c) ∧ Q v H') (fun _ _ _ => False)
theorem op_eqI {CX : CXT} {n : Nat} {C f : Addr} {fd : FuncData} {ps : List Str} {sp : Sp} (F : FnOk X.prog X.w X.K X.mg X.base CX n f fd ps sp) (hs : PySem.W.findIn X.K (.ref C) "__eq__" = some (some (.ref f))) (hf : PySem.W.isFn X.K (.ref f) = true)
    (nf : PySem.W.notFirst X.K C (.type "tuple") = true) (hb : Binds X.K fd ps []) (hx : Passes CX X (fun _ _ _ => False)) (hr : Room n X.A) : OpR X (compareOp .Eq) (rEqI C sp) := by
  intro pins s σ H x y v u Q I rx ry h
  obtain ⟨a, dx, fs, rfl, ha, hy, hsp⟩ := h
  cases rx
  obtain ⟨mA, J, _⟩ := ins_get I.hok ha
  obtain ⟨od, J, _⟩ := J.look
  obtain ⟨m, hF⟩ := I.fr
  obtain ⟨b, rfl⟩ : ∃ b, y = .ref b := by
    rcases hy with ⟨b, _, _, e, _⟩ | ⟨b, _, e, _⟩ <;> exact ⟨b, e⟩
  cases ry
  have hl := F.len _ _ _ _ hsp
  have r2 : Vals [V.ref a, V.ref b] [Value.ref a, Value.ref b] := .cons rfl (.cons rfl .nil)
  have call : wpAny (model X.prog X.w) X.A (call (.ref f) [.ref a, .ref b]) (PySem.W.CmpBack (EP X pins σ Q)) X.xe s := by
    refine wpAny_call (codeAny_mono (F.run X.A X.stack s H ⟨[.ref a, .ref b], []⟩ [.ref a, .ref b] [.ref a, .ref b] _ _ hr I.env0 (by
      have := hb s [.ref a, .ref b] I.kIn (by simpa using hl)
      simpa using this) r2 hsp) fun r s' hq => ?_)
    cases r with
    | error e => exact hx pins σ H s e s' I hq
    | ok fl =>
      cases fl with
      | ret w =>
        obtain ⟨z, H', I', rz, ⟨c, ez⟩, q⟩ := I.after hq
        subst ez
        cases rz
        exact ⟨.bl c, H', I', rfl, q⟩
      | next => exact False.elim hq
      | brk => exact False.elim hq
      | cont => exact False.elim hq
  show wpAny (model X.prog X.w) X.A (richCompare .Eq (.ref a) (.ref b)) (EP X pins σ Q) X.xe s
  rcases hy with ⟨b', dy, gs, e, hb'⟩ | ⟨b', ys, e, hb'⟩
  · cases e
    obtain ⟨mB, J', _⟩ := ins_get I.hok hb'
    obtain ⟨od', J', _⟩ := J'.look
    exact PySem.W.cmp_K (op := .Eq) (tb := .ref C) hr.units0 hF I.ok.mod.kin J J'.type (by simp [PySem.W.notFirst]) hs hf call
  · cases e
    obtain ⟨_, its, rv, o, h1, h2, n', h3⟩ := (show ObjOk X.prog X.w H s.heap b (.tup ys) from I.hok b _ hb')
    have ty : PySem.W.Looks (model X.prog X.w) s.heap (typeOf (.ref b)) (.type "tuple") := fun A Q E s k q => wpAny_typeOf_ref (k _ _ h1) (by rw [h2]; exact q)
    exact PySem.W.cmp_K (op := .Eq) (tb := .type "tuple") hr.units0 hF I.ok.mod.kin J ty nf hs hf call
end

/-- an own __eq__, and what isinstance asks -/
structure EqC (K : PySem.W.Frag) (nm : Str) (st : Stmt) (C f : Addr) (fd : FuncData) : Prop where
  find : PySem.W.findIn K (.ref C) "__eq__" = some (some (.ref f))
  fn : PySem.W.isFn K (.ref f) = true
  F : Fun K "__eq__" nm st f fd
  b : Binds K fd ["self", "other"] []
  ha : PySem.W.findIn K (.ref C) "__class__" = some (some (.builtin "object.__class__"))
  hn : PySem.W.specialIn K (.builtin "object.__class__") "__get__" = some (some (.builtin "getset_descriptor.__get__"))
  htk : PySem.W.takesIn K (.builtin "object.__class__") = some true
  hm : PySem.W.mroIn K C (.type "object") = some true
  isC : PySem.W.isClsIn K C = true
  tyC : PySem.W.typeIn K (.ref C) = some (.type "type")
  nf : PySem.W.notFirst K C (.type "tuple") = true
theorem kit_me {K : PySem.W.Frag} {C : Addr} : PySem.W.kitOne K (.ref C) (.ref C) = some true := by
  show (if (Value.ref C == Value.ref C) = true then some true else _) = some true
  rw [if_pos (by simp)]
theorem shaped_pTt (L : List (Addr × List Int)) : SeqAt.shaped (.tuple (L.map fun p => pT p.2)) = true := by
  unfold SeqAt.shaped
  have h := depth_pTs L
  refine Bool.and_eq_true_iff.mpr ⟨?_, decide_eq_true ?_⟩
  · simp only [PyData.canLay0, lay_all]
  · simp only [PyData.depth]
    omega
theorem eqv_pTt {L L' : List (Addr × List Int)} (e : L.map (·.2) = L'.map (·.2)) : PyData.eqv (.tuple (L.map fun p => pT p.2)) (.tuple (L'.map fun p => pT p.2)) = true := by
  simp only [PyData.eqv]
  exact eqv_pTs e
def pD : Option Nat → PyData
  | none => .none
  | some u => .int (u : Int)
theorem dp_pD {K : PySem.W.Frag} {H : Hp} (par : Nat → Option Nat) : ∀ l : List Nat, DpAll K H (l.map fun i => oV (par i)) (l.map fun i => pD (par i))
  | [] => .nil
  | i :: r => by
    refine .cons ?_ (dp_pD par r)
    show Dp K H (oV (par i)) (pD (par i))
    cases par i with
    | none => exact .non
    | some u => exact .int (u : Int)
theorem lay_pD (par : Nat → Option Nat) : ∀ l : List Nat, PyData.canLayAll0 (l.map fun i => pD (par i)) = true
  | [] => by simp [PyData.canLayAll0]
  | i :: r => by
    have ih := lay_pD par r
    have e : PyData.canLay0 (pD (par i)) = true := by
      cases par i <;> simp [pD, PyData.canLay0]
    rw [List.map_cons]
    simp only [PyData.canLayAll0, e, ih, Bool.and_self]
theorem depth_pD (par : Nat → Option Nat) : ∀ l : List Nat, PyData.depthAll (l.map fun i => pD (par i)) = 0
  | [] => by simp [PyData.depthAll]
  | i :: r => by
    have ih := depth_pD par r
    have e : PyData.depth (pD (par i)) = 0 := by
      cases par i <;> simp [pD, PyData.depth]
    rw [List.map_cons]
    simp only [PyData.depthAll, e, ih, Nat.max_self]
theorem eqv_pD (par : Nat → Option Nat) : ∀ l : List Nat, PyData.eqvAll (l.map fun i => pD (par i)) (l.map fun i => pD (par i)) = true
  | [] => by simp [PyData.eqvAll]
  | i :: r => by
    have ih := eqv_pD par r
    have e : PyData.eqv (pD (par i)) (pD (par i)) = true := by
      cases par i <;> simp [pD, PyData.eqv]
    rw [List.map_cons]
    simp only [PyData.eqvAll, e, ih, Bool.and_self]
theorem shaped_pD (par : Nat → Option Nat) (l : List Nat) : SeqAt.shaped (.tuple (l.map fun i => pD (par i))) = true := by
  unfold SeqAt.shaped
  refine Bool.and_eq_true_iff.mpr ⟨?_, decide_eq_true ?_⟩
  · simp only [PyData.canLay0, lay_pD]
  · simp only [PyData.depth, depth_pD]
    omega
def spEqWs (C : Addr) : Sp := fun vs H Q _ => ∃ (w q : Addr) (M : Nat) (L : List (Addr × List Int)), vs = [.ref w, .ref w] ∧ WebQ C M H w q L ∧ Q (.bl true) H
def spEqK (C CK : Addr) : Sp := fun vs H Q _ => ∃ (x dx y dy w q pa pa2 t t2 : Addr) (M : Nat) (L T T2 : List (Addr × List Int)) (par : Nat → Option Nat) (la ch ac la2 ch2 ac2 : V), vs = [.ref x, .ref y] ∧ H x = some (.ins CK dx (kf (.ref w) (.ref pa) (.ref t) la ch ac)) ∧ H y = some (.ins CK dy (kf (.ref w) (.ref pa2) (.ref t2) la2 ch2 ac2)) ∧
  WebQ C M H w q L ∧ H pa = some (.tup (pVs M par)) ∧ H pa2 = some (.tup (pVs M par)) ∧ H t = some (.tup (T.map fun p => V.ref p.1)) ∧ (∀ p ∈ T, H p.1 = some (.tup (p.2.map V.int))) ∧ H t2 = some (.tup (T2.map fun p => V.ref p.1)) ∧ (∀ p ∈ T2, H p.1 = some (.tup (p.2.map V.int))) ∧ T.map (·.2) = T2.map (·.2) ∧ Q (.bl true) H
section
variable {P : Program} {w : World} {K : PySem.W.Frag} {mg : Str → Option Value} {base : Heap}
theorem scEqW : FnScope ["self", "other"] ["self", "other"] (defScope sEqW) := ⟨rfl, rfl, rfl, by decide +kernel, rfl, by decide +kernel, by decide +kernel⟩
theorem ok_eqws {C f : Addr} {fd : FuncData} (B : Bts mg) (T : WTxt K mg C) (E1 : EqC K "Web.__eq__" sEqW C f fd) : FnOk P w K mg base CX0 1 f fd ["self", "other"] (spEqWs C) := by
  refine E1.F.ok scEqW (fun vs H Q E h => ?_) (fun cdv A outer s H vs Q E hr h => ?_)
  · obtain ⟨_, _, _, _, rfl, _⟩ := h
    rfl
  · obtain ⟨w, q, M, L, rfl, ⟨dx, r, bs, nb, x, tt⟩, k⟩ := h
    have hu := hr.units
    refine ⟨_, pss_one (ps_ret (pe_and (pe_callB call_isi (by rfl) B.isinstance PyProof.Rows.boot_isinstance (pa_cons (pv 1) (pa_cons (pe_glob (v := .ref C) rfl T.mgC rfl) pa_nil)))
      (pe_and (pe_cmpR op_eq (pe_fld (pv 0) rfl) (pe_fld (pv 1) rfl) (nomark _)) (pe_one (pe_cmpR (op_eqD hu) (pe_fld (pv 0) rfl) (pe_fld (pv 1) rfl) (nomark _)))))), ?_⟩
    refine ⟨_, rfl, .ref w, .ref C, .ref C, .ref C, true, rfl, .own C, .base (.ins x.at_ T.cl E1.ha E1.hn E1.htk E1.hm), kit_me, _, rfl, iteT ?_⟩
    refine ⟨_, rfl, w, C, dx, _, _, rfl, x.at_, T.cl, T.nM, wf_many _ _ _, _, rfl, w, C, dx, _, _, rfl, x.at_, T.cl, T.nM, wf_many _ _ _, rfl, _, rfl, ?_⟩
    rw [decide_eq_true rfl]
    refine iteT ⟨_, rfl, w, C, dx, _, _, rfl, x.at_, T.cl, T.nT, wf_ties _ _ _, _, rfl, w, C, dx, _, _, rfl, x.at_, T.cl, T.nT, wf_ties _ _ _, _, _, .tup (SqT.of tt.at_) (dp_all L tt.tup), .tup (SqT.of tt.at_) (dp_all L tt.tup), shaped_pTt _, shaped_pTt _, ?_⟩
    rw [eqv_pTt rfl]
    exact k
theorem scEqK : FnScope ["self", "other"] ["self", "other"] (defScope sEqK) := ⟨rfl, rfl, rfl, by decide +kernel, rfl, by decide +kernel, by decide +kernel⟩
theorem ok_eqk {C CK f fW : Addr} {fd dW : FuncData} (B : Bts mg) (T : WTxt K mg C) (TK : KTxt K mg CK) (E1 : EqC K "Web.__eq__" sEqW C fW dW) (E2 : EqC K "Keeper.__eq__" sEqK CK f fd) : FnOk P w K mg base CX0 2 f fd ["self", "other"] (spEqK C CK) := by
  have GW : FnOk P w K mg base CX0 1 fW dW ["self", "other"] (spEqWs C) := ok_eqws B T E1
  refine E2.F.ok scEqK (fun vs H Q E h => ?_) (fun cdv A outer s H vs Q E hr h => ?_)
  · obtain ⟨_, _, _, _, _, _, _, _, _, _, _, _, _, _, _, _, _, _, _, _, _, rfl, _⟩ := h
    rfl
  · obtain ⟨x, dx, y, dy, w, q, pa, pa2, t, t2, M, L, T1, T2, par, la, ch, ac, la2, ch2, ac2, rfl, hx, hy, hw, hpa, hpa2, ht, tp, ht2, tp2, ee, k⟩ := h
    have hu := hr.units
    have hr1 : Room 1 _ := hr.mono (by decide)
    refine ⟨_, pss_one (ps_ret (pe_and (pe_callB call_isi (by rfl) B.isinstance PyProof.Rows.boot_isinstance (pa_cons (pv 1) (pa_cons (pe_glob (v := .ref CK) rfl TK.mgC rfl) pa_nil)))
      (pe_and (pe_cmpR (op_eqI GW E1.find E1.fn E1.nf E1.b pass0 hr1) (pe_fld (pv 0) rfl) (pe_fld (pv 1) rfl) (nomark _)) (pe_and (pe_cmpR (op_eqD hu) (pe_fld (pv 0) rfl) (pe_fld (pv 1) rfl) (nomark _)) (pe_one (pe_cmpR (op_eqD hu) (pe_fld (pv 0) rfl) (pe_fld (pv 1) rfl) (nomark _))))))), ?_⟩
    refine ⟨_, rfl, .ref y, .ref CK, .ref CK, .ref CK, true, rfl, .own CK, .base (.ins hy TK.cl E2.ha E2.hn E2.htk E2.hm), kit_me, _, rfl, iteT ?_⟩
    have hw2 := hw
    obtain ⟨dw, r, bs, nb, wi, tt⟩ := hw2
    refine ⟨_, rfl, x, CK, dx, _, _, rfl, hx, TK.cl, TK.nW, kf_web _ _ _ _ _ _, _, rfl, y, CK, dy, _, _, rfl, hy, TK.cl, TK.nW, kf_web _ _ _ _ _ _, w, dw, _, rfl, wi.at_, .inl ⟨w, dw, _, rfl, wi.at_⟩, w, q, M, L, rfl, hw, ⟨true, rfl⟩, _, rfl, iteT ?_⟩
    refine ⟨_, rfl, x, CK, dx, _, _, rfl, hx, TK.cl, TK.nP, kf_parents _ _ _ _ _ _, _, rfl, y, CK, dy, _, _, rfl, hy, TK.cl, TK.nP, kf_parents _ _ _ _ _ _, .tuple ((List.range M).map fun i => pD (par i)), .tuple ((List.range M).map fun i => pD (par i)), .tup (SqT.of hpa) (dp_pD par _), .tup (SqT.of hpa2) (dp_pD par _), shaped_pD _ _, shaped_pD _ _, _, rfl, ?_⟩
    have e1 : PyData.eqv (.tuple ((List.range M).map fun i => pD (par i))) (.tuple ((List.range M).map fun i => pD (par i))) = true := by
      simp only [PyData.eqv]
      exact eqv_pD par _
    rw [e1]
    refine iteT ⟨_, rfl, x, CK, dx, _, _, rfl, hx, TK.cl, TK.nC, kf_chosen _ _ _ _ _ _, _, rfl, y, CK, dy, _, _, rfl, hy, TK.cl, TK.nC, kf_chosen _ _ _ _ _ _, _, _, .tup (SqT.of ht) (dp_all T1 tp), .tup (SqT.of ht2) (dp_all T2 tp2), shaped_pTt _, shaped_pTt _, ?_⟩
    rw [eqv_pTt ee]
    exact k
end
end Q

/-! own == that may answer False; is_keeper -/
namespace Q
open PySem L2 QM
abbrev sIsK : Stmt := top 27
theorem kit_tup {K : PySem.W.Frag} {C : Addr} (isC : PySem.W.isClsIn K C = true) (tyC : PySem.W.typeIn K (.ref C) = some (.type "type")) (nT : PySem.W.subIn K (.type "tuple") (.ref C) = some false) : PySem.W.kitOne K (.type "tuple") (.ref C) = some false := by
  have z : (PySem.W.clsIn K C).isSome = true := isC
  show (if (Value.type "tuple" == Value.ref C) = true then some true else if ((PySem.W.clsIn K C).isSome && PySem.W.typeIn K (.ref C) == some (.type "type")) = true then PySem.W.subIn K (.type "tuple") (.ref C) else none) = some false
  rw [if_neg (by simp), z, tyC, nT]
  rfl
def SameW (M M2 : Nat) (L L2 : List (Addr × List Int)) : Prop := M = M2 ∧ L.map (·.2) = L2.map (·.2)
def spEqWG (C : Addr) : Sp := fun vs H Q _ => ∃ (w q w2 q2 : Addr) (M M2 : Nat) (L L2 : List (Addr × List Int)), vs = [.ref w, .ref w2] ∧ WebQ C M H w q L ∧ WebQ C M2 H w2 q2 L2 ∧ ∀ b : Bool, (b = true ↔ SameW M M2 L L2) → Q (.bl b) H
theorem eqv_pD_ne {par par2 : Nat → Option Nat} : ∀ {l : List Nat}, PyData.eqvAll (l.map fun i => pD (par i)) (l.map fun i => pD (par2 i)) = true → ∀ i ∈ l, par i = par2 i
  | [], _, i, h => absurd h List.not_mem_nil
  | j :: r, e, i, h => by
    rw [List.map_cons, List.map_cons] at e
    simp only [PyData.eqvAll, Bool.and_eq_true] at e
    rcases List.mem_cons.mp h with rfl | h
    · have e1 := e.1
      cases c : par i with
      | none =>
        cases d : par2 i with
        | none => rfl
        | some u =>
          rw [c, d] at e1
          simp [pD, PyData.eqv] at e1
      | some v =>
        cases d : par2 i with
        | none =>
          rw [c, d] at e1
          simp [pD, PyData.eqv] at e1
        | some u =>
          rw [c, d] at e1
          simp [pD, PyData.eqv] at e1
          have z : v = u := by omega
          rw [z]
    · exact eqv_pD_ne e.2 i h
def spEqKN (C CK : Addr) : Sp := fun vs H Q _ => ∃ (x dx y dy w q pa pa2 : Addr) (M : Nat) (L : List (Addr × List Int)) (par par2 : Nat → Option Nat) (t la ch ac t2 la2 ch2 ac2 : V), vs = [.ref x, .ref y] ∧ H x = some (.ins CK dx (kf (.ref w) (.ref pa) t la ch ac)) ∧ H y = some (.ins CK dy (kf (.ref w) (.ref pa2) t2 la2 ch2 ac2)) ∧
  WebQ C M H w q L ∧ H pa = some (.tup (pVs M par)) ∧ H pa2 = some (.tup (pVs M par2)) ∧ (∃ i, i < M ∧ par i ≠ par2 i) ∧ Q (.bl false) H
def spEqKT (CK : Addr) : Sp := fun vs H Q _ => ∃ (x t : Addr) (ys : List V), vs = [.ref x, .ref t] ∧ H t = some (.tup ys) ∧ Q (.bl false) H
def spIsK (C CK : Addr) : Sp := fun vs H Q _ => ∃ (w q : Addr) (M : Nat) (L : List (Addr × List Int)) (v : V), vs = [.ref w, v] ∧ WebQ C M H w q L ∧
  ((∃ (t : Addr) (ys : List V), v = .ref t ∧ H t = some (.tup ys) ∧ Q (.bl false) H) ∨
   (∃ (x dx w2 q2 : Addr) (M2 : Nat) (L2 : List (Addr × List Int)) (pa t la ch ac : V), v = .ref x ∧ H x = some (.ins CK dx (kf (.ref w2) pa t la ch ac)) ∧ WebQ C M2 H w2 q2 L2 ∧ ∀ b : Bool, (b = true ↔ SameW M2 M L2 L) → Q (.bl b) H))
section
variable {P : Program} {w : World} {K : PySem.W.Frag} {mg : Str → Option Value} {base : Heap}
theorem ok_eqwG {C f : Addr} {fd : FuncData} (B : Bts mg) (T : WTxt K mg C) (E1 : EqC K "Web.__eq__" sEqW C f fd) : FnOk P w K mg base CX0 1 f fd ["self", "other"] (spEqWG C) := by
  refine E1.F.ok scEqW (fun vs H Q E h => ?_) (fun cdv A outer s H vs Q E hr h => ?_)
  · obtain ⟨_, _, _, _, _, _, _, _, rfl, _⟩ := h
    rfl
  · obtain ⟨w, q, w2, q2, M, M2, L, L2', rfl, ⟨dx, r, bs, nb, x, tt⟩, ⟨dx2, r2, bs2, nb2, x2, tt2⟩, k⟩ := h
    have hu := hr.units
    refine ⟨_, pss_one (ps_ret (pe_and (pe_callB call_isi (by rfl) B.isinstance PyProof.Rows.boot_isinstance (pa_cons (pv 1) (pa_cons (pe_glob (v := .ref C) rfl T.mgC rfl) pa_nil)))
      (pe_and (pe_cmpR op_eq (pe_fld (pv 0) rfl) (pe_fld (pv 1) rfl) (nomark _)) (pe_one (pe_cmpR (op_eqD hu) (pe_fld (pv 0) rfl) (pe_fld (pv 1) rfl) (nomark _)))))), ?_⟩
    refine ⟨_, rfl, .ref w2, .ref C, .ref C, .ref C, true, rfl, .own C, .base (.ins x2.at_ T.cl E1.ha E1.hn E1.htk E1.hm), kit_me, _, rfl, iteT ?_⟩
    refine ⟨_, rfl, w, C, dx, _, _, rfl, x.at_, T.cl, T.nM, wf_many _ _ _, _, rfl, w2, C, dx2, _, _, rfl, x2.at_, T.cl, T.nM, wf_many _ _ _, rfl, _, rfl, ?_⟩
    by_cases c : M = M2
    rotate_left
    · rw [decide_eq_false (fun z => c (by have := V.int.inj z; omega))]
      exact iteF (k false ⟨(fun z => nomatch z), fun z => absurd z.1 c⟩)
    subst c
    rw [decide_eq_true rfl]
    refine iteT ⟨_, rfl, w, C, dx, _, _, rfl, x.at_, T.cl, T.nT, wf_ties _ _ _, _, rfl, w2, C, dx2, _, _, rfl, x2.at_, T.cl, T.nT, wf_ties _ _ _, _, _, .tup (SqT.of tt.at_) (dp_all L tt.tup), .tup (SqT.of tt2.at_) (dp_all L2' tt2.tup), shaped_pTt _, shaped_pTt _, ?_⟩
    refine k _ ⟨fun e => ⟨rfl, ?_⟩, fun e => eqv_pTt e.2⟩
    simp only [PyData.eqv] at e
    exact eqv_pTs_inv e
theorem ok_eqkN {C CK f fW : Addr} {fd dW : FuncData} (B : Bts mg) (T : WTxt K mg C) (TK : KTxt K mg CK) (E1 : EqC K "Web.__eq__" sEqW C fW dW) (E2 : EqC K "Keeper.__eq__" sEqK CK f fd) : FnOk P w K mg base CX0 2 f fd ["self", "other"] (spEqKN C CK) := by
  have GW : FnOk P w K mg base CX0 1 fW dW ["self", "other"] (spEqWs C) := ok_eqws B T E1
  refine E2.F.ok scEqK (fun vs H Q E h => ?_) (fun cdv A outer s H vs Q E hr h => ?_)
  · obtain ⟨_, _, _, _, _, _, _, _, _, _, _, _, _, _, _, _, _, _, _, _, rfl, _⟩ := h
    rfl
  · obtain ⟨x, dx, y, dy, w, q, pa, pa2, M, L, par, par2, t, la, ch, ac, t2, la2, ch2, ac2, rfl, hx, hy, hw, hpa, hpa2, ⟨i, hi, ne⟩, k⟩ := h
    have hu := hr.units
    have hr1 : Room 1 _ := hr.mono (by decide)
    refine ⟨_, pss_one (ps_ret (pe_and (pe_callB call_isi (by rfl) B.isinstance PyProof.Rows.boot_isinstance (pa_cons (pv 1) (pa_cons (pe_glob (v := .ref CK) rfl TK.mgC rfl) pa_nil)))
      (pe_and (pe_cmpR (op_eqI GW E1.find E1.fn E1.nf E1.b pass0 hr1) (pe_fld (pv 0) rfl) (pe_fld (pv 1) rfl) (nomark _)) (pe_and (pe_cmpR (op_eqD hu) (pe_fld (pv 0) rfl) (pe_fld (pv 1) rfl) (nomark _)) (pe_one (pe_cmpR (op_eqD hu) (pe_fld (pv 0) rfl) (pe_fld (pv 1) rfl) (nomark _))))))), ?_⟩
    refine ⟨_, rfl, .ref y, .ref CK, .ref CK, .ref CK, true, rfl, .own CK, .base (.ins hy TK.cl E2.ha E2.hn E2.htk E2.hm), kit_me, _, rfl, iteT ?_⟩
    have hw2 := hw
    obtain ⟨dw, r, bs, nb, wi, tt⟩ := hw2
    refine ⟨_, rfl, x, CK, dx, _, _, rfl, hx, TK.cl, TK.nW, kf_web _ _ _ _ _ _, _, rfl, y, CK, dy, _, _, rfl, hy, TK.cl, TK.nW, kf_web _ _ _ _ _ _, w, dw, _, rfl, wi.at_, .inl ⟨w, dw, _, rfl, wi.at_⟩, w, q, M, L, rfl, hw, ⟨true, rfl⟩, _, rfl, iteT ?_⟩
    refine ⟨_, rfl, x, CK, dx, _, _, rfl, hx, TK.cl, TK.nP, kf_parents _ _ _ _ _ _, _, rfl, y, CK, dy, _, _, rfl, hy, TK.cl, TK.nP, kf_parents _ _ _ _ _ _, .tuple ((List.range M).map fun i => pD (par i)), .tuple ((List.range M).map fun i => pD (par2 i)), .tup (SqT.of hpa) (dp_pD par _), .tup (SqT.of hpa2) (dp_pD par2 _), shaped_pD _ _, shaped_pD _ _, _, rfl, ?_⟩
    have e1 : PyData.eqv (.tuple ((List.range M).map fun i => pD (par i))) (.tuple ((List.range M).map fun i => pD (par2 i))) = false := by
      cases c : PyData.eqv (.tuple ((List.range M).map fun i => pD (par i))) (.tuple ((List.range M).map fun i => pD (par2 i))) with
      | false => rfl
      | true =>
        simp only [PyData.eqv] at c
        exact absurd (eqv_pD_ne c i (List.mem_range.mpr hi)) ne
    rw [e1]
    exact iteF k
theorem ok_eqkT {CK f : Addr} {fd : FuncData} (B : Bts mg) (C fW : Addr) (dW : FuncData) (T : WTxt K mg C) (E1 : EqC K "Web.__eq__" sEqW C fW dW) (TK : KTxt K mg CK) (E2 : EqC K "Keeper.__eq__" sEqK CK f fd) (nT : PySem.W.subIn K (.type "tuple") (.ref CK) = some false) : FnOk P w K mg base CX0 2 f fd ["self", "other"] (spEqKT CK) := by
  have GW : FnOk P w K mg base CX0 1 fW dW ["self", "other"] (spEqWs C) := ok_eqws B T E1
  refine E2.F.ok scEqK (fun vs H Q E h => ?_) (fun cdv A outer s H vs Q E hr h => ?_)
  · obtain ⟨_, _, _, rfl, _⟩ := h
    rfl
  · obtain ⟨x, t, ys, rfl, et, k⟩ := h
    have hu := hr.units
    have hr1 : Room 1 _ := hr.mono (by decide)
    refine ⟨_, pss_one (ps_ret (pe_and (pe_callB call_isi (by rfl) B.isinstance PyProof.Rows.boot_isinstance (pa_cons (pv 1) (pa_cons (pe_glob (v := .ref CK) rfl TK.mgC rfl) pa_nil)))
      (pe_and (pe_cmpR (op_eqI GW E1.find E1.fn E1.nf E1.b pass0 hr1) (pe_fld (pv 0) rfl) (pe_fld (pv 1) rfl) (nomark _)) (pe_and (pe_cmpR (op_eqD hu) (pe_fld (pv 0) rfl) (pe_fld (pv 1) rfl) (nomark _)) (pe_one (pe_cmpR (op_eqD hu) (pe_fld (pv 0) rfl) (pe_fld (pv 1) rfl) (nomark _))))))), ?_⟩
    exact ⟨_, rfl, .ref t, .ref CK, .type "tuple", .ref CK, false, rfl, .own CK, .base (.tup et), kit_tup E2.isC E2.tyC nT, _, rfl, iteF k⟩
theorem scIsK : FnScope ["web", "thing"] ["web", "thing"] (defScope sIsK) := ⟨rfl, rfl, rfl, by decide +kernel, rfl, by decide +kernel, by decide +kernel⟩
theorem ok_isk {f C CK fW fE : Addr} {fd dW dE : FuncData} (F : Fun K "is_keeper" "is_keeper" sIsK f fd) (B : Bts mg) (T : WTxt K mg C) (TK : KTxt K mg CK) (E1 : EqC K "Web.__eq__" sEqW C fW dW) (E2 : EqC K "Keeper.__eq__" sEqK CK fE dE) (nT : PySem.W.subIn K (.type "tuple") (.ref CK) = some false) : FnOk P w K mg base CX0 2 f fd ["web", "thing"] (spIsK C CK) := by
  have GW : FnOk P w K mg base CX0 1 fW dW ["self", "other"] (spEqWG C) := ok_eqwG B T E1
  refine F.ok scIsK (fun vs H Q E h => ?_) (fun cdv A outer s H vs Q E hr h => ?_)
  · obtain ⟨_, _, _, _, _, rfl, _⟩ := h
    rfl
  · obtain ⟨w, q, M, L, v, rfl, hw, h⟩ := h
    have hr1 : Room 1 _ := hr.mono (by decide)
    refine ⟨_, pss_one (ps_ret (pe_and (pe_callB call_isi (by rfl) B.isinstance PyProof.Rows.boot_isinstance (pa_cons (pv 1) (pa_cons (pe_glob (v := .ref CK) rfl TK.mgC rfl) pa_nil)))
      (pe_one (pe_cmpR (op_eqI GW E1.find E1.fn E1.nf E1.b pass0 hr1) (pe_fld (pv 1) rfl) (pv 0) (nomark _))))), ?_⟩
    rcases h with ⟨t, ys, rfl, et, k⟩ | ⟨x, dx, w2, q2, M2, L2', pa, t, la, ch, ac, rfl, hx, hw2, k⟩
    · exact ⟨_, rfl, .ref t, .ref CK, .type "tuple", .ref CK, false, rfl, .own CK, .base (.tup et), kit_tup E2.isC E2.tyC nT, _, rfl, iteF k⟩
    · refine ⟨_, rfl, .ref x, .ref CK, .ref CK, .ref CK, true, rfl, .own CK, .base (.ins hx TK.cl E2.ha E2.hn E2.htk E2.hm), kit_me, _, rfl, iteT ?_⟩
      obtain ⟨dw, r, bs, nb, wi, tt⟩ := id hw2
      obtain ⟨dw1, r1, bs1, nb1, wi1, tt1⟩ := id hw
      exact ⟨_, rfl, x, CK, dx, _, _, rfl, hx, TK.cl, TK.nW, kf_web _ _ _ _ _ _, _, rfl, w2, dw, _, rfl, wi.at_, .inl ⟨w, dw1, _, rfl, wi1.at_⟩, w2, q2, w, q, M2, M, L2', L, rfl, hw2, hw, fun b hb => ⟨⟨b, rfl⟩, k b hb⟩⟩
end
end Q

namespace Q
open PySem L2 QM
abbrev sIsG : Stmt := top 9999
theorem smi_par {H : Hp} {M : Nat} {par : Nat → Option Nat} {a b : Addr} (ha : H a = some (.tup (pVs M par))) (hb : H b = some (.tup (pVs M par))) (m40 : M ≤ 40) : SmI H 3 (.ref a) (.ref b) := by
  refine .inr (.inr (.inr (.inr ⟨a, b, _, _, rfl, rfl, ha, hb, rfl, by rw [pVs_len]; omega, fun i x y hx hy => ?_⟩)))
  rw [hx] at hy
  cases hy
  have hi : i < M := by
    have z := (List.getElem?_eq_some_iff.mp hx).1
    rwa [pVs_len] at z
  rw [pVs_get par hi] at hx
  cases hx
  cases par i with
  | none => exact .inr (.inr (.inr (.inl ⟨rfl, rfl⟩)))
  | some u => exact .inl ⟨(u : Int), rfl, rfl⟩
theorem smi_ties {H : Hp} {T T2 : List (Addr × List Int)} {a b : Addr} (ha : H a = some (.tup (T.map fun p => V.ref p.1))) (hb : H b = some (.tup (T2.map fun p => V.ref p.1))) (t1 : ∀ p ∈ T, H p.1 = some (.tup (p.2.map V.int))) (t2 : ∀ p ∈ T2, H p.1 = some (.tup (p.2.map V.int)))
    (ok : ∀ p ∈ T, ∃ u v : Int, p.2 = [u, v]) (ee : T.map (·.2) = T2.map (·.2)) (few : T.length ≤ 1000) : SmI H 3 (.ref a) (.ref b) := by
  have le : T.length = T2.length := by
    have z := congrArg List.length ee
    rwa [List.length_map, List.length_map] at z
  refine .inr (.inr (.inr (.inr ⟨a, b, _, _, rfl, rfl, ha, hb, by rw [List.length_map, List.length_map, le], by rw [List.length_map]; exact few, fun i x y hx hy => ?_⟩)))
  obtain ⟨p, hp, rfl⟩ := map_inv hx
  obtain ⟨r, hr, rfl⟩ := map_inv hy
  have e2 : p.2 = r.2 := by
    have z : (T.map (·.2))[i]? = (T2.map (·.2))[i]? := by rw [ee]
    rw [List.getElem?_map, List.getElem?_map, hp, hr] at z
    exact Option.some.inj z
  obtain ⟨u, v, e⟩ := ok p (List.mem_of_getElem? hp)
  have h1 := t1 p (List.mem_of_getElem? hp)
  have h2 := t2 r (List.mem_of_getElem? hr)
  rw [← e2] at h2
  refine .inr (.inr (.inr (.inr ⟨p.1, r.1, _, _, rfl, rfl, h1, h2, rfl, by rw [e]; show 2 ≤ 1000; decide, fun j x y hx hy => ?_⟩)))
  rw [hx] at hy
  cases hy
  obtain ⟨o, ho, rfl⟩ := map_inv hx
  exact .inl ⟨o, rfl, rfl⟩
def spIsG (CK : Addr) : Sp := fun vs H Q _ => ∃ (W q x dx pp pa t : Addr) (w : V) (M : Nat) (L T : List (Addr × List Int)) (par : Nat → Option Nat) (rk : Nat → Nat) (la ch ac : V), vs = [.ref W, .ref x, .ref pp] ∧ LWeb H W q (M : Int) L ∧ H x = some (.ins CK dx (kf w (.ref pa) (.ref t) la ch ac)) ∧ H pa = some (.tup (pVs M par)) ∧ H pp = some (.tup (pVs M par)) ∧ ParOk M par rk ∧ LeastAt (fun i => (LD par M i : Int)) L (M : Int) H t T ∧ M ≤ 40 ∧ ∀ H', Same H H' → Q (.bl true) H'
section
variable {P : Program} {w : World} {K : PySem.W.Frag} {mg : Str → Option Value} {base : Heap}
/-- the law's defs -/
structure JDefs (K : PySem.W.Frag) (mg : Str → Option Value) where
  fI : Addr
  dI : FuncData
  DI : Df K mg "_law_is" sIs ["told", "due"] fI dI
  fN : Addr
  dN : FuncData
  DN : Df K mg "_law_number" sLNum ["thing", "least", "most"] fN dN
  fB : Addr
  dB : FuncData
  DB : Df K mg "_law_beside" sLBes ["web", "house"] fB dB
  fO : Addr
  dO : FuncData
  DO : Df K mg "_law_off" sOff ["web", "house", "left"] fO dO
  fL : Addr
  dL : FuncData
  DL : Df K mg "_law_leader" sLLd ["parents", "house"] fL dL
  fW : Addr
  dW : FuncData
  DW : Df K mg "_law_between" sBtw ["web", "parents"] fW dW
  fT : Addr
  dT : FuncData
  DT : Df K mg "_law_least_ties" sLLt ["web", "parents"] fT dT
  fP : Addr
  dP : FuncData
  DP : Df K mg "_law_are_parents" sLAreP ["web", "thing"] fP dP
  fC : Addr
  dC : FuncData
  DC : Df K mg "_law_are_chosen" sLAreC ["web", "parents", "thing"] fC dC
end
end Q

/-! told or refused as is due -/
namespace Q
open PySem L2 QM
abbrev sDue : Stmt := top 48
def spDue (C : Addr) : Sp := fun vs H Q _ => ∃ (W w q : Addr) (v u : V) (M : Nat) (L : List (Addr × List Int)), vs = [.ref W, .ref w, v, u] ∧ LWeb H W q (M : Int) L ∧ WebQ C M H w q L ∧ 1 ≤ M ∧ M ≤ 40 ∧ Wk H v ∧ Wk H u ∧ ∀ H', Same H H' → Q (.bl true) H'
/-- the defs of the judging law -/
structure IDefs (K : PySem.W.Frag) (mg : Str → Option Value) where
  fI : Addr
  dI : FuncData
  DI : Df K mg "_law_is" sIs ["told", "due"] fI dI
  fN : Addr
  dN : FuncData
  DN : Df K mg "_law_number" sLNum ["thing", "least", "most"] fN dN
  fB : Addr
  dB : FuncData
  DB : Df K mg "_law_beside" sLBes ["web", "house"] fB dB
  fL : Addr
  dL : FuncData
  DL : Df K mg "_law_leader" sLLd ["parents", "house"] fL dL
  fW : Addr
  dW : FuncData
  DW : Df K mg "_law_between" sBtw ["web", "parents"] fW dW
  fP : Addr
  dP : FuncData
  DP : Df K mg "_law_are_parents" sLAreP ["web", "thing"] fP dP
  fC : Addr
  dC : FuncData
  DC : Df K mg "_law_are_chosen" sLAreC ["web", "parents", "thing"] fC dC
  fM : Addr
  dM : FuncData
  DM : Df K mg "_law_made" sMade ["web", "parents", "chosen"] fM dM
  fK : Addr
  dK : FuncData
  DK : Df K mg "is_keeper" sIsK ["web", "thing"] fK dK
theorem smi_str {H : Hp} {n : Nat} (z : Str) : SmI H (n + 1) (.str z) (.str z) := .inr (.inl ⟨z, rfl, rfl⟩)
theorem smi_two {H : Hp} {n : Nat} {a b : Addr} {x1 x2 y1 y2 : V} (ha : H a = some (.tup [x1, x2])) (hb : H b = some (.tup [y1, y2])) (h1 : SmI H n x1 y1) (h2 : SmI H n x2 y2) : SmI H (n + 1) (.ref a) (.ref b) :=
  .inr (.inr (.inr (.inr ⟨a, b, _, _, rfl, rfl, ha, hb, rfl, (by show 2 ≤ 1000; decide), fun i x y hx hy => by
    match i, hx, hy with
    | 0, hx, hy =>
      cases hx
      cases hy
      exact h1
    | 1, hx, hy =>
      cases hx
      cases hy
      exact h2
    | i + 2, hx, _ => cases hx⟩)))
section
variable {P : Program} {w : World} {K : PySem.W.Frag} {mg : Str → Option Value} {base : Heap}
theorem scDue : FnScope ["web", "told_web", "parents", "chosen", "word", "made"] ["web", "told_web", "parents", "chosen"] (defScope sDue) := ⟨rfl, rfl, rfl, by decide +kernel, rfl, by decide +kernel, by decide +kernel⟩
theorem ok_due {f C CK CB fK fI fWE fKE : Addr} {fd fdK fdI dWE dKE : FuncData} (F : Fun K "_law_is_due" "_law_is_due" sDue f fd) (B : Bts mg) (hz : mg "zip" = none) (ha : mg "all" = none) (T : WTxt K mg C) (TK : KTxt K mg CK) (D : WDefs K mg) (G : GDefs K mg) (BT : BTxt K mg CB fI fdI)
    (MK : Mk K CK fK) (FK : Fun K "__init__" "Keeper.__init__" sKeep fK fdK) (bK : Binds K fdK ["self", "web", "parents", "chosen"] []) (E1 : EqC K "Web.__eq__" sEqW C fWE dWE) (E2 : EqC K "Keeper.__eq__" sEqK CK fKE dKE) (nT : PySem.W.subIn K (.type "tuple") (.ref CK) = some false) (I : IDefs K mg) : FnOk P w K mg base CX0 9 f fd ["web", "told_web", "parents", "chosen"] (spDue C) := by
  have GM : FnOk P w K mg base CX0 8 I.fM I.dM ["web", "parents", "chosen"] (spMade C CK) := ok_made I.DM.F B hz ha T TK D G BT MK FK bK
  have GK : FnOk P w K mg base CX0 6 fK fdK ["self", "web", "parents", "chosen"] (spKeep C CK) := ok_keep FK B hz ha T TK D G
  have GP : FnOk P w K mg base CX0 2 I.fP I.dP ["web", "thing"] spLArePG := ok_larepG I.DP.F B ha I.DN I.DB I.DL
  have GC : FnOk P w K mg base CX0 3 I.fC I.dC ["web", "parents", "thing"] spLAreCG := fn_imp (fn_or (ok_larec I.DC.F B hz ha I.DN I.DL I.DW) (ok_larecN I.DC.F B hz ha I.DN I.DL I.DW)) larecG_imp
  have GI : FnOk P w K mg base CX0 5 I.fI I.dI ["told", "due"] (spIs 4) := ok_is I.DI B hz ha 4
  have GW : FnOk P w K mg base CX0 1 fWE dWE ["self", "other"] (spEqWs C) := ok_eqws B T E1
  have GE : FnOk P w K mg base CX0 2 fKE dKE ["self", "other"] (spEqK C CK) := ok_eqk B T TK E1 E2
  have GIK : FnOk P w K mg base CX0 2 I.fK I.dK ["web", "thing"] (spIsK C CK) := ok_isk I.DK.F B T TK E1 E2 nT
  refine F.ok scDue (fun vs H Q E h => ?_) (fun cdv A outer s H vs Q E hr h => ?_)
  · obtain ⟨W, w, q, v, u, M, L, rfl, _⟩ := h
    rfl
  · obtain ⟨W, w, q, v, u, M, L, rfl, lw, hw, m1, m40, wv, wu, k⟩ := h
    have nd := scDue.nd
    have hr1 : Room 1 _ := hr.mono (by decide)
    have hr2 : Room 2 _ := hr.mono (by decide)
    have hr3 : Room 3 _ := hr.mono (by decide)
    have hr5 : Room 5 _ := hr.mono (by decide)
    have hr7 : Room 7 _ := hr.mono (by decide)
    refine ⟨_, pss_cons (ps_asg (pe_call GM hr rfl I.DM.m I.DM.k I.DM.b .nil pass0 (pa_cons (pv 1) (pa_cons (pv 2) (pa_cons (pv 3) pa_nil)))) (pg_tup rfl (pgs_cons (pg_name (i := 4) nd rfl (.inl rfl)) (pgs_cons (pg_name (i := 5) nd rfl (.inl rfl)) pgs_nil))))
      (pss_cons (ps_if (pt_not (pt_val (pe_call GP hr2 rfl I.DP.m I.DP.k I.DP.b .nil pass0 (pa_cons (pv 0) (pa_cons (pv 2) pa_nil))))) (pss_one (ps_ret (pe_call GI hr5 rfl I.DI.m I.DI.k I.DI.b .nil pass0 (pa_cons (pe_tup (pa_cons (pv 4) (pa_cons (pv 5) pa_nil))) (pa_cons (pe_tup (pa_cons pe_str (pa_cons pe_str pa_nil))) pa_nil))))) pss_nil)
      (pss_cons (ps_if (pt_not (pt_val (pe_call GC hr3 rfl I.DC.m I.DC.k I.DC.b .nil pass0 (pa_cons (pv 0) (pa_cons (pv 2) (pa_cons (pv 3) pa_nil)))))) (pss_one (ps_ret (pe_call GI hr5 rfl I.DI.m I.DI.k I.DI.b .nil pass0 (pa_cons (pe_tup (pa_cons (pv 4) (pa_cons (pv 5) pa_nil))) (pa_cons (pe_tup (pa_cons pe_str (pa_cons pe_str pa_nil))) pa_nil))))) pss_nil)
      (pss_cons (ps_if (PW.pt (pw_or (pt_not (pt_val (pe_callB call_isi (by rfl) B.isinstance PyProof.Rows.boot_isinstance (pa_cons (pv 5) (pa_cons (pe_glob (v := .ref CK) rfl TK.mgC rfl) pa_nil)))))
          (pw_or1 (pt_not (pt_val (pe_call GI hr5 rfl I.DI.m I.DI.k I.DI.b .nil pass0 (pa_cons (pe_tup (pa_cons (pe_fld (pv 5) rfl) (pa_cons (pe_fld (pv 5) rfl) pa_nil))) (pa_cons (pe_tup (pa_cons (pv 2) (pa_cons (pv 3) pa_nil))) pa_nil)))))))) pss_never pss_nil)
      (pss_one (ps_ret (pe_and (pe_cmpR (op_eqI GW E1.find E1.fn E1.nf E1.b pass0 hr1) (pe_fld (pv 5) rfl) (pv 1) (nomark _))
        (pe_and (pe_cmpR op_is_bl (pe_call GIK hr2 rfl I.DK.m I.DK.k I.DK.b .nil pass0 (pa_cons (pv 1) (pa_cons (pv 5) pa_nil))) pe_bl rfl)
          (pe_one (pe_cmpR (op_eqI GE E2.find E2.fn E2.nf E2.b pass0 hr2) (pv 5) (pe_make MK GK hr7 rfl TK.mgC bK .nil pass0 (pa_cons (pv 1) (pa_cons (pv 2) (pa_cons (pv 3) pa_nil)))) (nomark _)))))))))), ?_⟩
    by_cases gp : GoodP L M H v
    rotate_left
    · refine ⟨_, rfl, _, rfl, _, rfl, w, q, v, u, M, L, rfl, hw, m1, m40, wv, wu, .inl ⟨.str "parents", .inl ⟨gp, rfl⟩, fun t H1 s1 et => ?_⟩⟩
      refine ⟨t, _, rfl, SqT.of et, rfl, _, _, rfl, _, _, rfl, rfl, ?_⟩
      refine ⟨_, rfl, _, rfl, W, q, M, L, v, rfl, lw.same s1, wv.same s1, m40, fun b H2 s2 hb => ⟨_, rfl, ?_⟩⟩
      have e : b = false := by
        cases b with
        | false => rfl
        | true => exact absurd ((GoodP.iff wv.kd s1).mpr (hb.mp rfl)) gp
      subst e
      refine iteT ⟨_, rfl, _, rfl, (by show 2 ≤ sizeLine; decide), fun t1 n1 => ⟨(by show 2 ≤ sizeLine; decide), fun t2 n2 => ⟨_, _, rfl, smi_two (sN n2 _ _ upd_same) upd_same (smi_str _) (smi_str _), fun H3 s3 => k _ (sT s1 (sT s2 (sT (sN n1) (sT (sN n2) s3))))⟩⟩⟩
    · obtain ⟨pa, par, rk, rfl, hpa, pg⟩ := id gp
      by_cases gc : GoodC (fun i => (LD par M i : Int)) L M H u
      rotate_left
      · refine ⟨_, rfl, _, rfl, _, rfl, w, q, .ref pa, u, M, L, rfl, hw, m1, m40, wv, wu, .inl ⟨.str "chosen", .inr ⟨pa, par, rk, rfl, hpa, pg, gc, rfl⟩, fun t H1 s1 et => ?_⟩⟩
        refine ⟨t, _, rfl, SqT.of et, rfl, _, _, rfl, _, _, rfl, rfl, ?_⟩
        refine ⟨_, rfl, _, rfl, W, q, M, L, .ref pa, rfl, lw.same s1, wv.same s1, m40, fun b H2 s2 hb => ⟨_, rfl, ?_⟩⟩
        have e : b = true := hb.mpr (gp.same s1)
        subst e
        have s12 := sT s1 s2
        refine iteF ⟨_, rfl, _, rfl, _, rfl, W, q, pa, u, M, L, par, rk, rfl, lw.same s12, s12 _ _ hpa, pg.1, m40, wu.same s12, fun b H3 s3 hb => ⟨_, rfl, ?_⟩⟩
        have e : b = false := by
          cases b with
          | false => rfl
          | true => exact absurd ((hb.mp rfl).back wu s12) gc
        subst e
        refine iteT ⟨_, rfl, _, rfl, (by show 2 ≤ sizeLine; decide), fun t1 n1 => ⟨(by show 2 ≤ sizeLine; decide), fun t2 n2 => ⟨_, _, rfl, smi_two (sN n2 _ _ upd_same) upd_same (smi_str _) (smi_str _), fun H4 s4 => k _ (sT s12 (sT s3 (sT (sN n1) (sT (sN n2) s4))))⟩⟩⟩
      · obtain ⟨tt, Tl, rfl, cho⟩ := id gc
        have kin : KeepIn C M H w pa tt L Tl par := by
          obtain ⟨dx, r, bs, nb, wi, ties⟩ := hw
          have TT : TL (M : Int) L := ⟨ties.ok, ties.conn, by omega, by omega⟩
          have hn : NbOf L M nb := by
            have := wi.nb
            rwa [Int.toNat_natCast] at this
          exact ⟨⟨dx, q, r, bs, nb, rk, wi, ties, pg.1, fun v u hv e => (nbg_of TT hn v hv u).mpr ⟨u, rfl, pg.2 v u hv e⟩⟩, hpa, cho, m1, m40⟩
        refine ⟨_, rfl, _, rfl, _, rfl, w, q, .ref pa, .ref tt, M, L, rfl, hw, m1, m40, wv, wu, .inr ⟨pa, tt, Tl, par, rfl, rfl, kin, fun t x dx la ch ac H1 s1 et ex ld => ?_⟩⟩
        refine ⟨t, _, rfl, SqT.of et, rfl, _, _, rfl, _, _, rfl, rfl, ?_⟩
        refine ⟨_, rfl, _, rfl, W, q, M, L, .ref pa, rfl, lw.same s1, wv.same s1, m40, fun b H2 s2 hb => ⟨_, rfl, ?_⟩⟩
        have e : b = true := hb.mpr (gp.same s1)
        subst e
        have s12 := sT s1 s2
        refine iteF ⟨_, rfl, _, rfl, _, rfl, W, q, pa, .ref tt, M, L, par, rk, rfl, lw.same s12, s12 _ _ hpa, pg.1, m40, wu.same s12, fun b H3 s3 hb => ⟨_, rfl, ?_⟩⟩
        have e : b = true := hb.mpr (gc.same s12)
        subst e
        have s13 := sT s12 s3
        have ex3 := s3 _ _ (s2 _ _ ex)
        refine iteF ⟨_, rfl, .ref x, .ref CK, .ref CK, .ref CK, true, rfl, .own CK, .base (.ins ex3 TK.cl E2.ha E2.hn E2.htk E2.hm), kit_me, _, rfl, iteF ?_⟩
        refine ⟨_, rfl, x, CK, dx, _, _, rfl, ex3, TK.cl, TK.nP, kf_parents _ _ _ _ _ _, _, rfl, x, CK, dx, _, _, rfl, ex3, TK.cl, TK.nC, kf_chosen _ _ _ _ _ _, (by show 2 ≤ sizeLine; decide), fun t1 n1 => ?_⟩
        refine ⟨_, rfl, _, rfl, (by show 2 ≤ sizeLine; decide), fun t2 n2 => ?_⟩
        have s15 := sT s13 (sT (sN (o := .tup [.ref pa, .ref tt]) n1) (sN (o := .tup [.ref pa, .ref tt]) n2))
        have f1 : (upd (upd H3 t1 (.tup [.ref pa, .ref tt])) t2 (.tup [.ref pa, .ref tt])) t1 = some (.tup [.ref pa, .ref tt]) := sN n2 _ _ upd_same
        have f2 : (upd (upd H3 t1 (.tup [.ref pa, .ref tt])) t2 (.tup [.ref pa, .ref tt])) t2 = some (.tup [.ref pa, .ref tt]) := upd_same
        have ex5 := sT (sN (o := .tup [.ref pa, .ref tt]) n1) (sN (o := .tup [.ref pa, .ref tt]) n2) _ _ ex3
        revert s15 f1 f2 ex5
        generalize (upd (upd H3 t1 (.tup [.ref pa, .ref tt])) t2 (.tup [.ref pa, .ref tt])) = H5
        intro s15 f1 f2 ex5
        have cho5 := cho.same s15
        have sm : SmI H5 4 (.ref t1) (.ref t2) := smi_two f1 f2 (smi_par (s15 _ _ hpa) (s15 _ _ hpa) m40) (smi_ties cho5.at_ cho5.at_ cho5.tup cho5.tup (fun p hp => by
          obtain ⟨a, b, e, _⟩ := cho5.ok p hp
          exact ⟨a, b, e⟩) rfl (by have := cho.len; have := lw.2.few; omega))
        refine ⟨_, _, rfl, sm, fun H6 s6 => ⟨_, rfl, iteF ?_⟩⟩
        have s16 := sT s15 s6
        have ex6 := s6 _ _ ex5
        have hw6 := hw.same s16
        obtain ⟨dw, r, bs, nb, wi6, tt6⟩ := id hw6
        refine ⟨_, rfl, x, CK, dx, _, _, rfl, ex6, TK.cl, TK.nW, kf_web _ _ _ _ _ _, _, rfl, w, dw, _, rfl, wi6.at_, .inl ⟨w, dw, _, rfl, wi6.at_⟩, w, q, M, L, rfl, hw6, ⟨true, rfl⟩, _, rfl, iteT ?_⟩
        refine ⟨_, rfl, _, rfl, w, q, M, L, .ref x, rfl, hw6, .inr ⟨x, dx, w, q, M, L, _, _, _, _, _, rfl, ex6, hw6, fun b hb => ?_⟩⟩
        have e : b = true := hb.mpr ⟨rfl, rfl⟩
        subst e
        refine ⟨true, true, rfl, rfl, _, rfl, iteT ?_⟩
        refine ⟨_, rfl, _, rfl, _, rfl, _, rfl, fun y dy ny ndy ney => ?_⟩
        have sy : Same H6 (upd (upd H6 dy (.own y)) y (.ins CK dy [])) := sNew (sNew (fun _ _ e => e) ndy) ny
        refine ⟨y, dy, w, pa, tt, M, L, Tl, par, rfl, upd_same, (kin.same s16).same sy, fun la2 ch2 ac2 H7 ey ld2 sty => ⟨rfl, ?_⟩⟩
        have s67 : Same H6 H7 := fun b o e => sty b o (sy _ _ e) (ne_of_none e ny)
        have s17 := sT s16 s67
        have cho7 := cho.same s17
        exact ⟨x, dx, _, rfl, s67 _ _ ex6, .inl ⟨y, dy, _, rfl, ey⟩, x, dx, y, dy, w, q, pa, pa, tt, tt, M, L, Tl, Tl, par, la, ch, ac, la2, ch2, ac2, rfl, s67 _ _ ex6, ey, hw6.same s67, s17 _ _ hpa, s17 _ _ hpa, cho7.at_, cho7.tup, cho7.at_, cho7.tup, rfl, ⟨true, rfl⟩, k H7 s17⟩
end
end Q

namespace Q
open PySem L2 QM
abbrev sLaw : Stmt := top 49
def spLaw (K : PySem.W.Frag) : Sp := fun vs H Q _ => ∃ (a : Addr) (ns : List Int), vs = [.ref a] ∧ SqL K H a (ns.map V.int) ∧ ns.length ≤ 63 ∧ ∀ H', Q (.bl true) H'
theorem WebQ.ext {C : Addr} {M : Nat} {H H' : Hp} {w q p l : Addr} {L : List (Addr × List Int)} (h : WebQ C M H w q L) (g : HandAt H p l) (s : Ext p H H') : WebQ C M H' w q L := by
  obtain ⟨dx, r, bs, nb, x, t⟩ := h
  obtain ⟨xs, e⟩ := g.hp
  refine ⟨dx, r, bs, nb, ⟨s _ _ x.at_ (ne_of x.at_ e (fun z => by cases z)), ⟨s _ _ x.rows.at_ (ne_of x.rows.at_ e (fun z => by cases z)), x.rows.len, fun i a hi => ?_⟩, x.asc, x.nb⟩, ⟨s _ _ t.at_ (ne_of t.at_ e (fun z => by cases z)), fun u hu => s _ _ (t.tup u hu) (ne_of (t.tup u hu) e (fun z => by cases z)), t.ok, t.asc, t.few, t.conn⟩⟩
  have z := x.rows.row i a hi
  exact s _ _ z (ne_of z e (fun z => by cases z))
theorem keep_in {C : Addr} {M : Nat} {H : Hp} {w q pa t : Addr} {L T : List (Addr × List Int)} {par : Nat → Option Nat} {rk : Nat → Nat} (h : WebQ C M H w q L) (hpa : H pa = some (.tup (pVs M par))) (pg : ParG M par rk L) (cho : ChoAt (fun i => (LD par M i : Int)) L (M : Int) H t T) (m1 : 1 ≤ M) (m40 : M ≤ 40) : KeepIn C M H w pa t L T par := by
  obtain ⟨dx, r, bs, nb, wi, tt⟩ := h
  have TT : TL (M : Int) L := ⟨tt.ok, tt.conn, by omega, by omega⟩
  have hn : NbOf L M nb := by
    have := wi.nb
    rwa [Int.toNat_natCast] at this
  exact ⟨⟨dx, q, r, bs, nb, rk, wi, tt, pg.1, fun v u hv e => (nbg_of TT hn v hv u).mpr ⟨u, rfl, pg.2 v u hv e⟩⟩, hpa, cho, m1, m40⟩
theorem shaped_pairA (m : Int) (L : List (Addr × List Int)) : SeqAt.shaped (.tuple [.int m, .tuple (L.map fun p => pT p.2)]) = true := by
  have h := depth_pTs L
  unfold SeqAt.shaped
  rw [Bool.and_eq_true]
  refine ⟨by simp only [PyData.canLay0, PyData.canLayAll0, lay_all, Bool.and_self], decide_eq_true ?_⟩
  simp only [PyData.depth, PyData.depthAll]
  omega
/-- the second house below the first -/
def par3 : Nat → Option Nat
  | 1 => some 0
  | _ => none
theorem wk_cho {g : Nat → Int} {L : List (Addr × List Int)} {m : Int} {H : Hp} {t : Addr} {T : List (Addr × List Int)} (c : ChoAt g L m H t T) (few : L.length < 1000) : Wk H (.ref t) := .tup c.at_ (by rw [List.length_map]; have := c.len; omega) fun x hx => by
  obtain ⟨p, hp, rfl⟩ := List.mem_map.mp hx
  obtain ⟨a, b, e, _⟩ := c.ok p hp
  exact .tup (c.tup p hp) (by rw [e]; show 2 ≤ 4000; decide) (wk_ints _)
section
variable {P : Program} {w : World} {K : PySem.W.Frag} {mg : Str → Option Value} {base : Heap}
structure UDefs (K : PySem.W.Frag) (mg : Str → Option Value) where
  fH : Addr
  dH : FuncData
  DH : Df K mg "_law_hand" sHand ["script"] fH dH
  fW : Addr
  dW : FuncData
  DW : Df K mg "_law_web" sLWeb ["hand", "most"] fW dW
  fK : Addr
  dK : FuncData
  DK : Df K mg "_law_keeper" sLKeep ["hand", "web"] fK dK
  fE : Addr
  dE : FuncData
  DE : Df K mg "_law_deep" sDeep ["hand"] fE dE
  fP : Addr
  dP : FuncData
  DP : Df K mg "_law_bent_parents" sBentP ["hand", "web", "parents"] fP dP
  fC : Addr
  dC : FuncData
  DC : Df K mg "_law_bent_chosen" sBentC ["hand", "web", "chosen"] fC dC
  fD : Addr
  dD : FuncData
  DD : Df K mg "_law_is_due" sDue ["web", "told_web", "parents", "chosen"] fD dD
theorem scLaw : FnScope ["script", "hand", "web", "told_web", "turn", "parents", "chosen", "bent", "other", "first", "wide", "alone"] ["script"] (defScope sLaw) := ⟨rfl, rfl, rfl, by decide +kernel, rfl, by decide +kernel, by decide +kernel⟩
theorem ok_law {f C CK CB fM fK fI fWE fKE : Addr} {fd fdM fdK fdI dWE dKE : FuncData} (F : Fun K "law" "law" sLaw f fd) (B : Bts mg) (hz : mg "zip" = none) (ha : mg "all" = none) (T : WTxt K mg C) (MW : Mk K C fM) (FM : Fun K "__init__" "Web.__init__" sWeb fM fdM) (bM : Binds K fdM ["self", "many", "ties"] [])
    (TK : KTxt K mg CK) (MK : Mk K CK fK) (FK : Fun K "__init__" "Keeper.__init__" sKeep fK fdK) (bK : Binds K fdK ["self", "web", "parents", "chosen"] []) (BT : BTxt K mg CB fI fdI) (E1 : EqC K "Web.__eq__" sEqW C fWE dWE) (E2 : EqC K "Keeper.__eq__" sEqK CK fKE dKE) (nT : PySem.W.subIn K (.type "tuple") (.ref CK) = some false)
    (D : WDefs K mg) (G : GDefs K mg) (I : IDefs K mg) (N : NDefs K mg) (U : UDefs K mg) : FnOk P w K mg base CX0 10 f fd ["script"] (spLaw K) := by
  have GH : FnOk P w K mg base CX0 1 U.fH U.dH ["script"] (spHand K) := ok_hand U.DH.F B
  have GD : FnOk P w K mg base CX0 1 N.fD N.dD ["hand", "many"] spDraw := ok_draw N.DD.F B
  have GLW : FnOk P w K mg base CX0 2 U.fW U.dW ["hand", "most"] spLWeb := ok_lweb U.DW.F B N.DD
  have GM : FnOk P w K mg base CX0 5 fM fdM ["self", "many", "ties"] (spWeb C) := ok_web FM B T D
  have GK : FnOk P w K mg base CX0 6 fK fdK ["self", "web", "parents", "chosen"] (spKeep C CK) := ok_keep FK B hz ha T TK D G
  have GQ : FnOk P w K mg base CX0 4 U.fK U.dK ["hand", "web"] spLKeep := ok_lkeep U.DK.F B N
  have GDue : FnOk P w K mg base CX0 9 U.fD U.dD ["web", "told_web", "parents", "chosen"] (spDue C) := ok_due U.DD.F B hz ha T TK D G BT MK FK bK E1 E2 nT I
  have GBP : FnOk P w K mg base CX0 3 U.fP U.dP ["hand", "web", "parents"] spBentP := ok_bentp U.DP.F B N.DD I.DB U.DE
  have GBC : FnOk P w K mg base CX0 4 U.fC U.dC ["hand", "web", "chosen"] spBentC := ok_bentc U.DC.F B hz ha N.DD U.DE I.DC I.DN I.DL I.DW
  have GIK : FnOk P w K mg base CX0 2 I.fK I.dK ["web", "thing"] (spIsK C CK) := ok_isk I.DK.F B T TK E1 E2 nT
  have GET : FnOk P w K mg base CX0 2 fKE dKE ["self", "other"] (spEqKT CK) := ok_eqkT B C fWE dWE T E1 TK E2 nT
  have GEN : FnOk P w K mg base CX0 2 fKE dKE ["self", "other"] (spEqKN C CK) := ok_eqkN B T TK E1 E2
  have GIs : FnOk P w K mg base CX0 2 I.fI I.dI ["told", "due"] (spIs 1) := ok_is I.DI B hz ha 1
  refine F.ok scLaw (fun vs H Q E h => ?_) (fun cdv A outer s H vs Q E' hr h => ?_)
  · obtain ⟨a, ns, rfl, _⟩ := h
    rfl
  · obtain ⟨a, ns, rfl, hS, hlen, k⟩ := h
    have nd := scLaw.nd
    have hu := hr.units
    have hr1 : Room 1 _ := hr.mono (by decide)
    have hr2 : Room 2 _ := hr.mono (by decide)
    have hr3 : Room 3 _ := hr.mono (by decide)
    have hr4 : Room 4 _ := hr.mono (by decide)
    have hr6 : Room 6 _ := hr.mono (by decide)
    have hr7 : Room 7 _ := hr.mono (by decide)
    refine ⟨_, pss_cons (ps_set (i := 1) nd rfl (.inl rfl) (pe_call GH hr1 rfl U.DH.m U.DH.k U.DH.b .nil pass0 (pa_cons (pv 0) pa_nil)))
      (pss_cons (ps_set (i := 2) nd rfl (.inl rfl) (pe_call GLW hr2 rfl U.DW.m U.DW.k U.DW.b .nil pass0 (pa_cons (pv 1) (pa_cons (pe_ix ix_list (pe_lst (pa_cons pe_int (pa_cons pe_int (pa_cons pe_int (pa_cons pe_int (pa_cons pe_int (pa_cons pe_int (pa_cons pe_int (pa_cons pe_int pa_nil))))))))) (pe_call GD hr1 rfl N.DD.m N.DD.k N.DD.b .nil pass0 (pa_cons (pv 1) (pa_cons pe_int pa_nil))) (fun _ _ => rfl)) pa_nil))))
      (pss_cons (ps_set (i := 3) nd rfl (.inl rfl) (pe_make MW GM hr6 rfl T.mgC bM .nil pass0 (pa_cons (pe_ix ix_tup (pv 2) pe_int (fun _ _ => rfl)) (pa_cons (pe_ix ix_tup (pv 2) pe_int (fun _ _ => rfl)) pa_nil))))
      (pss_cons (ps_for PassesOwn.never rfl (pi_range1 rfl B.range (pa_cons pe_int pa_nil)) (pg_name (i := 4) nd rfl (.inl rfl))
        (pss_cons (ps_asg (pe_call GQ hr4 rfl U.DK.m U.DK.k U.DK.b .nil pass0 (pa_cons (pv 1) (pa_cons (pv 2) pa_nil))) (pg_tup rfl (pgs_cons (pg_name (i := 5) nd rfl (.inl rfl)) (pgs_cons (pg_name (i := 6) nd rfl (.inl rfl)) pgs_nil))))
        (pss_cons (ps_if (pt_not (pt_val (pe_call GDue hr rfl U.DD.m U.DD.k U.DD.b .nil pass0 (pa_cons (pv 2) (pa_cons (pv 3) (pa_cons (pv 5) (pa_cons (pv 6) pa_nil))))))) pss_never pss_nil)
        (pss_cons (ps_set (i := 7) nd rfl (.inl rfl) (pe_call GBP hr3 rfl U.DP.m U.DP.k U.DP.b .nil pass0 (pa_cons (pv 1) (pa_cons (pv 2) (pa_cons (pv 5) pa_nil)))))
        (pss_cons (ps_set (i := 8) nd rfl (.inl rfl) (pe_call GBC hr4 rfl U.DC.m U.DC.k U.DC.b .nil pass0 (pa_cons (pv 1) (pa_cons (pv 2) (pa_cons (pv 6) pa_nil)))))
        (pss_cons (ps_if (PW.pt (pw_or (pt_not (pt_val (pe_call GDue hr rfl U.DD.m U.DD.k U.DD.b .nil pass0 (pa_cons (pv 2) (pa_cons (pv 3) (pa_cons (pv 7) (pa_cons (pv 6) pa_nil))))))) (pw_or1 (pt_not (pt_val (pe_call GDue hr rfl U.DD.m U.DD.k U.DD.b .nil pass0 (pa_cons (pv 2) (pa_cons (pv 3) (pa_cons (pv 5) (pa_cons (pv 8) pa_nil)))))))))) pss_never pss_nil)
        (pss_one (ps_if (pt_not (pt_val (pe_call GDue hr rfl U.DD.m U.DD.k U.DD.b .nil pass0 (pa_cons (pv 2) (pa_cons (pv 3) (pa_cons (pv 7) (pa_cons (pv 8) pa_nil))))))) pss_never pss_nil))))))))
      (pss_cons (ps_set (i := 9) nd rfl (.inl rfl) (pe_make MK GK hr7 rfl TK.mgC bK .nil pass0 (pa_cons (pv 3) (pa_cons (pv 5) (pa_cons (pv 6) pa_nil)))))
      (pss_cons (ps_if (PW.pt (pw_or (pt_cmpR (op_eqI GET E2.find E2.fn E2.nf E2.b pass0 hr2) (pv 9) (pe_tup (pa_cons (pv 3) (pa_cons (pv 5) (pa_cons (pv 6) pa_nil)))) (nomark _)) (pw_or1 (pt_cmpR op_notBl (pe_call GIK hr2 rfl I.DK.m I.DK.k I.DK.b .nil pass0 (pa_cons (pv 3) (pa_cons (pv 5) pa_nil))) pe_bl rfl)))) pss_never pss_nil)
      (pss_cons (ps_set (i := 10) nd rfl (.inl rfl) (pe_make MW GM hr6 rfl T.mgC bM .nil pass0 (pa_cons pe_int (pa_cons (pe_tup (pa_cons (pe_tup (pa_cons pe_int (pa_cons pe_int pa_nil))) pa_nil)) pa_nil))))
      (pss_cons (ps_set (i := 11) nd rfl (.inl rfl) (pe_make MK GK hr7 rfl TK.mgC bK .nil pass0 (pa_cons (pv 10) (pa_cons (pe_tup (pa_cons pe_non (pa_cons pe_non pa_nil))) (pa_cons (pe_tup (pa_cons (pe_tup (pa_cons pe_int (pa_cons pe_int pa_nil))) pa_nil)) pa_nil)))))
      (pss_cons (ps_if (pt_cmpR (op_eqI GEN E2.find E2.fn E2.nf E2.b pass0 hr2) (pv 11) (pe_make MK GK hr7 rfl TK.mgC bK .nil pass0 (pa_cons (pv 10) (pa_cons (pe_tup (pa_cons pe_non (pa_cons pe_int pa_nil))) (pa_cons (pe_tup pa_nil) pa_nil)))) (nomark _)) pss_never pss_nil)
      (pss_one (ps_ret (pe_call GIs hr2 rfl I.DI.m I.DI.k I.DI.b .nil pass0 (pa_cons (pe_call GIK hr2 rfl I.DK.m I.DK.k I.DK.b .nil pass0 (pa_cons (pv 3) (pa_cons (pv 11) pa_nil))) (pa_cons (pe_cmpR (op_eqD hu) (pv 2) (pe_tup (pa_cons pe_int (pa_cons (pe_tup (pa_cons (pe_tup (pa_cons pe_int (pa_cons pe_int pa_nil))) pa_nil)) pa_nil))) (nomark _)) pa_nil))))))))))))), ?_⟩
    refine ⟨_, rfl, a, ns, rfl, hS, hlen, fun p l H1 g1 hp0 hl0 s1 => ?_⟩
    -- the web
    refine ⟨_, rfl, (by show 8 ≤ sizeLine; decide), fun t ht => ?_⟩
    refine ⟨_, rfl, p, l, 8, rfl, g1.new ht, by decide, by decide, fun d H2 d0 d1 g2 b2 => ?_⟩
    have et2 : H2 t = some (.lst [V.int 9, V.int 9, V.int 9, V.int 9, V.int 9, V.int 9, V.int 9, V.int 40]) := by
      rw [b2 t (g1.ne ht).1, upd_same]
    obtain ⟨v0, hv0, em0⟩ := pick_in (xs := [V.int 9, V.int 9, V.int 9, V.int 9, V.int 9, V.int 9, V.int 9, V.int 40]) d0 (by show d < 8; exact d1)
    obtain ⟨m0, rfl, z1, z40⟩ : ∃ m0 : Int, v0 = .int m0 ∧ 1 ≤ m0 ∧ m0 ≤ 40 := by
      simp only [List.mem_cons, List.not_mem_nil, or_false] at hv0
      rcases hv0 with rfl | rfl | rfl | rfl | rfl | rfl | rfl | rfl <;> exact ⟨_, rfl, by decide, by decide⟩
    refine ⟨t, _, d, _, rfl, rfl, SqL.of et2, em0, ?_⟩
    refine ⟨p, l, m0, rfl, g2, z1, z40, fun W q m L H3 m1' mM tt eW g3 x3 => ?_⟩
    obtain ⟨M, rfl⟩ : ∃ M : Nat, m = (M : Int) := ⟨m.toNat, by omega⟩
    have m1 : 1 ≤ M := by omega
    have m40 : M ≤ 40 := by omega
    have few := tt.few
    refine ⟨_, rfl, W, _, 0, _, rfl, rfl, SqT.of eW, rfl, _, rfl, W, _, 1, _, rfl, rfl, SqT.of eW, rfl, fun x dx nx ndx nex => ?_⟩
    have sx : Same H3 (upd (upd H3 dx (.own x)) x (.ins C dx [])) := sNew (sNew (fun _ _ e => e) ndx) nx
    refine ⟨x, dx, (M : Int), q, L, rfl, upd_same, tt.same sx, m1', by omega, fun r bs nb H4 wi x4 => ⟨rfl, ?_⟩⟩
    have s34 : Same H3 H4 := fun b o e => x4 b o (sx b o e) (ne_of_none e nx)
    have g4 : HandAt H4 p l := g3.same s34
    have w4 : WebQ C M H4 x q L := ⟨dx, r, bs, nb, wi, tt.same s34⟩
    have l4 : LWeb H4 W q (M : Int) L := ⟨s34 _ _ eW, tt.same s34⟩
    clear sx x4 wi s34 g3 x3 g2 b2 et2 g1 s1 hp0 hl0
    refine ⟨4, rfl, by decide, by decide, for_range (lo := 0) (n := 4) (fun i σ H' => ∃ x4 x5 x6 x7 x8 : Option V, σ = [some (.ref a), some (.ref p), some (.ref W), some (.ref x), x4, x5, x6, x7, x8, none, none, none] ∧ HandAt H' p l ∧ WebQ C M H' x q L ∧ LWeb H' W q (M : Int) L ∧
      (1 ≤ i → ∃ (pa t : Addr) (T1 : List (Addr × List Int)) (par : Nat → Option Nat) (rk : Nat → Nat), x5 = some (.ref pa) ∧ x6 = some (.ref t) ∧ H' pa = some (.tup (pVs M par)) ∧ ParG M par rk L ∧ ChoAt (fun i => (LD par M i : Int)) L (M : Int) H' t T1)) ?_ ?_ ?_⟩
    · exact ⟨none, none, none, none, none, rfl, g4, w4, l4, fun z => absurd z (by decide)⟩
    · rintro i σ H5 hi ⟨x4, x5, x6, x7, x8, rfl, g5, w5, l5, _⟩
      refine ⟨_, rfl, _, rfl, p, l, W, q, M, L, rfl, g5, l5, m1, m40, fun r pa t T1 par rk H6 g6 x6' er epa pg cho => ?_⟩
      have w6 := w5.ext g5 x6'
      have l6 := l5.ext g5 x6'
      refine ⟨r, _, rfl, SqT.of er, rfl, _, _, rfl, _, _, rfl, rfl, ?_⟩
      have wpa : Wk H6 (.ref pa) := .tup epa (by rw [pVs_len]; omega) (wk_par M par)
      have wt : Wk H6 (.ref t) := wk_cho cho few
      refine ⟨_, rfl, _, rfl, _, rfl, _, rfl, W, x, q, .ref pa, .ref t, M, L, rfl, l6, w6, m1, m40, wpa, wt, fun H7 s7 => ⟨_, rfl, iteF ?_⟩⟩
      have g7 := g6.same s7
      refine ⟨_, rfl, _, rfl, _, rfl, p, l, W, q, pa, M, L, par, rfl, g7, l6.same s7, s7 _ _ epa, m1, m40, fun v1 H8 wv1 g8 x8' => ?_⟩
      have cho7 := cho.same s7
      have np : ∀ {b : Addr} {zs : List V}, H7 b = some (.tup zs) → b ≠ p := fun e => hand_ne' g7 e
      have cho8 : ChoAt (fun i => (LD par M i : Int)) L (M : Int) H8 t T1 := ⟨x8' _ _ cho7.at_ (np cho7.at_), fun c hc => x8' _ _ (cho7.tup c hc) (np (cho7.tup c hc)), cho7.ok, cho7.asc, cho7.len, cho7.sub, cho7.crs, cho7.all, cho7.nd⟩
      have l8 := (l6.same s7).ext g7 x8'
      have w8 := (w6.same s7).ext g7 x8'
      have epa8 := x8' _ _ (s7 _ _ epa) (np (s7 _ _ epa))
      refine ⟨_, rfl, _, rfl, _, rfl, p, l, W, q, t, M, L, T1, rfl, g8, l8, cho8.at_, cho8.tup, fun c hc => (by
        obtain ⟨a, b, e, _⟩ := cho8.ok c hc
        exact ⟨a, b, e⟩), by have := cho8.len; omega, m1, m40, fun v2 H9 wv2 g9 x9' => ?_⟩
      have np8 : ∀ {b : Addr} {zs : List V}, H8 b = some (.tup zs) → b ≠ p := fun e => hand_ne' g8 e
      have cho9 : ChoAt (fun i => (LD par M i : Int)) L (M : Int) H9 t T1 := ⟨x9' _ _ cho8.at_ (np8 cho8.at_), fun c hc => x9' _ _ (cho8.tup c hc) (np8 (cho8.tup c hc)), cho8.ok, cho8.asc, cho8.len, cho8.sub, cho8.crs, cho8.all, cho8.nd⟩
      have l9 := l8.ext g8 x9'
      have w9 := w8.ext g8 x9'
      have epa9 := x9' _ _ epa8 (np8 epa8)
      have wpa9 : Wk H9 (.ref pa) := .tup epa9 (by rw [pVs_len]; omega) (wk_par M par)
      have wt9 : Wk H9 (.ref t) := wk_cho cho9 few
      have wv1' := wv1.ext g8 g9 x9'
      refine ⟨_, rfl, _, rfl, _, rfl, _, rfl, W, x, q, v1, .ref t, M, L, rfl, l9, w9, m1, m40, wv1', wt9, fun H10 s10 => ⟨_, rfl, iteF ?_⟩⟩
      refine ⟨_, rfl, _, rfl, _, rfl, _, rfl, W, x, q, .ref pa, v2, M, L, rfl, l9.same s10, w9.same s10, m1, m40, wpa9.same s10, wv2.same s10, fun H11 s11 => ⟨_, rfl, iteF ?_⟩⟩
      have sA := sT s10 s11
      refine ⟨_, rfl, _, rfl, _, rfl, _, rfl, W, x, q, v1, v2, M, L, rfl, l9.same sA, w9.same sA, m1, m40, wv1'.same sA, wv2.same sA, fun H12 s12 => ⟨_, rfl, iteF ?_⟩⟩
      have sB := sT sA s12
      exact ⟨_, _, _, _, _, rfl, g9.same sB, w9.same sB, l9.same sB, fun _ => ⟨pa, t, T1, par, rk, rfl, rfl, sB _ _ epa9, pg, cho9.same sB⟩⟩
    rintro σ H5 ⟨x4, x5, x6, x7, x8, rfl, g5, w5, l5, hh⟩
    obtain ⟨pa, t2, T1, par, rk, rfl, rfl, epa, pg, cho⟩ := hh (by decide)
    have kin := keep_in w5 epa pg cho m1 m40
    refine ⟨_, rfl, _, rfl, _, rfl, fun y dy ny ndy ney => ?_⟩
    have sy : Same H5 (upd (upd H5 dy (.own y)) y (.ins CK dy [])) := sNew (sNew (fun _ _ e => e) ndy) ny
    refine ⟨y, dy, x, pa, t2, M, L, T1, par, rfl, upd_same, kin.same sy, fun la ch ac H6 ey ld sty => ⟨rfl, ?_⟩⟩
    have s56 : Same H5 H6 := fun b o e => sty b o (sy _ _ e) (ne_of_none e ny)
    refine ⟨_, rfl, _, rfl, _, rfl, _, rfl, (by show 3 ≤ sizeLine; decide), fun z nz => ?_⟩
    have s6z := sN (o := .tup [.ref x, .ref pa, .ref t2]) nz
    refine ⟨y, dy, _, rfl, s6z _ _ ey, .inr ⟨z, _, rfl, upd_same⟩, y, z, _, rfl, upd_same, ⟨false, rfl⟩, _, rfl, iteF ?_⟩
    have s57 := sT s56 s6z
    refine ⟨_, rfl, _, rfl, x, q, M, L, .ref pa, rfl, w5.same s57, .inl ⟨pa, _, rfl, s57 _ _ epa, false, false, rfl, rfl, _, rfl, iteF ?_⟩⟩
    have w7 := w5.same s57
    have l7 := l5.same s57
    revert w7 l7
    generalize (upd H6 z (.tup [.ref x, .ref pa, .ref t2])) = H7
    intro w7 l7
    clear s57 s6z
    refine ⟨(by show 2 ≤ sizeLine; decide), fun q1 n1 => ⟨(by show 1 ≤ sizeLine; decide), fun q2 n2 => fun x2 dx2 nx ndx nex => ?_⟩⟩
    have e1 : (upd (upd H7 q1 (.tup [.int 0, .int 1])) q2 (.tup [.ref q1])) q1 = some (.tup [.int 0, .int 1]) := sN n2 _ _ upd_same
    have tw : TiesAt ((2 : Nat) : Int) (upd (upd H7 q1 (.tup [.int 0, .int 1])) q2 (.tup [.ref q1])) q2 [(q1, [0, 1])] := by
      refine ⟨upd_same, fun c hc => ?_, fun c hc => ?_, List.pairwise_singleton _ _, (by show 1 < 1000; decide), fun h h1 h2 => ?_⟩
      · rw [List.mem_singleton.mp hc]
        exact e1
      · rw [List.mem_singleton.mp hc]
        exact ⟨0, 1, rfl, by decide, by decide, by decide⟩
      · exact ⟨_, List.mem_singleton.mpr rfl, 0, by rw [show h = 1 by omega]⟩
    have s78 := sT (sN (o := .tup [.int 0, .int 1]) n1) (sN (o := .tup [.ref q1]) n2)
    revert nx ndx nex e1 tw s78
    generalize (upd (upd H7 q1 (.tup [.int 0, .int 1])) q2 (.tup [.ref q1])) = H8
    intro nx ndx nex e1 tw s78
    have sx : Same H8 (upd (upd H8 dx2 (.own x2)) x2 (.ins C dx2 [])) := sNew (sNew (fun _ _ e => e) ndx) nx
    refine ⟨x2, dx2, ((2 : Nat) : Int), q2, [(q1, [0, 1])], rfl, upd_same, tw.same sx, by decide, by decide, fun r bs nb H9 wi x9 => ⟨rfl, ?_⟩⟩
    have s89 : Same H8 H9 := fun b o e => x9 b o (sx b o e) (ne_of_none e nx)
    have w9 : WebQ C 2 H9 x2 q2 [(q1, [0, 1])] := ⟨dx2, r, bs, nb, wi, tw.same s89⟩
    have w9' := w7.same (sT s78 s89)
    have l9 := l7.same (sT s78 s89)
    have z2 := w9
    obtain ⟨_, _, _, _, _, tw9⟩ := z2
    refine ⟨_, rfl, (by show 2 ≤ sizeLine; decide), fun a1 n1 => ⟨(by show 2 ≤ sizeLine; decide), fun a2 n2 => ⟨(by show 1 ≤ sizeLine; decide), fun a3 n3 => fun y2 dy2 ny ndy ney => ?_⟩⟩⟩
    have f1 : (upd (upd (upd H9 a1 (.tup [.non, .non])) a2 (.tup [.int 0, .int 1])) a3 (.tup [.ref a2])) a1 = some (.tup (pVs 2 noPar)) := sN n3 _ _ (sN n2 _ _ upd_same)
    have f2 : (upd (upd (upd H9 a1 (.tup [.non, .non])) a2 (.tup [.int 0, .int 1])) a3 (.tup [.ref a2])) a2 = some (.tup [.int 0, .int 1]) := sN n3 _ _ upd_same
    have f3 : (upd (upd (upd H9 a1 (.tup [.non, .non])) a2 (.tup [.int 0, .int 1])) a3 (.tup [.ref a2])) a3 = some (.tup [.ref a2]) := upd_same
    have s10 := sT (sN (o := .tup [.non, .non]) n1) (sT (sN (o := .tup [.int 0, .int 1]) n2) (sN (o := .tup [.ref a2]) n3))
    clear n1 n2 n3
    revert f1 f2 f3 s10 ny ndy ney
    generalize (upd (upd (upd H9 a1 (.tup [.non, .non])) a2 (.tup [.int 0, .int 1])) a3 (.tup [.ref a2])) = H10
    intro ny ndy ney f1 f2 f3 s10
    have c0 := cho_all (M := 2) tw9
    have c1 : ChoAt (fun i => (LD noPar 2 i : Int)) [(q1, [0, 1])] ((2 : Nat) : Int) H10 a3 [(a2, [0, 1])] := by
      refine ⟨f3, fun c hc => ?_, fun c hc => ?_, List.pairwise_singleton _ _, Nat.le_refl _, fun c hc => ?_, fun c hc => ?_, fun r hr _ => ?_, List.nodup_cons.mpr ⟨List.not_mem_nil, List.nodup_nil⟩⟩
      · rw [List.mem_singleton.mp hc]
        exact f2
      · rw [List.mem_singleton.mp hc]
        exact ⟨0, 1, rfl, by decide, by decide, by decide⟩
      · rw [List.mem_singleton.mp hc]
        exact ⟨_, List.mem_singleton.mpr rfl, rfl⟩
      · rw [List.mem_singleton.mp hc]
        exact c0.crs (q1, [0, 1]) (List.mem_singleton.mpr rfl)
      · rw [List.mem_singleton.mp hr]
        exact ⟨_, List.mem_singleton.mpr rfl, rfl⟩
    have pg0 : ParG 2 noPar (fun _ => 0) [(q1, [0, 1])] := ⟨⟨fun v u _ e => (nomatch e), fun v h => by omega⟩, fun v u _ e => (nomatch e)⟩
    have k1 := keep_in (w9.same s10) f1 pg0 c1 (by decide) (by decide)
    have sy2 : Same H10 (upd (upd H10 dy2 (.own y2)) y2 (.ins CK dy2 [])) := sNew (sNew (fun _ _ e => e) ndy) ny
    refine ⟨y2, dy2, x2, a1, a3, 2, _, _, noPar, rfl, upd_same, k1.same sy2, fun la2 ch2 ac2 H11 ey2 ld2 sty2 => ⟨rfl, ?_⟩⟩
    have s1011 : Same H10 H11 := fun b o e => sty2 b o (sy2 _ _ e) (ne_of_none e ny)
    have w11 := w9.same (sT s10 s1011)
    have w11' := w9'.same (sT s10 s1011)
    have l11 := l9.same (sT s10 s1011)
    have f11 := s1011 _ _ f1
    refine ⟨_, rfl, _, rfl, (by show 2 ≤ sizeLine; decide), fun b1 n1 => ⟨Nat.zero_le _, fun b2 n2 => fun y3 dy3 ny3 ndy3 ney3 => ?_⟩⟩
    have f4 : (upd (upd H11 b1 (.tup [.non, .int 0])) b2 (.tup [])) b1 = some (.tup (pVs 2 par3)) := sN n2 _ _ upd_same
    have f5 : (upd (upd H11 b1 (.tup [.non, .int 0])) b2 (.tup [])) b2 = some (.tup []) := upd_same
    have s12 := sT (sN (o := .tup [.non, .int 0]) n1) (sN (o := .tup []) n2)
    clear n1 n2
    revert ny3 ndy3 ney3 f4 f5 s12
    generalize (upd (upd H11 b1 (.tup [.non, .int 0])) b2 (.tup [])) = H12
    intro ny3 ndy3 ney3 f4 f5 s12
    have pg3 : ParG 2 par3 (fun i => i) [(q1, [0, 1])] := by
      refine ⟨⟨fun v u hv e => ?_, fun v h => h⟩, fun v u hv e => ?_⟩
      · match v, hv, e with
        | 1, _, e =>
          cases e
          exact ⟨by decide, by decide⟩
      · match v, hv, e with
        | 1, _, e =>
          cases e
          exact ⟨_, List.mem_singleton.mpr rfl, .inr rfl⟩
    have c3 : ChoAt (fun i => (LD par3 2 i : Int)) [(q1, [0, 1])] ((2 : Nat) : Int) H12 b2 [] := by
      refine ⟨f5, fun c hc => absurd hc List.not_mem_nil, fun c hc => absurd hc List.not_mem_nil, .nil, Nat.zero_le _, fun c hc => absurd hc List.not_mem_nil, fun c hc => absurd hc List.not_mem_nil, fun r hr cr => ?_, List.nodup_nil⟩
      rw [List.mem_singleton.mp hr] at cr
      obtain ⟨u, v, e, ne⟩ := cr
      have e2 : crL (fun i => (LD par3 2 i : Int)) [0, 1] = [0, 0] := rfl
      have e3 : [0, 0] = [u, v] := e2.symm.trans e
      simp only [List.cons.injEq, and_true] at e3
      exact absurd (e3.1.symm.trans e3.2) ne
    have k3 := keep_in (w11.same s12) f4 pg3 c3 (by decide) (by decide)
    have sy3 : Same H12 (upd (upd H12 dy3 (.own y3)) y3 (.ins CK dy3 [])) := sNew (sNew (fun _ _ e => e) ndy3) ny3
    refine ⟨y3, dy3, x2, b1, b2, 2, _, _, par3, rfl, upd_same, k3.same sy3, fun la3 ch3 ac3 H13 ey3 ld3 sty3 => ⟨rfl, ?_⟩⟩
    have s1213 : Same H12 H13 := fun b o e => sty3 b o (sy3 _ _ e) (ne_of_none e ny3)
    have s1113 := sT s12 s1213
    have ey13 := s1113 _ _ ey2
    refine ⟨y2, dy2, _, rfl, ey13, .inl ⟨y3, dy3, _, rfl, ey3⟩, y2, dy2, y3, dy3, x2, q2, a1, b1, 2, _, noPar, par3, _, _, _, _, _, _, _, _, rfl, ey13, ey3, w11.same s1113, s1113 _ _ f11, s1213 _ _ f4, ⟨1, by decide, fun z => nomatch z⟩, ⟨false, rfl⟩, _, rfl, iteF ?_⟩
    have w13 := w11.same s1113
    have w13' := w11'.same s1113
    have l13 := l11.same s1113
    refine ⟨_, rfl, _, rfl, x, q, M, L, .ref y2, rfl, w13', .inr ⟨y2, dy2, x2, q2, 2, _, _, _, _, _, _, rfl, ey13, w13, fun b hb => ?_⟩⟩
    refine ⟨_, rfl, (by show 2 ≤ sizeLine; decide), fun d1 n1 => ⟨(by show 1 ≤ sizeLine; decide), fun d2 n2 => ⟨(by show 2 ≤ sizeLine; decide), fun d3 n3 => ?_⟩⟩⟩
    have e1' : (upd (upd (upd H13 d1 (.tup [.int 0, .int 1])) d2 (.tup [.ref d1])) d3 (.tup [.int 2, .ref d2])) d1 = some (.tup [.int 0, .int 1]) := sN n3 _ _ (sN n2 _ _ upd_same)
    have e2' : (upd (upd (upd H13 d1 (.tup [.int 0, .int 1])) d2 (.tup [.ref d1])) d3 (.tup [.int 2, .ref d2])) d2 = some (.tup [.ref d1]) := sN n3 _ _ upd_same
    have e3' : (upd (upd (upd H13 d1 (.tup [.int 0, .int 1])) d2 (.tup [.ref d1])) d3 (.tup [.int 2, .ref d2])) d3 = some (.tup [.int 2, .ref d2]) := upd_same
    have s14 := sT (sN (o := .tup [.int 0, .int 1]) n1) (sT (sN (o := .tup [.ref d1]) n2) (sN (o := .tup [.int 2, .ref d2]) n3))
    have l14 := l13.same s14
    revert e1' e2' e3' l14
    generalize (upd (upd (upd H13 d1 (.tup [.int 0, .int 1])) d2 (.tup [.ref d1])) d3 (.tup [.int 2, .ref d2])) = H14
    intro e1' e2' e3' l14
    have dA : Dp K H14 (.ref W) (.tuple [.int (M : Int), .tuple (L.map fun p => pT p.2)]) := .tup (SqT.of l14.1) (.cons (.int _) (.cons (.tup (SqT.of l14.2.at_) (dp_all L l14.2.tup)) .nil))
    have dB : Dp K H14 (.ref d3) (.tuple [.int 2, .tuple ([(d1, ([0, 1] : List Int))].map fun p => pT p.2)]) := .tup (SqT.of e3') (.cons (.int _) (.cons (.tup (SqT.of e2') (dp_all [(d1, [0, 1])] fun c hc => by
      rw [List.mem_singleton.mp hc]
      exact e1')) .nil))
    refine ⟨_, _, dA, dB, shaped_pairA _ _, shaped_pairA _ _, ?_⟩
    have eb : PyData.eqv (.tuple [.int (M : Int), .tuple (L.map fun p => pT p.2)]) (.tuple [.int 2, .tuple ([(d1, ([0, 1] : List Int))].map fun p => pT p.2)]) = b := by
      rw [Bool.eq_iff_iff, hb]
      have e : PyData.eqv (.tuple [.int (M : Int), .tuple (L.map fun p => pT p.2)]) (.tuple [.int 2, .tuple ([(d1, ([0, 1] : List Int))].map fun p => pT p.2)]) = (decide ((M : Int) = 2) && PyData.eqvAll (L.map fun p => pT p.2) ([(d1, ([0, 1] : List Int))].map fun p => pT p.2)) := by
        simp only [PyData.eqv, PyData.eqvAll, Bool.and_true]
        rfl
      rw [e, Bool.and_eq_true]
      constructor
      · rintro ⟨h1, h2⟩
        have z1 := of_decide_eq_true h1
        exact ⟨by omega, (eqv_pTs_inv h2).symm⟩
      · rintro ⟨h1, h2⟩
        exact ⟨decide_eq_true (by omega), eqv_pTs h2.symm⟩
    rw [eb]
    exact ⟨_, _, rfl, .inr (.inr (.inl ⟨b, rfl, rfl⟩)), fun H' s' => k _⟩
end
end Q

namespace Q
open PySem L2 QM
theorem exm_me {K : PySem.W.Frag} {S : Addr} (h1 : PySem.W.subIn K (.ref S) (.type "BaseException") = some true) (h2 : PySem.W.isClsIn K S = true) (h3 : PySem.W.typeIn K (.ref S) = some (.type "type")) (h4 : PySem.W.subIn K (.ref S) (.ref S) = some true) : PySem.W.exmOne K (.ref S) (.ref S) = some true := by
  have u1 : (PySem.W.subIn K (.ref S) (.type "BaseException") == some true) = true := by rw [h1] <;> rfl
  have u2 : ((PySem.W.clsIn K S).isSome && PySem.W.typeIn K (.ref S) == some (.type "type")) = true := by
    have z : (PySem.W.clsIn K S).isSome = true := h2
    rw [z, h3] <;> rfl
  show (if (PySem.W.subIn K (.ref S) (.type "BaseException") == some true) = true then (if ((PySem.W.clsIn K S).isSome && PySem.W.typeIn K (.ref S) == some (.type "type")) = true then PySem.W.subIn K (.ref S) (.ref S) else none) else none) = some true
  rw [if_pos u1, if_pos u2, h4]

theorem all_mk {l : PySem.W.OpenLaw} {w : World} {K : PySem.W.Frag} {h : Heap} {mg : Str → Option Value} {fa : Addr} (X : K.In h) (G : h.Ns mainGlobals mg) (hfa : mg "law" = some (.ref fa))
    {C fM : Addr} {tmW : Tok} {odM anM : Option Addr} {slM : Array (Option Value)} {ocM kVM dcM pmM cdM ctM : Value}
    {CK fK : Addr} {ocK9 kVK9 dcK9 pmK9 cdK9 ctK9 : Value} {odK9 anK9 : Option Addr} {slK9 : Array (Option Value)}
    {few : Addr} {ocew kVew dcew pmew cdew ctew : Value} {odew anew : Option Addr} {slew : Array (Option Value)}
    {fek : Addr} {ocek kVek dcek pmek cdek ctek : Value} {odek anek : Option Addr} {slek : Array (Option Value)}
    {CB fB : Addr} {nmB qB : Str} {NB : Addr} {bsB bmB : List Value} {snB : List Str} {subB : List Value} {abB : Bool} {colB : Option Bool} {ddB : Option Addr} {k0B k1B k2B k3B k5B : Option Value} {ocB : Value} {odB anB : Option Addr} {slB : Array (Option Value)} {kVB dcB pmB cdB ctB : Value}
    {f0 : Addr} {od0 an0 : Option Addr} {sl0 : Array (Option Value)} {oc0 kV0 dc0 pm0 cd0 ct0 : Value}
    {f1 : Addr} {od1 an1 : Option Addr} {sl1 : Array (Option Value)} {oc1 kV1 dc1 pm1 cd1 ct1 : Value}
    {f2 : Addr} {od2 an2 : Option Addr} {sl2 : Array (Option Value)} {oc2 kV2 dc2 pm2 cd2 ct2 : Value}
    {f3 : Addr} {od3 an3 : Option Addr} {sl3 : Array (Option Value)} {oc3 kV3 dc3 pm3 cd3 ct3 : Value}
    {f4 : Addr} {od4 an4 : Option Addr} {sl4 : Array (Option Value)} {oc4 kV4 dc4 pm4 cd4 ct4 : Value}
    {f5 : Addr} {od5 an5 : Option Addr} {sl5 : Array (Option Value)} {oc5 kV5 dc5 pm5 cd5 ct5 : Value}
    {f6 : Addr} {od6 an6 : Option Addr} {sl6 : Array (Option Value)} {oc6 kV6 dc6 pm6 cd6 ct6 : Value}
    {f7 : Addr} {od7 an7 : Option Addr} {sl7 : Array (Option Value)} {oc7 kV7 dc7 pm7 cd7 ct7 : Value}
    {f8 : Addr} {od8 an8 : Option Addr} {sl8 : Array (Option Value)} {oc8 kV8 dc8 pm8 cd8 ct8 : Value}
    {f9 : Addr} {od9 an9 : Option Addr} {sl9 : Array (Option Value)} {oc9 kV9 dc9 pm9 cd9 ct9 : Value}
    {f10 : Addr} {od10 an10 : Option Addr} {sl10 : Array (Option Value)} {oc10 kV10 dc10 pm10 cd10 ct10 : Value}
    {f11 : Addr} {od11 an11 : Option Addr} {sl11 : Array (Option Value)} {oc11 kV11 dc11 pm11 cd11 ct11 : Value}
    {f12 : Addr} {od12 an12 : Option Addr} {sl12 : Array (Option Value)} {oc12 kV12 dc12 pm12 cd12 ct12 : Value}
    {f13 : Addr} {od13 an13 : Option Addr} {sl13 : Array (Option Value)} {oc13 kV13 dc13 pm13 cd13 ct13 : Value}
    {f14 : Addr} {od14 an14 : Option Addr} {sl14 : Array (Option Value)} {oc14 kV14 dc14 pm14 cd14 ct14 : Value}
    {f15 : Addr} {od15 an15 : Option Addr} {sl15 : Array (Option Value)} {oc15 kV15 dc15 pm15 cd15 ct15 : Value}
    {f16 : Addr} {od16 an16 : Option Addr} {sl16 : Array (Option Value)} {oc16 kV16 dc16 pm16 cd16 ct16 : Value}
    {f17 : Addr} {od17 an17 : Option Addr} {sl17 : Array (Option Value)} {oc17 kV17 dc17 pm17 cd17 ct17 : Value}
    {f18 : Addr} {od18 an18 : Option Addr} {sl18 : Array (Option Value)} {oc18 kV18 dc18 pm18 cd18 ct18 : Value}
    {f19 : Addr} {od19 an19 : Option Addr} {sl19 : Array (Option Value)} {oc19 kV19 dc19 pm19 cd19 ct19 : Value}
    {f20 : Addr} {od20 an20 : Option Addr} {sl20 : Array (Option Value)} {oc20 kV20 dc20 pm20 cd20 ct20 : Value}
    {f21 : Addr} {od21 an21 : Option Addr} {sl21 : Array (Option Value)} {oc21 kV21 dc21 pm21 cd21 ct21 : Value}
    {f22 : Addr} {od22 an22 : Option Addr} {sl22 : Array (Option Value)} {oc22 kV22 dc22 pm22 cd22 ct22 : Value}
    {f23 : Addr} {od23 an23 : Option Addr} {sl23 : Array (Option Value)} {oc23 kV23 dc23 pm23 cd23 ct23 : Value}
    {f24 : Addr} {od24 an24 : Option Addr} {sl24 : Array (Option Value)} {oc24 kV24 dc24 pm24 cd24 ct24 : Value}
    {f25 : Addr} {od25 an25 : Option Addr} {sl25 : Array (Option Value)} {oc25 kV25 dc25 pm25 cd25 ct25 : Value}
    {f26 : Addr} {od26 an26 : Option Addr} {sl26 : Array (Option Value)} {oc26 kV26 dc26 pm26 cd26 ct26 : Value}
    {f27 : Addr} {od27 an27 : Option Addr} {sl27 : Array (Option Value)} {oc27 kV27 dc27 pm27 cd27 ct27 : Value}
    {f28 : Addr} {od28 an28 : Option Addr} {sl28 : Array (Option Value)} {oc28 kV28 dc28 pm28 cd28 ct28 : Value}
    {f29 : Addr} {od29 an29 : Option Addr} {sl29 : Array (Option Value)} {oc29 kV29 dc29 pm29 cd29 ct29 : Value}
    {f30 : Addr} {od30 an30 : Option Addr} {sl30 : Array (Option Value)} {oc30 kV30 dc30 pm30 cd30 ct30 : Value}
    {f31 : Addr} {od31 an31 : Option Addr} {sl31 : Array (Option Value)} {oc31 kV31 dc31 pm31 cd31 ct31 : Value}
    {f32 : Addr} {od32 an32 : Option Addr} {sl32 : Array (Option Value)} {oc32 kV32 dc32 pm32 cd32 ct32 : Value}
    {f33 : Addr} {od33 an33 : Option Addr} {sl33 : Array (Option Value)} {oc33 kV33 dc33 pm33 cd33 ct33 : Value}
    {f34 : Addr} {od34 an34 : Option Addr} {sl34 : Array (Option Value)} {oc34 kV34 dc34 pm34 cd34 ct34 : Value}
    {f35 : Addr} {od35 an35 : Option Addr} {sl35 : Array (Option Value)} {oc35 kV35 dc35 pm35 cd35 ct35 : Value}
    {f36 : Addr} {od36 an36 : Option Addr} {sl36 : Array (Option Value)} {oc36 kV36 dc36 pm36 cd36 ct36 : Value}
    {f37 : Addr} {od37 an37 : Option Addr} {sl37 : Array (Option Value)} {oc37 kV37 dc37 pm37 cd37 ct37 : Value}
    (w_aC : PySem.W.nsIn K mainGlobals "Web" = some (some (.ref C)))
    (w_aM : PySem.W.findIn K (.ref C) "__init__" = some (some (.ref fM)))
    (w_iM : PySem.W.isFn K (.ref fM) = true)
    (w_lM : K.lookup fM = some ⟨ocM, odM, .func (PySem.W.fnOf "__init__" "Web.__init__" (defArgs sWeb) (defBody sWeb) (defScope sWeb) .none kVM dcM pmM anM cdM ctM), slM⟩)
    (w_cM : PySem.W.codeIn K cdM "Web.__init__" = true)
    (w_kM : PySem.W.keepIn K (.ref fM) = true)
    (w_pg : PySem.W.plainGet K C Str.empty = true)
    (w_hd : PySem.W.hasDictIn K C = true)
    (w_po : PySem.W.plainOver K C = true)
    (w_sa : PySem.W.findIn K (.ref C) "__setattr__" = some (some (.builtin "object.__setattr__")))
    (w_mk : PySem.W.makesIn K C = true)
    (w_kc : PySem.W.keepIn K (.ref C) = true)
    (w_aO : PySem.W.nsIn K mainGlobals "MOST_HOUSES" = some (some (.int 40 tmW)))
    (w_n0 : PySem.W.findIn K (.ref C) "many" = some none)
    (w_n1 : PySem.W.findIn K (.ref C) "ties" = some none)
    (w_n2 : PySem.W.findIn K (.ref C) "_beside" = some none)
    (a0 : PySem.W.nsIn K mainGlobals "is_plain_int" = some (some (.ref f0)))
    (l0 : K.lookup f0 = some ⟨oc0, od0, .func (PySem.W.fnOf "is_plain_int" "is_plain_int" (defArgs sPlain) (defBody sPlain) (defScope sPlain) .none kV0 dc0 pm0 an0 cd0 ct0), sl0⟩)
    (c0 : PySem.W.codeIn K cd0 "is_plain_int" = true)
    (k0 : PySem.W.keepIn K (.ref f0) = true)
    (a1 : PySem.W.nsIn K mainGlobals "is_number_below" = some (some (.ref f1)))
    (l1 : K.lookup f1 = some ⟨oc1, od1, .func (PySem.W.fnOf "is_number_below" "is_number_below" (defArgs sNum) (defBody sNum) (defScope sNum) .none kV1 dc1 pm1 an1 cd1 ct1), sl1⟩)
    (c1 : PySem.W.codeIn K cd1 "is_number_below" = true)
    (k1 : PySem.W.keepIn K (.ref f1) = true)
    (a2 : PySem.W.nsIn K mainGlobals "is_ascending" = some (some (.ref f2)))
    (l2 : K.lookup f2 = some ⟨oc2, od2, .func (PySem.W.fnOf "is_ascending" "is_ascending" (defArgs sAsc) (defBody sAsc) (defScope sAsc) .none kV2 dc2 pm2 an2 cd2 ct2), sl2⟩)
    (c2 : PySem.W.codeIn K cd2 "is_ascending" = true)
    (k2 : PySem.W.keepIn K (.ref f2) = true)
    (a3 : PySem.W.nsIn K mainGlobals "is_tie" = some (some (.ref f3)))
    (l3 : K.lookup f3 = some ⟨oc3, od3, .func (PySem.W.fnOf "is_tie" "is_tie" (defArgs sTie) (defBody sTie) (defScope sTie) .none kV3 dc3 pm3 an3 cd3 ct3), sl3⟩)
    (c3 : PySem.W.codeIn K cd3 "is_tie" = true)
    (k3 : PySem.W.keepIn K (.ref f3) = true)
    (a4 : PySem.W.nsIn K mainGlobals "first_wrong_tie" = some (some (.ref f4)))
    (l4 : K.lookup f4 = some ⟨oc4, od4, .func (PySem.W.fnOf "first_wrong_tie" "first_wrong_tie" (defArgs sFirst) (defBody sFirst) (defScope sFirst) .none kV4 dc4 pm4 an4 cd4 ct4), sl4⟩)
    (c4 : PySem.W.codeIn K cd4 "first_wrong_tie" = true)
    (k4 : PySem.W.keepIn K (.ref f4) = true)
    (a5 : PySem.W.nsIn K mainGlobals "houses_beside" = some (some (.ref f5)))
    (l5 : K.lookup f5 = some ⟨oc5, od5, .func (PySem.W.fnOf "houses_beside" "houses_beside" (defArgs sBeside) (defBody sBeside) (defScope sBeside) .none kV5 dc5 pm5 an5 cd5 ct5), sl5⟩)
    (c5 : PySem.W.codeIn K cd5 "houses_beside" = true)
    (k5 : PySem.W.keepIn K (.ref f5) = true)
    (a6 : PySem.W.nsIn K mainGlobals "steps_from" = some (some (.ref f6)))
    (l6 : K.lookup f6 = some ⟨oc6, od6, .func (PySem.W.fnOf "steps_from" "steps_from" (defArgs sSteps) (defBody sSteps) (defScope sSteps) .none kV6 dc6 pm6 an6 cd6 ct6), sl6⟩)
    (c6 : PySem.W.codeIn K cd6 "steps_from" = true)
    (k6 : PySem.W.keepIn K (.ref f6) = true)
    (a7 : PySem.W.nsIn K mainGlobals "neighbours" = some (some (.ref f7)))
    (l7 : K.lookup f7 = some ⟨oc7, od7, .func (PySem.W.fnOf "neighbours" "neighbours" (defArgs sNbr) (defBody sNbr) (defScope sNbr) .none kV7 dc7 pm7 an7 cd7 ct7), sl7⟩)
    (c7 : PySem.W.codeIn K cd7 "neighbours" = true)
    (k7 : PySem.W.keepIn K (.ref f7) = true)
    (a8 : PySem.W.nsIn K mainGlobals "is_neighbour" = some (some (.ref f8)))
    (l8 : K.lookup f8 = some ⟨oc8, od8, .func (PySem.W.fnOf "is_neighbour" "is_neighbour" (defArgs sIsNb) (defBody sIsNb) (defScope sIsNb) .none kV8 dc8 pm8 an8 cd8 ct8), sl8⟩)
    (c8 : PySem.W.codeIn K cd8 "is_neighbour" = true)
    (k8 : PySem.W.keepIn K (.ref f8) = true)
    (a9 : PySem.W.nsIn K mainGlobals "are_parents" = some (some (.ref f9)))
    (l9 : K.lookup f9 = some ⟨oc9, od9, .func (PySem.W.fnOf "are_parents" "are_parents" (defArgs sAreP) (defBody sAreP) (defScope sAreP) .none kV9 dc9 pm9 an9 cd9 ct9), sl9⟩)
    (c9 : PySem.W.codeIn K cd9 "are_parents" = true)
    (k9 : PySem.W.keepIn K (.ref f9) = true)
    (a10 : PySem.W.nsIn K mainGlobals "way_up" = some (some (.ref f10)))
    (l10 : K.lookup f10 = some ⟨oc10, od10, .func (PySem.W.fnOf "way_up" "way_up" (defArgs sUp) (defBody sUp) (defScope sUp) .none kV10 dc10 pm10 an10 cd10 ct10), sl10⟩)
    (c10 : PySem.W.codeIn K cd10 "way_up" = true)
    (k10 : PySem.W.keepIn K (.ref f10) = true)
    (a11 : PySem.W.nsIn K mainGlobals "leaders_by" = some (some (.ref f11)))
    (l11 : K.lookup f11 = some ⟨oc11, od11, .func (PySem.W.fnOf "leaders_by" "leaders_by" (defArgs sLds) (defBody sLds) (defScope sLds) .none kV11 dc11 pm11 an11 cd11 ct11), sl11⟩)
    (c11 : PySem.W.codeIn K cd11 "leaders_by" = true)
    (k11 : PySem.W.keepIn K (.ref f11) = true)
    (a12 : PySem.W.nsIn K mainGlobals "children_by" = some (some (.ref f12)))
    (l12 : K.lookup f12 = some ⟨oc12, od12, .func (PySem.W.fnOf "children_by" "children_by" (defArgs sChild) (defBody sChild) (defScope sChild) .none kV12 dc12 pm12 an12 cd12 ct12), sl12⟩)
    (c12 : PySem.W.codeIn K cd12 "children_by" = true)
    (k12 : PySem.W.keepIn K (.ref f12) = true)
    (a13 : PySem.W.nsIn K mainGlobals "crossed_by" = some (some (.ref f13)))
    (l13 : K.lookup f13 = some ⟨oc13, od13, .func (PySem.W.fnOf "crossed_by" "crossed_by" (defArgs sCross) (defBody sCross) (defScope sCross) .none kV13 dc13 pm13 an13 cd13 ct13), sl13⟩)
    (c13 : PySem.W.codeIn K cd13 "crossed_by" = true)
    (k13 : PySem.W.keepIn K (.ref f13) = true)
    (a14 : PySem.W.nsIn K mainGlobals "least_ties" = some (some (.ref f14)))
    (l14 : K.lookup f14 = some ⟨oc14, od14, .func (PySem.W.fnOf "least_ties" "least_ties" (defArgs sLeast) (defBody sLeast) (defScope sLeast) .none kV14 dc14 pm14 an14 cd14 ct14), sl14⟩)
    (c14 : PySem.W.codeIn K cd14 "least_ties" = true)
    (k14 : PySem.W.keepIn K (.ref f14) = true)
    (a15 : PySem.W.nsIn K mainGlobals "are_chosen" = some (some (.ref f15)))
    (l15 : K.lookup f15 = some ⟨oc15, od15, .func (PySem.W.fnOf "are_chosen" "are_chosen" (defArgs sAreC) (defBody sAreC) (defScope sAreC) .none kV15 dc15 pm15 an15 cd15 ct15), sl15⟩)
    (c15 : PySem.W.codeIn K cd15 "are_chosen" = true)
    (k15 : PySem.W.keepIn K (.ref f15) = true)
    (a16 : PySem.W.nsIn K mainGlobals "is_keeper" = some (some (.ref f16)))
    (l16 : K.lookup f16 = some ⟨oc16, od16, .func (PySem.W.fnOf "is_keeper" "is_keeper" (defArgs sIsK) (defBody sIsK) (defScope sIsK) .none kV16 dc16 pm16 an16 cd16 ct16), sl16⟩)
    (c16 : PySem.W.codeIn K cd16 "is_keeper" = true)
    (k16 : PySem.W.keepIn K (.ref f16) = true)
    (a17 : PySem.W.nsIn K mainGlobals "_law_hand" = some (some (.ref f17)))
    (l17 : K.lookup f17 = some ⟨oc17, od17, .func (PySem.W.fnOf "_law_hand" "_law_hand" (defArgs sHand) (defBody sHand) (defScope sHand) .none kV17 dc17 pm17 an17 cd17 ct17), sl17⟩)
    (c17 : PySem.W.codeIn K cd17 "_law_hand" = true)
    (k17 : PySem.W.keepIn K (.ref f17) = true)
    (a18 : PySem.W.nsIn K mainGlobals "_law_draw" = some (some (.ref f18)))
    (l18 : K.lookup f18 = some ⟨oc18, od18, .func (PySem.W.fnOf "_law_draw" "_law_draw" (defArgs sDraw) (defBody sDraw) (defScope sDraw) .none kV18 dc18 pm18 an18 cd18 ct18), sl18⟩)
    (c18 : PySem.W.codeIn K cd18 "_law_draw" = true)
    (k18 : PySem.W.keepIn K (.ref f18) = true)
    (a19 : PySem.W.nsIn K mainGlobals "_law_is" = some (some (.ref f19)))
    (l19 : K.lookup f19 = some ⟨oc19, od19, .func (PySem.W.fnOf "_law_is" "_law_is" (defArgs sIs) (defBody sIs) (defScope sIs) .none kV19 dc19 pm19 an19 cd19 ct19), sl19⟩)
    (c19 : PySem.W.codeIn K cd19 "_law_is" = true)
    (k19 : PySem.W.keepIn K (.ref f19) = true)
    (a20 : PySem.W.nsIn K mainGlobals "_law_deep" = some (some (.ref f20)))
    (l20 : K.lookup f20 = some ⟨oc20, od20, .func (PySem.W.fnOf "_law_deep" "_law_deep" (defArgs sDeep) (defBody sDeep) (defScope sDeep) .none kV20 dc20 pm20 an20 cd20 ct20), sl20⟩)
    (c20 : PySem.W.codeIn K cd20 "_law_deep" = true)
    (k20 : PySem.W.keepIn K (.ref f20) = true)
    (a21 : PySem.W.nsIn K mainGlobals "_law_number" = some (some (.ref f21)))
    (l21 : K.lookup f21 = some ⟨oc21, od21, .func (PySem.W.fnOf "_law_number" "_law_number" (defArgs sLNum) (defBody sLNum) (defScope sLNum) .none kV21 dc21 pm21 an21 cd21 ct21), sl21⟩)
    (c21 : PySem.W.codeIn K cd21 "_law_number" = true)
    (k21 : PySem.W.keepIn K (.ref f21) = true)
    (a22 : PySem.W.nsIn K mainGlobals "_law_web" = some (some (.ref f22)))
    (l22 : K.lookup f22 = some ⟨oc22, od22, .func (PySem.W.fnOf "_law_web" "_law_web" (defArgs sLWeb) (defBody sLWeb) (defScope sLWeb) .none kV22 dc22 pm22 an22 cd22 ct22), sl22⟩)
    (c22 : PySem.W.codeIn K cd22 "_law_web" = true)
    (k22 : PySem.W.keepIn K (.ref f22) = true)
    (a23 : PySem.W.nsIn K mainGlobals "_law_beside" = some (some (.ref f23)))
    (l23 : K.lookup f23 = some ⟨oc23, od23, .func (PySem.W.fnOf "_law_beside" "_law_beside" (defArgs sLBes) (defBody sLBes) (defScope sLBes) .none kV23 dc23 pm23 an23 cd23 ct23), sl23⟩)
    (c23 : PySem.W.codeIn K cd23 "_law_beside" = true)
    (k23 : PySem.W.keepIn K (.ref f23) = true)
    (a24 : PySem.W.nsIn K mainGlobals "_law_off" = some (some (.ref f24)))
    (l24 : K.lookup f24 = some ⟨oc24, od24, .func (PySem.W.fnOf "_law_off" "_law_off" (defArgs sOff) (defBody sOff) (defScope sOff) .none kV24 dc24 pm24 an24 cd24 ct24), sl24⟩)
    (c24 : PySem.W.codeIn K cd24 "_law_off" = true)
    (k24 : PySem.W.keepIn K (.ref f24) = true)
    (a25 : PySem.W.nsIn K mainGlobals "_law_leader" = some (some (.ref f25)))
    (l25 : K.lookup f25 = some ⟨oc25, od25, .func (PySem.W.fnOf "_law_leader" "_law_leader" (defArgs sLLd) (defBody sLLd) (defScope sLLd) .none kV25 dc25 pm25 an25 cd25 ct25), sl25⟩)
    (c25 : PySem.W.codeIn K cd25 "_law_leader" = true)
    (k25 : PySem.W.keepIn K (.ref f25) = true)
    (a26 : PySem.W.nsIn K mainGlobals "_law_between" = some (some (.ref f26)))
    (l26 : K.lookup f26 = some ⟨oc26, od26, .func (PySem.W.fnOf "_law_between" "_law_between" (defArgs sBtw) (defBody sBtw) (defScope sBtw) .none kV26 dc26 pm26 an26 cd26 ct26), sl26⟩)
    (c26 : PySem.W.codeIn K cd26 "_law_between" = true)
    (k26 : PySem.W.keepIn K (.ref f26) = true)
    (a27 : PySem.W.nsIn K mainGlobals "_law_least_ties" = some (some (.ref f27)))
    (l27 : K.lookup f27 = some ⟨oc27, od27, .func (PySem.W.fnOf "_law_least_ties" "_law_least_ties" (defArgs sLLt) (defBody sLLt) (defScope sLLt) .none kV27 dc27 pm27 an27 cd27 ct27), sl27⟩)
    (c27 : PySem.W.codeIn K cd27 "_law_least_ties" = true)
    (k27 : PySem.W.keepIn K (.ref f27) = true)
    (a28 : PySem.W.nsIn K mainGlobals "_law_hung" = some (some (.ref f28)))
    (l28 : K.lookup f28 = some ⟨oc28, od28, .func (PySem.W.fnOf "_law_hung" "_law_hung" (defArgs sHung) (defBody sHung) (defScope sHung) .none kV28 dc28 pm28 an28 cd28 ct28), sl28⟩)
    (c28 : PySem.W.codeIn K cd28 "_law_hung" = true)
    (k28 : PySem.W.keepIn K (.ref f28) = true)
    (a29 : PySem.W.nsIn K mainGlobals "_law_grown" = some (some (.ref f29)))
    (l29 : K.lookup f29 = some ⟨oc29, od29, .func (PySem.W.fnOf "_law_grown" "_law_grown" (defArgs sGrown) (defBody sGrown) (defScope sGrown) .none kV29 dc29 pm29 an29 cd29 ct29), sl29⟩)
    (c29 : PySem.W.codeIn K cd29 "_law_grown" = true)
    (k29 : PySem.W.keepIn K (.ref f29) = true)
    (a30 : PySem.W.nsIn K mainGlobals "_law_keeper" = some (some (.ref f30)))
    (l30 : K.lookup f30 = some ⟨oc30, od30, .func (PySem.W.fnOf "_law_keeper" "_law_keeper" (defArgs sLKeep) (defBody sLKeep) (defScope sLKeep) .none kV30 dc30 pm30 an30 cd30 ct30), sl30⟩)
    (c30 : PySem.W.codeIn K cd30 "_law_keeper" = true)
    (k30 : PySem.W.keepIn K (.ref f30) = true)
    (a31 : PySem.W.nsIn K mainGlobals "_law_are_parents" = some (some (.ref f31)))
    (l31 : K.lookup f31 = some ⟨oc31, od31, .func (PySem.W.fnOf "_law_are_parents" "_law_are_parents" (defArgs sLAreP) (defBody sLAreP) (defScope sLAreP) .none kV31 dc31 pm31 an31 cd31 ct31), sl31⟩)
    (c31 : PySem.W.codeIn K cd31 "_law_are_parents" = true)
    (k31 : PySem.W.keepIn K (.ref f31) = true)
    (a32 : PySem.W.nsIn K mainGlobals "_law_are_chosen" = some (some (.ref f32)))
    (l32 : K.lookup f32 = some ⟨oc32, od32, .func (PySem.W.fnOf "_law_are_chosen" "_law_are_chosen" (defArgs sLAreC) (defBody sLAreC) (defScope sLAreC) .none kV32 dc32 pm32 an32 cd32 ct32), sl32⟩)
    (c32 : PySem.W.codeIn K cd32 "_law_are_chosen" = true)
    (k32 : PySem.W.keepIn K (.ref f32) = true)
    (a33 : PySem.W.nsIn K mainGlobals "_law_made" = some (some (.ref f33)))
    (l33 : K.lookup f33 = some ⟨oc33, od33, .func (PySem.W.fnOf "_law_made" "_law_made" (defArgs sMade) (defBody sMade) (defScope sMade) .none kV33 dc33 pm33 an33 cd33 ct33), sl33⟩)
    (c33 : PySem.W.codeIn K cd33 "_law_made" = true)
    (k33 : PySem.W.keepIn K (.ref f33) = true)
    (a34 : PySem.W.nsIn K mainGlobals "_law_bent_parents" = some (some (.ref f34)))
    (l34 : K.lookup f34 = some ⟨oc34, od34, .func (PySem.W.fnOf "_law_bent_parents" "_law_bent_parents" (defArgs sBentP) (defBody sBentP) (defScope sBentP) .none kV34 dc34 pm34 an34 cd34 ct34), sl34⟩)
    (c34 : PySem.W.codeIn K cd34 "_law_bent_parents" = true)
    (k34 : PySem.W.keepIn K (.ref f34) = true)
    (a35 : PySem.W.nsIn K mainGlobals "_law_bent_chosen" = some (some (.ref f35)))
    (l35 : K.lookup f35 = some ⟨oc35, od35, .func (PySem.W.fnOf "_law_bent_chosen" "_law_bent_chosen" (defArgs sBentC) (defBody sBentC) (defScope sBentC) .none kV35 dc35 pm35 an35 cd35 ct35), sl35⟩)
    (c35 : PySem.W.codeIn K cd35 "_law_bent_chosen" = true)
    (k35 : PySem.W.keepIn K (.ref f35) = true)
    (a36 : PySem.W.nsIn K mainGlobals "_law_is_due" = some (some (.ref f36)))
    (l36 : K.lookup f36 = some ⟨oc36, od36, .func (PySem.W.fnOf "_law_is_due" "_law_is_due" (defArgs sDue) (defBody sDue) (defScope sDue) .none kV36 dc36 pm36 an36 cd36 ct36), sl36⟩)
    (c36 : PySem.W.codeIn K cd36 "_law_is_due" = true)
    (k36 : PySem.W.keepIn K (.ref f36) = true)
    (a37 : PySem.W.nsIn K mainGlobals "law" = some (some (.ref f37)))
    (l37 : K.lookup f37 = some ⟨oc37, od37, .func (PySem.W.fnOf "law" "law" (defArgs sLaw) (defBody sLaw) (defScope sLaw) .none kV37 dc37 pm37 an37 cd37 ct37), sl37⟩)
    (c37 : PySem.W.codeIn K cd37 "law" = true)
    (k37 : PySem.W.keepIn K (.ref f37) = true)
    (q_aC : PySem.W.nsIn K mainGlobals "Keeper" = some (some (.ref CK)))
    (q_aM : PySem.W.findIn K (.ref CK) "__init__" = some (some (.ref fK)))
    (q_iM : PySem.W.isFn K (.ref fK) = true)
    (q_lM : K.lookup fK = some ⟨ocK9, odK9, .func (PySem.W.fnOf "__init__" "Keeper.__init__" (defArgs sKeep) (defBody sKeep) (defScope sKeep) .none kVK9 dcK9 pmK9 anK9 cdK9 ctK9), slK9⟩)
    (q_cM : PySem.W.codeIn K cdK9 "Keeper.__init__" = true)
    (q_kM : PySem.W.keepIn K (.ref fK) = true)
    (q_pg : PySem.W.plainGet K CK Str.empty = true)
    (q_hd : PySem.W.hasDictIn K CK = true)
    (q_po : PySem.W.plainOver K CK = true)
    (q_sa : PySem.W.findIn K (.ref CK) "__setattr__" = some (some (.builtin "object.__setattr__")))
    (q_mk : PySem.W.makesIn K CK = true)
    (q_kc : PySem.W.keepIn K (.ref CK) = true)
    (q_n0 : PySem.W.findIn K (.ref CK) "web" = some none)
    (q_n1 : PySem.W.findIn K (.ref CK) "parents" = some none)
    (q_n2 : PySem.W.findIn K (.ref CK) "chosen" = some none)
    (q_n3 : PySem.W.findIn K (.ref CK) "_leaders" = some none)
    (q_n4 : PySem.W.findIn K (.ref CK) "_children" = some none)
    (q_n5 : PySem.W.findIn K (.ref CK) "_across" = some none)
    (ewf : PySem.W.findIn K (.ref C) "__eq__" = some (some (.ref few)))
    (ewi : PySem.W.isFn K (.ref few) = true)
    (ewl : K.lookup few = some ⟨ocew, odew, .func (PySem.W.fnOf "__eq__" "Web.__eq__" (defArgs sEqW) (defBody sEqW) (defScope sEqW) .none kVew dcew pmew anew cdew ctew), slew⟩)
    (ewc : PySem.W.codeIn K cdew "Web.__eq__" = true)
    (ewk : PySem.W.keepIn K (.ref few) = true)
    (ewha : PySem.W.findIn K (.ref C) "__class__" = some (some (.builtin "object.__class__")))
    (ewhn : PySem.W.specialIn K (.builtin "object.__class__") "__get__" = some (some (.builtin "getset_descriptor.__get__")))
    (ewht : PySem.W.takesIn K (.builtin "object.__class__") = some true)
    (ewhm : PySem.W.mroIn K C (.type "object") = some true)
    (ewis : PySem.W.isClsIn K C = true)
    (ewty : PySem.W.typeIn K (.ref C) = some (.type "type"))
    (ewnf : PySem.W.notFirst K C (.type "tuple") = true)
    (ekf : PySem.W.findIn K (.ref CK) "__eq__" = some (some (.ref fek)))
    (eki : PySem.W.isFn K (.ref fek) = true)
    (ekl : K.lookup fek = some ⟨ocek, odek, .func (PySem.W.fnOf "__eq__" "Keeper.__eq__" (defArgs sEqK) (defBody sEqK) (defScope sEqK) .none kVek dcek pmek anek cdek ctek), slek⟩)
    (ekc : PySem.W.codeIn K cdek "Keeper.__eq__" = true)
    (ekk : PySem.W.keepIn K (.ref fek) = true)
    (ekha : PySem.W.findIn K (.ref CK) "__class__" = some (some (.builtin "object.__class__")))
    (ekhn : PySem.W.specialIn K (.builtin "object.__class__") "__get__" = some (some (.builtin "getset_descriptor.__get__")))
    (ekht : PySem.W.takesIn K (.builtin "object.__class__") = some true)
    (ekhm : PySem.W.mroIn K CK (.type "object") = some true)
    (ekis : PySem.W.isClsIn K CK = true)
    (ekty : PySem.W.typeIn K (.ref CK) = some (.type "type"))
    (eknf : PySem.W.notFirst K CK (.type "tuple") = true)
    (wN : PySem.W.nsIn K mainGlobals "BadKeeper" = some (some (.ref CB)))
    (wl : K.lookup CB = some (PySem.excClassObj nmB qB CB NB bsB bmB true snB subB abB colB ddB k0B k1B k2B k3B k5B "ValueError.__new__"))
    (wbm : PySem.HandSPX.refsVE bmB = true)
    (wi : PySem.W.findIn K (.ref CB) "__init__" = some (some (.ref fB)))
    (wt : PySem.W.typeIn K (.ref fB) = some (.type "function"))
    (wk : PySem.W.keepIn K (.ref CB) = true)
    (wb : PySem.W.subIn K (.ref CB) (.type "BaseException") = some true)
    (wy : PySem.W.typeIn K (.ref CB) = some (.type "type"))
    (ws : PySem.W.subIn K (.ref CB) (.ref CB) = some true)
    (wz : PySem.W.isClsIn K CB = true)
    (wsa : PySem.W.findIn K (.ref CB) "__setattr__" = some (some (.builtin "object.__setattr__")))
    (wp : PySem.W.findIn K (.ref CB) "part" = some none)
    (wga : PySem.W.findIn K (.ref CB) "__getattribute__" = some (some (.builtin "BaseException.__getattribute__")))
    (wgg : PySem.W.findIn K (.ref CB) "__getattr__" = some none)
    (whd : PySem.W.hasDictIn K CB = true)
    (wf : K.lookup fB = some ⟨ocB, odB, .func (PySem.W.fnOf "__init__" "BadKeeper.__init__" (defArgs sPart) (defBody sPart) (defScope sPart) .none kVB dcB pmB anB cdB ctB), slB⟩)
    (wc : PySem.W.codeIn K cdB "BadKeeper.__init__" = true)
    (wkf : PySem.W.keepIn K (.ref fB) = true)
    (knt : PySem.W.subIn K (.type "tuple") (.ref CK) = some false)
    (zn_zip : PySem.W.nsIn K mainGlobals "zip" = some none)
    (zn_all : PySem.W.nsIn K mainGlobals "all" = some none)
    (z_len : PySem.W.nsIn K mainGlobals "len" = some none)
    (z_int : PySem.W.nsIn K mainGlobals "int" = some none)
    (z_list : PySem.W.nsIn K mainGlobals "list" = some none)
    (z_range : PySem.W.nsIn K mainGlobals "range" = some none)
    (z_min : PySem.W.nsIn K mainGlobals "min" = some none)
    (z_max : PySem.W.nsIn K mainGlobals "max" = some none)
    (z_tuple : PySem.W.nsIn K mainGlobals "tuple" = some none)
    (z_sorted : PySem.W.nsIn K mainGlobals "sorted" = some none)
    (z_set : PySem.W.nsIn K mainGlobals "set" = some none)
    (z_isinstance : PySem.W.nsIn K mainGlobals "isinstance" = some none)
    (z_enumerate : PySem.W.nsIn K mainGlobals "enumerate" = some none)
    (z_bool : PySem.W.nsIn K mainGlobals "bool" = some none)
    : ∃ fd : FuncData, (∀ (s : Shared) (v : Value), BindsTo s fd ⟨[v], []⟩ [("script", v)]) ∧ ∀ base : Heap, K.In base → base.Ns mainGlobals mg → FnOk l.prog w K mg base CX0 10 fa fd ["script"] (spLaw K) := by
  have e := hfa.symm.trans (PySem.W.mg_of X G a37)
  cases e
  have B : Bts mg := ⟨PySem.W.mg_none_of X G z_len, PySem.W.mg_none_of X G z_int, PySem.W.mg_none_of X G z_list, PySem.W.mg_none_of X G z_range, PySem.W.mg_none_of X G z_min, PySem.W.mg_none_of X G z_max, PySem.W.mg_none_of X G z_tuple, PySem.W.mg_none_of X G z_sorted, PySem.W.mg_none_of X G z_set, PySem.W.mg_none_of X G z_isinstance, PySem.W.mg_none_of X G z_enumerate, PySem.W.mg_none_of X G z_bool⟩
  have T : WTxt K mg C := ⟨⟨w_pg, w_hd, w_po, w_sa⟩, w_n0, w_n1, w_n2, PySem.W.mg_of X G w_aC, ⟨tmW, PySem.W.mg_of X G w_aO⟩⟩
  have FM := fun_mk (st := sWeb) w_lM w_cM w_kM
  have bM := FM.binds (ps := ["self", "many", "ties"]) fun _ _ _ _ _ _ us hl => match us, hl with | [_, _, _], _ => rfl
  have F0 := fun_mk (st := sPlain) l0 c0 k0
  have D_is_plain_int : Df K mg "is_plain_int" sPlain ["thing"] f0 _ := ⟨F0, PySem.W.mg_of X G a0, F0.binds (ps := ["thing"]) fun _ _ _ _ _ _ us hl => match us, hl with | [_], _ => rfl⟩
  have F1 := fun_mk (st := sNum) l1 c1 k1
  have D_is_number_below : Df K mg "is_number_below" sNum ["limit", "thing"] f1 _ := ⟨F1, PySem.W.mg_of X G a1, F1.binds (ps := ["limit", "thing"]) fun _ _ _ _ _ _ us hl => match us, hl with | [_, _], _ => rfl⟩
  have F2 := fun_mk (st := sAsc) l2 c2 k2
  have D_is_ascending : Df K mg "is_ascending" sAsc ["things"] f2 _ := ⟨F2, PySem.W.mg_of X G a2, F2.binds (ps := ["things"]) fun _ _ _ _ _ _ us hl => match us, hl with | [_], _ => rfl⟩
  have F3 := fun_mk (st := sTie) l3 c3 k3
  have D_is_tie : Df K mg "is_tie" sTie ["many", "thing"] f3 _ := ⟨F3, PySem.W.mg_of X G a3, F3.binds (ps := ["many", "thing"]) fun _ _ _ _ _ _ us hl => match us, hl with | [_, _], _ => rfl⟩
  have F4 := fun_mk (st := sFirst) l4 c4 k4
  have D_first_wrong_tie : Df K mg "first_wrong_tie" sFirst ["many", "ties"] f4 _ := ⟨F4, PySem.W.mg_of X G a4, F4.binds (ps := ["many", "ties"]) fun _ _ _ _ _ _ us hl => match us, hl with | [_, _], _ => rfl⟩
  have F5 := fun_mk (st := sBeside) l5 c5 k5
  have D_houses_beside : Df K mg "houses_beside" sBeside ["many", "ties"] f5 _ := ⟨F5, PySem.W.mg_of X G a5, F5.binds (ps := ["many", "ties"]) fun _ _ _ _ _ _ us hl => match us, hl with | [_, _], _ => rfl⟩
  have F6 := fun_mk (st := sSteps) l6 c6 k6
  have D_steps_from : Df K mg "steps_from" sSteps ["beside", "start"] f6 _ := ⟨F6, PySem.W.mg_of X G a6, F6.binds (ps := ["beside", "start"]) fun _ _ _ _ _ _ us hl => match us, hl with | [_, _], _ => rfl⟩
  have F7 := fun_mk (st := sNbr) l7 c7 k7
  have D_neighbours : Df K mg "neighbours" sNbr ["web", "house"] f7 _ := ⟨F7, PySem.W.mg_of X G a7, F7.binds (ps := ["web", "house"]) fun _ _ _ _ _ _ us hl => match us, hl with | [_, _], _ => rfl⟩
  have F8 := fun_mk (st := sIsNb) l8 c8 k8
  have D_is_neighbour : Df K mg "is_neighbour" sIsNb ["web", "house", "thing"] f8 _ := ⟨F8, PySem.W.mg_of X G a8, F8.binds (ps := ["web", "house", "thing"]) fun _ _ _ _ _ _ us hl => match us, hl with | [_, _, _], _ => rfl⟩
  have F9 := fun_mk (st := sAreP) l9 c9 k9
  have D_are_parents : Df K mg "are_parents" sAreP ["web", "thing"] f9 _ := ⟨F9, PySem.W.mg_of X G a9, F9.binds (ps := ["web", "thing"]) fun _ _ _ _ _ _ us hl => match us, hl with | [_, _], _ => rfl⟩
  have F10 := fun_mk (st := sUp) l10 c10 k10
  have D_way_up : Df K mg "way_up" sUp ["parents", "house"] f10 _ := ⟨F10, PySem.W.mg_of X G a10, F10.binds (ps := ["parents", "house"]) fun _ _ _ _ _ _ us hl => match us, hl with | [_, _], _ => rfl⟩
  have F11 := fun_mk (st := sLds) l11 c11 k11
  have D_leaders_by : Df K mg "leaders_by" sLds ["parents"] f11 _ := ⟨F11, PySem.W.mg_of X G a11, F11.binds (ps := ["parents"]) fun _ _ _ _ _ _ us hl => match us, hl with | [_], _ => rfl⟩
  have F12 := fun_mk (st := sChild) l12 c12 k12
  have D_children_by : Df K mg "children_by" sChild ["parents"] f12 _ := ⟨F12, PySem.W.mg_of X G a12, F12.binds (ps := ["parents"]) fun _ _ _ _ _ _ us hl => match us, hl with | [_], _ => rfl⟩
  have F13 := fun_mk (st := sCross) l13 c13 k13
  have D_crossed_by : Df K mg "crossed_by" sCross ["leaders", "tie"] f13 _ := ⟨F13, PySem.W.mg_of X G a13, F13.binds (ps := ["leaders", "tie"]) fun _ _ _ _ _ _ us hl => match us, hl with | [_, _], _ => rfl⟩
  have F14 := fun_mk (st := sLeast) l14 c14 k14
  have D_least_ties : Df K mg "least_ties" sLeast ["web", "leaders"] f14 _ := ⟨F14, PySem.W.mg_of X G a14, F14.binds (ps := ["web", "leaders"]) fun _ _ _ _ _ _ us hl => match us, hl with | [_, _], _ => rfl⟩
  have F15 := fun_mk (st := sAreC) l15 c15 k15
  have D_are_chosen : Df K mg "are_chosen" sAreC ["web", "leaders", "thing"] f15 _ := ⟨F15, PySem.W.mg_of X G a15, F15.binds (ps := ["web", "leaders", "thing"]) fun _ _ _ _ _ _ us hl => match us, hl with | [_, _, _], _ => rfl⟩
  have F16 := fun_mk (st := sIsK) l16 c16 k16
  have D_is_keeper : Df K mg "is_keeper" sIsK ["web", "thing"] f16 _ := ⟨F16, PySem.W.mg_of X G a16, F16.binds (ps := ["web", "thing"]) fun _ _ _ _ _ _ us hl => match us, hl with | [_, _], _ => rfl⟩
  have F17 := fun_mk (st := sHand) l17 c17 k17
  have D__law_hand : Df K mg "_law_hand" sHand ["script"] f17 _ := ⟨F17, PySem.W.mg_of X G a17, F17.binds (ps := ["script"]) fun _ _ _ _ _ _ us hl => match us, hl with | [_], _ => rfl⟩
  have F18 := fun_mk (st := sDraw) l18 c18 k18
  have D__law_draw : Df K mg "_law_draw" sDraw ["hand", "many"] f18 _ := ⟨F18, PySem.W.mg_of X G a18, F18.binds (ps := ["hand", "many"]) fun _ _ _ _ _ _ us hl => match us, hl with | [_, _], _ => rfl⟩
  have F19 := fun_mk (st := sIs) l19 c19 k19
  have D__law_is : Df K mg "_law_is" sIs ["told", "due"] f19 _ := ⟨F19, PySem.W.mg_of X G a19, F19.binds (ps := ["told", "due"]) fun _ _ _ _ _ _ us hl => match us, hl with | [_, _], _ => rfl⟩
  have F20 := fun_mk (st := sDeep) l20 c20 k20
  have D__law_deep : Df K mg "_law_deep" sDeep ["hand"] f20 _ := ⟨F20, PySem.W.mg_of X G a20, F20.binds (ps := ["hand"]) fun _ _ _ _ _ _ us hl => match us, hl with | [_], _ => rfl⟩
  have F21 := fun_mk (st := sLNum) l21 c21 k21
  have D__law_number : Df K mg "_law_number" sLNum ["thing", "least", "most"] f21 _ := ⟨F21, PySem.W.mg_of X G a21, F21.binds (ps := ["thing", "least", "most"]) fun _ _ _ _ _ _ us hl => match us, hl with | [_, _, _], _ => rfl⟩
  have F22 := fun_mk (st := sLWeb) l22 c22 k22
  have D__law_web : Df K mg "_law_web" sLWeb ["hand", "most"] f22 _ := ⟨F22, PySem.W.mg_of X G a22, F22.binds (ps := ["hand", "most"]) fun _ _ _ _ _ _ us hl => match us, hl with | [_, _], _ => rfl⟩
  have F23 := fun_mk (st := sLBes) l23 c23 k23
  have D__law_beside : Df K mg "_law_beside" sLBes ["web", "house"] f23 _ := ⟨F23, PySem.W.mg_of X G a23, F23.binds (ps := ["web", "house"]) fun _ _ _ _ _ _ us hl => match us, hl with | [_, _], _ => rfl⟩
  have F24 := fun_mk (st := sOff) l24 c24 k24
  have D__law_off : Df K mg "_law_off" sOff ["web", "house", "left"] f24 _ := ⟨F24, PySem.W.mg_of X G a24, F24.binds (ps := ["web", "house", "left"]) fun _ _ _ _ _ _ us hl => match us, hl with | [_, _, _], _ => rfl⟩
  have F25 := fun_mk (st := sLLd) l25 c25 k25
  have D__law_leader : Df K mg "_law_leader" sLLd ["parents", "house"] f25 _ := ⟨F25, PySem.W.mg_of X G a25, F25.binds (ps := ["parents", "house"]) fun _ _ _ _ _ _ us hl => match us, hl with | [_, _], _ => rfl⟩
  have F26 := fun_mk (st := sBtw) l26 c26 k26
  have D__law_between : Df K mg "_law_between" sBtw ["web", "parents"] f26 _ := ⟨F26, PySem.W.mg_of X G a26, F26.binds (ps := ["web", "parents"]) fun _ _ _ _ _ _ us hl => match us, hl with | [_, _], _ => rfl⟩
  have F27 := fun_mk (st := sLLt) l27 c27 k27
  have D__law_least_ties : Df K mg "_law_least_ties" sLLt ["web", "parents"] f27 _ := ⟨F27, PySem.W.mg_of X G a27, F27.binds (ps := ["web", "parents"]) fun _ _ _ _ _ _ us hl => match us, hl with | [_, _], _ => rfl⟩
  have F28 := fun_mk (st := sHung) l28 c28 k28
  have D__law_hung : Df K mg "_law_hung" sHung ["web", "off", "house", "lot"] f28 _ := ⟨F28, PySem.W.mg_of X G a28, F28.binds (ps := ["web", "off", "house", "lot"]) fun _ _ _ _ _ _ us hl => match us, hl with | [_, _, _, _], _ => rfl⟩
  have F29 := fun_mk (st := sGrown) l29 c29 k29
  have D__law_grown : Df K mg "_law_grown" sGrown ["web", "factor"] f29 _ := ⟨F29, PySem.W.mg_of X G a29, F29.binds (ps := ["web", "factor"]) fun _ _ _ _ _ _ us hl => match us, hl with | [_, _], _ => rfl⟩
  have F30 := fun_mk (st := sLKeep) l30 c30 k30
  have D__law_keeper : Df K mg "_law_keeper" sLKeep ["hand", "web"] f30 _ := ⟨F30, PySem.W.mg_of X G a30, F30.binds (ps := ["hand", "web"]) fun _ _ _ _ _ _ us hl => match us, hl with | [_, _], _ => rfl⟩
  have F31 := fun_mk (st := sLAreP) l31 c31 k31
  have D__law_are_parents : Df K mg "_law_are_parents" sLAreP ["web", "thing"] f31 _ := ⟨F31, PySem.W.mg_of X G a31, F31.binds (ps := ["web", "thing"]) fun _ _ _ _ _ _ us hl => match us, hl with | [_, _], _ => rfl⟩
  have F32 := fun_mk (st := sLAreC) l32 c32 k32
  have D__law_are_chosen : Df K mg "_law_are_chosen" sLAreC ["web", "parents", "thing"] f32 _ := ⟨F32, PySem.W.mg_of X G a32, F32.binds (ps := ["web", "parents", "thing"]) fun _ _ _ _ _ _ us hl => match us, hl with | [_, _, _], _ => rfl⟩
  have F33 := fun_mk (st := sMade) l33 c33 k33
  have D__law_made : Df K mg "_law_made" sMade ["web", "parents", "chosen"] f33 _ := ⟨F33, PySem.W.mg_of X G a33, F33.binds (ps := ["web", "parents", "chosen"]) fun _ _ _ _ _ _ us hl => match us, hl with | [_, _, _], _ => rfl⟩
  have F34 := fun_mk (st := sBentP) l34 c34 k34
  have D__law_bent_parents : Df K mg "_law_bent_parents" sBentP ["hand", "web", "parents"] f34 _ := ⟨F34, PySem.W.mg_of X G a34, F34.binds (ps := ["hand", "web", "parents"]) fun _ _ _ _ _ _ us hl => match us, hl with | [_, _, _], _ => rfl⟩
  have F35 := fun_mk (st := sBentC) l35 c35 k35
  have D__law_bent_chosen : Df K mg "_law_bent_chosen" sBentC ["hand", "web", "chosen"] f35 _ := ⟨F35, PySem.W.mg_of X G a35, F35.binds (ps := ["hand", "web", "chosen"]) fun _ _ _ _ _ _ us hl => match us, hl with | [_, _, _], _ => rfl⟩
  have F36 := fun_mk (st := sDue) l36 c36 k36
  have D__law_is_due : Df K mg "_law_is_due" sDue ["web", "told_web", "parents", "chosen"] f36 _ := ⟨F36, PySem.W.mg_of X G a36, F36.binds (ps := ["web", "told_web", "parents", "chosen"]) fun _ _ _ _ _ _ us hl => match us, hl with | [_, _, _, _], _ => rfl⟩
  have DD : WDefs K mg := ⟨_, _, D_is_plain_int, _, _, D_is_number_below, _, _, D_is_tie, _, _, D_first_wrong_tie, _, _, D_houses_beside, _, _, D_steps_from⟩
  have GG : GDefs K mg := ⟨_, _, D_neighbours, _, _, D_is_neighbour, _, _, D_are_parents, _, _, D_way_up, _, _, D_leaders_by, _, _, D_children_by, _, _, D_crossed_by, _, _, D_least_ties, _, _, D_is_ascending, _, _, D_are_chosen⟩
  have II : IDefs K mg := ⟨_, _, D__law_is, _, _, D__law_number, _, _, D__law_beside, _, _, D__law_leader, _, _, D__law_between, _, _, D__law_are_parents, _, _, D__law_are_chosen, _, _, D__law_made, _, _, D_is_keeper⟩
  have NN : NDefs K mg := ⟨_, _, D__law_draw, _, _, D__law_off, _, _, D__law_hung, _, _, D__law_grown, _, _, D__law_beside, _, _, D__law_between, _, _, D__law_leader, _, _, D__law_least_ties⟩
  have UU : UDefs K mg := ⟨_, _, D__law_hand, _, _, D__law_web, _, _, D__law_keeper, _, _, D__law_deep, _, _, D__law_bent_parents, _, _, D__law_bent_chosen, _, _, D__law_is_due⟩
  have TK : KTxt K mg CK := ⟨⟨q_pg, q_hd, q_po, q_sa⟩, q_n0, q_n1, q_n2, q_n3, q_n4, q_n5, PySem.W.mg_of X G q_aC⟩
  have FK := fun_mk (st := sKeep) q_lM q_cM q_kM
  have bK := FK.binds (ps := ["self", "web", "parents", "chosen"]) fun _ _ _ _ _ _ us hl => match us, hl with | [_, _, _, _], _ => rfl
  have FB0 := fun_mk (st := sPart) wf wc wkf
  have BT : BTxt K mg CB fB _ := ⟨⟨⟨nmB, qB, NB, bsB, bmB, snB, subB, abB, colB, ddB, k0B, k1B, k2B, k3B, k5B, wl, wbm⟩, wsa, wb, wy, wk⟩, wi, wt, FB0, FB0.binds (ps := ["self", "part"]) (fun _ _ _ _ _ _ us hl => match us, hl with | [_, _], _ => rfl), wp, PySem.W.mg_of X G wN, exm_me wb wz wy ws, ⟨wga, wgg, wb, whd⟩⟩
  have Few := fun_mk (st := sEqW) ewl ewc ewk
  have EQ1 : EqC K "Web.__eq__" sEqW C few _ := ⟨ewf, ewi, Few, Few.binds (ps := ["self", "other"]) (fun _ _ _ _ _ _ us hl => match us, hl with | [_, _], _ => rfl), ewha, ewhn, ewht, ewhm, ewis, ewty, ewnf⟩
  have Fek := fun_mk (st := sEqK) ekl ekc ekk
  have EQ2 : EqC K "Keeper.__eq__" sEqK CK fek _ := ⟨ekf, eki, Fek, Fek.binds (ps := ["self", "other"]) (fun _ _ _ _ _ _ us hl => match us, hl with | [_, _], _ => rfl), ekha, ekhn, ekht, ekhm, ekis, ekty, eknf⟩
  exact ⟨PySem.W.fnOf "law" "law" (defArgs sLaw) (defBody sLaw) (defScope sLaw) .none kV37 dc37 pm37 an37 cd37 ct37, fun s v => .of_eq rfl, fun base _ _ =>
    ok_law (fun_mk (st := sLaw) l37 c37 k37) B (PySem.W.mg_none_of X G zn_zip) (PySem.W.mg_none_of X G zn_all) T ⟨w_mk, w_aM, w_iM, w_kc⟩ FM bM TK ⟨q_mk, q_aM, q_iM, q_kc⟩ FK bK BT EQ1 EQ2 knt DD GG II NN UU⟩
theorem walk {l : PySem.W.OpenLaw} {q : Program} {loose : List Str} {XP : (Str → Option Value) → Heap → Prop} {YP : World → Heap → Prop} {d : DefRec} {K : Params → PySem.W.Frag} (hn : l.most = some 63) (hdf : d.params.defaults = [])
    (hY : ∀ (w : World) (h : Heap), YP w h → (K w.params).In h)
    (F : ∀ (w : World) (mg : Str → Option Value) (fa : Addr) (h : Heap), (K w.params).In h → h.Ns mainGlobals mg → mg d.name = some (.ref fa) →
      ∃ fd : FuncData, (∀ (s : Shared) (u : Value), BindsTo s fd ⟨[u], []⟩ [("script", u)]) ∧ ∀ base : Heap, (K w.params).In base → base.Ns mainGlobals mg → FnOk l.prog w (K w.params) mg base CX0 10 fa fd ["script"] (spLaw (K w.params))) :
    PySem.W.WalkO q loose XP YP l.row.toRowW d [] (fun f vs => PySem.call f vs) :=
  L2.walk_of (n := 63) (k := 10) (x := "script") (CX := fun _ => CX0) (sp := fun w => spLaw (K w.params)) hn (by decide) hdf ⟨rfl, by decide, by decide⟩ hY F (fun _ _ a ns hl _ hS => ⟨a, ns, rfl, hS, hl, fun _ => rfl⟩) fun _ _ _ _ _ z => z
end Q
open PySem PySem.W PyProof.Rows in
set_option maxRecDepth 100000 in
set_option maxHeartbeats 0 in
theorem PySem.Challenge.cw_sameround_k11_whole_keepers_judged_holds : PySem.Challenge.rw_sameround_k11_whole_keepers_judged.Holds := by
  w_on; o_law; k_head; (case hw => w_witness2)
  k_fill
  refine Q.walk (l := PySem.Challenge.rw_sameround_k11_whole_keepers_judged) rfl rfl (fun w h Y => PySem.W.kIn_of Y) ?F
  case F =>
    intro w mg fa h KX G hmg
    refine' Q.all_mk KX G hmg ?w_aC ?w_aM ?w_iM ?w_lM ?w_cM ?w_kM ?w_pg ?w_hd ?w_po ?w_sa ?w_mk ?w_kc ?w_aO ?w_n0 ?w_n1 ?w_n2 ?a0 ?l0 ?c0 ?k0 ?a1 ?l1 ?c1 ?k1 ?a2 ?l2 ?c2 ?k2 ?a3 ?l3 ?c3 ?k3 ?a4 ?l4 ?c4 ?k4 ?a5 ?l5 ?c5 ?k5 ?a6 ?l6 ?c6 ?k6 ?a7 ?l7 ?c7 ?k7 ?a8 ?l8 ?c8 ?k8 ?a9 ?l9 ?c9 ?k9 ?a10 ?l10 ?c10 ?k10 ?a11 ?l11 ?c11 ?k11 ?a12 ?l12 ?c12 ?k12 ?a13 ?l13 ?c13 ?k13 ?a14 ?l14 ?c14 ?k14 ?a15 ?l15 ?c15 ?k15 ?a16 ?l16 ?c16 ?k16 ?a17 ?l17 ?c17 ?k17 ?a18 ?l18 ?c18 ?k18 ?a19 ?l19 ?c19 ?k19 ?a20 ?l20 ?c20 ?k20 ?a21 ?l21 ?c21 ?k21 ?a22 ?l22 ?c22 ?k22 ?a23 ?l23 ?c23 ?k23 ?a24 ?l24 ?c24 ?k24 ?a25 ?l25 ?c25 ?k25 ?a26 ?l26 ?c26 ?k26 ?a27 ?l27 ?c27 ?k27 ?a28 ?l28 ?c28 ?k28 ?a29 ?l29 ?c29 ?k29 ?a30 ?l30 ?c30 ?k30 ?a31 ?l31 ?c31 ?k31 ?a32 ?l32 ?c32 ?k32 ?a33 ?l33 ?c33 ?k33 ?a34 ?l34 ?c34 ?k34 ?a35 ?l35 ?c35 ?k35 ?a36 ?l36 ?c36 ?k36 ?a37 ?l37 ?c37 ?k37 ?q_aC ?q_aM ?q_iM ?q_lM ?q_cM ?q_kM ?q_pg ?q_hd ?q_po ?q_sa ?q_mk ?q_kc ?q_n0 ?q_n1 ?q_n2 ?q_n3 ?q_n4 ?q_n5 ?ewf ?ewi ?ewl ?ewc ?ewk ?ewha ?ewhn ?ewht ?ewhm ?ewis ?ewty ?ewnf ?ekf ?eki ?ekl ?ekc ?ekk ?ekha ?ekhn ?ekht ?ekhm ?ekis ?ekty ?eknf ?wN ?wl ?wbm ?wi ?wt ?wk ?wb ?wy ?ws ?wz ?wsa ?wp ?wga ?wgg ?whd ?wf ?wc ?wkf ?knt ?zn_zip ?zn_all ?z_len ?z_int ?z_list ?z_range ?z_min ?z_max ?z_tuple ?z_sorted ?z_set ?z_isinstance ?z_enumerate ?z_bool
    (case w_aC => k_is)
    (case w_aM => k_is)
    (case w_iM => k_is)
    (case w_lM => k_is)
    (case w_cM => k_is)
    (case w_kM => k_is)
    (case w_pg => k_is)
    (case w_hd => k_is)
    (case w_po => k_is)
    (case w_sa => k_is)
    (case w_mk => k_is)
    (case w_kc => k_is)
    (case w_aO => k_is)
    (case w_n0 => k_is)
    (case w_n1 => k_is)
    (case w_n2 => k_is)
    (case a0 => k_is)
    (case l0 => k_is)
    (case c0 => k_is)
    (case k0 => k_is)
    (case a1 => k_is)
    (case l1 => k_is)
    (case c1 => k_is)
    (case k1 => k_is)
    (case a2 => k_is)
    (case l2 => k_is)
    (case c2 => k_is)
    (case k2 => k_is)
    (case a3 => k_is)
    (case l3 => k_is)
    (case c3 => k_is)
    (case k3 => k_is)
    (case a4 => k_is)
    (case l4 => k_is)
    (case c4 => k_is)
    (case k4 => k_is)
    (case a5 => k_is)
    (case l5 => k_is)
    (case c5 => k_is)
    (case k5 => k_is)
    (case a6 => k_is)
    (case l6 => k_is)
    (case c6 => k_is)
    (case k6 => k_is)
    (case a7 => k_is)
    (case l7 => k_is)
    (case c7 => k_is)
    (case k7 => k_is)
    (case a8 => k_is)
    (case l8 => k_is)
    (case c8 => k_is)
    (case k8 => k_is)
    (case a9 => k_is)
    (case l9 => k_is)
    (case c9 => k_is)
    (case k9 => k_is)
    (case a10 => k_is)
    (case l10 => k_is)
    (case c10 => k_is)
    (case k10 => k_is)
    (case a11 => k_is)
    (case l11 => k_is)
    (case c11 => k_is)
    (case k11 => k_is)
    (case a12 => k_is)
    (case l12 => k_is)
    (case c12 => k_is)
    (case k12 => k_is)
    (case a13 => k_is)
    (case l13 => k_is)
    (case c13 => k_is)
    (case k13 => k_is)
    (case a14 => k_is)
    (case l14 => k_is)
    (case c14 => k_is)
    (case k14 => k_is)
    (case a15 => k_is)
    (case l15 => k_is)
    (case c15 => k_is)
    (case k15 => k_is)
    (case a16 => k_is)
    (case l16 => k_is)
    (case c16 => k_is)
    (case k16 => k_is)
    (case a17 => k_is)
    (case l17 => k_is)
    (case c17 => k_is)
    (case k17 => k_is)
    (case a18 => k_is)
    (case l18 => k_is)
    (case c18 => k_is)
    (case k18 => k_is)
    (case a19 => k_is)
    (case l19 => k_is)
    (case c19 => k_is)
    (case k19 => k_is)
    (case a20 => k_is)
    (case l20 => k_is)
    (case c20 => k_is)
    (case k20 => k_is)
    (case a21 => k_is)
    (case l21 => k_is)
    (case c21 => k_is)
    (case k21 => k_is)
    (case a22 => k_is)
    (case l22 => k_is)
    (case c22 => k_is)
    (case k22 => k_is)
    (case a23 => k_is)
    (case l23 => k_is)
    (case c23 => k_is)
    (case k23 => k_is)
    (case a24 => k_is)
    (case l24 => k_is)
    (case c24 => k_is)
    (case k24 => k_is)
    (case a25 => k_is)
    (case l25 => k_is)
    (case c25 => k_is)
    (case k25 => k_is)
    (case a26 => k_is)
    (case l26 => k_is)
    (case c26 => k_is)
    (case k26 => k_is)
    (case a27 => k_is)
    (case l27 => k_is)
    (case c27 => k_is)
    (case k27 => k_is)
    (case a28 => k_is)
    (case l28 => k_is)
    (case c28 => k_is)
    (case k28 => k_is)
    (case a29 => k_is)
    (case l29 => k_is)
    (case c29 => k_is)
    (case k29 => k_is)
    (case a30 => k_is)
    (case l30 => k_is)
    (case c30 => k_is)
    (case k30 => k_is)
    (case a31 => k_is)
    (case l31 => k_is)
    (case c31 => k_is)
    (case k31 => k_is)
    (case a32 => k_is)
    (case l32 => k_is)
    (case c32 => k_is)
    (case k32 => k_is)
    (case a33 => k_is)
    (case l33 => k_is)
    (case c33 => k_is)
    (case k33 => k_is)
    (case a34 => k_is)
    (case l34 => k_is)
    (case c34 => k_is)
    (case k34 => k_is)
    (case a35 => k_is)
    (case l35 => k_is)
    (case c35 => k_is)
    (case k35 => k_is)
    (case a36 => k_is)
    (case l36 => k_is)
    (case c36 => k_is)
    (case k36 => k_is)
    (case a37 => k_is)
    (case l37 => k_is)
    (case c37 => k_is)
    (case k37 => k_is)
    (case q_aC => k_is)
    (case q_aM => k_is)
    (case q_iM => k_is)
    (case q_lM => k_is)
    (case q_cM => k_is)
    (case q_kM => k_is)
    (case q_pg => k_is)
    (case q_hd => k_is)
    (case q_po => k_is)
    (case q_sa => k_is)
    (case q_mk => k_is)
    (case q_kc => k_is)
    (case q_n0 => k_is)
    (case q_n1 => k_is)
    (case q_n2 => k_is)
    (case q_n3 => k_is)
    (case q_n4 => k_is)
    (case q_n5 => k_is)
    (case ewf => k_is)
    (case ewi => k_is)
    (case ewl => k_is)
    (case ewc => k_is)
    (case ewk => k_is)
    (case ewha => k_is)
    (case ewhn => k_is)
    (case ewht => k_is)
    (case ewhm => k_is)
    (case ewis => k_is)
    (case ewty => k_is)
    (case ewnf => k_is)
    (case ekf => k_is)
    (case eki => k_is)
    (case ekl => k_is)
    (case ekc => k_is)
    (case ekk => k_is)
    (case ekha => k_is)
    (case ekhn => k_is)
    (case ekht => k_is)
    (case ekhm => k_is)
    (case ekis => k_is)
    (case ekty => k_is)
    (case eknf => k_is)
    (case wN => k_is)
    (case wl => k_is)
    (case wbm => decide +kernel)
    (case wi => k_is)
    (case wt => k_is)
    (case wk => k_is)
    (case wb => k_is)
    (case wy => k_is)
    (case ws => k_is)
    (case wz => k_is)
    (case wsa => k_is)
    (case wp => k_is)
    (case wga => k_is)
    (case wgg => k_is)
    (case whd => k_is)
    (case wf => k_is)
    (case wc => k_is)
    (case wkf => k_is)
    (case knt => k_is)
    (case zn_zip => k_is)
    (case zn_all => k_is)
    (case z_len => k_is)
    (case z_int => k_is)
    (case z_list => k_is)
    (case z_range => k_is)
    (case z_min => k_is)
    (case z_max => k_is)
    (case z_tuple => k_is)
    (case z_sorted => k_is)
    (case z_set => k_is)
    (case z_isinstance => k_is)
    (case z_enumerate => k_is)
    (case z_bool => k_is)

