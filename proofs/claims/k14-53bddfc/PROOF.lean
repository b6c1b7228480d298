import PyProof.Rows.All
import Wide.All
import OpenK.AllK
import Wide.FinOn
import HandS.ForMost
import HandS.Codes
import HandS.TupSets
import HandS.TupLe
import HandS.IsInst
import HandS.Wide
import HandS.SortRule
import PyProof.P3In
import KE.GoesMore
import PyProof.Draws
import PyProof.EnumMake
import HandS.SortInts
import HandS.Walk
import HandS.Zip
import HandS.DictTup
import HandS.DictSubView
import HandS.Conv
import KE.KDictWalk
import KE.KDictList
import HandS.WordsDict
import HandS.TupAny
import HandS.TupMul
import KE.DatumOrd
import KE.KTupSum
import HandS.SortKw
import HandS.CallLocal
import HandS.OwnEq
import HandS.ExcField
import HandS.ForExc
import HandS.ExcInit
import HandS.TryMany
import KE.KExcSuper
import KE.RegKSuper
import HandS.ExcIs
import HandS.Lambda
import HandS.EndOwn
import HandS.HotCalls
import KE.KIsAll
import KE.KExcIs
import PySem.Challenge.RW_sameround_k14_keepers_and_courses_refuse
set_option Elab.async false
set_option linter.all false
set_option maxRecDepth 100000
set_option maxHeartbeats 8000000
namespace Q
open PySem L2
def top (i : Nat) : Stmt := PySem.Challenge.pw_sameround_k14_keepers_and_courses_refuse.main.body.getD i (.Pass ⟨0, 0, 0, 0⟩)
abbrev sHand : Stmt := top 78
abbrev sDraw : Stmt := top 79
/-- what the built-in names still are -/
structure Bts (mg : Str → Option Value) : Prop where
  len : mg "len" = none
  int : mg "int" = none
  list : mg "list" = none
  range : mg "range" = none
  min : mg "min" = none
  max : mg "max" = none
  tuple : mg "tuple" = none
  sorted : mg "sorted" = none
  set : mg "set" = none
  isinstance : mg "isinstance" = none
  enumerate : mg "enumerate" = none
  bool : mg "bool" = none

def HL (l : Addr) (i : Nat) (r s c : Int) : List V := [.ref l, .int (i : Int), .int r, .int s, .int c]
/-- the drawing hand at p -/
structure HandX (H : Hp) (p l : Addr) (ns : List Int) (i : Nat) (r s c : Int) : Prop where
  at_ : H p = some (.lst (HL l i r s c))
  lst : H l = some (.lst (ns.map V.int))
  len : ns.length ≤ 63
  r0 : 0 ≤ r
  s0 : 0 ≤ s
  s1 : s < 2147483647
def HandAt (H : Hp) (p l : Addr) : Prop := ∃ ns i r s c, HandX H p l ns i r s c
/-- nothing is otherwise but at p -/
def But (p : Addr) (H H' : Hp) : Prop := ∀ b, b ≠ p → H' b = H b
theorem But.rfl' {p : Addr} {H : Hp} : But p H H := fun _ _ => rfl
theorem But.upd {p : Addr} {H H' : Hp} {o : HO} (h : But p H H') : But p H (upd H' p o) := fun b hb => by rw [upd_ne hb]; exact h b hb
theorem But.trans {p : Addr} {H H1 H2 : Hp} (h : But p H H1) (g : But p H1 H2) : But p H H2 := fun b hb => (g b hb).trans (h b hb)
theorem HandX.np {H : Hp} {p l : Addr} {ns : List Int} {i : Nat} {r s c : Int} (h : HandX H p l ns i r s c) : l ≠ p := fun e => by
  have h1 := h.at_
  rw [← e, h.lst] at h1
  have h2 := HO.lst.inj (Option.some.inj h1)
  cases ns with
  | nil => exact absurd h2 (by simp [HL])
  | cons a t =>
    rw [List.map_cons] at h2
    exact V.noConfusion (List.cons.inj h2).1
theorem HandX.put {H H' : Hp} {p l : Addr} {ns : List Int} {i i' : Nat} {r s c r' s' c' : Int} (h : HandX H p l ns i r s c) (e : H' p = some (.lst (HL l i' r' s' c'))) (b : But p H H') (h0 : 0 ≤ r') (h1 : 0 ≤ s') (h2 : s' < 2147483647) : HandX H' p l ns i' r' s' c' :=
  ⟨e, by rw [b l h.np]; exact h.lst, h.len, h0, h1, h2⟩
def spHand (K : PySem.W.Frag) : Sp := fun vs H Q _ => ∃ (a : Addr) (ns : List Int), vs = [.ref a] ∧ SqL K H a (ns.map V.int) ∧ ns.length ≤ 63 ∧
  ∀ (p l : Addr) (H' : Hp), HandAt H' p l → H p = none → H l = none → Same H H' → Q (.ref p) H'
def spDraw : Sp := fun vs H Q _ => ∃ (p l : Addr) (m : Int), vs = [.ref p, .int m] ∧ HandAt H p l ∧ 0 < m ∧ m < 1099511627776 ∧ ∀ (d : Int) (H' : Hp), 0 ≤ d → d < m → HandAt H' p l → But p H H' → Q (.int d) H'
section
variable {P : Program} {w : World} {K : PySem.W.Frag} {mg : Str → Option Value} {base : Heap}
theorem sT0 {H H1 H2 : Hp} (a : Same H H1) (b : Same H1 H2) : Same H H2 := fun c o h => b c o (a c o h)
theorem cut_most (xs : List V) {n : Nat} (h : xs.length ≤ n) : cutV xs none (some (n : Int)) = xs := by
  unfold cutV
  rw [HT.sIx_nat, HT.sIx_none, Nat.min_eq_right h, Nat.sub_zero]
  show (xs.drop 0).take xs.length = xs
  rw [List.drop_zero]
  exact List.take_length
theorem scHand : FnScope ["script", "cell"] ["script"] (defScope sHand) := ⟨rfl, rfl, rfl, by decide +kernel, rfl, by decide +kernel, by decide +kernel⟩
theorem ok_hand {f : Addr} {fd : FuncData} (F : Fun K "_law_hand" "_law_hand" sHand f fd) (B : Bts mg) : FnOk P w K mg base CX0 1 f fd ["script"] (spHand K) := by
  refine F.ok scHand (fun vs H Q E h => ?_) (fun cdv A outer s H vs Q E hr h => ?_)
  · obtain ⟨a, ns, rfl, _⟩ := h
    rfl
  · obtain ⟨a, ns, rfl, hS, hlen, k⟩ := h
    have nd := scHand.nd
    have hc63 : cutV (ns.map V.int) none (some 63) = ns.map V.int := cut_most _ (n := 63) (by rw [List.length_map]; omega)
    refine ⟨_, pss_one (ps_ret (pe_lst (pa_cons (pe_lc (own := [("cell", 1)]) (g := gName 1) (tt := tYes) rfl nd (pi_list (pe_slice sl_list (pv 0) po_none (po_some pe_int)))
        (blkOk_by (N := ["script", "cell"]) (sc := defScope sHand) (by decide +kernel)) (fun _ _ _ _ _ => pg_name (i := 1) nd rfl (.inl rfl)) (fun _ _ _ _ _ => pts_nil) (fun _ _ _ _ _ => pe_callTy call_int1 (by rfl) B.int PyProof.Rows.boot_int (pa_cons (pv 1) pa_nil)))
      (pa_cons pe_int (pa_cons pe_int (pa_cons (pe_op op_add pe_int (pe_callB call_len_seq (by rfl) B.len PySem.boot_len (pa_cons (pe_slice sl_list (pv 0) po_none (po_some pe_int)) pa_nil))) (pa_cons pe_int pa_nil))))))), ?_⟩
    refine ⟨_, rfl, 63, rfl, a, _, rfl, hS, fun t ht => ?_⟩
    rw [hc63]
    have sS : ∀ {H' : Hp}, Same H H' → SqL K H' a (ns.map V.int) := fun s => by
      rcases hS with (e | ⟨ob, e⟩) | k
      · exact .inl (.inl (s _ _ e))
      · exact .inl (.inr ⟨ob, s _ _ e⟩)
      · exact .inr k
    have s1 : Same H (upd H t (.lst (ns.map V.int))) := fun b o e => by rw [upd_ne (ne_of_none e ht)]; exact e
    have et : (upd H t (.lst (ns.map V.int))) t = some (.lst (ns.map V.int)) := upd_same
    revert s1 et
    generalize upd H t (.lst (ns.map V.int)) = H1
    intro s1 et
    refine ⟨t, rfl, ⟨_, SqL.of et⟩, fun l hl => lc_list (K := K) (a := t) (xs := ns.map V.int) (fun i H' => H' l = some (.lst ((ns.take i).map V.int)) ∧ Same H1 H') ?_ ?_ ?_ ?_⟩
    · exact ⟨upd_same, fun b o e => by rw [upd_ne (ne_of_none e hl)]; exact e⟩
    · rintro i H2 hi ⟨_, s2⟩
      exact SqL.of (s2 _ _ et)
    · rintro i x H2 hx ⟨el, s2⟩
      rw [List.getElem?_map] at hx
      obtain ⟨z, hz, rfl⟩ : ∃ z, ns[i]? = some z ∧ V.int z = x := by
        cases e : ns[i]? with
        | none => rw [e] at hx; cases hx
        | some z => rw [e] at hx; exact ⟨z, rfl, Option.some.inj hx⟩
      refine ⟨rfl, _, rfl, .inl ⟨z, rfl, _, el, ?_, ?_, ?_⟩⟩
      · rw [List.length_map, List.length_take]
        exact Nat.lt_of_le_of_lt (show min i ns.length ≤ 63 by omega) (by decide)
      · rw [upd_same, List.take_add_one, hz, List.map_append]
        rfl
      · intro b o e
        by_cases hb : b = l
        · rw [hb] at e
          rw [e] at hl
          cases hl
        · rw [upd_ne hb]
          exact s2 b o e
    · rintro H2 ⟨el, s2⟩
      rw [List.length_map, List.take_length] at el
      have s3 := sT0 s1 s2
      refine ⟨_, rfl, 63, rfl, a, _, rfl, sS s3, fun t2 ht2 => ?_⟩
      rw [hc63]
      refine ⟨t2, _, rfl, .inl (SqL.of upd_same), _, _, rfl, rfl, (by show 5 ≤ sizeLine; decide), fun p hp => ?_⟩
      have s4 := sT0 s3 (show Same H2 (upd H2 t2 (.lst (ns.map V.int))) from fun b o e => by rw [upd_ne (ne_of_none e ht2)]; exact e)
      have el4 : (upd H2 t2 (.lst (ns.map V.int))) l = some (.lst (ns.map V.int)) := by rw [upd_ne (ne_of_none el ht2)]; exact el
      have hl0 : H l = none := by
        cases z : H l with
        | none => rfl
        | some o => rw [s1 _ _ z] at hl; cases hl
      have hp0 : H p = none := by
        cases z : H p with
        | none => rfl
        | some o => rw [s4 _ _ z] at hp; cases hp
      have npl : p ≠ l := fun e => by rw [e, el4] at hp; cases hp
      have e63 : (1 : Int) + ((ns.map V.int).length : Int) = 1 + (ns.length : Int) := by rw [List.length_map]
      refine k p l _ ⟨ns, 0, 0, 1 + (ns.length : Int), 0, ?_, ?_, hlen, by decide, by omega, by omega⟩ hp0 hl0 fun b o e => ?_
      · rw [upd_same]
        show some (HO.lst [V.ref l, .int 0, .int 0, .int (1 + ((ns.map V.int).length : Int)), .int 0]) = _
        rw [e63]
        rfl
      · rw [upd_ne npl.symm]
        exact el4
      · rw [upd_ne (ne_of_none e hp0)]
        exact s4 _ _ e
theorem scDraw : FnScope ["hand", "many", "cell", "digit", "number"] ["hand", "many"] (defScope sDraw) := ⟨rfl, rfl, rfl, by decide +kernel, rfl, by decide +kernel, by decide +kernel⟩
theorem ok_draw {f : Addr} {fd : FuncData} (F : Fun K "_law_draw" "_law_draw" sDraw f fd) (B : Bts mg) : FnOk P w K mg base CX0 1 f fd ["hand", "many"] spDraw := by
  refine F.ok scDraw (fun vs H Q E h => ?_) (fun cdv A outer s H vs Q E hr h => ?_)
  · obtain ⟨p, l, m, rfl, _⟩ := h
    rfl
  · obtain ⟨p, l, m, rfl, ⟨ns, i, r, s, c, x1⟩, hm0, hm1, k⟩ := h
    have nd := scDraw.nd
    refine ⟨_, C8.pss_cut (ps_if (PW.pt (pw_and (pt_cmpR op_eq (pe_ix ix_list (pv 0) pe_int (fun _ _ => rfl)) pe_int (nomark _))
            (pw_and1 (pt_cmpR op_lt (pe_ix ix_list (pv 0) pe_int (fun _ _ => rfl)) (pe_callB call_len_seq (by rfl) B.len PySem.boot_len (pa_cons (pe_ix ix_list (pv 0) pe_int (fun _ _ => rfl)) pa_nil)) (nomark _)))))
          (pss_cons (ps_set (i := 2) nd rfl (.inl rfl) (pe_ix ix_list (pe_ix ix_list (pv 0) pe_int (fun _ _ => rfl)) (pe_ix ix_list (pv 0) pe_int (fun _ _ => rfl)) (fun _ _ => rfl)))
          (pss_cons (ps_asg (pe_op op_add (pe_ix ix_list (pv 0) pe_int (fun _ _ => rfl)) pe_int) (pg_sub (pv 0) pe_int set_list))
          (pss_cons (ps_asg (pe_op op_mod (pe_callTy call_int1 (by rfl) B.int PyProof.Rows.boot_int (pa_cons (pe_op op_add (pe_op op_add (pe_op op_mul (pe_ix ix_list (pv 0) pe_int (fun _ _ => rfl)) pe_int) (pe_op op_mul (pv 2) pe_int)) pe_int) pa_nil)) pe_int) (pg_sub (pv 0) pe_int set_list))
          (pss_one (ps_if (pt_cmpR op_ge (pv 2) (pe_op op_pow pe_int pe_int) (nomark _))
            (pss_one (ps_asg (pv 2) (pg_sub (pv 0) pe_int set_list))) pss_nil)))))
          pss_nil)
      (pss_cons (ps_if (pt_cmpR op_gt (pe_ix ix_list (pv 0) pe_int (fun _ _ => rfl)) pe_int (nomark _))
          (pss_cons (ps_set (i := 3) nd rfl (.inl rfl) (pe_op op_mod (pe_callTy call_int1 (by rfl) B.int PyProof.Rows.boot_int (pa_cons (pe_ix ix_list (pv 0) pe_int (fun _ _ => rfl)) pa_nil)) (pv 1)))
          (pss_cons (ps_asg (pe_op op_fdivW (pe_ix ix_list (pv 0) pe_int (fun _ _ => rfl)) (pv 1)) (pg_sub (pv 0) pe_int set_list))
          (pss_one (ps_ret (pv 3)))))
          pss_nil)
      (pss_cons (ps_asg (pe_op op_add (pe_ix ix_list (pv 0) pe_int (fun _ _ => rfl)) pe_int) (pg_sub (pv 0) pe_int set_list))
      (pss_cons (ps_set (i := 4) nd rfl (.inl rfl) (pe_op op_mod (pe_callTy call_int1 (by rfl) B.int PyProof.Rows.boot_int (pa_cons (pe_op op_mul (pe_callTy call_int1 (by rfl) B.int PyProof.Rows.boot_int (pa_cons (pe_op op_add (pe_ix ix_list (pv 0) pe_int (fun _ _ => rfl)) (pe_op op_mul pe_int (pe_ix ix_list (pv 0) pe_int (fun _ _ => rfl)))) pa_nil)) pe_int) pa_nil)) pe_int))
      (pss_cons (ps_set (i := 4) nd rfl (.inl rfl) (pe_op op_mod (pe_callTy call_int1 (by rfl) B.int PyProof.Rows.boot_int (pa_cons (pe_op op_mul (pv 4) (pe_op op_add (pe_op op_fdiv (pv 4) pe_int) pe_int)) pa_nil)) pe_int))
      (pss_cons (ps_set (i := 4) nd rfl (.inl rfl) (pe_op op_mod (pe_callTy call_int1 (by rfl) B.int PyProof.Rows.boot_int (pa_cons (pe_op op_mul (pv 4) (pe_op op_add (pe_op op_fdiv (pv 4) pe_int) pe_int)) pa_nil)) pe_int))
      (pss_one (ps_ret (pe_op op_mod (pe_callTy call_int1 (by rfl) B.int PyProof.Rows.boot_int (pa_cons (pe_op op_fdiv (pv 4) pe_int) pa_nil)) (pv 1))))))))), ?_⟩
    have b1 : But p H H := But.rfl'
    have six : ∀ {H' : Hp} {i : Nat} {r s c : Int}, HandX H' p l ns i r s c → SqL K H' p (HL l i r s c) := fun y => SqL.of y.at_
    refine ⟨fun σ H2 => ∃ x2 i r s c, σ = [some (.ref p), some (.int m), x2, none, none] ∧ HandX H2 p l ns i r s c ∧ But p H H2, ?_, ?_⟩
    · refine ⟨_, rfl, p, _, 2, _, rfl, rfl, SqL.of x1.at_, rfl, rfl, _, rfl, ?_⟩
      refine ite2 (fun _ => ?_) (fun _ => ?_)
      · refine ⟨_, rfl, p, _, 1, _, rfl, rfl, SqL.of x1.at_, rfl, _, rfl, p, _, 0, _, rfl, rfl, SqL.of x1.at_, rfl, l, _, rfl, .inl (SqL.of x1.lst), _, _, rfl, rfl, _, rfl, ?_⟩
        refine ite2 (fun c2 => ?_) (fun _ => ?_)
        · have hi : i < ns.length := by
            have z := of_decide_eq_true c2
            rw [List.length_map] at z
            omega
          have hg : atI (ns.map V.int) (i : Int) = some (V.int ns[i]) := atI_nat (by rw [List.getElem?_map, List.getElem?_eq_getElem hi]; rfl)
          refine ⟨_, rfl, p, _, 0, _, rfl, rfl, SqL.of x1.at_, rfl, _, rfl, p, _, 1, _, rfl, rfl, SqL.of x1.at_, rfl, l, _, _, _, rfl, rfl, SqL.of x1.lst, hg, ?_⟩
          refine ⟨_, rfl, p, _, 1, _, rfl, rfl, SqL.of x1.at_, rfl, _, _, rfl, rfl, _, rfl, p, _, 1, 1, rfl, rfl, x1.at_, rfl, ?_⟩
          have e1 : ((i : Int) + 1) = ((i + 1 : Nat) : Int) := by omega
          have b2 : But p H (upd H p (.lst (HL l (i + 1) r s c))) := b1.upd
          have x2 : HandX (upd H p (.lst (HL l (i + 1) r s c))) p l ns (i + 1) r s c := x1.put upd_same But.rfl'.upd x1.r0 x1.s0 x1.s1
          have eH : upd H p (.lst ((HL l i r s c).set 1 (V.int ((i : Int) + 1)))) = upd H p (.lst (HL l (i + 1) r s c)) := by
            rw [e1]
            rfl
          rw [eH]
          revert b2 x2
          generalize upd H p (.lst (HL l (i + 1) r s c)) = H2
          intro b2 x2
          refine ⟨_, rfl, p, _, 3, _, rfl, rfl, SqL.of x2.at_, rfl, _, _, rfl, rfl, .inr ⟨by decide, by decide⟩, _, rfl, _, _, rfl, rfl, .inr ⟨by decide, by decide⟩, _, _, rfl, rfl, _, _, rfl, rfl, .inl ⟨_, rfl, ?_⟩⟩
          refine ⟨_, _, rfl, rfl, (by decide : (0 : Int) < 2147483629), _, rfl, p, _, 3, 3, rfl, rfl, x2.at_, rfl, ?_⟩
          have z0 : 0 ≤ (s * 69621 + ns[i] * 16 + 11) % 2147483629 := Int.emod_nonneg _ (by decide)
          have z1 : (s * 69621 + ns[i] * 16 + 11) % 2147483629 < 2147483629 := Int.emod_lt_of_pos _ (by decide)
          have b3 : But p H (upd H2 p (.lst (HL l (i + 1) r ((s * 69621 + ns[i] * 16 + 11) % 2147483629) c))) := b2.upd
          have x3 : HandX (upd H2 p (.lst (HL l (i + 1) r ((s * 69621 + ns[i] * 16 + 11) % 2147483629) c))) p l ns (i + 1) r ((s * 69621 + ns[i] * 16 + 11) % 2147483629) c := x2.put upd_same But.rfl'.upd x2.r0 z0 (by omega)
          show tSeq _ _ _ _ (upd H2 p (.lst (HL l (i + 1) r ((s * 69621 + ns[i] * 16 + 11) % 2147483629) c)))
          revert b3 x3
          generalize upd H2 p (.lst (HL l (i + 1) r ((s * 69621 + ns[i] * 16 + 11) % 2147483629) c)) = H3
          generalize (s * 69621 + ns[i] * 16 + 11) % 2147483629 = s3
          intro b3 x3
          refine ⟨_, rfl, _, _, rfl, rfl, ⟨by decide, by decide, by decide⟩, _, _, rfl, rfl, _, rfl, ?_⟩
          refine ite2 (fun c3 => ?_) (fun _ => ?_)
          · refine ⟨_, rfl, _, rfl, p, _, 2, 2, rfl, rfl, x3.at_, rfl, ?_⟩
            refine ⟨_, i + 1, ns[i], s3, c, rfl, x3.put upd_same But.rfl'.upd ?_ x3.s0 x3.s1, b3.upd⟩
            have z := of_decide_eq_true c3
            refine Int.le_trans ?_ z
            decide
          · exact ⟨_, i + 1, r, s3, c, rfl, x3, b3⟩
        · exact ⟨_, i, r, s, c, rfl, x1, b1⟩
      · exact ⟨_, i, r, s, c, rfl, x1, b1⟩
    · rintro σ H2 ⟨x2, i, r, s, c, rfl, y1, c1⟩
      refine ⟨_, rfl, p, _, 2, _, rfl, rfl, SqL.of y1.at_, rfl, _, _, rfl, rfl, _, rfl, ?_⟩
      refine ite2 (fun _ => ?_) (fun _ => ?_)
      · refine ⟨_, rfl, p, _, 2, _, rfl, rfl, SqL.of y1.at_, rfl, .inl ⟨_, rfl, ?_⟩⟩
        refine ⟨_, rfl, _, _, rfl, rfl, hm0, ?_⟩
        refine ⟨_, rfl, p, _, 2, _, rfl, rfl, SqL.of y1.at_, rfl, ?_⟩
        refine ⟨_, rfl, _, _, rfl, rfl, wide_div (b := 40) hm0 (by omega) (by decide) (by decide), _, rfl, p, _, 2, 2, rfl, rfl, y1.at_, rfl, ?_⟩
        refine ⟨_, rfl, k _ _ (Int.emod_nonneg _ (by omega)) (Int.emod_lt_of_pos _ hm0) ⟨ns, i, _, s, c, y1.put upd_same But.rfl'.upd (Int.ediv_nonneg y1.r0 (by omega)) y1.s0 y1.s1⟩ c1.upd⟩
      · refine ⟨_, rfl, p, _, 4, _, rfl, rfl, SqL.of y1.at_, rfl, _, _, rfl, rfl, _, rfl, p, _, 4, 4, rfl, rfl, y1.at_, rfl, ?_⟩
        have b2 : But p H (upd H2 p (.lst (HL l i r s (c + 1)))) := c1.upd
        have y2 : HandX (upd H2 p (.lst (HL l i r s (c + 1)))) p l ns i r s (c + 1) := y1.put upd_same But.rfl'.upd y1.r0 y1.s0 y1.s1
        show tSeq _ _ _ _ (upd H2 p (.lst (HL l i r s (c + 1))))
        revert b2 y2
        generalize upd H2 p (.lst (HL l i r s (c + 1))) = H3
        intro b2 y2
        refine ⟨_, rfl, p, _, 3, _, rfl, rfl, SqL.of y2.at_, rfl, _, rfl, p, _, 4, _, rfl, rfl, SqL.of y2.at_, rfl, _, _, rfl, rfl, .inl ⟨by decide, by decide⟩, _, _, rfl, rfl, .inl ⟨_, rfl, _, _, rfl, rfl, .inr ⟨by decide, by decide⟩, .inl ⟨_, rfl, ?_⟩⟩⟩
        refine ⟨_, _, rfl, rfl, (by decide : (0 : Int) < 2147483647), ?_⟩
        have z0 : 0 ≤ ((s + 7919 * (c + 1)) * 48271) % 2147483647 := Int.emod_nonneg _ (by decide)
        have z1 : ((s + 7919 * (c + 1)) * 48271) % 2147483647 < 2147483647 := Int.emod_lt_of_pos _ (by decide)
        revert z0 z1
        generalize ((s + 7919 * (c + 1)) * 48271) % 2147483647 = s2
        intro z0 z1
        refine ⟨_, rfl, _, rfl, _, _, rfl, rfl, ⟨by decide, by decide⟩, _, _, rfl, rfl, _, _, rfl, rfl, .inl ⟨by omega, by omega⟩, .inl ⟨_, rfl, ?_⟩⟩
        refine ⟨_, _, rfl, rfl, (by decide : (0 : Int) < 2147483647), ?_⟩
        have q0 : 0 ≤ (s2 * (s2 / 1009 + 69621)) % 2147483647 := Int.emod_nonneg _ (by decide)
        have q1 : (s2 * (s2 / 1009 + 69621)) % 2147483647 < 2147483647 := Int.emod_lt_of_pos _ (by decide)
        revert q0 q1
        generalize (s2 * (s2 / 1009 + 69621)) % 2147483647 = n1
        intro q0 q1
        refine ⟨_, rfl, _, rfl, _, _, rfl, rfl, ⟨by decide, by decide⟩, _, _, rfl, rfl, _, _, rfl, rfl, .inl ⟨by omega, by omega⟩, .inl ⟨_, rfl, ?_⟩⟩
        refine ⟨_, _, rfl, rfl, (by decide : (0 : Int) < 2147483399), ?_⟩
        refine ⟨_, rfl, _, _, rfl, rfl, ⟨by decide, by decide⟩, .inl ⟨_, rfl, ?_⟩⟩
        refine ⟨_, rfl, _, _, rfl, rfl, hm0, ?_⟩
        exact k _ _ (Int.emod_nonneg _ (by omega)) (Int.emod_lt_of_pos _ hm0) ⟨ns, i, r, s, c + 1, y2⟩ b2
end
end Q

namespace Q
open PySem L2
/-- a def of the text: where it stands, how it is called -/
structure Df (K : PySem.W.Frag) (mg : Str → Option Value) (x : Str) (st : Stmt) (ps : List Str) (f : Addr) (fd : FuncData) : Prop where
  F : Fun K x x st f fd
  m : mg x = some (.ref f)
  b : Binds K fd ps []
theorem Df.k {K : PySem.W.Frag} {mg : Str → Option Value} {x : Str} {st : Stmt} {ps : List Str} {f : Addr} {fd : FuncData} (D : Df K mg x st ps f fd) : PySem.W.keepIn K (.ref f) = true := D.F.kp
theorem HandAt.stay {H : Hp} {p l q : Addr} {o : HO} (h : HandAt H p l) (n1 : q ≠ p) (n2 : q ≠ l) : HandAt (L2.upd H q o) p l := by
  obtain ⟨ns, i, r, s, c, x⟩ := h
  exact ⟨ns, i, r, s, c, (upd_ne n1.symm).trans x.at_, (upd_ne n2.symm).trans x.lst, x.len, x.r0, x.s0, x.s1⟩
theorem HandAt.new {H : Hp} {p l q : Addr} {o : HO} (h : HandAt H p l) (n : H q = none) : HandAt (L2.upd H q o) p l := by
  obtain ⟨ns, i, r, s, c, x⟩ := id h
  exact h.stay (fun e => by rw [e, x.at_] at n; cases n) (fun e => by rw [e, x.lst] at n; cases n)
/-- all that stood stands, but for p -/
def Ext (p : Addr) (H H' : Hp) : Prop := ∀ b o, H b = some o → b ≠ p → H' b = some o
theorem Ext.rfl' {p : Addr} {H : Hp} : Ext p H H := fun _ _ e _ => e
theorem Ext.trans {p : Addr} {H H1 H2 : Hp} (h : Ext p H H1) (g : Ext p H1 H2) : Ext p H H2 := fun b o e n => g b o (h b o e n) n
theorem Ext.but {p : Addr} {H H1 H2 : Hp} (h : Ext p H H1) (g : But p H1 H2) : Ext p H H2 := fun b o e n => by rw [g b n]; exact h b o e n
theorem Ext.upd {p q : Addr} {o : HO} {H H1 : Hp} (h : Ext p H H1) (n : H1 q = none) : Ext p H (L2.upd H1 q o) := fun b u e nb => by
  rw [upd_ne (ne_of_none (h b u e nb) n)]; exact h b u e nb
theorem min_ok {X : Int} (h : 0 ≤ X ∧ X ≤ 20) : 0 ≤ (if 1 < X then 1 else X) ∧ (if 1 < X then 1 else X) ≤ 20 := by
  split <;> omega
theorem HandAt.hp {H : Hp} {p l : Addr} (h : HandAt H p l) : ∃ xs, H p = Option.some (HO.lst (V.ref l :: xs)) := by
  obtain ⟨ns, i, r, s, c, x⟩ := h
  exact ⟨_, x.at_⟩
theorem HandAt.hl {H : Hp} {p l : Addr} (h : HandAt H p l) : ∃ ns : List Int, H l = some (.lst (ns.map V.int)) ∧ l ≠ p := by
  obtain ⟨ns, i, r, s, c, x⟩ := h
  exact ⟨_, x.lst, x.np⟩
theorem HandAt.ne {H : Hp} {p l q : Addr} (h : HandAt H p l) (n : H q = none) : q ≠ p ∧ q ≠ l := by
  obtain ⟨ns, i, r, s, c, x⟩ := h
  exact ⟨fun e => (by rw [e, x.at_] at n; cases n), fun e => (by rw [e, x.lst] at n; cases n)⟩
/-- a list at f of tuples of two ints -/
structure Pairs (m : Int) (H : Hp) (f : Addr) (ks : List (Addr × List Int)) : Prop where
  at_ : H f = some (.lst (ks.map fun p => V.ref p.1))
  tup : ∀ p ∈ ks, H p.1 = some (.tup (p.2.map V.int))
  ok : ∀ p ∈ ks, ∃ a b : Int, p.2 = [a, b] ∧ 0 ≤ a ∧ a < b ∧ b < m
theorem Pairs.but {m : Int} {H H' : Hp} {f p : Addr} {ks : List (Addr × List Int)} {l : Addr} (h : Pairs m H f ks) (g : HandAt H p l) (b : But p H H') (n : f ≠ p) : Pairs m H' f ks := by
  refine ⟨by rw [b f n]; exact h.at_, fun q hq => ?_, h.ok⟩
  obtain ⟨xs, e⟩ := g.hp
  rw [b q.1 (ne_of (h.tup q hq) e (fun z => by cases z))]
  exact h.tup q hq
theorem Pairs.add {m : Int} {H : Hp} {f t : Addr} {ks : List (Addr × List Int)} {a b : Int} (h : Pairs m H f ks) (ht : H t = none) (h0 : 0 ≤ a) (h1 : a < b) (h2 : b < m) :
    Pairs m (upd (upd H t (.tup [.int a, .int b])) f (.lst ((ks.map fun p => V.ref p.1) ++ [.ref t]))) f (ks ++ [(t, [a, b])]) := by
  have ntf : t ≠ f := fun e => by rw [e, h.at_] at ht; cases ht
  refine ⟨by rw [upd_same, List.map_append]; rfl, fun q hq => ?_, fun q hq => ?_⟩
  · rcases List.mem_append.mp hq with hq | hq
    · rw [upd_ne (ne_of (h.tup q hq) h.at_ (fun z => by cases z)), upd_ne (ne_of_none (h.tup q hq) ht)]
      exact h.tup q hq
    · obtain rfl := List.mem_singleton.mp hq
      rw [upd_ne ntf, upd_same]
      rfl
  · rcases List.mem_append.mp hq with hq | hq
    · exact h.ok q hq
    · obtain rfl := List.mem_singleton.mp hq
      exact ⟨a, b, rfl, h0, h1, h2⟩
/-- the order of pairs -/
def ltP (x y : List Int) : Prop := ∃ a b c d : Int, x = [a, b] ∧ y = [c, d] ∧ (a < c ∨ (a = c ∧ b < d))
/-- ties as they are drawn: ascending, joined -/
structure TiesAt (m : Int) (H : Hp) (q : Addr) (L : List (Addr × List Int)) : Prop where
  at_ : H q = some (.tup (L.map fun p => V.ref p.1))
  tup : ∀ p ∈ L, H p.1 = some (.tup (p.2.map V.int))
  ok : ∀ p ∈ L, ∃ a b : Int, p.2 = [a, b] ∧ 0 ≤ a ∧ a < b ∧ b < m
  asc : L.Pairwise (fun x y => ltP x.2 y.2)
  few : L.length < 1000
  conn : ∀ h : Int, 1 ≤ h → h < m → ∃ p ∈ L, ∃ o : Int, p.2 = [o, h]
/-- the same, perhaps not joined -/
structure TiesN (m : Int) (H : Hp) (q : Addr) (L : List (Addr × List Int)) : Prop where
  at_ : H q = some (.tup (L.map fun p => V.ref p.1))
  tup : ∀ p ∈ L, H p.1 = some (.tup (p.2.map V.int))
  ok : ∀ p ∈ L, ∃ a b : Int, p.2 = [a, b] ∧ 0 ≤ a ∧ a < b ∧ b < m
  asc : L.Pairwise (fun x y => ltP x.2 y.2)
  few : L.length < 1000
theorem TiesAt.n {m : Int} {H : Hp} {q : Addr} {L : List (Addr × List Int)} (h : TiesAt m H q L) : TiesN m H q L := ⟨h.at_, h.tup, h.ok, h.asc, h.few⟩
end Q

namespace Q
open PySem L2
theorem sN {H : Hp} {q : Addr} {o : HO} (n : H q = none) : Same H (upd H q o) := fun b u e => by
  rw [upd_ne (ne_of_none e n)]; exact e
theorem sT {H H1 H2 : Hp} (a : Same H H1) (b : Same H1 H2) : Same H H2 := fun c o h => b c o (a c o h)
theorem HandAt.same {H H' : Hp} {p l : Addr} (h : HandAt H p l) (s : Same H H') : HandAt H' p l := by
  obtain ⟨ns, i, r, z, c, x⟩ := h
  exact ⟨ns, i, r, z, c, s _ _ x.at_, s _ _ x.lst, x.len, x.r0, x.s0, x.s1⟩
theorem Ext.same {p : Addr} {H H1 H2 : Hp} (h : Ext p H H1) (s : Same H1 H2) : Ext p H H2 := fun b o e n => s _ _ (h b o e n)
/-- a pair as data -/
def pT (l : List Int) : PyData := .tuple (l.map .int)
theorem lay_ints : ∀ l : List Int, PyData.canLayAll0 (l.map PyData.int) = true
  | [] => by simp [PyData.canLayAll0]
  | a :: r => by
    have ih := lay_ints r
    simp only [List.map_cons, PyData.canLayAll0, PyData.canLay0, ih, Bool.and_self]
theorem lay_pT (l : List Int) : PyData.canLay0 (pT l) = true := by
  unfold pT
  simp only [PyData.canLay0, lay_ints]
theorem lay_all : ∀ L : List (Addr × List Int), PyData.canLayAll0 (L.map fun p => pT p.2) = true
  | [] => by simp [PyData.canLayAll0]
  | p :: r => by
    have ih := lay_all r
    simp only [List.map_cons, PyData.canLayAll0, lay_pT, ih, Bool.and_self]
theorem eqv_ints : ∀ x y : List Int, PyData.eqvAll (x.map PyData.int) (y.map PyData.int) = decide (x = y)
  | [], [] => by simp [PyData.eqvAll]
  | [], _ :: _ => by simp [PyData.eqvAll]
  | _ :: _, [] => by simp [PyData.eqvAll]
  | a :: x, b :: y => by
    have ih := eqv_ints x y
    simp only [List.map_cons, PyData.eqvAll, PyData.eqv, ih]
    by_cases c : a = b
    · subst c
      simp
    · simp [c]
theorem any_pT (l : List Int) : ∀ L : List (Addr × List Int), ((L.map fun p => pT p.2).any fun z => PyData.eqv z (pT l)) = decide (l ∈ L.map (·.2))
  | [] => by simp
  | p :: r => by
    have ih := any_pT l r
    rw [List.map_cons, List.any_cons, ih]
    unfold pT
    simp only [PyData.eqv, eqv_ints, List.map_cons, List.mem_cons]
    by_cases c : p.2 = l
    · simp [c]
    · have c' : ¬ l = p.2 := fun e => c e.symm
      simp [c, c']
theorem dp_ints {K : PySem.W.Frag} {H : Hp} : ∀ l : List Int, DpAll K H (l.map V.int) (l.map PyData.int)
  | [] => .nil
  | a :: r => .cons (.int a) (dp_ints r)
theorem dp_all {K : PySem.W.Frag} {H : Hp} : ∀ L : List (Addr × List Int), (∀ p ∈ L, H p.1 = some (.tup (p.2.map V.int))) → DpAll K H (L.map fun p => V.ref p.1) (L.map fun p => pT p.2)
  | [], _ => .nil
  | p :: r, h => .cons (.tup (SqT.of (h p List.mem_cons_self)) (dp_ints p.2)) (dp_all r fun q hq => h q (List.mem_cons_of_mem _ hq))
def rInP : R2 := fun x y H Q => ∃ (T q : Addr) (l : List Int) (L : List (Addr × List Int)), x = .ref T ∧ y = .ref q ∧ H T = some (.tup (l.map V.int)) ∧ H q = some (.tup (L.map fun p => V.ref p.1)) ∧ (∀ p ∈ L, H p.1 = some (.tup (p.2.map V.int))) ∧ Q (.bl (decide (l ∈ L.map (·.2)))) H
theorem depth_ints : ∀ l : List Int, PyData.depthAll (l.map PyData.int) = 0
  | [] => by simp [PyData.depthAll]
  | a :: r => by
    have ih := depth_ints r
    simp only [List.map_cons, PyData.depthAll, PyData.depth, ih, Nat.max_self]
theorem depth_pT (l : List Int) : (pT l).depth = 1 := by
  unfold pT
  simp only [PyData.depth, depth_ints]
theorem op_inP {X : Cx} (hu : X.A.units + 64 < cLine) : OpR X (compareOp .In) rInP := by
  intro pins s σ H x y v u Q I rx ry h
  obtain ⟨T, q, l, L, rfl, rfl, hT, hq, hp, k⟩ := h
  obtain ⟨as, r1⟩ := Dp.reads I (pT l) _ v (.tup (SqT.of hT) (dp_ints l)) rx
  obtain ⟨bs, r2⟩ := Dp.reads I (.tuple (L.map fun p => pT p.2)) _ u (.tup (SqT.of hq) (dp_all L hp)) ry
  refine SeqAt.in_tuple_reads r2 r1 (lay_all L) (lay_pT l) ?_ ?_
  · rw [depth_pT]
    have z := Nat.min_le_right (PyData.depthAll (L.map fun p => pT p.2)) 1
    omega
  · rw [any_pT]
    exact ⟨.bl _, H, I, rfl, k⟩

/-- x not in ys: a tuple of ints, a list of such -/
def rNotInPL : R2 := fun x y H Q => ∃ (T q : Addr) (l : List Int) (L : List (Addr × List Int)), x = .ref T ∧ y = .ref q ∧ H T = some (.tup (l.map V.int)) ∧ H q = some (.lst (L.map fun p => V.ref p.1)) ∧ (∀ p ∈ L, H p.1 = some (.tup (p.2.map V.int))) ∧ Q (.bl (!decide (l ∈ L.map (·.2)))) H
theorem op_notInPL {X : Cx} (hu : X.A.units + 64 < cLine) : OpR X (compareOp .NotIn) rNotInPL := by
  intro pins s σ H x y v u Q I rx ry h
  obtain ⟨T, q, l, L, rfl, rfl, hT, hq, hp, k⟩ := h
  obtain ⟨as, r1⟩ := Dp.reads I (pT l) _ v (.tup (SqT.of hT) (dp_ints l)) rx
  obtain ⟨bs, r2⟩ := Dp.reads I (.list (L.map fun p => pT p.2)) _ u (.lst (SqL.of hq) (dp_all L hp)) ry
  refine SeqAt.notIn_list_reads r2 r1 (lay_all L) (lay_pT l) ?_ ?_
  · rw [depth_pT]
    have z := Nat.min_le_right (PyData.depthAll (L.map fun p => pT p.2)) 1
    omega
  · rw [any_pT]
    exact ⟨.bl _, H, I, rfl, k⟩
/-! ### the drawn web -/
abbrev sLWeb : Stmt := top 83
/-- the pair that stands at v -/
def kH (H : Hp) (v : V) : Int × Int := match v with
  | .ref a => match H a with
    | some (.tup [.int i, .int j]) => (i, j)
    | _ => (0, 0)
  | _ => (0, 0)
theorem kH_at {H : Hp} {a : Addr} {i j : Int} (e : H a = some (.tup [.int i, .int j])) : kH H (.ref a) = (i, j) := by
  show (match H a with | some (.tup [.int i, .int j]) => (i, j) | _ => (0, 0)) = _
  rw [e]
def spLWeb : Sp := fun vs H Q _ => ∃ (p l : Addr) (most : Int), vs = [.ref p, .int most] ∧ HandAt H p l ∧ 1 ≤ most ∧ most ≤ 40 ∧
  ∀ (W q : Addr) (m : Int) (L : List (Addr × List Int)) (H' : Hp), 1 ≤ m → m ≤ most → TiesAt m H' q L → H' W = some (.tup [.int m, .ref q]) → HandAt H' p l → Ext p H H' → Q (.ref W) H'
def adH (v : V) : Addr := match v with
  | .ref a => a
  | _ => mainGlobals
def pH (H : Hp) (v : V) : Addr × List Int := (adH v, [(kH H v).1, (kH H v).2])
theorem pH_at {m : Int} {H : Hp} {f : Addr} {ks : List (Addr × List Int)} (pr : Pairs m H f ks) {q : Addr × List Int} (hq : q ∈ ks) : pH H (.ref q.1) = q := by
  obtain ⟨a, b, e, _⟩ := pr.ok q hq
  have t := pr.tup q hq
  rw [e] at t
  have z : kH H (.ref q.1) = (a, b) := kH_at t
  show (q.1, [(kH H (.ref q.1)).1, (kH H (.ref q.1)).2]) = q
  rw [z, ← e]
/-- what was sorted, as pairs -/
theorem sorted_back {m : Int} {H : Hp} {f : Addr} {ks : List (Addr × List Int)} (pr : Pairs m H f ks) {ys : List V} (pm : ys.Perm (ks.map fun p => V.ref p.1)) (sr : SrtO.Srtd (L2.ltP (kH H)) ys) :
    ∃ L : List (Addr × List Int), ys = L.map (fun p => V.ref p.1) ∧ (∀ p ∈ L, p ∈ ks) ∧ (∀ q ∈ ks, q ∈ L) ∧ L.length = ks.length ∧ L.Pairwise (fun x y => ¬ ltP y.2 x.2) := by
  have back : ∀ v ∈ ys, ∃ q ∈ ks, v = .ref q.1 := fun v hv => by
    obtain ⟨q, hq, e⟩ := List.mem_map.mp (pm.mem_iff.mp hv)
    exact ⟨q, hq, e.symm⟩
  refine ⟨ys.map (pH H), ?_, fun p hp => ?_, fun q hq => ?_, ?_, ?_⟩
  · rw [List.map_map]
    refine (List.map_id ys).symm.trans (List.map_congr_left fun v hv => ?_)
    obtain ⟨q, hq, rfl⟩ := back v hv
    show V.ref q.1 = V.ref (pH H (.ref q.1)).1
    rw [pH_at pr hq]
  · obtain ⟨v, hv, rfl⟩ := List.mem_map.mp hp
    obtain ⟨q, hq, rfl⟩ := back v hv
    rw [pH_at pr hq]
    exact hq
  · have hv : V.ref q.1 ∈ ys := pm.mem_iff.mpr (List.mem_map.mpr ⟨q, hq, rfl⟩)
    have z : pH H (V.ref q.1) ∈ ys.map (pH H) := List.mem_map.mpr ⟨_, hv, rfl⟩
    rw [pH_at pr hq] at z
    exact z
  · rw [List.length_map, pm.length_eq, List.length_map]
  · rw [List.pairwise_map]
    refine List.Pairwise.imp (fun {x y} h => ?_) sr
    rintro ⟨a, b, c, d, e1, e2, hh⟩
    have f1 : [(kH H y).1, (kH H y).2] = [a, b] := e1
    have f2 : [(kH H x).1, (kH H x).2] = [c, d] := e2
    simp only [List.cons.injEq, and_true] at f1 f2
    have z : SrtO.lexB (kH H y) (kH H x) = true := SrtO.lexB_iff.mpr (by rw [f1.1, f1.2, f2.1, f2.2]; exact hh)
    rw [show SrtO.lexB (kH H y) (kH H x) = false from h] at z
    cases z
theorem cut_last (xs : List V) : cutV xs (some (-1)) none = xs.drop (xs.length - 1) := by
  unfold cutV
  rw [HT.sIx_none]
  have e : HT.sIx xs.length 0 (some (-1)) = xs.length - 1 := by
    show (if (-1 : Int) < 0 then (-1 + (xs.length : Int)).toNat else min (-1 : Int).toNat xs.length) = _
    rw [if_pos (by decide)]
    omega
  rw [e]
  exact List.take_of_length_le (by rw [List.length_drop]; exact Nat.le_refl _)
theorem ltP_trans {x y z : List Int} (h : ltP x y) (g : ltP y z) : ltP x z := by
  obtain ⟨a, b, c, d, rfl, rfl, h⟩ := h
  obtain ⟨c', d', e, f, e1, rfl, g⟩ := g
  simp only [List.cons.injEq, and_true] at e1
  obtain ⟨rfl, rfl⟩ := e1
  exact ⟨a, b, e, f, rfl, rfl, by omega⟩
theorem ltP_of {a b c d : Int} (n : ¬ ltP [c, d] [a, b]) (ne : ([c, d] : List Int) ≠ [a, b]) : ltP [a, b] [c, d] := by
  refine ⟨a, b, c, d, rfl, rfl, ?_⟩
  by_cases h : a < c ∨ (a = c ∧ b < d)
  · exact h
  · have h1 : ¬ (c < a ∨ (c = a ∧ d < b)) := fun z => n ⟨c, d, a, b, rfl, rfl, z⟩
    have e1 : c = a := by omega
    have e2 : d = b := by omega
    exact absurd (by rw [e1, e2]) ne
/-- each thing once, of what ascends -/
structure Once (m : Int) (H : Hp) (f : Addr) (L F : List (Addr × List Int)) (i : Nat) : Prop where
  pr : Pairs m H f F
  sub : ∀ p ∈ F, p ∈ L.take i
  all : ∀ p ∈ L.take i, ∃ q ∈ F, q.2 = p.2
  asc : F.Pairwise (fun x y => ltP x.2 y.2)
  len : F.length ≤ i
  last : ∀ p, 0 < i → L[i - 1]? = some p → ∃ F0 q, F = F0 ++ [q] ∧ q.2 = p.2
section
variable {P : Program} {w : World} {K : PySem.W.Frag} {mg : Str → Option Value} {base : Heap}
theorem scLWeb : FnScope ["hand", "most", "many", "ties", "house", "turn", "one", "other", "found", "tie"] ["hand", "most"] (defScope sLWeb) := ⟨rfl, rfl, rfl, by decide +kernel, rfl, by decide +kernel, by decide +kernel⟩
theorem ok_lweb {f fT : Addr} {fd fdT : FuncData} (F : Fun K "_law_web" "_law_web" sLWeb f fd) (B : Bts mg) (DT : Df K mg "_law_draw" sDraw ["hand", "many"] fT fdT) : FnOk P w K mg base CX0 2 f fd ["hand", "most"] spLWeb := by
  have GT : FnOk P w K mg base CX0 1 fT fdT ["hand", "many"] spDraw := ok_draw DT.F B
  refine F.ok scLWeb (fun vs H Q E h => ?_) (fun cdv A outer s H vs Q E hr h => ?_)
  · obtain ⟨p, l, m, rfl, _⟩ := h
    rfl
  · obtain ⟨p, l, most, rfl, hh, hm1, hm40, k⟩ := h
    have nd := scLWeb.nd
    have hu := hr.units
    refine ⟨_, pss_cons (ps_set (i := 2) nd rfl (.inl rfl) (pe_op op_add pe_int (pe_call GT hr rfl DT.m DT.k DT.b .nil pass0 (pa_cons (pv 0) (pa_cons (pv 1) pa_nil)))))
      (pss_cons (ps_set (i := 3) nd rfl (.inl rfl) (pe_lst pa_nil))
      (pss_cons (ps_for PassesOwn.never rfl (pi_range2 rfl B.range (pa_cons pe_int (pa_cons (pv 2) pa_nil))) (pg_name (i := 4) nd rfl (.inl rfl))
        (pss_cons (ps_expr (pe_bm PySem.F.plainAttrs_list PySem.F.slot_list_append PySem.F.type_list_append mt_append (pv 3) (pa_cons (pe_tup (pa_cons (pe_call GT hr rfl DT.m DT.k DT.b .nil pass0 (pa_cons (pv 0) (pa_cons (pv 4) pa_nil))) (pa_cons (pv 4) pa_nil))) pa_nil)))
        (pss_one (ps_if (pt_cmpR op_eq (pe_call GT hr rfl DT.m DT.k DT.b .nil pass0 (pa_cons (pv 0) (pa_cons pe_int pa_nil))) pe_int (nomark _))
          (pss_one (ps_expr (pe_bm PySem.F.plainAttrs_list PySem.F.slot_list_append PySem.F.type_list_append mt_append (pv 3) (pa_cons (pe_tup (pa_cons (pe_call GT hr rfl DT.m DT.k DT.b .nil pass0 (pa_cons (pv 0) (pa_cons (pv 4) pa_nil))) (pa_cons (pv 4) pa_nil))) pa_nil)))) pss_nil))))
      (pss_cons (ps_for PassesOwn.never rfl (pi_range1 rfl B.range (pa_cons (pe_call GT hr rfl DT.m DT.k DT.b .nil pass0 (pa_cons (pv 0) (pa_cons (pe_op op_add (pv 2) pe_int) pa_nil))) pa_nil)) (pg_name (i := 5) nd rfl (.inl rfl))
        (pss_cons (ps_set (i := 6) nd rfl (.inl rfl) (pe_call GT hr rfl DT.m DT.k DT.b .nil pass0 (pa_cons (pv 0) (pa_cons (pv 2) pa_nil))))
        (pss_cons (ps_set (i := 7) nd rfl (.inl rfl) (pe_call GT hr rfl DT.m DT.k DT.b .nil pass0 (pa_cons (pv 0) (pa_cons (pv 2) pa_nil))))
        (pss_one (ps_if (pt_cmpR op_lt (pv 6) (pv 7) (nomark _))
          (pss_one (ps_expr (pe_bm PySem.F.plainAttrs_list PySem.F.slot_list_append PySem.F.type_list_append mt_append (pv 3) (pa_cons (pe_tup (pa_cons (pv 6) (pa_cons (pv 7) pa_nil))) pa_nil)))) pss_nil)))))
      (pss_cons (ps_set (i := 8) nd rfl (.inl rfl) (pe_lst pa_nil))
      (pss_cons (ps_for PassesOwn.never rfl (pi_list (pe_callB cr_sortedPO (by rfl) B.sorted PyProof.Rows.boot_sorted (pa_cons (pv 3) pa_nil))) (pg_name (i := 9) nd rfl (.inl rfl))
        (pss_one (ps_if (pt_cmpR (op_notInPL hu) (pv 9) (pe_slice sl_list (pv 8) (po_some (pe_un un_neg pe_int)) po_none) rfl)
          (pss_one (ps_expr (pe_bm PySem.F.plainAttrs_list PySem.F.slot_list_append PySem.F.type_list_append mt_append (pv 8) (pa_cons (pv 9) pa_nil)))) pss_nil)))
      (pss_one (ps_ret (pe_tup (pa_cons (pv 2) (pa_cons (pe_callTy call_tuple_of (by rfl) B.tuple PyProof.Rows.boot_tuple (pa_cons (pv 8) pa_nil)) pa_nil)))))))))), ?_⟩
    refine ⟨_, rfl, _, rfl, p, l, most, rfl, hh, by omega, by omega, fun d H1 d0 d1 g1 b1 => ?_⟩
    refine ⟨_, _, rfl, rfl, ?_⟩
    obtain ⟨m, em⟩ : ∃ m : Int, 1 + d = m := ⟨_, rfl⟩
    show gName 2 (V.int (1 + d)) _ _ _
    rw [em]
    have m1 : 1 ≤ m := by omega
    have mm : m ≤ most := by omega
    have x1 : Ext p H H1 := Ext.rfl'.but b1
    refine ⟨Nat.zero_le _, fun fo hf0 => ?_⟩
    obtain ⟨npf, nlf⟩ := g1.ne hf0
    have x0 : Ext p H (upd H1 fo (.lst [])) := x1.upd hf0
    have hh0 : HandAt (upd H1 fo (.lst [])) p l := g1.new hf0
    have pr0 : Pairs m (upd H1 fo (.lst [])) fo [] := ⟨upd_same, fun q hq => absurd hq List.not_mem_nil, fun q hq => absurd hq List.not_mem_nil⟩
    have fo0 : H fo = none := by
      cases z : H fo with
      | none => rfl
      | some o =>
        by_cases c : fo = p
        · exact absurd c npf
        · rw [b1 fo c, z] at hf0
          cases hf0
    -- one more tie
    have put : ∀ {H3 : Hp} {ks : List (Addr × List Int)} {t : Addr} {a b : Int}, Pairs m H3 fo ks → HandAt H3 p l → Ext p H H3 → H3 t = none → 0 ≤ a → a < b → b < m →
        Pairs m (upd (upd H3 t (.tup [.int a, .int b])) fo (.lst ((ks.map fun p => V.ref p.1) ++ [.ref t]))) fo (ks ++ [(t, [a, b])]) ∧ HandAt (upd (upd H3 t (.tup [.int a, .int b])) fo (.lst ((ks.map fun p => V.ref p.1) ++ [.ref t]))) p l ∧ Ext p H (upd (upd H3 t (.tup [.int a, .int b])) fo (.lst ((ks.map fun p => V.ref p.1) ++ [.ref t]))) :=
      fun pr g x ht h0 h1 h2 => ⟨pr.add ht h0 h1 h2, (g.new ht).stay npf nlf, fun b o e nb => by rw [upd_ne (ne_of_none e fo0)]; exact (x.upd ht) b o e nb⟩
    refine ⟨_, rfl, 1, m, rfl, ⟨by decide, by decide, by omega, by omega⟩, for_range (lo := 1) (n := (m - 1).toNat) (fun i σ H' => ∃ (x4 : Option V) (ks : List (Addr × List Int)), σ = [some (.ref p), some (.int most), some (.int m), some (.ref fo), x4, none, none, none, none, none] ∧ Pairs m H' fo ks ∧ ks.length ≤ 2 * i ∧ (∀ h : Int, 1 ≤ h → h ≤ (i : Int) → ∃ q ∈ ks, ∃ o : Int, q.2 = [o, h]) ∧ HandAt H' p l ∧ Ext p H H') ?_ ?_ ?_⟩
    · exact ⟨none, [], rfl, pr0, Nat.le_refl _, fun h a b => by omega, hh0, x0⟩
    · rintro i σ H2 hi ⟨x4, ks, rfl, pr2, hl, hc, g2, x2⟩
      refine ⟨_, rfl, .inl ⟨rfl, _, SqL.of pr2.at_⟩, _, rfl, _, rfl, p, l, 1 + (i : Int), rfl, g2, by omega, by omega, fun o H3 o0 o1 g3 b3 => ?_⟩
      have pr3 := pr2.but g2 b3 npf
      have x3 := x2.but b3
      refine ⟨_, rfl, (by show 2 ≤ sizeLine; decide), fun t ht => ?_⟩
      have ntf : fo ≠ t := ne_of_none pr3.at_ ht
      refine ⟨fo, _, _, rfl, rfl, (by rw [upd_ne ntf]; exact pr3.at_), ?_, ?_⟩
      · rw [List.length_map]
        exact Nat.lt_of_lt_of_le (show ks.length < 1000 by omega) (by decide)
      obtain ⟨pr4, g4, x4'⟩ := put pr3 g3 x3 ht o0 o1 (show 1 + (i : Int) < m by omega)
      have hc4 : ∀ h : Int, 1 ≤ h → h ≤ ((i + 1 : Nat) : Int) → ∃ q ∈ ks ++ [(t, [o, 1 + (i : Int)])], ∃ o : Int, q.2 = [o, h] := fun h a b => by
        by_cases e : h ≤ (i : Int)
        · obtain ⟨q, hq, z⟩ := hc h a e
          exact ⟨q, List.mem_append_left _ hq, z⟩
        · have e2 : h = 1 + (i : Int) := by omega
          exact ⟨_, List.mem_append_right _ (List.mem_singleton.mpr rfl), o, by rw [e2]⟩
      have hl4 : (ks ++ [(t, [o, 1 + (i : Int)])]).length ≤ 2 * i + 1 := by
        rw [List.length_append]
        show ks.length + 1 ≤ _
        omega
      show tSeq _ _ _ _ (upd (upd H3 t (.tup [.int o, .int (1 + (i : Int))])) fo (.lst ((ks.map fun p => V.ref p.1) ++ [.ref t])))
      revert pr4 g4 x4' hc4 hl4
      generalize upd (upd H3 t (.tup [.int o, .int (1 + (i : Int))])) fo (.lst ((ks.map fun p => V.ref p.1) ++ [.ref t])) = H4
      generalize ks ++ [(t, [o, 1 + (i : Int)])] = ks4
      intro pr4 g4 x4' hc4 hl4
      refine ⟨_, rfl, p, l, 3, rfl, g4, by decide, by decide, fun d3 H5 e0 e1 g5 b5 => ?_⟩
      have pr5 := pr4.but g4 b5 npf
      have x5 := x4'.but b5
      refine ⟨rfl, _, rfl, ite2 (fun _ => ?_) (fun _ => ?_)⟩
      · refine ⟨_, rfl, .inl ⟨rfl, _, SqL.of pr5.at_⟩, _, rfl, _, rfl, p, l, 1 + (i : Int), rfl, g5, by omega, by omega, fun o' H6 o0' o1' g6 b6 => ?_⟩
        have pr6 := pr5.but g5 b6 npf
        have x6 := x5.but b6
        refine ⟨_, rfl, (by show 2 ≤ sizeLine; decide), fun t' ht' => ?_⟩
        have ntf' : fo ≠ t' := ne_of_none pr6.at_ ht'
        refine ⟨fo, _, _, rfl, rfl, (by rw [upd_ne ntf']; exact pr6.at_), ?_, ?_⟩
        · rw [List.length_map]
          exact Nat.lt_of_lt_of_le (show ks4.length < 1000 by omega) (by decide)
        obtain ⟨pr7, g7, x7⟩ := put pr6 g6 x6 ht' o0' o1' (show 1 + (i : Int) < m by omega)
        refine ⟨_, _, rfl, pr7, ?_, fun h a b => ?_, g7, x7⟩
        · rw [List.length_append]
          show ks4.length + 1 ≤ _
          omega
        · obtain ⟨q, hq, z⟩ := hc4 h a b
          exact ⟨q, List.mem_append_left _ hq, z⟩
      · exact ⟨_, ks4, rfl, pr5, by omega, hc4, g5, x5⟩
    rintro σ H2 ⟨x4, ks, rfl, pr2, hl, hc, g2, x2⟩
    have hc' : ∀ h : Int, 1 ≤ h → h < m → ∃ q ∈ ks, ∃ o : Int, q.2 = [o, h] := fun h a b => hc h a (by omega)
    clear hc
    refine ⟨_, rfl, _, rfl, _, _, rfl, rfl, p, l, m + 1, rfl, g2, by omega, by omega, fun d2 H3 e0 e1 g3 b3 => ?_⟩
    have pr3 := pr2.but g2 b3 npf
    have x3 := x2.but b3
    refine ⟨d2, rfl, by omega, by omega, for_range (lo := 0) (n := d2.toNat) (fun i σ H' => ∃ (x5 x6 x7 : Option V) (ks : List (Addr × List Int)), σ = [some (.ref p), some (.int most), some (.int m), some (.ref fo), x4, x5, x6, x7, none, none] ∧ Pairs m H' fo ks ∧ ks.length ≤ 80 + i ∧ (∀ h : Int, 1 ≤ h → h < m → ∃ q ∈ ks, ∃ o : Int, q.2 = [o, h]) ∧ HandAt H' p l ∧ Ext p H H') ?_ ?_ ?_⟩
    · exact ⟨none, none, none, ks, rfl, pr3, by omega, hc', g3, x3⟩
    · rintro i σ H4 hi ⟨x5, x6, x7, ks, rfl, pr4, hl, hc, g4, x4'⟩
      refine ⟨_, rfl, _, rfl, p, l, m, rfl, g4, by omega, by omega, fun a H5 a0 a1 g5 b5 => ?_⟩
      refine ⟨_, rfl, _, rfl, p, l, m, rfl, g5, by omega, by omega, fun b H6 c0 c1 g6 b6 => ?_⟩
      have pr6 := (pr4.but g4 b5 npf).but g5 b6 npf
      have x6' := (x4'.but b5).but b6
      refine ⟨_, rfl, _, rfl, _, _, rfl, rfl, _, rfl, ite2 (fun c => ?_) (fun _ => ?_)⟩
      · have hab : a < b := of_decide_eq_true c
        refine ⟨_, rfl, .inl ⟨rfl, _, SqL.of pr6.at_⟩, _, rfl, _, rfl, (by show 2 ≤ sizeLine; decide), fun t ht => ?_⟩
        have ntf : fo ≠ t := ne_of_none pr6.at_ ht
        refine ⟨fo, _, _, rfl, rfl, (by rw [upd_ne ntf]; exact pr6.at_), ?_, ?_⟩
        · rw [List.length_map]
          exact Nat.lt_of_lt_of_le (show ks.length < 1000 by omega) (by decide)
        obtain ⟨pr7, g7, x7'⟩ := put pr6 g6 x6' ht a0 hab c1
        refine ⟨_, _, _, _, rfl, pr7, ?_, fun h u v => ?_, g7, x7'⟩
        · rw [List.length_append]
          show ks.length + 1 ≤ _
          omega
        · obtain ⟨q, hq, z⟩ := hc h u v
          exact ⟨q, List.mem_append_left _ hq, z⟩
      · exact ⟨_, _, _, ks, rfl, pr6, by omega, hc, g6, x6'⟩
    clear hl hc' pr2 pr3 g2 g3 x2 x3 b3 ks
    rintro σ H4 ⟨x5, x6, x7, ks, rfl, pr4, hl, hc, g4, x4'⟩
    have hl' : ks.length ≤ 121 := by omega
    refine ⟨Nat.zero_le _, fun f2 hf2 => ?_⟩
    have pr5 : Pairs m (upd H4 f2 (.lst [])) fo ks := ⟨by rw [upd_ne (ne_of_none pr4.at_ hf2)]; exact pr4.at_, fun q hq => by rw [upd_ne (ne_of_none (pr4.tup q hq) hf2)]; exact pr4.tup q hq, pr4.ok⟩
    have g5 : HandAt (upd H4 f2 (.lst [])) p l := g4.new hf2
    have x5' : Ext p H (upd H4 f2 (.lst [])) := x4'.upd hf2
    have ef2 : (upd H4 f2 (.lst [])) f2 = some (.lst []) := upd_same
    obtain ⟨np2, nl2⟩ := g4.ne hf2
    have f20 : ∀ {b : Addr} {o : HO}, H b = some o → b ≠ p → b ≠ f2 := fun e nb => ne_of_none (x4' _ _ e nb) hf2
    revert pr5 g5 x5' ef2
    generalize upd H4 f2 (.lst []) = H5
    intro pr5 g5 x5' ef2
    refine ⟨_, rfl, fo, ks.map (fun p => V.ref p.1), kH H5, rfl, SqL.of pr5.at_, fun x hx => ?_, fun ys sp sr sb hsp => ?_⟩
    · obtain ⟨q, hq, rfl⟩ := List.mem_map.mp hx
      obtain ⟨a, b, e, _⟩ := pr5.ok q hq
      have t := pr5.tup q hq
      rw [e] at t
      refine ⟨q.1, rfl, ?_⟩
      rw [kH_at t]
      exact t
    obtain ⟨L, rfl, sub, sup, hlen, pw⟩ := sorted_back pr5 sb.perm sr
    have esp : (upd H5 sp (.lst (L.map fun p => V.ref p.1))) sp = some (.lst (L.map fun p => V.ref p.1)) := upd_same
    have s6 : Same H5 (upd H5 sp (.lst (L.map fun p => V.ref p.1))) := sN hsp
    have nsf : sp ≠ f2 := fun e => by rw [e, ef2] at hsp; cases hsp
    revert esp s6
    generalize upd H5 sp (.lst (L.map fun p => V.ref p.1)) = H6
    intro esp s6
    refine ⟨sp, rfl, ⟨_, SqL.of esp⟩, for_list (K := K) (a := sp) (xs := L.map fun p => V.ref p.1) (fun i σ H' => ∃ (x9 : Option V) (F : List (Addr × List Int)), σ = [some (.ref p), some (.int most), some (.int m), some (.ref fo), x4, x5, x6, x7, some (.ref f2), x9] ∧ Once m H' f2 L F i ∧ (∀ p ∈ L, H' p.1 = some (.tup (p.2.map V.int))) ∧ H' sp = some (.lst (L.map fun p => V.ref p.1)) ∧ HandAt H' p l ∧ Ext p H H') ?_ ?_ ?_ ?_⟩
    · exact ⟨none, [], rfl, ⟨⟨s6 _ _ ef2, fun q hq => absurd hq List.not_mem_nil, fun q hq => absurd hq List.not_mem_nil⟩, fun q hq => absurd hq List.not_mem_nil, fun q hq => absurd hq (by simp), .nil, Nat.le_refl _, fun q h => absurd h (by decide)⟩, fun q hq => s6 _ _ (pr5.tup q (sub q hq)), esp, g5.same s6, x5'.same s6⟩
    · rintro i σ H7 hi ⟨x9, F, rfl, on, tl, e7, g7, x7'⟩
      exact SqL.of e7
    · rintro i v σ H7 hv ⟨x9, F, rfl, on, tl, e7, g7, x7'⟩
      rw [List.getElem?_map] at hv
      obtain ⟨q, hq, rfl⟩ : ∃ q, L[i]? = some q ∧ V.ref q.1 = v := by
        cases z : L[i]? with
        | none => rw [z] at hv; cases hv
        | some q => rw [z] at hv; exact ⟨q, rfl, Option.some.inj hv⟩
      have hqL : q ∈ L := List.mem_of_getElem? hq
      have hiL : i < L.length := (List.getElem?_eq_some_iff.mp hq).1
      obtain ⟨a, b, eq2, a0, ab, bm⟩ := pr5.ok q (sub q hqL)
      refine ⟨_, rfl, _, rfl, _, rfl, -1, rfl, f2, _, rfl, SqL.of on.pr.at_, fun z hz => ?_⟩
      rw [cut_last, List.length_map, ← List.map_drop]
      have s8 : Same H7 (upd H7 z (.lst ((F.drop (F.length - 1)).map fun p => V.ref p.1))) := sN hz
      have ez : (upd H7 z (.lst ((F.drop (F.length - 1)).map fun p => V.ref p.1))) z = some (.lst ((F.drop (F.length - 1)).map fun p => V.ref p.1)) := upd_same
      revert s8 ez
      generalize upd H7 z (.lst ((F.drop (F.length - 1)).map fun p => V.ref p.1)) = H8
      intro s8 ez
      refine ⟨q.1, z, q.2, F.drop (F.length - 1), rfl, rfl, s8 _ _ (tl q hqL), ez, fun r hr2 => s8 _ _ (on.pr.tup r (List.mem_of_mem_drop hr2)), _, rfl, ?_⟩
      have tk : L.take (i + 1) = L.take i ++ [q] := by
        rw [List.take_add_one, hq]
        rfl
      have tl8 : ∀ p ∈ L, H8 p.1 = some (.tup (p.2.map V.int)) := fun p hp => s8 _ _ (tl p hp)
      have pr8 : Pairs m H8 f2 F := ⟨s8 _ _ on.pr.at_, fun r hr2 => s8 _ _ (on.pr.tup r hr2), on.pr.ok⟩
      -- what is the last one
      have key : (q.2 ∈ (F.drop (F.length - 1)).map (·.2) → ∃ F0 r, F = F0 ++ [r] ∧ r.2 = q.2) ∧ (¬ q.2 ∈ (F.drop (F.length - 1)).map (·.2) → ∀ r ∈ F, ltP r.2 q.2) := by
        by_cases c0 : i = 0
        · have eF : F = [] := List.eq_nil_of_length_eq_zero (by have := on.len; omega)
          rw [eF]
          exact ⟨fun h => absurd h (by simp), fun _ r hr2 => absurd hr2 List.not_mem_nil⟩
        · obtain ⟨pv', hpv⟩ : ∃ pv', L[i - 1]? = some pv' := ⟨_, List.getElem?_eq_getElem (by omega)⟩
          obtain ⟨F0, r0, eF, e0⟩ := on.last pv' (by omega) hpv
          have ed : F.drop (F.length - 1) = [r0] := by
            rw [eF, List.length_append]
            show (F0 ++ [r0]).drop (F0.length + 1 - 1) = _
            rw [Nat.add_sub_cancel, List.drop_left]
          rw [ed]
          refine ⟨fun h => ⟨F0, r0, eF, ?_⟩, fun h => ?_⟩
          · simp only [List.map_cons, List.map_nil, List.mem_singleton] at h
            exact h.symm
          · simp only [List.map_cons, List.map_nil, List.mem_singleton] at h
            have npw : ¬ ltP q.2 r0.2 := by
              rw [e0]
              have z := List.pairwise_iff_getElem.mp pw (i - 1) i (by omega) hiL (by omega)
              rw [(List.getElem?_eq_some_iff.mp hpv).2, (List.getElem?_eq_some_iff.mp hq).2] at z
              exact z
            obtain ⟨c', d', er, _⟩ := on.pr.ok r0 (by rw [eF]; exact List.mem_append_right _ (List.mem_singleton.mpr rfl))
            have lt0 : ltP r0.2 q.2 := by
              rw [er, eq2] at npw h ⊢
              exact ltP_of npw h
            intro r hr2
            have as := on.asc
            rw [eF, List.pairwise_append] at as
            rw [eF] at hr2
            rcases List.mem_append.mp hr2 with hr2 | hr2
            · exact ltP_trans (as.2.2 r hr2 r0 (List.mem_singleton.mpr rfl)) lt0
            · rw [List.mem_singleton.mp hr2]
              exact lt0
      refine ite2 (fun c => ?_) (fun c => ?_)
      · have nin : ¬ q.2 ∈ (F.drop (F.length - 1)).map (·.2) := fun h => by
          rw [decide_eq_true h] at c
          cases c
        have lt := key.2 nin
        refine ⟨_, rfl, .inl ⟨rfl, _, SqL.of pr8.at_⟩, _, rfl, f2, _, _, rfl, rfl, pr8.at_, ?_, ?_⟩
        · rw [List.length_map]
          exact Nat.lt_of_lt_of_le (show F.length < 1000 by have := on.len; omega) (by decide)
        have nt : ∀ r ∈ L, r.1 ≠ f2 := fun r hr2 => ne_of (tl8 r hr2) pr8.at_ (fun z => by cases z)
        have nF : ∀ r ∈ F, r.1 ≠ f2 := fun r hr2 => ne_of (pr8.tup r hr2) pr8.at_ (fun z => by cases z)
        refine ⟨_, F ++ [q], rfl, ⟨⟨?_, fun r hr2 => ?_, fun r hr2 => ?_⟩, fun r hr2 => ?_, fun r hr2 => ?_, ?_, ?_, fun r _ hr2 => ?_⟩, fun r hr2 => ?_, ?_, ?_, ?_⟩
        · rw [upd_same, List.map_append]
          rfl
        · rcases List.mem_append.mp hr2 with hr2 | hr2
          · rw [upd_ne (nF r hr2)]
            exact pr8.tup r hr2
          · rw [List.mem_singleton.mp hr2, upd_ne (nt q hqL)]
            exact tl8 q hqL
        · rcases List.mem_append.mp hr2 with hr2 | hr2
          · exact pr8.ok r hr2
          · rw [List.mem_singleton.mp hr2]
            exact pr5.ok q (sub q hqL)
        · rw [tk]
          rcases List.mem_append.mp hr2 with hr2 | hr2
          · exact List.mem_append_left _ (on.sub r hr2)
          · exact List.mem_append_right _ hr2
        · rw [tk] at hr2
          rcases List.mem_append.mp hr2 with hr2 | hr2
          · obtain ⟨y, hy, e⟩ := on.all r hr2
            exact ⟨y, List.mem_append_left _ hy, e⟩
          · exact ⟨r, List.mem_append_right _ hr2, rfl⟩
        · rw [List.pairwise_append]
          exact ⟨on.asc, List.pairwise_singleton _ _, fun r hr2 y hy => by rw [List.mem_singleton.mp hy]; exact lt r hr2⟩
        · rw [List.length_append]
          show F.length + 1 ≤ i + 1
          have := on.len
          omega
        · rw [Nat.add_sub_cancel, hq] at hr2
          cases hr2
          exact ⟨F, q, rfl, rfl⟩
        · rw [upd_ne (nt r hr2)]
          exact tl8 r hr2
        · rw [upd_ne nsf]
          exact s8 _ _ e7
        · exact (g7.same s8).stay (Ne.symm np2.symm) (Ne.symm nl2.symm)
        · exact fun b' o e nb => by
            rw [upd_ne (f20 e nb)]
            exact s8 _ _ (x7' b' o e nb)
      · have inn : q.2 ∈ (F.drop (F.length - 1)).map (·.2) := by
          by_cases h : q.2 ∈ (F.drop (F.length - 1)).map (·.2)
          · exact h
          · rw [decide_eq_false h] at c
            exact absurd rfl c
        obtain ⟨F0, r0, eF, e0⟩ := key.1 inn
        refine ⟨_, F, rfl, ⟨pr8, fun r hr2 => ?_, fun r hr2 => ?_, on.asc, Nat.le_succ_of_le on.len, fun r _ hr2 => ?_⟩, tl8, s8 _ _ e7, g7.same s8, x7'.same s8⟩
        · rw [tk]
          exact List.mem_append_left _ (on.sub r hr2)
        · rw [tk] at hr2
          rcases List.mem_append.mp hr2 with hr2 | hr2
          · exact on.all r hr2
          · rw [List.mem_singleton.mp hr2]
            exact ⟨r0, by rw [eF]; exact List.mem_append_right _ (List.mem_singleton.mpr rfl), e0⟩
        · rw [Nat.add_sub_cancel, hq] at hr2
          cases hr2
          exact ⟨F0, r0, eF, e0⟩
    · rintro σ H7 ⟨x9, F, rfl, on, tl, e7, g7, x7'⟩
      rw [List.length_map] at on
      refine ⟨_, rfl, _, rfl, f2, _, rfl, .inl ⟨SqL.of on.pr.at_, fun t ht => ?_⟩⟩
      refine ⟨(by show 2 ≤ sizeLine; decide), fun W hW => ?_⟩
      have s8 := sT (sN (o := .tup (F.map fun p => V.ref p.1)) ht) (sN (o := .tup [.int m, .ref t]) hW)
      refine k W t m F _ m1 mm ⟨sN hW _ _ upd_same, fun q hq => s8 _ _ (on.pr.tup q hq), on.pr.ok, on.asc, Nat.lt_of_le_of_lt on.len (by omega), fun h u v => ?_⟩ upd_same (g7.same s8) (x7'.same s8)
      obtain ⟨q, hq, o, e⟩ := hc h u v
      obtain ⟨r, hr2, e2⟩ := on.all q (by rw [List.take_length]; exact sup q hq)
      exact ⟨r, hr2, o, e2.trans e⟩
end
end Q

/-! enumerate over a tuple -/
namespace Q
open PySem L2 PySem.Spec PyProof.Rows
open AutoSeq1 (wpAny_loadPart')
theorem en_new (tp : Addr) (xs : Array Value) (n : Nat) (dc : Option Addr) (sl : Array (Option Value)) :
    Meets (Builtin.«enumerate.__new__» ⟨[.type "enumerate", .ref tp], []⟩) (fun _ R s => s.heap.get? tp = some { cls := .type "tuple", dict := dc, data := .seq xs n, slots := sl } ∧ R (.ok (.ret (.ref (s.heap.push { cls := .type "tuple_iterator", data := .fields #[.ref tp, .int 0 0] }).objs.size)))
      { s with heap := (s.heap.push { cls := .type "tuple_iterator", data := .fields #[.ref tp, .int 0 0] }).push { cls := .type "enumerate", data := .fields #[.none, .bool false, .ref s.heap.objs.size, rawInt 0, .none, .none] } }) :=
  .of_wp fun P' w' A' R' s' h' => by
    obtain ⟨h0, g0, d0, t0, o0⟩ := s'
    obtain ⟨a1, a2⟩ := h'
    have zs := sub_enumerate
    have zt : Heap.IsTuple (Shared.heap ⟨h0, g0, d0, t0, o0⟩) tp xs := ⟨_, a1, rfl, n, rfl⟩
    wp_walk using wpAny_loadPart' a1
    refine wpAny_stack_any fun _ => wpAny_pure ?_
    split
    · rename_i c _ _ _ _ _
      cases (c == Value.type "enumerate")
      · wp_walk using wpAny_loadPart' a1, wpAny_pyIter_tuple zt
        exact ⟨_, rfl, a2⟩
      · wp_walk using wpAny_loadPart' a1, wpAny_pyIter_tuple zt
        exact ⟨_, rfl, a2⟩
    · wp_walk using wpAny_loadPart' a1, wpAny_pyIter_tuple zt
      exact ⟨_, rfl, a2⟩
theorem en_call {prog : Program} {w : World} {A : Around} {E : Value → Shared → Prop} {s : Shared} {tp : Addr} {xs : Array Value} {Q : Value → Shared → Prop} (ht : s.heap.IsTuple tp xs)
    (k : ∀ h', IsEnum h' (s.heap.objs.size + 1) s.heap.objs.size 0 .none → h'.IsTupleIter s.heap.objs.size tp 0 → (∀ b o, s.heap.get? b = some o → h'.get? b = some o) → Q (.ref (s.heap.objs.size + 1)) { s with heap := h' }) :
    wpAny (model prog w) A (call (.type "enumerate") [.ref tp]) Q E s := by
  obtain ⟨⟨c, dc, dt, sl⟩, a1, ac, n, ad⟩ := ht
  have ac' : c = .type "tuple" := ac
  have ad' : dt = .seq xs n := ad
  subst ac' ad'
  refine callType_new F.called_enumerate (by decide) (F.typeCall_enumerate_1 _) (F.newCall_enumerate_1 _) (fun ob => F.args_object_init_2 ob _) F.entry_enumerate_new (en_new tp xs n dc sl) ⟨a1, ?_⟩
  have sz : (s.heap.push { cls := .type "tuple_iterator", data := .fields #[.ref tp, .int 0 0] }).objs.size = s.heap.objs.size + 1 := Heap.size_push ..
  show _ ∧ _
  rw [sz]
  have en : IsEnum ((s.heap.push { cls := .type "tuple_iterator", data := .fields #[.ref tp, .int 0 0] }).push { cls := .type "enumerate", data := .fields #[.none, .bool false, .ref s.heap.objs.size, rawInt 0, .none, .none] }) (s.heap.objs.size + 1) s.heap.objs.size 0 .none := by
    have q := Heap.get?_push_size (s.heap.push { cls := .type "tuple_iterator", data := .fields #[.ref tp, .int 0 0] }) (o := { cls := .type "enumerate", data := .fields #[.none, .bool false, .ref s.heap.objs.size, rawInt 0, .none, .none] }) rfl
    rw [sz] at q
    exact q
  exact ⟨⟨_, en, rfl⟩, k _ en ⟨_, Heap.get?_push_of_some _ (Heap.get?_push_size _ rfl), rfl, rfl⟩ fun b o x => Heap.get?_push_of_some _ (Heap.get?_push_of_some _ x)⟩
/-- the tuple at a, each item in a new pair behind its number -/
def ItEt (K : PySem.W.Frag) (a : Addr) : It :=
  ⟨fun i H => ∃ (xs : List V) (x : V), SqT K H a xs ∧ xs[i]? = some x, fun i H v H' => ∃ T x, v = .ref T ∧ H T = none ∧ H' = upd H T (.tup [.int (i : Nat), x]) ∧ ∀ ys, SqT K H a ys → ys[i]? = some x, fun i H => ∃ xs : List V, SqT K H a xs ∧ xs.length = i⟩
theorem D_of {prog : Program} {w : World} {A : Around} (hh : A.handled = none) {it a : Addr} (n : a ≠ it) (items : Array Value) : Draws prog w A.in1 it [it, a] items.size (fun i v => items[i]? = some v) (fun i h => h.IsTupleIter it a i ∧ h.IsTuple a items) :=
  Draws.tuple (A := A.in1) hh it a n items
theorem en_turn {P : Program} {w : World} {K : PySem.W.Frag} {elts : List Expr} {kk : Nat} {tpos : Pos} (a e it : Addr) :
    Turn P w K (.Tuple elts kk tpos) (ItEt K a) [e, it] e (fun i h => (∃ u, IsEnum h e it ((i : Nat) : Int) u) ∧ h.IsTupleIter it a i ∧ e ≠ it ∧ a ≠ it ∧ a ≠ e) where
  mem := List.mem_cons_self
  obj := fun i h st b hb => by
    obtain ⟨⟨u, he⟩, ⟨o, ho, hc, hd⟩, _⟩ := st
    rcases List.mem_cons.mp hb with z | z
    · rw [z]; exact ⟨_, he, fun v q => nomatch q⟩
    · rw [List.mem_singleton.mp z]; exact ⟨o, ho, fun v q => by rw [hd] at q; cases q⟩
  keep := fun i h h' st k => let ⟨⟨u, he⟩, hi, n1, n2⟩ := st; ⟨⟨u, k e List.mem_cons_self _ he⟩, hi.at fun o q => k it (List.mem_cons_of_mem _ (List.mem_singleton.mpr rfl)) o q, n1, n2⟩
  item := by
    intro X eP ew eK hc i pins s σ H E I hf st hg
    subst eP ew eK
    obtain ⟨⟨u0, he⟩, hit, n1, n2, n3⟩ := st
    obtain ⟨xs, x, hq, hx⟩ := hg
    obtain ⟨its, rv, tp, hz⟩ := I.tuple hq
    obtain ⟨u, hu, ru⟩ := rv.get hx
    have lt : i < its.toArray.size := by
      have z := (List.getElem?_eq_some_iff.mp hu).1
      simpa using z
    have le : e < s.heap.objs.size := Heap.lt_size he
    have li : it < s.heap.objs.size := by obtain ⟨_, q, _⟩ := hit; exact Heap.lt_size q
    refine wpAny_pyNext_enum_itemD (D_of (I.ok.hd hc) n2 its.toArray) he ⟨hit, tp⟩ lt n1 (fun z => ?_) fun y h' tk hy ho hs' hT hsz hk => ?_
    · rcases List.mem_cons.mp z with z | z
      · exact n1 z
      · exact n3 (List.mem_singleton.mp z).symm
    have ey : y = u := by
      have z : its.toArray[i]? = some y := hy
      rw [List.getElem?_toArray, hu] at z
      exact (Option.some.inj z).symm
    subst ey
    refine ⟨_, rfl, wpAny_letOwnedTupleGo_enum (s := { s with heap := h', toks := tk + 1 }) ho fun h2 he2 sb => ?_⟩
    have hT2 : h2.get? s.heap.objs.size = some { cls := .type "tuple", data := .seq #[.int i tk, y] } := (sb.2 _ (Nat.ne_of_gt le)).trans hT
    have new : ObjOk X.prog X.w (upd H s.heap.objs.size (.tup [.int (i : Nat), x])) h2 s.heap.objs.size (.tup [.int (i : Nat), x]) :=
      ⟨by show 2 ≤ sizeLine; decide, [.int i tk, y], .cons ⟨_, rfl⟩ (.cons ru .nil), ⟨_, hT2, rfl, _, rfl⟩⟩
    have I1 : Inv X pins σ (upd H s.heap.objs.size (.tup [.int (i : Nat), x])) { s with heap := h2, toks := tk + 1 } :=
      I.turnedNew (ch := [e, it]) (fun b ob hb q => (sb.2 b (fun z => hb (by rw [z]; exact List.mem_cons_self))).trans (hk b ob (fun z => hb (by rw [z]; exact List.mem_cons_self)) (fun z => hb (by rw [z]; exact List.mem_cons_of_mem _ (List.mem_singleton.mpr rfl))) q)) hf (Nat.le_refl _) new
    refine ⟨.ref s.heap.objs.size, _, I1, rfl, ⟨_, x, rfl, I.hok.fresh (Nat.le_refl _), rfl, fun ys hy => by rw [I.tuple_inj hy hq]; exact hx⟩, ⟨⟨y, ?_⟩, hs'.1.at fun o q => (sb.2 it (Ne.symm n1)).trans q, n1, n2, n3⟩, fun b hb => ?_⟩
    · have e1 : ((i + 1 : Nat) : Int) = (i : Int) + 1 := by omega
      rw [e1]
      exact he2
    · have hb2 : b < s.heap.objs.size := by
        rcases List.mem_cons.mp hb with z | z
        · rw [z]; exact le
        · rw [List.mem_singleton.mp z]; exact li
      rw [upd_ne (Nat.ne_of_lt hb2)]
      exact (hf b hb).1
  done := by
    intro X eP ew eK hc i pins s σ H E I hf st hg
    subst eP ew eK
    obtain ⟨⟨u0, he⟩, hit, n1, n2, n3⟩ := st
    obtain ⟨xs, hq, hx⟩ := hg
    obtain ⟨its, rv, tp, hz⟩ := I.tuple hq
    obtain ⟨f0, f1, f2, f3, f4, f5⟩ := hf it (List.mem_cons_of_mem _ (List.mem_singleton.mpr rfl))
    have ls : xs.length = its.length := rv.length
    have ei : i = its.toArray.size := by
      rw [List.size_toArray]
      omega
    exact wpAny_pyNext_enum_endD (D_of (I.ok.hd hc) n2 its.toArray) he ⟨by rw [← ei]; exact hit, tp⟩ fun h' eb => ⟨rfl, I.turned (t' := s.toks) (fun b o hb q => eb b o hb q) f0 f1 f3 f4 f5⟩
  self := fun A i s Q E st h => let ⟨⟨_, he⟩, _⟩ := st; wpAny_pyIter_enum he h
def iEnT (K : PySem.W.Frag) (ta : TA) : TI := fun σ H R => ta σ H fun vs H1 => ∃ a xs, vs = [.ref a] ∧ SqT K H1 a xs ∧ R (ItEt K a) H1
theorem pi_enumT {X : Cx} {e : Expr} {ta : TA} {p pos tpos : Pos} {elts : List Expr} {kk : Nat} (hg : Gl X "enumerate") (hm : X.mg "enumerate" = none) (ha : PA X [e] ta) (hs : starEach [e] X.env = [(false, eval e X.env)] := by rfl) :
    PI X (.Tuple elts kk tpos) (.Call (.Name "enumerate" p) [e] [] pos) (iEnT X.K ta) := by
  refine ⟨fun pins s σ H R I h => ?_⟩
  refine Call_ (ld_blt I hg hm boot_enumerate (PyProof.Rows.callWith_type1 (thn (ha.run pos pins s σ H _ I h) fun us s1 ⟨vs, H1, I1, r1, q1⟩ => ?_) hs rfl))
  obtain ⟨a, xs, rfl, hq, q⟩ := q1
  cases r1 with
  | cons r rr =>
    cases rr
    cases r
    obtain ⟨its, rv, tp, hz⟩ := I1.tuple hq
    have la : a < s1.heap.objs.size := by obtain ⟨o, z, _⟩ := tp; exact Heap.lt_size z
    refine en_call tp fun h' he hit hk => wpAny_pyIter_enum he ?_
    have I2 : Inv X pins σ H1 { s1 with heap := h' } := I1.kept (t' := s1.toks) hk
    refine ⟨s1.heap.objs.size + 1, [s1.heap.objs.size + 1, s1.heap.objs.size], _, _, H1, rfl, I2, en_turn a (s1.heap.objs.size + 1) s1.heap.objs.size, ⟨⟨.none, he⟩, hit, Nat.succ_ne_self _, Nat.ne_of_lt la, Nat.ne_of_lt (Nat.lt_succ_of_lt la)⟩, fun b hb => ?_, q⟩
    have hle : s1.heap.objs.size ≤ b := by
      rcases List.mem_cons.mp hb with z | z
      · rw [z]; exact Nat.le_add_right _ _
      · rw [List.mem_singleton.mp z]; exact Nat.le_refl _
    exact I1.fpOk hle (I1.hok.fresh hle)
theorem for_enT {K : PySem.W.Frag} {a : Addr} {xs : List V} {g : TG} {tb : TS} {D : Ends} {σ : L2.St} {H : Hp} (Pv : Nat → L2.St → Hp → Prop) (h0 : Pv 0 σ H) (hl : ∀ i σ H, i ≤ xs.length → Pv i σ H → SqT K H a xs)
    (hs : ∀ (i : Nat) (x : V) (T : Addr) (σ : L2.St) (H : Hp), xs[i]? = some x → Pv i σ H → H T = none → g (.ref T) σ (upd H T (.tup [.int (i : Nat), x])) fun σ2 H2 => tb { D with nx := Pv (i + 1), ct := Pv (i + 1), bk := D.nx } σ2 H2) (hd : ∀ σ H, Pv xs.length σ H → D.nx σ H) :
    ∃ W : Nat → Nat → L2.St → Hp → Prop, (∃ m, W 0 m σ H) ∧ ∀ i m σ H, W i m σ H →
      ((ItEt K a).stop i H ∧ D.nx σ H) ∨ ((ItEt K a).go i H ∧ ∃ N : L2.St → Hp → Prop, (∀ σ' H', N σ' H' → ∃ m', m' < m ∧ W (i + 1) m' σ' H') ∧ ∀ v H', (ItEt K a).yld i H v H' → g v σ H' fun σ2 H2 => tb { D with nx := N, ct := N, bk := D.nx } σ2 H2) := by
  refine ⟨fun i m σ H => m = xs.length - i ∧ i ≤ xs.length ∧ Pv i σ H, ⟨xs.length, by omega, Nat.zero_le _, h0⟩, ?_⟩
  rintro i m σ H ⟨em, hi, p⟩
  have q := hl i σ H hi p
  by_cases lt : i < xs.length
  · refine .inr ⟨⟨xs, xs[i], q, List.getElem?_eq_getElem lt⟩, Pv (i + 1), fun σ' H' p' => ⟨xs.length - (i + 1), by omega, rfl, lt, p'⟩, ?_⟩
    rintro v H' ⟨T, x, rfl, hT, rfl, hx⟩
    exact hs i x T σ H (hx xs q) p hT
  · have e : i = xs.length := by omega
    subst e
    exact .inl ⟨⟨xs, q, rfl⟩, hd σ H p⟩
end Q

namespace Q
open PySem L2
abbrev sPlain : Stmt := top 9
abbrev sNum : Stmt := top 10
abbrev sTie : Stmt := top 16
abbrev sFirst : Stmt := top 17
abbrev kInt (K : PySem.W.Frag) (t : Value) (b : Bool) : Prop := PySem.W.kitOne K t (.type "int") = some b
abbrev kBool (K : PySem.W.Frag) (t : Value) (b : Bool) : Prop := PySem.W.kitOne K t (.type "bool") = some b
def spPlain (K : PySem.W.Frag) : Sp := fun vs H Q _ => ∃ (v : V) (t : Value) (b c : Bool), vs = [v] ∧ TyX K H v t ∧ kInt K t b ∧ kBool K t c ∧ Q (.bl (b && !c)) H
def NoInt (K : PySem.W.Frag) (H : Hp) (v : V) : Prop := ∃ (t : Value) (b c : Bool), TyX K H v t ∧ kInt K t b ∧ kBool K t c ∧ (b && !c) = false
def spNum (K : PySem.W.Frag) : Sp := fun vs H Q _ => ∃ (n : Int) (v : V), vs = [.int n, v] ∧ ((∃ i : Int, v = .int i ∧ Q (.bl (decide (0 ≤ i) && decide (i < n))) H) ∨ (NoInt K H v ∧ Q (.bl false) H))
def spTie : Sp := fun vs H Q _ => ∃ (m : Int) (t : Addr) (a b : Int), vs = [.int m, .ref t] ∧ H t = some (.tup [.int a, .int b]) ∧ 0 ≤ a ∧ a < b ∧ b < m ∧ Q (.bl true) H
def spFirst : Sp := fun vs H Q _ => ∃ (m : Int) (q : Addr) (L : List (Addr × List Int)), vs = [.int m, .ref q] ∧ TiesAt m H q L ∧ ∀ H', Same H H' → Q .non H'
theorem kInt_int {K : PySem.W.Frag} : kInt K (.type "int") true := kit_ty (by decide +kernel)
theorem kBool_int {K : PySem.W.Frag} : kBool K (.type "int") false := kit_ty (by decide +kernel)
section
variable {P : Program} {w : World} {K : PySem.W.Frag} {mg : Str → Option Value} {base : Heap}
theorem scPlain : FnScope ["thing"] ["thing"] (defScope sPlain) := ⟨rfl, rfl, rfl, by decide +kernel, rfl, by decide +kernel, by decide +kernel⟩
theorem ok_plain {f : Addr} {fd : FuncData} {x : Str} {st : Stmt} (F : Fun K "is_plain_int" "is_plain_int" sPlain f fd) (B : Bts mg) : FnOk P w K mg base CX0 1 f fd ["thing"] (spPlain K) := by
  refine F.ok scPlain (fun vs H Q E h => ?_) (fun cdv A outer s H vs Q E hr h => ?_)
  · obtain ⟨v, t, b, c, rfl, _⟩ := h
    rfl
  · obtain ⟨v, t, b, c, rfl, ty, kb, kc, k⟩ := h
    refine ⟨_, pss_one (ps_ret (pe_and (pe_callB call_isi (by rfl) B.isinstance PyProof.Rows.boot_isinstance (pa_cons (pv 0) (pa_cons (pe_bltn (v := .ty "int") rfl B.int PyProof.Rows.boot_int rfl) pa_nil)))
      (pe_one (pe_not (pe_callB call_isi (by rfl) B.isinstance PyProof.Rows.boot_isinstance (pa_cons (pv 0) (pa_cons (pe_bltn (v := .ty "bool") rfl B.bool (by decide +kernel) rfl) pa_nil))))))), ?_⟩
    refine ⟨_, rfl, v, .ty "int", t, .type "int", b, rfl, .ty _, ty, kb, _, rfl, ?_⟩
    cases b with
    | false => exact iteF k
    | true => exact iteT ⟨_, rfl, v, .ty "bool", t, .type "bool", c, rfl, .ty _, ty, kc, _, rfl, k⟩
theorem scNum : FnScope ["limit", "thing"] ["limit", "thing"] (defScope sNum) := ⟨rfl, rfl, rfl, by decide +kernel, rfl, by decide +kernel, by decide +kernel⟩
theorem ok_num {f fP : Addr} {fd fdP : FuncData} (F : Fun K "is_number_below" "is_number_below" sNum f fd) (B : Bts mg) (DP : Df K mg "is_plain_int" sPlain ["thing"] fP fdP) : FnOk P w K mg base CX0 2 f fd ["limit", "thing"] (spNum K) := by
  have GP : FnOk P w K mg base CX0 1 fP fdP ["thing"] (spPlain K) := ok_plain (x := "") (st := sPlain) DP.F B
  refine F.ok scNum (fun vs H Q E h => ?_) (fun cdv A outer s H vs Q E hr h => ?_)
  · obtain ⟨n, v, rfl, _⟩ := h
    rfl
  · obtain ⟨n, v, rfl, h⟩ := h
    refine ⟨_, pss_one (ps_ret (pe_and (pe_call GP hr rfl DP.m DP.k DP.b .nil pass0 (pa_cons (pv 1) pa_nil)) (pe_one (pe_chain op_le op_lt pe_int (pv 1) (pv 0))))), ?_⟩
    rcases h with ⟨i, rfl, k⟩ | ⟨⟨t, b, c, ty, kb, kc, e⟩, k⟩
    · refine ⟨_, rfl, .int i, .type "int", true, false, rfl, .base (.int _), kInt_int, kBool_int, _, rfl, iteT ?_⟩
      refine ⟨_, rfl, _, _, rfl, rfl, _, rfl, ?_⟩
      by_cases c : (0 : Int) ≤ i
      · rw [decide_eq_true c] at k ⊢
        exact iteT ⟨_, rfl, _, _, rfl, rfl, k⟩
      · rw [decide_eq_false c] at k ⊢
        exact iteF k
    · refine ⟨_, rfl, v, t, b, c, rfl, ty, kb, kc, _, rfl, ?_⟩
      rw [e]
      exact iteF k
theorem scTie : FnScope ["many", "thing", "low", "high"] ["many", "thing"] (defScope sTie) := ⟨rfl, rfl, rfl, by decide +kernel, rfl, by decide +kernel, by decide +kernel⟩
theorem ok_tie {f fP fN : Addr} {fd fdP fdN : FuncData} (F : Fun K "is_tie" "is_tie" sTie f fd) (B : Bts mg) (DP : Df K mg "is_plain_int" sPlain ["thing"] fP fdP) (DN : Df K mg "is_number_below" sNum ["limit", "thing"] fN fdN) : FnOk P w K mg base CX0 3 f fd ["many", "thing"] spTie := by
  have GN : FnOk P w K mg base CX0 2 fN fdN ["limit", "thing"] (spNum K) := ok_num DN.F B DP
  refine F.ok scTie (fun vs H Q E h => ?_) (fun cdv A outer s H vs Q E hr h => ?_)
  · obtain ⟨m, t, a, b, rfl, _⟩ := h
    rfl
  · obtain ⟨m, t, a, b, rfl, ht, h0, h1, h2, k⟩ := h
    have nd := scTie.nd
    refine ⟨_, pss_cons (ps_if (PW.pt (pw_or (pt_not (pt_val (pe_callB call_isi (by rfl) B.isinstance PyProof.Rows.boot_isinstance (pa_cons (pv 1) (pa_cons (pe_bltn (v := .ty "tuple") rfl B.tuple PyProof.Rows.boot_tuple rfl) pa_nil)))))
        (pw_or1 (pt_cmpR op_ne (pe_callB call_len_seq (by rfl) B.len PySem.boot_len (pa_cons (pv 1) pa_nil)) pe_int (nomark _))))) pss_never pss_nil)
      (pss_cons (ps_asg (pv 1) (pg_tup rfl (pgs_cons (pg_name (i := 2) nd rfl (.inl rfl)) (pgs_cons (pg_name (i := 3) nd rfl (.inl rfl)) pgs_nil))))
      (pss_one (ps_ret (pe_and (pe_call GN hr rfl DN.m DN.k DN.b .nil pass0 (pa_cons (pv 0) (pa_cons (pv 2) pa_nil)))
        (pe_and (pe_call GN hr rfl DN.m DN.k DN.b .nil pass0 (pa_cons (pv 0) (pa_cons (pv 3) pa_nil))) (pe_one (pe_cmpR op_lt (pv 2) (pv 3) (nomark _)))))))), ?_⟩
    refine ⟨_, rfl, .ref t, .ty "tuple", .type "tuple", .type "tuple", true, rfl, .ty _, .base (.tup ht), kit_ty (by decide +kernel), _, rfl, ?_⟩
    refine iteF ⟨_, rfl, t, _, rfl, .inr (SqT.of ht), rfl, _, rfl, ?_⟩
    refine iteF ?_
    refine ⟨_, rfl, t, _, rfl, SqT.of ht, rfl, _, _, rfl, _, _, rfl, rfl, ?_⟩
    refine ⟨_, rfl, _, rfl, m, _, rfl, .inl ⟨a, rfl, ?_⟩⟩
    rw [decide_eq_true h0, decide_eq_true (show a < m by omega)]
    refine ⟨_, rfl, iteT ?_⟩
    refine ⟨_, rfl, _, rfl, m, _, rfl, .inl ⟨b, rfl, ?_⟩⟩
    rw [decide_eq_true (show 0 ≤ b by omega), decide_eq_true h2]
    refine ⟨_, rfl, iteT ?_⟩
    refine ⟨_, rfl, _, rfl, _, _, rfl, rfl, ?_⟩
    have z : Q (V.bl (decide (a < b))) H := by
      rw [decide_eq_true h1]
      exact k
    exact z
theorem not_le_of {a b c d : Int} (h : ltP [c, d] [a, b]) : Ob.lexAt (fun j => decide (([a, b] : List Int).getD j 0 = ([c, d] : List Int).getD j 0)) (fun j => decide (([a, b] : List Int).getD j 0 ≤ ([c, d] : List Int).getD j 0)) (decide (([a, b] : List Int).length ≤ ([c, d] : List Int).length)) 0 (min ([a, b] : List Int).length ([c, d] : List Int).length) = false := by
  obtain ⟨x, y, z, u, e1, e2, h⟩ := h
  simp only [List.cons.injEq, and_true] at e1 e2
  obtain ⟨rfl, rfl⟩ := e1
  obtain ⟨rfl, rfl⟩ := e2
  show (if decide (a = c) = true then (if decide (b = d) = true then decide ((2 : Nat) ≤ 2) else decide (b ≤ d)) else decide (a ≤ c)) = false
  rcases h with h | ⟨h1, h2⟩
  · rw [decide_eq_false (show ¬ a = c by omega), if_neg Bool.false_ne_true]
    exact decide_eq_false (by omega)
  · rw [decide_eq_true (show a = c by omega), if_pos rfl, decide_eq_false (show ¬ b = d by omega), if_neg Bool.false_ne_true]
    exact decide_eq_false (by omega)
/-- what stood ahead of item i -/
def ahd (L : List (Addr × List Int)) : Nat → List Int
  | 0 => []
  | i + 1 => match L[i]? with
    | some p => p.2
    | none => []
theorem TiesAt.same {m : Int} {H H' : Hp} {q : Addr} {L : List (Addr × List Int)} (h : TiesAt m H q L) (s : Same H H') : TiesAt m H' q L :=
  ⟨s _ _ h.at_, fun p hp => s _ _ (h.tup p hp), h.ok, h.asc, h.few, h.conn⟩
theorem ahd_lt {L : List (Addr × List Int)} (asc : L.Pairwise (fun x y => ltP x.2 y.2)) {i : Nat} {p : Addr × List Int} (h : L[i + 1]? = some p) : ltP (ahd L (i + 1)) p.2 := by
  have h1 := (List.getElem?_eq_some_iff.mp h).1
  have e : L[i]? = some L[i] := List.getElem?_eq_getElem (by omega)
  have e2 := (List.getElem?_eq_some_iff.mp h).2
  show ltP (match L[i]? with | some p => p.2 | none => []) p.2
  rw [e]
  have z := List.pairwise_iff_getElem.mp asc i (i + 1) (by omega) h1 (by omega)
  rw [e2] at z
  exact z
theorem scFirst : FnScope ["many", "ties", "ahead", "at", "tie"] ["many", "ties"] (defScope sFirst) := ⟨rfl, rfl, rfl, by decide +kernel, rfl, by decide +kernel, by decide +kernel⟩
theorem ok_first {f fP fN fT : Addr} {fd fdP fdN fdT : FuncData} (F : Fun K "first_wrong_tie" "first_wrong_tie" sFirst f fd) (B : Bts mg) (DP : Df K mg "is_plain_int" sPlain ["thing"] fP fdP) (DN : Df K mg "is_number_below" sNum ["limit", "thing"] fN fdN)
    (DT : Df K mg "is_tie" sTie ["many", "thing"] fT fdT) : FnOk P w K mg base CX0 4 f fd ["many", "ties"] spFirst := by
  have GT : FnOk P w K mg base CX0 3 fT fdT ["many", "thing"] spTie := ok_tie DT.F B DP DN
  refine F.ok scFirst (fun vs H Q E h => ?_) (fun cdv A outer s H vs Q E hr h => ?_)
  · obtain ⟨m, q, L, rfl, _⟩ := h
    rfl
  · obtain ⟨m, q, L, rfl, tt, k⟩ := h
    have nd := scFirst.nd
    have hu := hr.units0
    refine ⟨_, pss_cons (ps_set (i := 2) nd rfl (.inl rfl) (pe_tup pa_nil))
      (pss_cons (ps_for PassesOwn.never rfl (pi_enumT rfl B.enumerate (pa_cons (pv 1) pa_nil)) (pg_tup rfl (pgs_cons (pg_name (i := 3) nd rfl (.inl rfl)) (pgs_cons (pg_name (i := 4) nd rfl (.inl rfl)) pgs_nil)))
        (pss_cons (ps_if (PW.pt (pw_or (pt_not (pt_val (pe_call GT hr rfl DT.m DT.k DT.b .nil pass0 (pa_cons (pv 0) (pa_cons (pv 4) pa_nil))))) (pw_or1 (pt_cmpR (op_leT hu) (pv 4) (pv 2) (nomark _))))) pss_never pss_nil)
        (pss_one (ps_set (i := 2) nd rfl (.inl rfl) (pv 4)))))
      (pss_one (ps_ret pe_non))), ?_⟩
    refine ⟨Nat.zero_le _, fun ah hah => ?_⟩
    have s0 : Same H (upd H ah (.tup [])) := fun b o e => by rw [upd_ne (ne_of_none e hah)]; exact e
    refine ⟨_, rfl, q, _, rfl, SqT.of (s0 _ _ tt.at_), for_enT (a := q) (xs := L.map fun p => V.ref p.1) (fun i σ H' => ∃ ah x3 x4, σ = [some (.int m), some (.ref q), some (.ref ah), x3, x4] ∧ Same H H' ∧ H' ah = some (.tup ((ahd L i).map V.int))) ?_ ?_ ?_ ?_⟩
    · exact ⟨ah, none, none, rfl, s0, upd_same⟩
    · rintro i σ H1 hi ⟨ah, x3, x4, rfl, s1, e⟩
      exact SqT.of (s1 _ _ tt.at_)
    · rintro i x T σ H1 hx ⟨ah, x3, x4, rfl, s1, e⟩ hT
      have s2 : Same H1 (upd H1 T (.tup [.int (i : Nat), x])) := fun b o e => by rw [upd_ne (ne_of_none e hT)]; exact e
      obtain ⟨p, hp, rfl⟩ : ∃ p, L[i]? = some p ∧ V.ref p.1 = x := by
        rw [List.getElem?_map] at hx
        cases z : L[i]? with
        | none => rw [z] at hx; cases hx
        | some p => rw [z] at hx; exact ⟨p, rfl, Option.some.inj hx⟩
      have hm : p ∈ L := List.mem_of_getElem? hp
      obtain ⟨a, b, e2, a0, ab, bm⟩ := tt.ok p hm
      have ht2 := s2 _ _ (s1 _ _ (tt.tup p hm))
      refine ⟨T, _, rfl, SqT.of upd_same, rfl, _, _, rfl, _, _, rfl, rfl, ?_⟩
      have ht3 := ht2
      rw [e2] at ht3
      refine ⟨_, rfl, _, rfl, m, p.1, a, b, rfl, ht3, a0, ab, bm, _, rfl, ?_⟩
      refine iteF ⟨_, rfl, _, rfl, p.1, ah, [a, b], ahd L i, rfl, rfl, SqT.of ht3, SqT.of (s2 _ _ e), _, rfl, ?_⟩
      have fl : Ob.lexAt (fun j => decide (([a, b] : List Int).getD j 0 = (ahd L i).getD j 0)) (fun j => decide (([a, b] : List Int).getD j 0 ≤ (ahd L i).getD j 0)) (decide (([a, b] : List Int).length ≤ (ahd L i).length)) 0 (min ([a, b] : List Int).length (ahd L i).length) = false := by
        cases i with
        | zero => rfl
        | succ i =>
          have z := ahd_lt tt.asc hp
          rw [e2] at z
          have z' := z
          obtain ⟨c, d, _, _, e3, _⟩ := z'
          rw [e3] at z ⊢
          exact not_le_of z
      rw [fl]
      refine iteF ⟨_, rfl, p.1, _, _, rfl, fun b o e => s2 _ _ (s1 _ _ e), ?_⟩
      have eah : ahd L (i + 1) = p.2 := by
        show (match L[i]? with | some p => p.2 | none => []) = p.2
        rw [hp]
      rw [eah]
      exact ht2
    · rintro σ H1 ⟨ah, x3, x4, rfl, s1, e⟩
      exact k _ s1
end
end Q

/-! Ways through a graph: the mathematics, in plain Lean. -/
namespace QM
inductive Rch (G : Nat → Nat → Prop) (s : Nat) : Nat → Nat → Prop
  | zero : Rch G s 0 s
  | succ {k u v : Nat} : Rch G s k u → G u v → Rch G s (k + 1) v
def Dist (G : Nat → Nat → Prop) (s v d : Nat) : Prop := Rch G s d v ∧ ∀ e, e < d → ¬ Rch G s e v
variable {G : Nat → Nat → Prop} {s : Nat}
theorem Dist.uniq {v d e : Nat} (h : Dist G s v d) (g : Dist G s v e) : d = e := by
  rcases Nat.lt_trichotomy d e with c | c | c
  · exact absurd h.1 (g.2 d c)
  · exact c
  · exact absurd g.1 (h.2 e c)
theorem Rch.dist {v k : Nat} (h : Rch G s k v) : ∃ d, d ≤ k ∧ Dist G s v d := by
  induction k using Nat.strongRecOn with
  | _ k ih =>
    by_cases c : ∃ e, e < k ∧ Rch G s e v
    · obtain ⟨e, he, r⟩ := c
      obtain ⟨d, hd, q⟩ := ih e he r
      exact ⟨d, Nat.le_trans hd (Nat.le_of_lt he), q⟩
    · exact ⟨k, Nat.le_refl _, h, fun e he r => c ⟨e, he, r⟩⟩
theorem Dist.zero : Dist G s s 0 := ⟨.zero, fun e he => absurd he (Nat.not_lt_zero e)⟩
theorem Dist.of_zero {v : Nat} (h : Dist G s v 0) : v = s := by
  have z := h.1
  cases z
  rfl
theorem Dist.pred {v t : Nat} (h : Dist G s v (t + 1)) : ∃ u, Dist G s u t ∧ G u v := by
  have z := h.1
  cases z with
  | succ r g => exact ⟨_, ⟨r, fun e he r' => h.2 (e + 1) (by omega) (.succ r' g)⟩, g⟩
theorem Dist.next {u v t : Nat} (no : ∀ d, d ≤ t → ¬ Dist G s v d) (h : Dist G s u t) (g : G u v) : Dist G s v (t + 1) := by
  refine ⟨.succ h.1 g, fun e he r => ?_⟩
  obtain ⟨d, hd, q⟩ := r.dist
  exact no d (by omega) q
theorem Dist.chain {v d : Nat} (h : Dist G s v d) : ∀ e, e ≤ d → ∃ u, Dist G s u e := by
  induction d generalizing v with
  | zero =>
    intro e he
    obtain rfl : e = 0 := by omega
    exact ⟨v, h⟩
  | succ d ih =>
    intro e he
    by_cases c : e = d + 1
    · exact ⟨v, by rw [c]; exact h⟩
    · obtain ⟨u, hu, _⟩ := h.pred
      exact ih hu e (by omega)
theorem Rch.front {a b k : Nat} (g : G a b) {c : Nat} (h : Rch G b k c) : Rch G a (k + 1) c := by
  induction h with
  | zero => exact .succ .zero g
  | succ _ e ih => exact .succ ih e
theorem Rch.back (sym : ∀ a b, G a b → G b a) {v k : Nat} (h : Rch G s k v) : Rch G v k s := by
  induction h with
  | zero => exact .zero
  | succ _ e ih => exact Rch.front (sym _ _ e) ih
theorem Dist.back (sym : ∀ a b, G a b → G b a) {v d : Nat} (h : Dist G s v d) : Dist G v s d := ⟨h.1.back sym, fun e he r => h.2 e he (r.back sym)⟩
theorem nodup_le : ∀ (n : Nat) (l : List Nat), l.Nodup → (∀ x, x ∈ l → x < n) → l.length ≤ n
  | 0, [], _, _ => Nat.le_refl _
  | 0, x :: _, _, h => absurd (h x List.mem_cons_self) (Nat.not_lt_zero _)
  | n + 1, l, hn, h => by
    by_cases c : n ∈ l
    · have e1 := List.length_erase_of_mem c
      have z := nodup_le n (l.erase n) (hn.erase n) fun x hx => by
        have h1 := h x (List.mem_of_mem_erase hx)
        have h2 : x ≠ n := fun e => by
          rw [e] at hx
          exact (List.Nodup.not_mem_erase hn) hx
        omega
      omega
    · have z := nodup_le n l hn fun x hx => by
        have h1 := h x hx
        have h2 : x ≠ n := fun e => c (by rw [← e]; exact hx)
        omega
      omega
/-- a way's length is less than how many there are -/
theorem Dist.lt {n v d : Nat} (hs : s < n) (hG : ∀ a b, G a b → b < n) (h : Dist G s v d) : d < n := by
  have key : ∀ e, e ≤ d + 1 → ∃ l : List Nat, l.length = e ∧ l.Nodup ∧ ∀ x, x ∈ l → x < n ∧ ∃ k, k < e ∧ Dist G s x k := by
    intro e
    induction e with
    | zero => exact fun _ => ⟨[], rfl, List.nodup_nil, fun x hx => absurd hx List.not_mem_nil⟩
    | succ e ih =>
      intro he
      obtain ⟨l, hl, hn, hx⟩ := ih (by omega)
      obtain ⟨u, hu⟩ := h.chain e (by omega)
      have un : u < n := by
        cases e with
        | zero => rw [hu.of_zero]; exact hs
        | succ e =>
          obtain ⟨_, _, g⟩ := hu.pred
          exact hG _ _ g
      refine ⟨u :: l, by rw [List.length_cons, hl], List.nodup_cons.mpr ⟨fun hm => ?_, hn⟩, fun x hm => ?_⟩
      · obtain ⟨_, k, hk, q⟩ := hx u hm
        have := q.uniq hu
        omega
      · rcases List.mem_cons.mp hm with rfl | hm
        · exact ⟨un, e, by omega, hu⟩
        · obtain ⟨z1, k, hk, q⟩ := hx x hm
          exact ⟨z1, k, by omega, q⟩
  obtain ⟨l, hl, hn, hx⟩ := key (d + 1) (Nat.le_refl _)
  have z := nodup_le n l hn fun x hm => (hx x hm).1
  omega
end QM

namespace Q
open PySem L2
abbrev sBeside : Stmt := top 18
def Edge (L : List (Addr × List Int)) (i j : Int) : Prop := ∃ p ∈ L, p.2 = [i, j] ∨ p.2 = [j, i]
/-- a list at D of n lists of ints -/
structure RowsL (H : Hp) (D : Addr) (bs : List Addr) (nb : Nat → List Int) (n : Nat) : Prop where
  at_ : H D = some (.lst (bs.map V.ref))
  len : bs.length = n
  nd : bs.Nodup
  nD : D ∉ bs
  row : ∀ (i : Nat) (a : Addr), bs[i]? = some a → H a = some (.lst ((nb i).map V.int))
theorem nd_get {l : List Addr} (h : l.Nodup) {i j : Nat} {a : Addr} (h1 : l[i]? = some a) (h2 : l[j]? = some a) : i = j := by
  obtain ⟨l1, e1⟩ := List.getElem?_eq_some_iff.mp h1
  obtain ⟨l2, e2⟩ := List.getElem?_eq_some_iff.mp h2
  rcases Nat.lt_trichotomy i j with c | c | c
  · exact absurd (e1.trans e2.symm) (List.pairwise_iff_getElem.mp h i j l1 l2 c)
  · exact c
  · exact absurd (e2.trans e1.symm) (List.pairwise_iff_getElem.mp h j i l2 l1 c)
theorem RowsL.add {H : Hp} {D : Addr} {bs : List Addr} {nb : Nat → List Int} {n i : Nat} {a : Addr} {j : Int} (h : RowsL H D bs nb n) (hi : bs[i]? = some a) :
    RowsL (upd H a (.lst ((nb i).map V.int ++ [.int j]))) D bs (fun k => if k = i then nb i ++ [j] else nb k) n := by
  have hm : a ∈ bs := List.mem_of_getElem? hi
  refine ⟨by rw [upd_ne (fun e => h.nD (by rw [e]; exact hm))]; exact h.at_, h.len, h.nd, h.nD, fun k b hk => ?_⟩
  show upd H a _ b = some (.lst ((if k = i then nb i ++ [j] else nb k).map V.int))
  by_cases e : b = a
  · subst e
    have ek := nd_get h.nd hk hi
    rw [if_pos ek, upd_same, List.map_append]
    rfl
  · have nk : ¬ k = i := fun ek => by
      rw [ek, hi] at hk
      exact e (Option.some.inj hk).symm
    rw [if_neg nk, upd_ne e]
    exact h.row k b hk
/-- a tuple at r of tuples of ints: the neighbours -/
structure RowsT (H : Hp) (r : Addr) (bs : List Addr) (nb : Nat → List Int) (n : Nat) : Prop where
  at_ : H r = some (.tup (bs.map V.ref))
  len : bs.length = n
  row : ∀ (i : Nat) (a : Addr), bs[i]? = some a → H a = some (.tup ((nb i).map V.int))
theorem RowsT.same {H H' : Hp} {r : Addr} {bs : List Addr} {nb : Nat → List Int} {n : Nat} (h : RowsT H r bs nb n) (s : Same H H') : RowsT H' r bs nb n := ⟨s _ _ h.at_, h.len, fun i a e => s _ _ (h.row i a e)⟩
def NbOf (L : List (Addr × List Int)) (n : Nat) (nb : Nat → List Int) : Prop := ∀ (i : Nat), i < n → ∀ j : Int, j ∈ nb i ↔ Edge L (i : Int) j
theorem sNew {H H1 : Hp} {p : Addr} {o : HO} (s : Same H H1) (n : H p = none) : Same H (upd H1 p o) := fun b u e => by
  rw [upd_ne (ne_of_none e n)]; exact s b u e
theorem sNew' {H H1 : Hp} {p : Addr} {o : HO} (s : Same H H1) (n : H1 p = none) : Same H (upd H1 p o) := fun b u e => by
  rw [upd_ne (ne_of_none (s b u e) n)]; exact s b u e
theorem sNo {H H1 : Hp} {p : Addr} (s : Same H H1) (n : H1 p = none) : H p = none := by
  cases e : H p with
  | none => rfl
  | some o =>
    rw [s _ _ e] at n
    cases n
/-- the rows ascend -/
def NbA (n : Nat) (nb : Nat → List Int) : Prop := ∀ i : Nat, i < n → (nb i).Pairwise (· < ·)
theorem asc_sort {l : List Int} (h : l.Pairwise (· ≤ ·)) (n : l.Nodup) : l.Pairwise (· < ·) := by
  induction l with
  | nil => exact .nil
  | cons a r ih =>
    rw [List.pairwise_cons] at h ⊢
    rw [List.nodup_cons] at n
    refine ⟨fun y hy => ?_, ih h.2 n.2⟩
    have := h.1 y hy
    have ne : a ≠ y := fun e => n.1 (by rw [e]; exact hy)
    omega
theorem asc_uniq : ∀ {l r : List Int}, l.Pairwise (· < ·) → r.Pairwise (· < ·) → (∀ j, j ∈ l ↔ j ∈ r) → l = r
  | [], [], _, _, _ => rfl
  | [], b :: _, _, _, h => absurd ((h b).mpr List.mem_cons_self) List.not_mem_nil
  | a :: _, [], _, _, h => absurd ((h a).mp List.mem_cons_self) List.not_mem_nil
  | a :: l, b :: r, h1, h2, h => by
    rw [List.pairwise_cons] at h1 h2
    have ha := (h a).mp List.mem_cons_self
    have hb := (h b).mpr List.mem_cons_self
    have e : a = b := by
      rcases List.mem_cons.mp ha with e | ha
      · exact e
      · rcases List.mem_cons.mp hb with e | hb
        · exact e.symm
        · have := h2.1 a ha
          have := h1.1 b hb
          omega
    subst e
    rw [asc_uniq h1.2 h2.2 fun j => ?_]
    constructor
    · intro hj
      rcases List.mem_cons.mp ((h j).mp (List.mem_cons_of_mem _ hj)) with e | z
      · have := h1.1 j hj
        omega
      · exact z
    · intro hj
      rcases List.mem_cons.mp ((h j).mpr (List.mem_cons_of_mem _ hj)) with e | z
      · have := h2.1 j hj
        omega
      · exact z
def spBeside : Sp := fun vs H Q _ => ∃ (m : Int) (q : Addr) (L : List (Addr × List Int)), vs = [.int m, .ref q] ∧ 1 ≤ m ∧ m ≤ 40 ∧ TiesN m H q L ∧ ∀ (r : Addr) (bs : List Addr) (nb : Nat → List Int) (H' : Hp), RowsT H' r bs nb m.toNat → NbOf L m.toNat nb → NbA m.toNat nb → Same H H' → Q (.ref r) H'
theorem get_cast {ns : List V} {i : Int} {v : V} (h0 : 0 ≤ i) (h : ns[i.toNat]? = some v) : atI ns i = some v := by
  have z := atI_nat h
  rw [Int.toNat_of_nonneg h0] at z
  exact z
theorem map_get {l : List Addr} {i : Nat} {a : Addr} (h : l[i]? = some a) : (l.map V.ref)[i]? = some (V.ref a) := by
  rw [List.getElem?_map, h]
  rfl
theorem map_inv {α : Type} {f : α → V} {l : List α} {i : Nat} {v : V} (h : (l.map f)[i]? = some v) : ∃ a, l[i]? = some a ∧ v = f a := by
  rw [List.getElem?_map] at h
  cases e : l[i]? with
  | none => rw [e] at h; cases h
  | some a => rw [e] at h; exact ⟨a, rfl, (Option.some.inj h).symm⟩
theorem take_succ_mem {α : Type} {l : List α} {k : Nat} {x y : α} (h : l[k]? = some x) : y ∈ l.take (k + 1) ↔ y ∈ l.take k ∨ y = x := by
  rw [List.take_succ, h]
  simp
def rTupO (K : PySem.W.Frag) : List V → Hp → VK → Prop := fun xs H Q => ∃ (p : Addr) (ys : List V), xs = [.ref p] ∧ ((SqL K H p ys ∧ ∀ l, H l = none → Q (.ref l) (upd H l (.tup ys))) ∨ (SqT K H p ys ∧ Q (.ref p) H))
theorem cr_tupO {X : Cx} : CallR X (.type "tuple") (rTupO X.K) := call_tuple_of
section
variable {P : Program} {w : World} {K : PySem.W.Frag} {mg : Str → Option Value} {base : Heap}
theorem scBeside : FnScope ["many", "ties", "beside", "low", "high", "_", "houses"] ["many", "ties"] (defScope sBeside) := ⟨rfl, rfl, rfl, by decide +kernel, rfl, by decide +kernel, by decide +kernel⟩
theorem ok_beside {f : Addr} {fd : FuncData} (F : Fun K "houses_beside" "houses_beside" sBeside f fd) (B : Bts mg) : FnOk P w K mg base CX0 1 f fd ["many", "ties"] spBeside := by
  refine F.ok scBeside (fun vs H Q E h => ?_) (fun cdv A outer s H vs Q E hr h => ?_)
  · obtain ⟨m, q, L, rfl, _⟩ := h
    rfl
  · obtain ⟨m, q, L, rfl, m1, m40, tt, k⟩ := h
    have nd := scBeside.nd
    refine ⟨_, pss_cons (ps_setLc (i := 2) (own := [("_", 5)]) (g := gName 5) (tt := tYes) rfl nd rfl rfl (sw_true rfl rfl rfl (by decide +kernel)) (pi_range1 rfl B.range (pa_cons (pv 0) pa_nil))
        (blkOk_by (N := ["many", "ties", "beside", "low", "high", "_", "houses"]) (sc := defScope sBeside) (by decide +kernel)) (fun _ _ _ _ _ => pg_name (i := 5) nd rfl (.inl rfl)) (fun _ _ _ _ _ => pts_nil) (fun _ _ _ _ _ => pe_lst pa_nil))
      (pss_cons (ps_for PassesOwn.never rfl (pi_tup (pv 1)) (pg_tup rfl (pgs_cons (pg_name (i := 3) nd rfl (.inl rfl)) (pgs_cons (pg_name (i := 4) nd rfl (.inl rfl)) pgs_nil)))
        (pss_cons (ps_expr (pe_bm PySem.F.plainAttrs_list PySem.F.slot_list_append PySem.F.type_list_append mt_append (pe_ix ix_list (pv 2) (pv 3) (fun _ _ => rfl)) (pa_cons (pv 4) pa_nil)))
        (pss_one (ps_expr (pe_bm PySem.F.plainAttrs_list PySem.F.slot_list_append PySem.F.type_list_append mt_append (pe_ix ix_list (pv 2) (pv 4) (fun _ _ => rfl)) (pa_cons (pv 3) pa_nil))))))
      (pss_one (ps_ret (pe_callTy call_tuple_of (by rfl) B.tuple PyProof.Rows.boot_tuple (pa_cons (pe_lc (own := [("houses", 6)]) (g := gName 6) (tt := tYes) rfl nd (pi_list (pv 2))
        (blkOk_by (N := ["many", "ties", "beside", "low", "high", "_", "houses"]) (sc := defScope sBeside) (by decide +kernel)) (fun _ _ _ _ _ => pg_name (i := 6) nd rfl (.inl rfl)) (fun _ _ _ _ _ => pts_nil)
        (fun _ _ _ _ _ => pe_callTy (r := rTupO K) cr_tupO (by rfl) B.tuple PyProof.Rows.boot_tuple (pa_cons (pe_callB (r := rSorted K) cr_sorted (by rfl) B.sorted PyProof.Rows.boot_sorted (pa_cons (pv 6) pa_nil)) pa_nil))) pa_nil))))), ?_⟩
    -- beside = [[] for _ in range(many)]
    refine ⟨_, rfl, m, rfl, by omega, by omega, fun D hD => lc_range (lo := 0) (n := m.toNat) (fun i H' => ∃ bs : List Addr, H' D = some (.lst (bs.map V.ref)) ∧ bs.length = i ∧ bs.Nodup ∧ D ∉ bs ∧ (∀ a ∈ bs, H' a = some (.lst []) ∧ H a = none) ∧ Same H H') ?_ ?_ ?_⟩
    · exact ⟨[], upd_same, rfl, List.nodup_nil, List.not_mem_nil, fun a ha => absurd ha List.not_mem_nil, sNew (fun _ _ e => e) hD⟩
    · rintro i H1 hi ⟨bs, e1, hl, hn, hd, hb, s1⟩
      refine ⟨rfl, Nat.zero_le _, fun a ha => ?_⟩
      have nDa : D ≠ a := ne_of_none e1 ha
      have ea : upd H1 a (.lst []) D = some (.lst (bs.map V.ref)) := by rw [upd_ne nDa]; exact e1
      have na : a ∉ bs := fun hm => by
        rw [(hb a hm).1] at ha
        cases ha
      refine ⟨_, ea, ?_, bs ++ [a], ?_, ?_, ?_, ?_, ?_, ?_⟩
      · rw [List.length_map, hl]
        exact Nat.lt_of_lt_of_le (m := 64) (by omega) (by decide)
      · rw [upd_same, List.map_append]
        rfl
      · rw [List.length_append, hl]
        rfl
      · exact nd_snoc hn na
      · intro hm
        rcases List.mem_append.mp hm with hm | hm
        · exact hd hm
        · exact nDa (List.mem_singleton.mp hm)
      · intro b hm
        rcases List.mem_append.mp hm with hm | hm
        · refine ⟨?_, (hb b hm).2⟩
          rw [upd_ne (fun e => hd (by rw [← e]; exact hm)), upd_ne (fun e => na (by rw [← e]; exact hm))]
          exact (hb b hm).1
        · obtain rfl := List.mem_singleton.mp hm
          refine ⟨?_, sNo s1 ha⟩
          rw [upd_ne nDa.symm, upd_same]
      · exact sNew (sNew' s1 ha) hD
    · rintro H1 ⟨bs, e1, hl, hn, hd, hb, s1⟩
      have r1 : RowsL H1 D bs (fun _ => []) m.toNat := ⟨e1, hl, hn, hd, fun i a hi => (hb a (List.mem_of_getElem? hi)).1⟩
      have hfr : ∀ a ∈ bs, H a = none := fun a ha => (hb a ha).2
      clear e1 hl hn hd hb
      refine ⟨_, rfl, q, rfl, ⟨_, SqT.of (s1 _ _ tt.at_)⟩, for_tup (K := K) (a := q) (xs := L.map fun p => V.ref p.1) (fun k σ H' => ∃ x3 x4 nb, σ = [some (.int m), some (.ref q), some (.ref D), x3, x4, none, none] ∧ RowsL H' D bs nb m.toNat ∧ (∀ i : Nat, i < m.toNat → ∀ j : Int, j ∈ nb i ↔ Edge (L.take k) (i : Int) j) ∧ (∀ i, (nb i).length ≤ k) ∧ (∀ i, (nb i).Nodup) ∧ Same H H') ?_ ?_ ?_ ?_⟩
      · exact ⟨none, none, _, rfl, r1, fun i hi j => ⟨fun h => absurd h List.not_mem_nil, fun ⟨p, hp, _⟩ => absurd hp (by simp)⟩, fun i => Nat.le_refl _, fun i => List.nodup_nil, s1⟩
      · rintro k σ H2 hk ⟨x3, x4, nb, rfl, r2, he, hlen, hnod, s2⟩
        exact SqT.of (s2 _ _ tt.at_)
      · rintro k x σ H2 hx ⟨x3, x4, nb, rfl, r2, he, hlen, hnod, s2⟩
        obtain ⟨p, hp, rfl⟩ := map_inv hx
        have hk64 : k < 1000 := Nat.lt_of_lt_of_le (List.getElem?_eq_some_iff.mp hp).1 (Nat.le_of_lt tt.few)
        obtain ⟨a, b, e2, a0, ab, bm⟩ := tt.ok p (List.mem_of_getElem? hp)
        have ht := s2 _ _ (tt.tup p (List.mem_of_getElem? hp))
        rw [e2] at ht
        have la : a.toNat < bs.length := by rw [r2.len]; omega
        have lb : b.toNat < bs.length := by rw [r2.len]; omega
        have ga : bs[a.toNat]? = some bs[a.toNat] := List.getElem?_eq_getElem la
        have gb : bs[b.toNat]? = some bs[b.toNat] := List.getElem?_eq_getElem lb
        refine ⟨p.1, _, rfl, SqT.of ht, rfl, _, _, rfl, _, _, rfl, rfl, ?_⟩
        have ra := r2.row _ _ ga
        refine ⟨_, rfl, _, rfl, D, _, a, _, rfl, rfl, SqL.of r2.at_, get_cast a0 (map_get ga), .inl ⟨rfl, _, SqL.of ra⟩, _, rfl, bs[a.toNat], _, _, rfl, rfl, ra, ?_, ?_⟩
        · rw [List.length_map]
          exact Nat.lt_of_le_of_lt (hlen _) (Nat.lt_of_lt_of_le hk64 (by decide))
        · have r3 := r2.add (j := b) ga
          have rb := r3.row _ _ gb
          have nab : ¬ b.toNat = a.toNat := by omega
          rw [if_neg nab] at rb
          refine ⟨_, rfl, _, rfl, D, _, b, _, rfl, rfl, SqL.of r3.at_, get_cast (by omega) (map_get gb), .inl ⟨rfl, _, SqL.of rb⟩, _, rfl, bs[b.toNat], _, _, rfl, rfl, rb, ?_, ?_⟩
          · rw [List.length_map]
            exact Nat.lt_of_le_of_lt (hlen _) (Nat.lt_of_lt_of_le hk64 (by decide))
          · have r4 := r3.add (j := a) gb
            simp only [if_neg nab] at r4
            refine ⟨_, _, _, rfl, r4, ?_, ?_, ?nod, ?_⟩
            · intro i hi j
              have hz := he i hi j
              show j ∈ (if i = b.toNat then nb b.toNat ++ [a] else if i = a.toNat then nb a.toNat ++ [b] else nb i) ↔ _
              have ste : Edge (L.take (k + 1)) (i : Int) j ↔ Edge (L.take k) (i : Int) j ∨ (((i : Int) = a ∧ j = b) ∨ ((i : Int) = b ∧ j = a)) := by
                constructor
                · rintro ⟨y, hy, e⟩
                  rcases (take_succ_mem hp).mp hy with hy | rfl
                  · exact .inl ⟨y, hy, e⟩
                  · rw [e2] at e
                    simp only [List.cons.injEq, and_true] at e
                    omega
                · rintro (⟨y, hy, e⟩ | h)
                  · exact ⟨y, (take_succ_mem hp).mpr (.inl hy), e⟩
                  · refine ⟨p, (take_succ_mem hp).mpr (.inr rfl), ?_⟩
                    rw [e2]
                    simp only [List.cons.injEq, and_true]
                    omega
              rw [ste, ← hz]
              by_cases c1 : i = b.toNat
              · rw [if_pos c1, c1, List.mem_append, List.mem_singleton]
                constructor
                · rintro (h | h)
                  · exact .inl h
                  · exact .inr (.inr ⟨by omega, h⟩)
                · rintro (h | ⟨h, _⟩ | ⟨_, h⟩)
                  · exact .inl h
                  · omega
                  · exact .inr h
              · rw [if_neg c1]
                by_cases c2 : i = a.toNat
                · rw [if_pos c2, c2, List.mem_append, List.mem_singleton]
                  constructor
                  · rintro (h | h)
                    · exact .inl h
                    · exact .inr (.inl ⟨by omega, h⟩)
                  · rintro (h | ⟨_, h⟩ | ⟨h, _⟩)
                    · exact .inl h
                    · exact .inr h
                    · omega
                · rw [if_neg c2]
                  constructor
                  · exact .inl
                  · rintro (h | ⟨h, _⟩ | ⟨h, _⟩)
                    · exact h
                    · omega
                    · omega
            · intro i
              show (if i = b.toNat then nb b.toNat ++ [a] else if i = a.toNat then nb a.toNat ++ [b] else nb i).length ≤ k + 1
              have l1 := hlen i
              have l2 := hlen a.toNat
              have l3 := hlen b.toNat
              split
              · rw [List.length_append, List.length_singleton]; omega
              · split
                · rw [List.length_append, List.length_singleton]; omega
                · omega
            case nod =>
              have fresh : ∀ {u v : Int}, (([u, v] : List Int) = [a, b] ∨ ([u, v] : List Int) = [b, a]) → 0 ≤ u → u < m → v ∉ nb u.toNat := fun {u v} huv u0 um hv => by
                obtain ⟨y, hy, e⟩ := (he u.toNat (by omega) v).mp hv
                rw [Int.toNat_of_nonneg u0] at e
                have hlt : ltP y.2 p.2 := by
                  obtain ⟨j, hj, ej⟩ := List.mem_take_iff_getElem.mp hy
                  have hkl := (List.getElem?_eq_some_iff.mp hp)
                  obtain ⟨hkl, ek⟩ := hkl
                  have z := List.pairwise_iff_getElem.mp tt.asc j k (by omega) hkl (by omega)
                  rw [ej, ek] at z
                  exact z
                obtain ⟨y1, y2, z1, z2, ey, ep, hz⟩ := hlt
                obtain ⟨c1, c2, ey2, _, c12, _⟩ := tt.ok y (List.mem_of_mem_take hy)
                rw [e2] at ep
                rw [ey] at e ey2
                simp only [List.cons.injEq, and_true] at e ep ey2 huv
                omega
              intro i
              show (if i = b.toNat then nb b.toNat ++ [a] else if i = a.toNat then nb a.toNat ++ [b] else nb i).Nodup
              have nda : (nb b.toNat ++ [a]).Nodup := nd_snoc (hnod _) (fresh (.inr rfl) (by omega) (by omega))
              have ndb : (nb a.toNat ++ [b]).Nodup := nd_snoc (hnod _) (fresh (.inl rfl) (by omega) (by omega))
              split
              · exact nda
              · split
                · exact ndb
                · exact hnod i
            · intro y o e
              have za := hfr _ (List.mem_of_getElem? ga)
              have zb := hfr _ (List.mem_of_getElem? gb)
              rw [upd_ne (ne_of_none e zb), upd_ne (ne_of_none e za)]
              exact s2 y o e
      · rintro σ H2 ⟨x3, x4, nb, rfl, r2, he, hlen, hnod, s2⟩
        rw [List.length_map] at he hlen
        rw [List.take_length] at he
        have nbl : ∀ i, i < m.toNat → (nb i).length ≤ 40 := fun i hi => by
          have inr : ∀ x ∈ nb i, 0 ≤ x ∧ x < m := fun x hx => by
            obtain ⟨p, hp, e⟩ := (he i hi x).mp hx
            obtain ⟨a, b, e2, h0, h1, h2⟩ := tt.ok p hp
            rw [e2] at e
            simp only [List.cons.injEq, and_true] at e
            omega
          have z := QM.nodup_le 40 ((nb i).map Int.toNat) (by
            refine List.pairwise_map.mpr ((hnod i).imp_of_mem fun {a b'} ha hb c e => ?_)
            have h1 := inr a ha
            have h2 := inr b' hb
            exact c (by omega)) fun x hx => by
            obtain ⟨y, hy, rfl⟩ := List.mem_map.mp hx
            have := inr y hy
            omega
          rw [List.length_map] at z
          exact z
        refine ⟨_, rfl, D, rfl, ⟨_, SqL.of r2.at_⟩, fun D2 hD2 => lc_list (K := K) (a := D) (xs := bs.map V.ref) (fun k H' => ∃ (ts : List Addr) (rs : Nat → List Int), H' D2 = some (.lst (ts.map V.ref)) ∧ ts.length = k ∧ (∀ (i : Nat) (a : Addr), ts[i]? = some a → H' a = some (.tup ((rs i).map V.int)) ∧ (rs i).Perm (nb i) ∧ (rs i).Pairwise (· ≤ ·)) ∧ Same H2 H') ?_ ?_ ?_ ?_⟩
        · exact ⟨[], fun _ => [], upd_same, rfl, fun i a h => by simp at h, sNew (fun _ _ e => e) hD2⟩
        · rintro i H3 hi ⟨ts, rs, e1, hl, hr, s3⟩
          exact SqL.of (s3 _ _ r2.at_)
        · rintro i x H3 hx ⟨ts, rs, e1, hl, hrw, s3⟩
          obtain ⟨a, ha, rfl⟩ := map_inv hx
          refine ⟨rfl, ?_⟩
          refine ⟨_, rfl, a, nb i, rfl, SqL.of (s3 _ _ (r2.row i a ha)), Nat.lt_of_le_of_lt (nbl i (by rw [← r2.len]; exact (List.getElem?_eq_some_iff.mp ha).1)) (by decide), fun ns p pm pw hp => ?_⟩
          refine ⟨p, _, rfl, .inl ⟨SqL.of upd_same, fun t ht => ?_⟩⟩
          have hil : i < bs.length := (List.getElem?_eq_some_iff.mp ha).1
          have ntp : t ≠ p := fun e => by rw [e, upd_same] at ht; cases ht
          have ht3 : H3 t = none := by
            have z := ht
            rw [upd_ne ntp] at z
            exact z
          have nD2p : D2 ≠ p := ne_of_none e1 hp
          have nD2t : D2 ≠ t := ne_of_none e1 ht3
          refine ⟨ts.map V.ref, ?_, ?_, ts ++ [t], fun k => if k = i then ns else rs k, ?_, ?_, ?_, ?_⟩
          · rw [upd_ne nD2t, upd_ne nD2p]
            exact e1
          · rw [List.length_map, hl]
            refine Nat.lt_of_lt_of_le (m := 64) ?_ (by decide)
            rw [r2.len] at hil
            omega
          · rw [upd_same, List.map_append]
            rfl
          · rw [List.length_append, hl]
            rfl
          · intro k b hb
            show _ = some (HO.tup ((if k = i then ns else rs k).map V.int)) ∧ (if k = i then ns else rs k).Perm (nb k) ∧ (if k = i then ns else rs k).Pairwise (· ≤ ·)
            by_cases c : k < ts.length
            · rw [List.getElem?_append_left c] at hb
              obtain ⟨z1, z2⟩ := hrw k b hb
              rw [if_neg (by omega)]
              refine ⟨?_, z2⟩
              rw [upd_ne (ne_of z1 e1 (fun z => by cases z)), upd_ne (ne_of_none z1 ht3), upd_ne (ne_of_none z1 hp)]
              exact z1
            · rw [List.getElem?_append_right (by omega)] at hb
              have ek : k = i := by
                have z := (List.getElem?_eq_some_iff.mp hb).1
                rw [List.length_singleton] at z
                omega
              subst ek
              rw [hl, Nat.sub_self] at hb
              obtain rfl : t = b := Option.some.inj hb
              rw [if_pos rfl]
              refine ⟨?_, pm, pw⟩
              rw [upd_ne nD2t.symm, upd_same]
          · exact sNew (sNew' (sNew' s3 hp) (by rw [upd_ne ntp]; exact ht3)) hD2
        · rintro H3 ⟨ts, rs, e1, hl, hrw, s3⟩
          refine ⟨D2, _, rfl, .inl ⟨SqL.of e1, fun t ht => ?_⟩⟩
          have s4 : Same H3 (upd H3 t (.tup (ts.map V.ref))) := fun b o e => by rw [upd_ne (ne_of_none e ht)]; exact e
          rw [List.length_map, r2.len] at hl
          refine k t ts rs _ ⟨upd_same, hl, fun i a h => s4 _ _ (hrw i a h).1⟩ (fun i hi j => ?_) (fun i hi => ?asc) (fun b o e => s4 _ _ (s3 _ _ (s2 _ _ e)))
          case asc =>
            have hit : i < ts.length := by rw [hl]; exact hi
            obtain ⟨_, pm, pw⟩ := hrw i _ (List.getElem?_eq_getElem hit)
            exact asc_sort pw (pm.nodup_iff.mpr (hnod i))
          have hit : i < ts.length := by rw [hl]; exact hi
          have pm := (hrw i _ (List.getElem?_eq_getElem hit)).2.1
          rw [pm.mem_iff]
          exact he i hi j
end
end Q

namespace Q
open PySem L2 QM
abbrev sSteps : Stmt := top 19
def nI (v : Nat) : V := .int (v : Int)
def nn (cs : List V) : Nat := cs.countP fun v => decide (v = .non)
theorem nn_set : ∀ {cs : List V} {v : Nat} {z : Int}, cs[v]? = some .non → nn (cs.set v (.int z)) + 1 = nn cs
  | [], _, _, h => by simp at h
  | c :: r, 0, z, h => by
    have e : c = .non := Option.some.inj h
    subst e
    show (V.int z :: r).countP _ + 1 = (V.non :: r).countP _
    rw [List.countP_cons_of_neg (by simp), List.countP_cons_of_pos (by simp)]
  | c :: r, v + 1, z, h => by
    have ih := nn_set (cs := r) (v := v) (z := z) h
    show (c :: r.set v (V.int z)).countP _ + 1 = (c :: r).countP _
    unfold nn at ih
    rw [List.countP_cons, List.countP_cons, ← ih]
    omega
section
variable {G : Nat → Nat → Prop} {s n t : Nat}
structure Lev (G : Nat → Nat → Prop) (s n t : Nat) (cs : List V) : Prop where
  len : cs.length = n
  cell : ∀ v, v < n → (∃ d, d ≤ t ∧ cs[v]? = some (nI d) ∧ Dist G s v d) ∨ (cs[v]? = some .non ∧ ∀ d, d ≤ t → ¬ Dist G s v d)
structure Mid (G : Nat → Nat → Prop) (s n t : Nat) (Dn : Nat → Prop) (N0 : Nat) (cs : List V) (cm : List Nat) : Prop where
  len : cs.length = n
  cell : ∀ v, v < n → (∃ d, d ≤ t ∧ cs[v]? = some (nI d) ∧ Dist G s v d) ∨ (cs[v]? = some (nI (t + 1)) ∧ Dist G s v (t + 1) ∧ v ∈ cm) ∨ (cs[v]? = some .non ∧ (∀ d, d ≤ t → ¬ Dist G s v d) ∧ ¬ Dn v)
  cmok : ∀ x, x ∈ cm → x < n ∧ Dist G s x (t + 1)
  cnt : nn cs + cm.length = N0
/-- all ways found -/
structure Cells (G : Nat → Nat → Prop) (s n : Nat) (cs : List V) : Prop where
  len : cs.length = n
  cell : ∀ v, v < n → (∃ d, cs[v]? = some (nI d) ∧ Dist G s v d) ∨ (cs[v]? = some .non ∧ ∀ d, ¬ Dist G s v d)
theorem Mid.mono {Dn Dn' : Nat → Prop} {N0 : Nat} {cs : List V} {cm : List Nat} (h : Mid G s n t Dn N0 cs cm) (k : ∀ v, v < n → Dn' v → Dn v) : Mid G s n t Dn' N0 cs cm :=
  ⟨h.len, fun v hv => by
    rcases h.cell v hv with a | a | ⟨a, b, c⟩
    · exact .inl a
    · exact .inr (.inl a)
    · exact .inr (.inr ⟨a, b, fun d => c (k v hv d)⟩), h.cmok, h.cnt⟩
theorem Mid.start {cs : List V} (h : Lev G s n t cs) : Mid G s n t (fun _ => False) (nn cs) cs [] :=
  ⟨h.len, fun v hv => by
    rcases h.cell v hv with a | ⟨a, b⟩
    · exact .inl a
    · exact .inr (.inr ⟨a, b, id⟩), fun x hx => absurd hx List.not_mem_nil, rfl⟩
theorem Mid.house {Dn : Nat → Prop} {N0 u : Nat} {cs : List V} {cm : List Nat} (h : Mid G s n t Dn N0 cs cm) (hu : u < n) (d : Dist G s u t) : cs[u]? = some (nI t) := by
  rcases h.cell u hu with ⟨e, _, a, b⟩ | ⟨_, b, _⟩ | ⟨_, b, _⟩
  · rw [d.uniq b]; exact a
  · have := d.uniq b
    omega
  · exact absurd d (b t (Nat.le_refl _))
theorem Mid.skip {Dn : Nat → Prop} {N0 v : Nat} {cs : List V} {cm : List Nat} {c : V} (h : Mid G s n t Dn N0 cs cm) (hc : cs[v]? = some c) (ne : c ≠ .non) : Mid G s n t (fun x => Dn x ∨ x = v) N0 cs cm :=
  ⟨h.len, fun x hx => by
    rcases h.cell x hx with a | a | ⟨a, b, k⟩
    · exact .inl a
    · exact .inr (.inl a)
    · refine .inr (.inr ⟨a, b, ?_⟩)
      rintro (z | z)
      · exact k z
      · rw [z, hc] at a
        exact ne (Option.some.inj a), h.cmok, h.cnt⟩
theorem Mid.more {Dn : Nat → Prop} {N0 u v : Nat} {cs : List V} {cm : List Nat} (h : Mid G s n t Dn N0 cs cm) (hv : v < n) (hc : cs[v]? = some .non) (d : Dist G s u t) (g : G u v) :
    Mid G s n t (fun x => Dn x ∨ x = v) N0 (cs.set v (nI (t + 1))) (cm ++ [v]) := by
  have hl : v < cs.length := by rw [h.len]; exact hv
  have no : ∀ d, d ≤ t → ¬ Dist G s v d := by
    rcases h.cell v hv with ⟨_, _, a, _⟩ | ⟨a, _⟩ | ⟨_, b, _⟩
    · rw [hc] at a; cases a
    · rw [hc] at a; cases a
    · exact b
  have dv : Dist G s v (t + 1) := Dist.next no d g
  refine ⟨by rw [List.length_set]; exact h.len, fun x hx => ?_, fun x hx => ?_, ?_⟩
  · by_cases e : v = x
    · subst e
      rw [List.getElem?_set_self hl]
      exact .inr (.inl ⟨rfl, dv, List.mem_append_right _ (List.mem_singleton.mpr rfl)⟩)
    · rw [List.getElem?_set_ne e]
      rcases h.cell x hx with a | ⟨a, b, c⟩ | ⟨a, b, k⟩
      · exact .inl a
      · exact .inr (.inl ⟨a, b, List.mem_append_left _ c⟩)
      · exact .inr (.inr ⟨a, b, fun z => z.elim k fun z => e z.symm⟩)
  · rcases List.mem_append.mp hx with hx | hx
    · exact h.cmok x hx
    · rw [List.mem_singleton.mp hx]
      exact ⟨hv, dv⟩
  · have z := nn_set (z := ((t + 1 : Nat) : Int)) hc
    have c := h.cnt
    rw [List.length_append, List.length_singleton]
    have e : nn (cs.set v (nI (t + 1))) = nn (cs.set v (.int ((t + 1 : Nat) : Int))) := rfl
    omega
theorem Mid.fin {Dn : Nat → Prop} {N0 : Nat} {cs : List V} {cm : List Nat} (h : Mid G s n t Dn N0 cs cm) (hG : ∀ a b, G a b → b < n) (all : ∀ u v, Dist G s u t → G u v → Dn v) :
    Lev G s n (t + 1) cs ∧ ∀ x, Dist G s x (t + 1) → x ∈ cm := by
  have key : ∀ v, v < n → Dist G s v (t + 1) → cs[v]? = some (nI (t + 1)) ∧ v ∈ cm := by
    intro v hv d
    rcases h.cell v hv with ⟨e, he, _, b⟩ | ⟨a, _, c⟩ | ⟨_, _, k⟩
    · have := d.uniq b
      omega
    · exact ⟨a, c⟩
    · obtain ⟨u, hu, g⟩ := d.pred
      exact absurd (all u v hu g) k
  refine ⟨⟨h.len, fun v hv => ?_⟩, fun x d => ?_⟩
  · rcases h.cell v hv with ⟨e, he, a, b⟩ | ⟨a, b, _⟩ | ⟨a, b, _⟩
    · exact .inl ⟨e, by omega, a, b⟩
    · exact .inl ⟨t + 1, Nat.le_refl _, a, b⟩
    · refine .inr ⟨a, fun d hd q => ?_⟩
      by_cases c : d ≤ t
      · exact b d c q
      · obtain rfl : d = t + 1 := by omega
        have z := (key v hv q).1
        rw [a] at z
        cases z
  · obtain ⟨u, hu, g⟩ := d.pred
    exact (key x (hG u x g) d).2
theorem Lev.all {cs : List V} (h : Lev G s n t cs) (no : ∀ x, ¬ Dist G s x t) : Cells G s n cs :=
  ⟨h.len, fun v hv => by
    rcases h.cell v hv with ⟨d, _, a, b⟩ | ⟨a, b⟩
    · exact .inl ⟨d, a, b⟩
    · refine .inr ⟨a, fun d q => ?_⟩
      by_cases c : d ≤ t
      · exact b d c q
      · obtain ⟨u, hu⟩ := q.chain t (by omega)
        exact no u hu⟩
theorem lev_zero (hs : s < n) : Lev G s n 0 ((List.replicate n V.non).set s (nI 0)) := by
  refine ⟨by rw [List.length_set, List.length_replicate], fun v hv => ?_⟩
  by_cases e : s = v
  · subst e
    rw [List.getElem?_set_self (by rw [List.length_replicate]; exact hs)]
    exact .inl ⟨0, Nat.le_refl _, rfl, .zero⟩
  · rw [List.getElem?_set_ne e, List.getElem?_replicate, if_pos hv]
    refine .inr ⟨rfl, fun d hd q => ?_⟩
    obtain rfl : d = 0 := by omega
    exact e q.of_zero.symm
end

def NbG (G : Nat → Nat → Prop) (n : Nat) (nb : Nat → List Int) : Prop := ∀ i, i < n → ∀ j : Int, j ∈ nb i ↔ ∃ v : Nat, j = (v : Int) ∧ G i v
def spSteps : Sp := fun vs H Q _ => ∃ (r : Addr) (bs : List Addr) (nb : Nat → List Int) (n : Nat) (G : Nat → Nat → Prop) (st : Nat), vs = [.ref r, .int (st : Int)] ∧ RowsT H r bs nb n ∧ n ≤ 40 ∧ st < n ∧ NbG G n nb ∧ (∀ a b, G a b → b < n) ∧
  ∀ (p : Addr) (cs : List V) (H' : Hp), H' p = some (.lst cs) → Cells G st n cs → Same H H' → Q (.ref p) H'
theorem ixN_nat {N v : Nat} (h : v < N) : ixN N (v : Int) = some v := by
  unfold ixN
  rw [if_pos (Int.natCast_nonneg v), if_pos (by omega), Int.toNat_natCast]
/-- between two turns of the waves -/
def stW (H : Hp) (r sp : Addr) (G : Nat → Nat → Prop) (st n m : Nat) (σ : L2.St) (H' : Hp) : Prop := ∃ (t : Nat) (re : Addr) (rs : List Nat) (cs : List V) (x4 x5 x6 : Option V),
  σ = [some (.ref r), some (.int (st : Int)), some (.ref sp), some (.ref re), x4, x5, x6] ∧ H' sp = some (.lst cs) ∧ H' re = some (.lst (rs.map nI)) ∧ sp ≠ re ∧ Lev G st n t cs ∧
    (∀ x, x ∈ rs → x < n ∧ Dist G st x t) ∧ (∀ x, Dist G st x t → x ∈ rs) ∧ Same H H' ∧ m = nn cs + (if rs.isEmpty = true then 0 else 1)
theorem size_ok {k : Nat} (h : k ≤ 64) : k < sizeLine := Nat.lt_of_le_of_lt h (by decide)
theorem size_le {k : Nat} (h : k ≤ 64) : k ≤ sizeLine := Nat.le_trans h (by decide)
theorem nn_le (cs : List V) : nn cs ≤ cs.length := List.countP_le_length
section
variable {P : Program} {w : World} {K : PySem.W.Frag} {mg : Str → Option Value} {base : Heap}
theorem scSteps : FnScope ["beside", "start", "steps", "reached", "coming", "house", "other"] ["beside", "start"] (defScope sSteps) := ⟨rfl, rfl, rfl, by decide +kernel, rfl, by decide +kernel, by decide +kernel⟩
theorem ok_steps {f : Addr} {fd : FuncData} (F : Fun K "steps_from" "steps_from" sSteps f fd) (B : Bts mg) : FnOk P w K mg base CX0 1 f fd ["beside", "start"] spSteps := by
  refine F.ok scSteps (fun vs H Q E h => ?_) (fun cdv A outer s H vs Q E hr h => ?_)
  · obtain ⟨r, bs, nb, n, G, st, rfl, _⟩ := h
    rfl
  · obtain ⟨r, bs, nb, n, G, st, rfl, rt, n40, hst, hnb, hG, k⟩ := h
    have nd := scSteps.nd
    refine ⟨_, pss_cons (ps_set (i := 2) nd rfl (.inl rfl) (pe_op op_rep (pe_lst (pa_cons pe_non pa_nil)) (pe_callB call_len_seq (by rfl) B.len PySem.boot_len (pa_cons (pv 0) pa_nil))))
      (pss_cons (ps_asg pe_int (pg_sub (pv 2) (pv 1) set_list))
      (pss_cons (ps_set (i := 3) nd rfl (.inl rfl) (pe_lst (pa_cons (pv 1) pa_nil)))
      (pss_cons (ps_while PassesOwn.never (pt_truth (pv 3) (fun _ => rfl))
        (pss_cons (ps_set (i := 4) nd rfl (.inl rfl) (pe_lst pa_nil))
        (pss_cons (ps_for PassesOwn.never rfl (pi_list (pv 3)) (pg_name (i := 5) nd rfl (.inl rfl))
          (pss_one (ps_for PassesOwn.never rfl (pi_tup (pe_ix ix_tup (pv 0) (pv 5) (fun _ _ => rfl))) (pg_name (i := 6) nd rfl (.inl rfl))
            (pss_one (ps_if (pt_cmp (pc_isN (pe_ix ix_list (pv 2) (pv 6) (fun _ _ => rfl))))
              (pss_cons (ps_asg (pe_op op_add (pe_ix ix_list (pv 2) (pv 5) (fun _ _ => rfl)) pe_int) (pg_sub (pv 2) (pv 6) set_list))
              (pss_one (ps_expr (pe_bm PySem.F.plainAttrs_list PySem.F.slot_list_append PySem.F.type_list_append mt_append (pv 4) (pa_cons (pv 6) pa_nil))))) pss_nil)))))
        (pss_one (ps_set (i := 3) nd rfl (.inl rfl) (pv 4))))))
      (pss_one (ps_ret (pv 2)))))), ?_⟩
    -- steps = [None] * len(beside); steps[start] = 0; reached = [start]
    refine ⟨(by show 1 ≤ sizeLine; decide), fun l hl => ?_⟩
    have sl : Same H (upd H l (.lst [.non])) := sNew (fun _ _ e => e) hl
    have el : (bs.map V.ref).length = n := by rw [List.length_map, rt.len]
    refine ⟨_, rfl, r, _, rfl, .inr (SqT.of (sl _ _ rt.at_)), l, _, _, rfl, rfl, upd_same, ?_, ?_, ?_, fun sp hsp => ?_⟩
    · omega
    · rw [el]; omega
    · rw [el]; exact size_le (by show 1 * (n : Int).toNat ≤ 64; omega)
    · have hsp0 : H sp = none := sNo sl hsp
      have ef : (List.replicate (((bs.map V.ref).length : Nat) : Int).toNat [V.non]).flatten = List.replicate n V.non := by
        rw [el, Int.toNat_natCast, List.flatten_replicate_singleton]
      rw [ef]
      refine ⟨_, rfl, _, rfl, sp, _, (st : Int), st, rfl, rfl, upd_same, ixN_nat (by rw [List.length_replicate]; exact hst), ?_⟩
      refine ⟨_, rfl, (by show 1 ≤ sizeLine; decide), fun re hre => ?_⟩
      have nsr : sp ≠ re := fun e => by rw [← e, upd_same] at hre; cases hre
      have s1 : Same H (upd (upd (upd H l (.lst [.non])) sp (.lst (List.replicate n V.non))) sp (.lst ((List.replicate n V.non).set st (.int 0)))) := sNew (sNew sl hsp0) hsp0
      have hre0 : H re = none := sNo s1 hre
      refine ⟨stW H r sp G st n, ⟨_, 0, re, [st], _, none, none, none, rfl, by rw [upd_ne nsr, upd_same]; rfl, upd_same, nsr, lev_zero hst, ?_, ?_, sNew s1 hre0, rfl⟩, ?_⟩
      · intro x hx
        rw [List.mem_singleton.mp hx]
        exact ⟨hst, .zero⟩
      · intro x d
        rw [d.of_zero]
        exact List.mem_singleton.mpr rfl
      · clear nsr s1 hre0 hre re ef sl hsp el
        rintro m σ H1 ⟨t, re, rs, cs, x4, x5, x6, rfl, e1, e2, nsr, lv, hin, hall, s1, em⟩
        cases hb : (!(rs.map nI).isEmpty) with
        | false =>
          have er : rs = [] := by
            cases rs with
            | nil => rfl
            | cons u v => exact absurd hb (by simp)
          subst er
          exact ⟨_, rfl, false, .inl ⟨_, SqL.of e2, rfl⟩, iteF ⟨_, rfl, k sp cs _ e1 (lv.all fun x d => absurd (hall x d) List.not_mem_nil) s1⟩⟩
        | true =>
          have er : rs.isEmpty = false := by
            cases rs with
            | nil => exact absurd hb (by simp)
            | cons u v => rfl
          rw [er, if_neg Bool.false_ne_true] at em
          refine ⟨_, rfl, true, .inl ⟨_, SqL.of e2, hb.symm⟩, iteT ⟨fun σ' H' => ∃ m', m' < m ∧ stW H r sp G st n m' σ' H', fun _ _ z => z, ?_⟩⟩
          -- coming = []
          refine ⟨Nat.zero_le _, fun co hco => ?_⟩
          have nsc : sp ≠ co := ne_of_none e1 hco
          have nrc : re ≠ co := ne_of_none e2 hco
          have hco0 : H co = none := sNo s1 hco
          refine ⟨_, rfl, re, rfl, ⟨_, SqL.of (by rw [upd_ne nrc]; exact e2)⟩, for_list (K := K) (a := re) (xs := rs.map nI) (fun i σ H' => ∃ (cs' : List V) (cm : List Nat) (x5 x6 : Option V),
            σ = [some (.ref r), some (.int (st : Int)), some (.ref sp), some (.ref re), some (.ref co), x5, x6] ∧ H' sp = some (.lst cs') ∧ H' co = some (.lst (cm.map nI)) ∧ H' re = some (.lst (rs.map nI)) ∧
              Mid G st n t (fun v => ∃ u ∈ rs.take i, G u v) (nn cs) cs' cm ∧ Same H H') ?_ ?_ ?_ ?_⟩
          · exact ⟨cs, [], x5, x6, rfl, by rw [upd_ne nsc]; exact e1, upd_same, by rw [upd_ne nrc]; exact e2, (Mid.start lv).mono (fun v hv ⟨u, hu, _⟩ => absurd hu (by simp)), sNew s1 hco0⟩
          · rintro i σ H2 hi ⟨cs', cm, y5, y6, rfl, f1, f2, f3, md, s2⟩
            exact SqL.of f3
          · rintro i x σ H2 hx ⟨cs', cm, y5, y6, rfl, f1, f2, f3, md, s2⟩
            obtain ⟨u, hu, rfl⟩ := map_inv hx
            obtain ⟨un, du⟩ := hin u (List.mem_of_getElem? hu)
            have ul : u < bs.length := by rw [rt.len]; exact un
            have gu : bs[u]? = some bs[u] := List.getElem?_eq_getElem ul
            refine ⟨_, rfl, _, rfl, r, _, (u : Int), _, rfl, rfl, SqT.of (s2 _ _ rt.at_), atI_nat (map_get gu), bs[u], rfl, ⟨_, SqT.of (s2 _ _ (rt.row u _ gu))⟩, for_tup (K := K) (a := bs[u]) (xs := (nb u).map V.int) (fun j σ H' => ∃ (cs' : List V) (cm : List Nat) (x6 : Option V),
              σ = [some (.ref r), some (.int (st : Int)), some (.ref sp), some (.ref re), some (.ref co), some (nI u), x6] ∧ H' sp = some (.lst cs') ∧ H' co = some (.lst (cm.map nI)) ∧ H' re = some (.lst (rs.map nI)) ∧
                Mid G st n t (fun v => (∃ u ∈ rs.take i, G u v) ∨ (v : Int) ∈ (nb u).take j) (nn cs) cs' cm ∧ Same H H') ?_ ?_ ?_ ?_⟩
            · exact ⟨cs', cm, _, rfl, f1, f2, f3, md.mono (fun v hv z => z.elim id fun z => absurd z (by simp)), s2⟩
            · rintro j σ H3 hj ⟨cs3, cm3, z6, rfl, g1, g2, g3, md3, s3⟩
              exact SqT.of (s3 _ _ (rt.row u _ gu))
            · rintro j y σ H3 hy ⟨cs3, cm3, z6, rfl, g1, g2, g3, md3, s3⟩
              obtain ⟨w, hw, rfl⟩ := map_inv hy
              obtain ⟨v, rfl, guv⟩ := (hnb u un w).mp (List.mem_of_getElem? hw)
              have vn : v < n := hG _ _ guv
              have vl : v < cs3.length := by rw [md3.len]; exact vn
              have hcv : cs3[v]? = some cs3[v] := List.getElem?_eq_getElem vl
              have hcu := md3.house un du
              have dn : ∀ x, ((∃ u ∈ rs.take i, G u x) ∨ (x : Int) ∈ (nb u).take (j + 1)) → ((∃ u ∈ rs.take i, G u x) ∨ (x : Int) ∈ (nb u).take j) ∨ x = v := by
                rintro x (z | z)
                · exact .inl (.inl z)
                · rcases (take_succ_mem hw).mp z with z | z
                  · exact .inl (.inr z)
                  · exact .inr (by omega)
              refine ⟨_, rfl, _, rfl, sp, cs3, (v : Int), _, rfl, rfl, SqL.of g1, atI_nat hcv, _, rfl, ite2 (fun c => ?_) (fun c => ?_)⟩
              · have ec : cs3[v] = .non := of_decide_eq_true c
                rw [ec] at hcv
                have cl : cm3.length ≤ 40 := by
                  have z := md3.cnt
                  have z2 := nn_le cs
                  rw [lv.len] at z2
                  omega
                refine ⟨_, rfl, _, rfl, sp, cs3, (u : Int), _, rfl, rfl, SqL.of g1, atI_nat hcu, _, _, rfl, rfl, _, rfl, _, rfl, sp, cs3, (v : Int), v, rfl, rfl, g1, ixN_nat vl, ?_⟩
                have g2' : upd H3 sp (.lst (cs3.set v (nI (t + 1)))) co = some (.lst (cm3.map nI)) := by rw [upd_ne nsc.symm]; exact g2
                refine ⟨_, rfl, .inl ⟨rfl, _, SqL.of g2'⟩, _, rfl, co, _, _, rfl, rfl, g2', ?_, ?_⟩
                · rw [List.length_map]
                  exact size_ok (by omega)
                · refine ⟨cs3.set v (nI (t + 1)), cm3 ++ [v], _, rfl, ?_, ?_, ?_, (md3.more vn hcv du guv).mono (fun x _ z => dn x z), ?_⟩
                  · rw [upd_ne nsc, upd_same]
                    rfl
                  · rw [upd_same, List.map_append]
                    rfl
                  · rw [upd_ne nrc, upd_ne nsr.symm]
                    exact g3
                  · exact sNew (sNew s3 hsp0) hco0
              · exact ⟨cs3, cm3, _, rfl, g1, g2, g3, (md3.skip hcv (fun e => c (decide_eq_true e))).mono (fun x _ z => dn x z), s3⟩
            · rintro σ H3 ⟨cs3, cm3, z6, rfl, g1, g2, g3, md3, s3⟩
              refine ⟨cs3, cm3, _, _, rfl, g1, g2, g3, md3.mono ?_, s3⟩
              rintro v hv ⟨u', hu', g⟩
              rcases (take_succ_mem hu).mp hu' with z | rfl
              · exact .inl ⟨u', z, g⟩
              · refine .inr ?_
                rw [List.length_map, List.take_length]
                exact (hnb u' un _).mpr ⟨v, rfl, g⟩
          · rintro σ H2 ⟨cs', cm, y5, y6, rfl, f1, f2, f3, md, s2⟩
            obtain ⟨lv2, all2⟩ := md.fin hG fun u v d g => ⟨u, by rw [List.length_map, List.take_length]; exact hall u d, g⟩
            refine ⟨_, rfl, nn cs' + (if cm.isEmpty = true then 0 else 1), ?_, t + 1, co, cm, cs', _, _, _, rfl, f1, f2, nsc, lv2, md.cmok, all2, s2, rfl⟩
            have z := md.cnt
            cases cm with
            | nil =>
              rw [if_pos (show ([] : List Nat).isEmpty = true from rfl)]
              rw [List.length_nil] at z
              omega
            | cons a b =>
              rw [if_neg (show ¬ ((a :: b).isEmpty = true) from Bool.false_ne_true)]
              rw [List.length_cons] at z
              omega
end
end Q

namespace Q
open PySem L2 QM
abbrev sWeb : Stmt := inClass (top 15) 0
abbrev sFar : Stmt := top 9999
/-- the way from tie to tie -/
def GL (L : List (Addr × List Int)) (u v : Nat) : Prop := Edge L (u : Int) (v : Int)
structure TL (m : Int) (L : List (Addr × List Int)) : Prop where
  ok : ∀ p ∈ L, ∃ a b : Int, p.2 = [a, b] ∧ 0 ≤ a ∧ a < b ∧ b < m
  conn : ∀ h : Int, 1 ≤ h → h < m → ∃ p ∈ L, ∃ o : Int, p.2 = [o, h]
  m1 : 1 ≤ m
  m40 : m ≤ 40
section
variable {m : Int} {L : List (Addr × List Int)}
theorem Edge.sym {i j : Int} (h : Edge L i j) : Edge L j i := by
  obtain ⟨p, hp, e | e⟩ := h
  · exact ⟨p, hp, .inr e⟩
  · exact ⟨p, hp, .inl e⟩
theorem TL.in2 (T : TL m L) {i j : Int} (h : Edge L i j) : 0 ≤ j ∧ j < m := by
  obtain ⟨p, hp, e⟩ := h
  obtain ⟨a, b, e2, h0, h1, h2⟩ := T.ok p hp
  rw [e2] at e
  simp only [List.cons.injEq, and_true] at e
  omega
theorem TL.lt (T : TL m L) (a b : Nat) (h : GL L a b) : b < m.toNat := by
  have := T.in2 h
  omega
theorem TL.nb (T : TL m L) {nb : Nat → List Int} (h : NbOf L m.toNat nb) : NbG (GL L) m.toNat nb := fun i hi j => by
  rw [h i hi j]
  constructor
  · intro e
    have z := T.in2 e
    exact ⟨j.toNat, by omega, by show Edge L (i : Int) ((j.toNat : Nat) : Int); rw [Int.toNat_of_nonneg z.1]; exact e⟩
  · rintro ⟨v, rfl, e⟩
    exact e
theorem TL.sym (a b : Nat) (h : GL L a b) : GL L b a := Edge.sym h
theorem TL.from0 (T : TL m L) : ∀ v, v < m.toNat → ∃ k, Rch (GL L) 0 k v := by
  intro v
  induction v using Nat.strongRecOn with
  | _ v ih =>
    intro hv
    by_cases c : v = 0
    · exact ⟨0, by rw [c]; exact .zero⟩
    · obtain ⟨p, hp, o, e⟩ := T.conn (v : Int) (by omega) (by omega)
      obtain ⟨a, b, e2, h0, h1, h2⟩ := T.ok p hp
      rw [e2] at e
      simp only [List.cons.injEq, and_true] at e
      obtain ⟨k, hk⟩ := ih a.toNat (by omega) (by omega)
      refine ⟨k + 1, .succ hk ⟨p, hp, .inl ?_⟩⟩
      rw [e2, Int.toNat_of_nonneg h0, e.2]
theorem Rch.trans {G : Nat → Nat → Prop} {a b c j k : Nat} (h : Rch G a j b) (g : Rch G b k c) : ∃ i, Rch G a i c := by
  induction g with
  | zero => exact ⟨j, h⟩
  | succ _ e ih =>
    obtain ⟨i, hi⟩ := ih
    exact ⟨i + 1, .succ hi e⟩
theorem TL.dist (T : TL m L) {s v : Nat} (hs : s < m.toNat) (hv : v < m.toNat) : ∃ d, Dist (GL L) s v d := by
  obtain ⟨j, hj⟩ := T.from0 s hs
  obtain ⟨k, hk⟩ := T.from0 v hv
  obtain ⟨i, hi⟩ := Rch.trans (hj.back TL.sym) hk
  obtain ⟨d, _, q⟩ := hi.dist
  exact ⟨d, q⟩
/-- on a joined web each cell is an int -/
theorem TL.ints (T : TL m L) {s : Nat} {cs : List V} (hs : s < m.toNat) (h : Cells (GL L) s m.toNat cs) : ∃ ds : List Nat, cs = ds.map nI ∧ ds.length = m.toNat ∧ ∀ (v d : Nat), ds[v]? = some d → Dist (GL L) s v d := by
  have key : ∀ (cs : List V) (k : Nat), (∀ (v : Nat) (c : V), cs[v]? = some c → ∃ d, c = nI d ∧ Dist (GL L) s (v + k) d) → ∃ ds : List Nat, cs = ds.map nI ∧ ∀ (v d : Nat), ds[v]? = some d → Dist (GL L) s (v + k) d := by
    intro cs
    induction cs with
    | nil => exact fun _ _ => ⟨[], rfl, fun v d h => by simp at h⟩
    | cons c r ih =>
      intro k h
      obtain ⟨d, rfl, hd⟩ := h 0 c rfl
      obtain ⟨ds, rfl, hds⟩ := ih (k + 1) fun v c hc => by
        obtain ⟨d, e, q⟩ := h (v + 1) c (by simpa using hc)
        exact ⟨d, e, by rw [show v + (k + 1) = v + 1 + k by omega]; exact q⟩
      refine ⟨d :: ds, rfl, fun v e hv => ?_⟩
      cases v with
      | zero =>
        obtain rfl : d = e := Option.some.inj hv
        exact hd
      | succ v =>
        have z := hds v e (by simpa using hv)
        rw [show v + 1 + k = v + (k + 1) by omega]
        exact z
  obtain ⟨ds, e, hds⟩ := key cs 0 fun v c hc => by
    have hv : v < m.toNat := by
      have z := (List.getElem?_eq_some_iff.mp hc).1
      rw [h.len] at z
      exact z
    rcases h.cell v hv with ⟨d, a, b⟩ | ⟨_, b⟩
    · rw [hc] at a
      exact ⟨d, Option.some.inj a, b⟩
    · obtain ⟨d, q⟩ := T.dist hs hv
      exact absurd q (b d)
  refine ⟨ds, e, ?_, hds⟩
  have z := h.len
  rw [e, List.length_map] at z
  exact z
end
theorem no_none : ∀ ds : List Nat, inV .non (ds.map nI) = false
  | [] => rfl
  | d :: r => by
    have ih := no_none r
    unfold inV at ih ⊢
    rw [List.map_cons, List.any_cons, ih]
    rfl
theorem flat_nI : ∀ ds : List Nat, (ds.map nI).all flatV = true
  | [] => rfl
  | d :: r => by
    rw [List.map_cons, List.all_cons, flat_nI r]
    rfl
/-! ### a web's attributes -/
def wf (m : Int) (q r : Addr) : List (Str × V) := putF "_beside" (.ref r) (putF "ties" (.ref q) (putF "many" (.int m) []))
theorem ne_tm : ¬ (("ties" : Str) = "many") := by decide +kernel
theorem ne_bt : ¬ (("_beside" : Str) = "ties") := by decide +kernel
theorem ne_bm : ¬ (("_beside" : Str) = "many") := by decide +kernel
theorem wf_many (m : Int) (q r : Addr) : (wf m q r).lookup ("many" : Str) = some (.int m) := by
  unfold wf
  rw [lookup_putF, if_neg (fun e => ne_bm e.symm), lookup_putF, if_neg (fun e => ne_tm e.symm), lookup_putF, if_pos rfl]
theorem wf_ties (m : Int) (q r : Addr) : (wf m q r).lookup ("ties" : Str) = some (.ref q) := by
  unfold wf
  rw [lookup_putF, if_neg (fun e => ne_bt e.symm), lookup_putF, if_pos rfl]
theorem wf_beside (m : Int) (q r : Addr) : (wf m q r).lookup ("_beside" : Str) = some (.ref r) := by
  unfold wf
  rw [lookup_putF, if_pos rfl]
/-- what the top says of Web -/
structure WTxt (K : PySem.W.Frag) (mg : Str → Option Value) (C : Addr) : Prop where
  cl : Cls K C
  nM : NoAttr K C "many"
  nT : NoAttr K C "ties"
  nB : NoAttr K C "_beside"
  mgC : mg "Web" = some (.ref C)
  most : ∃ t, mg "MOST_HOUSES" = some (.int 40 t)
/-- a web stands at w -/
structure WebIn (C : Addr) (m : Int) (L : List (Addr × List Int)) (H : Hp) (w dx q r : Addr) (bs : List Addr) (nb : Nat → List Int) : Prop where
  at_ : H w = some (.ins C dx (wf m q r))
  rows : RowsT H r bs nb m.toNat
  asc : NbA m.toNat nb
  nb : NbOf L m.toNat nb
def WebAt (C : Addr) (m : Int) (L : List (Addr × List Int)) (H : Hp) (w : Addr) : Prop := ∃ dx q r bs nb, WebIn C m L H w dx q r bs nb
theorem WebAt.same {C : Addr} {m : Int} {L : List (Addr × List Int)} {H H' : Hp} {w : Addr} (h : WebAt C m L H w) (s : Same H H') : WebAt C m L H' w := by
  obtain ⟨dx, q, r, bs, nb, x⟩ := h
  exact ⟨dx, q, r, bs, nb, s _ _ x.at_, x.rows.same s, x.asc, x.nb⟩
theorem WebAt.ext {C : Addr} {m : Int} {L : List (Addr × List Int)} {H H' : Hp} {w p l : Addr} (h : WebAt C m L H w) (g : HandAt H p l) (s : Ext p H H') : WebAt C m L H' w := by
  obtain ⟨dx, q, r, bs, nb, x⟩ := h
  obtain ⟨xs, e⟩ := g.hp
  refine ⟨dx, q, r, bs, nb, s _ _ x.at_ (ne_of x.at_ e (fun z => by cases z)), ⟨s _ _ x.rows.at_ (ne_of x.rows.at_ e (fun z => by cases z)), x.rows.len, fun i a hi => ?_⟩, x.asc, x.nb⟩
  have z := x.rows.row i a hi
  exact s _ _ z (ne_of z e (fun z => by cases z))
def spWeb (C : Addr) : Sp := fun vs H Q _ => ∃ (p dx : Addr) (m : Int) (q : Addr) (L : List (Addr × List Int)), vs = [.ref p, .int m, .ref q] ∧ H p = some (.ins C dx []) ∧ TiesAt m H q L ∧ 1 ≤ m ∧ m ≤ 40 ∧
  ∀ (r : Addr) (bs : List Addr) (nb : Nat → List Int) (H' : Hp), WebIn C m L H' p dx q r bs nb → Ext p H H' → Q .non H'
section
variable {P : Program} {w : World} {K : PySem.W.Frag} {mg : Str → Option Value} {base : Heap}
/-- the defs that a web leans on -/
structure WDefs (K : PySem.W.Frag) (mg : Str → Option Value) where
  fP : Addr
  dP : FuncData
  DP : Df K mg "is_plain_int" sPlain ["thing"] fP dP
  fN : Addr
  dN : FuncData
  DN : Df K mg "is_number_below" sNum ["limit", "thing"] fN dN
  fT : Addr
  dT : FuncData
  DT : Df K mg "is_tie" sTie ["many", "thing"] fT dT
  fF : Addr
  dF : FuncData
  DF : Df K mg "first_wrong_tie" sFirst ["many", "ties"] fF dF
  fB : Addr
  dB : FuncData
  DB : Df K mg "houses_beside" sBeside ["many", "ties"] fB dB
  fS : Addr
  dS : FuncData
  DS : Df K mg "steps_from" sSteps ["beside", "start"] fS dS
theorem scWeb : FnScope ["self", "many", "ties", "wrong", "beside"] ["self", "many", "ties"] (defScope sWeb) := ⟨rfl, rfl, rfl, by decide +kernel, rfl, by decide +kernel, by decide +kernel⟩
theorem ok_web {f C : Addr} {fd : FuncData} (F : Fun K "__init__" "Web.__init__" sWeb f fd) (B : Bts mg) (T : WTxt K mg C) (D : WDefs K mg) : FnOk P w K mg base CX0 5 f fd ["self", "many", "ties"] (spWeb C) := by
  have GP : FnOk P w K mg base CX0 1 D.fP D.dP ["thing"] (spPlain K) := ok_plain (x := "") (st := sPlain) D.DP.F B
  have GF : FnOk P w K mg base CX0 4 D.fF D.dF ["many", "ties"] spFirst := ok_first D.DF.F B D.DP D.DN D.DT
  have GB : FnOk P w K mg base CX0 1 D.fB D.dB ["many", "ties"] spBeside := ok_beside D.DB.F B
  have GS : FnOk P w K mg base CX0 1 D.fS D.dS ["beside", "start"] spSteps := ok_steps D.DS.F B
  refine F.ok scWeb (fun vs H Q E h => ?_) (fun cdv A outer s H vs Q E hr h => ?_)
  · obtain ⟨p, dx, m, q, L, rfl, _⟩ := h
    rfl
  · obtain ⟨p, dx, m, q, L, rfl, hp, tt, m1, m40, k⟩ := h
    have nd := scWeb.nd
    obtain ⟨tm, hmost⟩ := T.most
    have hr1 : Room 1 _ := hr.mono (by decide)
    refine ⟨_, pss_cons (ps_if (PW.pt (pw_or (pt_not (pt_val (pe_call GP hr1 rfl D.DP.m D.DP.k D.DP.b .nil pass0 (pa_cons (pv 1) pa_nil)))) (pw_or1 (pt_not (pt_chain op_le op_le pe_int (pv 1) (pe_glob (v := .int 40) rfl hmost ⟨_, rfl⟩)))))) pss_never pss_nil)
      (pss_cons (ps_if (pt_not (pt_val (pe_callB call_isi (by rfl) B.isinstance PyProof.Rows.boot_isinstance (pa_cons (pv 2) (pa_cons (pe_bltn (v := .ty "tuple") rfl B.tuple PyProof.Rows.boot_tuple rfl) pa_nil))))) pss_never pss_nil)
      (pss_cons (ps_set (i := 3) nd rfl (.inl rfl) (pe_call GF hr rfl D.DF.m D.DF.k D.DF.b .nil pass0 (pa_cons (pv 1) (pa_cons (pv 2) pa_nil))))
      (pss_cons (ps_if (pt_cmp (pc_notN (pv 3))) pss_never pss_nil)
      (pss_cons (ps_set (i := 4) nd rfl (.inl rfl) (pe_call GB hr1 rfl D.DB.m D.DB.k D.DB.b .nil pass0 (pa_cons (pv 1) (pa_cons (pv 2) pa_nil))))
      (pss_cons (ps_if (pt_cmpR op_in_seq pe_non (pe_call GS hr1 rfl D.DS.m D.DS.k D.DS.b .nil pass0 (pa_cons (pv 4) (pa_cons pe_int pa_nil))) rfl) pss_never pss_nil)
      (pss_cons (ps_fld (pv 0) (pv 1) rfl)
      (pss_cons (ps_fld (pv 0) (pv 2) rfl)
      (pss_one (ps_fld (pv 0) (pv 4) rfl))))))))), ?_⟩
    refine ⟨_, rfl, .int m, .type "int", true, false, rfl, .base (.int _), kInt_int, kBool_int, _, rfl, ?_⟩
    refine iteF ⟨_, rfl, _, _, rfl, rfl, _, rfl, ite2 (fun _ => ?_) (fun c => absurd (decide_eq_true m1) c)⟩
    refine ⟨_, _, rfl, rfl, _, rfl, ite2 (fun c => ?_) (fun _ => ?_)⟩
    · rw [decide_eq_true m40] at c
      exact absurd c (by decide)
    refine ⟨_, rfl, .ref q, .ty "tuple", .type "tuple", .type "tuple", true, rfl, .ty _, .base (.tup tt.at_), kit_ty (by decide +kernel), _, rfl, iteF ?_⟩
    refine ⟨_, rfl, _, rfl, m, q, L, rfl, tt, fun H1 s1 => ?_⟩
    refine ⟨_, rfl, _, rfl, ite2 (fun c => absurd c (by simp)) (fun _ => ?_)⟩
    refine ⟨_, rfl, _, rfl, m, q, L, rfl, m1, m40, (tt.same s1).n, fun r bs nb H2 rt hnb hasc s2 => ?_⟩
    have TT : TL m L := ⟨tt.ok, tt.conn, m1, m40⟩
    refine ⟨_, rfl, r, bs, nb, m.toNat, GL L, 0, rfl, rt, by omega, by omega, TT.nb hnb, TT.lt, fun sp cs H3 hsp cells s3 => ?_⟩
    obtain ⟨ds, rfl, _, _⟩ := TT.ints (by omega) cells
    refine ⟨sp, _, rfl, .inl (SqL.of hsp), rfl, flat_nI ds, _, rfl, ?_⟩
    have en : (if false = true then !inV V.non (ds.map nI) else inV V.non (ds.map nI)) = false := no_none ds
    rw [en]
    refine iteF ?_
    have s4 : Same H H3 := fun b o e => s3 _ _ (s2 _ _ (s1 _ _ e))
    refine ⟨_, rfl, _, rfl, p, C, dx, _, rfl, s4 _ _ hp, T.cl, T.nM, (by show 0 < 1000; decide), ?_⟩
    refine ⟨_, rfl, _, rfl, p, C, dx, _, rfl, upd_same, T.cl, T.nT, (by show 1 < 1000; decide), ?_⟩
    refine ⟨_, rfl, _, rfl, p, C, dx, _, rfl, upd_same, T.cl, T.nB, (by show 2 < 1000; decide), ?_⟩
    have rt3 := rt.same s3
    have np : ∀ {b : Addr} {xs : List V}, H3 b = some (.tup xs) → b ≠ p := fun e => ne_of e (s4 _ _ hp) (fun z => by cases z)
    refine k r bs nb _ ⟨upd_same, ⟨?_, rt3.len, fun i a hi => ?_⟩, hasc, hnb⟩ fun b o e nb => ?_
    · rw [upd_ne (np rt3.at_), upd_ne (np rt3.at_), upd_ne (np rt3.at_)]
      exact rt3.at_
    · have z := rt3.row i a hi
      rw [upd_ne (np z), upd_ne (np z), upd_ne (np z)]
      exact z
    · rw [upd_ne nb, upd_ne nb, upd_ne nb]
      exact s4 _ _ e
end
end Q

namespace Q
open PySem L2
abbrev sLBes : Stmt := top 84
/-- the other ends, behind and ahead -/
def endB (h : Int) : List Int → Option Int
  | [a, b] => if a = h then some b else none
  | _ => none
def endA (h : Int) : List Int → Option Int
  | [a, b] => if b = h then some a else none
  | _ => none
def fB (h : Int) (L : List (Addr × List Int)) : List Int := L.filterMap fun p => endB h p.2
def fA (h : Int) (L : List (Addr × List Int)) : List Int := L.filterMap fun p => endA h p.2
theorem fB_mem {h j : Int} {L : List (Addr × List Int)} : j ∈ fB h L ↔ ∃ p ∈ L, p.2 = [h, j] := by
  unfold fB
  rw [List.mem_filterMap]
  constructor
  · rintro ⟨p, hp, e⟩
    refine ⟨p, hp, ?_⟩
    obtain ⟨ad, l⟩ := p
    match l, e with
    | [a, b], e =>
      have e' : (if a = h then some b else none) = some j := e
      by_cases c : a = h
      · rw [if_pos c] at e'
        cases e'
        rw [c]
      · rw [if_neg c] at e'
        cases e'
  · rintro ⟨p, hp, e⟩
    refine ⟨p, hp, ?_⟩
    rw [e]
    show (if h = h then some j else none) = _
    rw [if_pos rfl]
theorem fA_mem {h j : Int} {L : List (Addr × List Int)} : j ∈ fA h L ↔ ∃ p ∈ L, p.2 = [j, h] := by
  unfold fA
  rw [List.mem_filterMap]
  constructor
  · rintro ⟨p, hp, e⟩
    refine ⟨p, hp, ?_⟩
    obtain ⟨ad, l⟩ := p
    match l, e with
    | [a, b], e =>
      have e' : (if b = h then some a else none) = some j := e
      by_cases c : b = h
      · rw [if_pos c] at e'
        cases e'
        rw [c]
      · rw [if_neg c] at e'
        cases e'
  · rintro ⟨p, hp, e⟩
    refine ⟨p, hp, ?_⟩
    rw [e]
    show (if h = h then some j else none) = _
    rw [if_pos rfl]
theorem fB_asc {h : Int} {L : List (Addr × List Int)} (asc : L.Pairwise (fun x y => ltP x.2 y.2)) : (fB h L).Pairwise (· < ·) := by
  unfold fB
  rw [List.pairwise_filterMap]
  refine asc.imp fun {p q} hpq b1 e1 b2 e2 => ?_
  obtain ⟨a, b, c, d, ep, eq, hh⟩ := hpq
  have e1' : endB h p.2 = some b1 := e1
  have e2' : endB h q.2 = some b2 := e2
  rw [ep] at e1'
  rw [eq] at e2'
  have f1 : (if a = h then some b else none) = some b1 := e1'
  have f2 : (if c = h then some d else none) = some b2 := e2'
  by_cases c1 : a = h
  · by_cases c2 : c = h
    · rw [if_pos c1] at f1
      rw [if_pos c2] at f2
      cases f1
      cases f2
      omega
    · rw [if_neg c2] at f2
      cases f2
  · rw [if_neg c1] at f1
    cases f1
theorem fA_asc {h : Int} {L : List (Addr × List Int)} (asc : L.Pairwise (fun x y => ltP x.2 y.2)) : (fA h L).Pairwise (· < ·) := by
  unfold fA
  rw [List.pairwise_filterMap]
  refine asc.imp fun {p q} hpq b1 e1 b2 e2 => ?_
  obtain ⟨a, b, c, d, ep, eq, hh⟩ := hpq
  have e1' : endA h p.2 = some b1 := e1
  have e2' : endA h q.2 = some b2 := e2
  rw [ep] at e1'
  rw [eq] at e2'
  have f1 : (if b = h then some a else none) = some b1 := e1'
  have f2 : (if d = h then some c else none) = some b2 := e2'
  by_cases c1 : b = h
  · by_cases c2 : d = h
    · rw [if_pos c1] at f1
      rw [if_pos c2] at f2
      cases f1
      cases f2
      omega
    · rw [if_neg c2] at f2
      cases f2
  · rw [if_neg c1] at f1
    cases f1
theorem asc_of_nd {l : List Int} (h : l.Pairwise (· ≤ ·)) (n : l.Nodup) : l.Pairwise (· < ·) := (List.Pairwise.and h n).imp fun {a b} ⟨h1, h2⟩ => by omega
theorem dec_i (a b : Int) : decide (V.int a = V.int b) = decide (a = b) := by
  by_cases c : a = b
  · rw [c, decide_eq_true rfl, decide_eq_true rfl]
  · rw [decide_eq_false c, decide_eq_false fun z => c (V.int.inj z)]
/-- a drawn web at W -/
def LWeb (H : Hp) (W q : Addr) (m : Int) (L : List (Addr × List Int)) : Prop := H W = some (.tup [.int m, .ref q]) ∧ TiesAt m H q L
theorem LWeb.same {H H' : Hp} {W q : Addr} {m : Int} {L : List (Addr × List Int)} (h : LWeb H W q m L) (s : Same H H') : LWeb H' W q m L := ⟨s _ _ h.1, h.2.same s⟩
def spLBes : Sp := fun vs H Q _ => ∃ (W q : Addr) (m h : Int) (L : List (Addr × List Int)), vs = [.ref W, .int h] ∧ LWeb H W q m L ∧
  ∀ (p : Addr) (ns : List Int) (H' : Hp), Same H H' → H p = none → H' p = some (.lst (ns.map V.int)) → ns.Pairwise (· < ·) → (∀ j, j ∈ ns ↔ Edge L h j) → Q (.ref p) H'
section
variable {P : Program} {w : World} {K : PySem.W.Frag} {mg : Str → Option Value} {base : Heap}
theorem scLBes : FnScope ["web", "house", "a", "b"] ["web", "house"] (defScope sLBes) := ⟨rfl, rfl, rfl, by decide +kernel, rfl, by decide +kernel, by decide +kernel⟩
theorem ok_lbes {f : Addr} {fd : FuncData} (F : Fun K "_law_beside" "_law_beside" sLBes f fd) (B : Bts mg) : FnOk P w K mg base CX0 1 f fd ["web", "house"] spLBes := by
  refine F.ok scLBes (fun vs H Q E h => ?_) (fun cdv A outer s H vs Q E hr h => ?_)
  · obtain ⟨W, q, m, h, L, rfl, _⟩ := h
    rfl
  · obtain ⟨W, q, m, h, L, rfl, ⟨hW, tt⟩, k⟩ := h
    have nd := scLBes.nd
    have rs : Same H H := fun _ _ e => e
    refine ⟨_, pss_one (ps_ret (pe_callB cr_sortedI (by rfl) B.sorted PyProof.Rows.boot_sorted (pa_cons (pe_op op_cat
      (pe_lc (own := [("a", 2), ("b", 3)]) (g := gTup K 2 (gCons (gName 2) (gCons (gName 3) gNil))) rfl nd (pi_tup (pe_ix ix_tup (pv 0) pe_int (fun _ _ => rfl)))
        (blkOk_by (N := ["web", "house", "a", "b"]) (sc := defScope sLBes) (by decide +kernel)) (fun _ _ _ _ _ => pg_tup rfl (pgs_cons (pg_name (i := 2) nd rfl (.inl rfl)) (pgs_cons (pg_name (i := 3) nd rfl (.inl rfl)) pgs_nil))) (fun _ _ _ _ _ => pts_one (pt_cmpR op_eq (pv 2) (pv 1) (nomark _))) (fun _ _ _ _ _ => pv 3))
      (pe_lc (own := [("a", 2), ("b", 3)]) (g := gTup K 2 (gCons (gName 2) (gCons (gName 3) gNil))) rfl nd (pi_tup (pe_ix ix_tup (pv 0) pe_int (fun _ _ => rfl)))
        (blkOk_by (N := ["web", "house", "a", "b"]) (sc := defScope sLBes) (by decide +kernel)) (fun _ _ _ _ _ => pg_tup rfl (pgs_cons (pg_name (i := 2) nd rfl (.inl rfl)) (pgs_cons (pg_name (i := 3) nd rfl (.inl rfl)) pgs_nil))) (fun _ _ _ _ _ => pts_one (pt_cmpR op_eq (pv 3) (pv 1) (nomark _))) (fun _ _ _ _ _ => pv 2))) pa_nil))), ?_⟩
    have eq0 : atI [V.int m, V.ref q] 1 = some (V.ref q) := rfl
    refine ⟨_, rfl, W, _, 1, _, rfl, rfl, SqT.of hW, eq0, q, rfl, ⟨_, SqT.of tt.at_⟩, fun D1 hD1 => lc_tup (K := K) (a := q) (xs := L.map fun p => V.ref p.1) (fun i H' => H' D1 = some (.lst ((fB h (L.take i)).map V.int)) ∧ Same H H') ?_ ?_ ?_ ?_⟩
    · exact ⟨upd_same, sN hD1⟩
    · rintro i H1 hi ⟨_, s1⟩
      exact SqT.of (s1 _ _ tt.at_)
    · rintro i v H1 hv ⟨eD, s1⟩
      obtain ⟨p, hp, rfl⟩ := map_inv hv
      have hm := List.mem_of_getElem? hp
      have hi : i < L.length := (List.getElem?_eq_some_iff.mp hp).1
      obtain ⟨a, b, e2, _⟩ := tt.ok p hm
      have ht := s1 _ _ (tt.tup p hm)
      rw [e2] at ht
      have tk : fB h (L.take (i + 1)) = fB h (L.take i) ++ (if a = h then [b] else []) := by
        unfold fB
        rw [List.take_add_one, hp, List.filterMap_append]
        show _ ++ List.filterMap (fun p : Addr × List Int => endB h p.2) [p] = _
        rw [List.filterMap_cons, e2]
        by_cases c : a = h
        · rw [show endB h [a, b] = some b from if_pos c, if_pos c]
          rfl
        · rw [show endB h [a, b] = none from if_neg c, if_neg c]
          rfl
      have lb : (fB h (L.take i)).length ≤ i := by
        unfold fB
        refine Nat.le_trans (List.length_filterMap_le _ _) ?_
        rw [List.length_take]
        omega
      refine ⟨p.1, _, rfl, SqT.of ht, rfl, _, _, rfl, _, _, rfl, rfl, rfl, _, rfl, _, rfl, rfl, _, rfl, ?_⟩
      rw [dec_i]
      refine ite2 (fun c => ?_) (fun c => ?_)
      · have c' : a = h := of_decide_eq_true c
        refine ⟨_, rfl, _, eD, ?_, ?_, ?_⟩
        · rw [List.length_map]
          exact Nat.lt_of_lt_of_le (show (fB h (L.take i)).length < 1000 by have := tt.few; omega) (by decide)
        · rw [upd_same, tk, if_pos c', List.map_append]
          rfl
        · exact sNew s1 hD1
      · have c' : ¬ a = h := fun z => c (decide_eq_true z)
        refine ⟨?_, s1⟩
        rw [tk, if_neg c', List.append_nil]
        exact eD
    · rintro H1 ⟨eD1, s1⟩
      rw [List.length_map, List.take_length] at eD1
      refine ⟨_, rfl, W, _, 1, _, rfl, rfl, SqT.of (s1 _ _ hW), eq0, q, rfl, ⟨_, SqT.of (s1 _ _ tt.at_)⟩, fun D2 hD2 => lc_tup (K := K) (a := q) (xs := L.map fun p => V.ref p.1) (fun i H' => H' D2 = some (.lst ((fA h (L.take i)).map V.int)) ∧ Same H1 H') ?_ ?_ ?_ ?_⟩
      · exact ⟨upd_same, sN hD2⟩
      · rintro i H2 hi ⟨_, s2⟩
        exact SqT.of (s2 _ _ (s1 _ _ tt.at_))
      · rintro i v H2 hv ⟨eD, s2⟩
        obtain ⟨p, hp, rfl⟩ := map_inv hv
        have hm := List.mem_of_getElem? hp
        have hi : i < L.length := (List.getElem?_eq_some_iff.mp hp).1
        obtain ⟨a, b, e2, _⟩ := tt.ok p hm
        have ht := s2 _ _ (s1 _ _ (tt.tup p hm))
        rw [e2] at ht
        have tk : fA h (L.take (i + 1)) = fA h (L.take i) ++ (if b = h then [a] else []) := by
          unfold fA
          rw [List.take_add_one, hp, List.filterMap_append]
          show _ ++ List.filterMap (fun p : Addr × List Int => endA h p.2) [p] = _
          rw [List.filterMap_cons, e2]
          by_cases c : b = h
          · rw [show endA h [a, b] = some a from if_pos c, if_pos c]
            rfl
          · rw [show endA h [a, b] = none from if_neg c, if_neg c]
            rfl
        have lb : (fA h (L.take i)).length ≤ i := by
          unfold fA
          refine Nat.le_trans (List.length_filterMap_le _ _) ?_
          rw [List.length_take]
          omega
        refine ⟨p.1, _, rfl, SqT.of ht, rfl, _, _, rfl, _, _, rfl, rfl, rfl, _, rfl, _, rfl, rfl, _, rfl, ?_⟩
        rw [dec_i]
        refine ite2 (fun c => ?_) (fun c => ?_)
        · have c' : b = h := of_decide_eq_true c
          refine ⟨_, rfl, _, eD, ?_, ?_, ?_⟩
          · rw [List.length_map]
            exact Nat.lt_of_lt_of_le (show (fA h (L.take i)).length < 1000 by have := tt.few; omega) (by decide)
          · rw [upd_same, tk, if_pos c', List.map_append]
            rfl
          · exact sNew s2 hD2
        · have c' : ¬ b = h := fun z => c (decide_eq_true z)
          refine ⟨?_, s2⟩
          rw [tk, if_neg c', List.append_nil]
          exact eD
      · rintro H2 ⟨eD2, s2⟩
        rw [List.length_map, List.take_length] at eD2
        have lB : (fB h L).length ≤ L.length := List.length_filterMap_le _ _
        have lA : (fA h L).length ≤ L.length := List.length_filterMap_le _ _
        have few := tt.few
        refine ⟨D1, D2, _, _, rfl, rfl, s2 _ _ eD1, eD2, ?_, fun D3 hD3 => ?_⟩
        · rw [List.length_map, List.length_map]
          exact Nat.le_trans (show (fB h L).length + (fA h L).length ≤ 2000 by omega) (by decide)
        refine ⟨D3, fB h L ++ fA h L, rfl, SqL.of (by rw [upd_same, List.map_append]), fun ns p pm pw hp => ?_⟩
        have s12 := sT s1 s2
        have s3 := sT s12 (sN (o := .lst ((fB h L).map V.int ++ (fA h L).map V.int)) hD3)
        have s4 := sT s3 (sN (o := .lst (ns.map V.int)) hp)
        have hpH : H p = none := by
          cases z : H p with
          | none => rfl
          | some o => rw [s3 _ _ z] at hp; cases hp
        have nod : (fB h L ++ fA h L).Nodup := by
          rw [List.nodup_append]
          refine ⟨(fB_asc tt.asc).imp fun z => Int.ne_of_lt z, (fA_asc tt.asc).imp fun z => Int.ne_of_lt z, fun x hx y hy e => ?_⟩
          obtain ⟨p1, h1, e1⟩ := fB_mem.mp hx
          obtain ⟨p2, h2, e2⟩ := fA_mem.mp hy
          obtain ⟨a, b, e3, _, z1, _⟩ := tt.ok p1 h1
          obtain ⟨c, d, e4, _, z2, _⟩ := tt.ok p2 h2
          rw [e1] at e3
          rw [e2] at e4
          simp only [List.cons.injEq, and_true] at e3 e4
          omega
        refine k p ns _ s4 hpH upd_same (asc_of_nd pw (pm.nodup_iff.mpr nod)) fun j => ?_
        rw [pm.mem_iff, List.mem_append, fB_mem, fA_mem]
        constructor
        · rintro (⟨p, hp, e⟩ | ⟨p, hp, e⟩)
          · exact ⟨p, hp, .inl e⟩
          · exact ⟨p, hp, .inr e⟩
        · rintro ⟨p, hp, e | e⟩
          · exact .inl ⟨p, hp, e⟩
          · exact .inr ⟨p, hp, e⟩
end
end Q

namespace Q
open PySem L2
abbrev sIs : Stmt := top 80
/-- the same through and through, to nesting n -/
def SmI (H : Hp) : Nat → V → V → Prop
  | 0 => fun _ _ => False
  | n + 1 => fun u v => (∃ i : Int, u = .int i ∧ v = .int i) ∨ (∃ z : Str, u = .str z ∧ v = .str z) ∨ (∃ b : Bool, u = .bl b ∧ v = .bl b) ∨ (u = .non ∧ v = .non) ∨
      ∃ (a b : Addr) (xs ys : List V), u = .ref a ∧ v = .ref b ∧ H a = some (.tup xs) ∧ H b = some (.tup ys) ∧ xs.length = ys.length ∧ xs.length ≤ 1000 ∧ ∀ (i : Nat) (x y : V), xs[i]? = some x → ys[i]? = some y → SmI H n x y
theorem SmI.same {H H' : Hp} (s : Same H H') : ∀ {n : Nat} {u v : V}, SmI H n u v → SmI H' n u v
  | 0, _, _, h => h.elim
  | n + 1, u, v, h => by
    rcases h with h | h | h | h | ⟨a, b, xs, ys, e1, e2, h1, h2, hl, h3, k⟩
    · exact .inl h
    · exact .inr (.inl h)
    · exact .inr (.inr (.inl h))
    · exact .inr (.inr (.inr (.inl h)))
    · exact .inr (.inr (.inr (.inr ⟨a, b, xs, ys, e1, e2, s _ _ h1, s _ _ h2, hl, h3, fun i x y hx hy => (k i x y hx hy).same s⟩)))
def spIs (n : Nat) : Sp := fun vs H Q _ => ∃ u v : V, vs = [u, v] ∧ SmI H n u v ∧ ∀ H', Same H H' → Q (.bl true) H'
section
variable {K : PySem.W.Frag}
theorem walk_zipT {a b : Addr} {xs ys : List V} {n : Nat} (hn : n = min xs.length ys.length) : Walk (RZ.ItzT K a b) n (fun H => SqT K H a xs ∧ SqT K H b ys) (YPair (fun i => xs[i]?) (fun i => ys[i]?)) := by
  subst hn
  refine ⟨fun i H hi q => ?_, fun H q => ⟨xs, ys, q.1, q.2, by omega⟩, fun i H v H' hi q y => ?_⟩
  · have h1 : i < xs.length := Nat.lt_of_lt_of_le hi (Nat.min_le_left _ _)
    have h2 : i < ys.length := Nat.lt_of_lt_of_le hi (Nat.min_le_right _ _)
    exact ⟨xs, ys, _, _, q.1, q.2, List.getElem?_eq_getElem h1, List.getElem?_eq_getElem h2⟩
  · obtain ⟨T, x, z, e1, e2, e3, e4, e5⟩ := y
    exact ⟨T, x, z, e1, e2, e3, e4 xs q.1, e5 ys q.2⟩
end
theorem kitTL {K : PySem.W.Frag} {t : String} {b c : Bool} (h1 : kitB t "tuple" = some b) (h2 : kitB t "list" = some c) : PySem.W.kitAny K (.type t) [.type "tuple", .type "list"] = some (b || c) := by
  refine kitAny_cons (kit_ty h1) (fun e => ?_) (fun e => by rw [e]; rfl)
  rw [e]
  refine kitAny_cons (kit_ty h2) (fun e => ?_) (fun e => by rw [e]; rfl)
  rw [e]
  exact kitAny_nil
section
variable {P : Program} {w : World} {K : PySem.W.Frag} {mg : Str → Option Value} {base : Heap}
theorem scIs : FnScope ["told", "due", "one", "two"] ["told", "due"] (defScope sIs) := ⟨rfl, rfl, rfl, by decide +kernel, rfl, by decide +kernel, by decide +kernel⟩
theorem ok_is {f : Addr} {fd : FuncData} (D : Df K mg "_law_is" sIs ["told", "due"] f fd) (B : Bts mg) (hz : mg "zip" = none) (ha : mg "all" = none) : ∀ n, FnOk P w K mg base CX0 (n + 1) f fd ["told", "due"] (spIs n)
  | 0 => by
    refine D.F.ok scIs (fun vs H Q E h => ?_) (fun cdv A outer s H vs Q E hr h => ?_)
    · obtain ⟨u, v, rfl, _⟩ := h
      rfl
    · obtain ⟨u, v, rfl, h, _⟩ := h
      exact h.elim
  | n + 1 => by
    have IH : FnOk P w K mg base CX0 (n + 1) f fd ["told", "due"] (spIs n) := ok_is D B hz ha n
    refine D.F.ok scIs (fun vs H Q E h => ?_) (fun cdv A outer s H vs Q E hr h => ?_)
    · obtain ⟨u, v, rfl, _⟩ := h
      rfl
    · obtain ⟨u, v, rfl, h, k⟩ := h
      have nd := scIs.nd
      have rs : Same H H := fun _ _ e => e
      refine ⟨_, pss_cons (ps_if (pt_val (pe_callB call_isiT (by rfl) B.isinstance PyProof.Rows.boot_isinstance (pa_cons (pv 1) (pa_cons (pe_tup (pa_cons (pe_bltn (v := .ty "tuple") rfl B.tuple PyProof.Rows.boot_tuple rfl) (pa_cons (pe_bltn (v := .ty "list") rfl B.list PyProof.Rows.boot_list rfl) pa_nil))) pa_nil))))
          (pss_cons (ps_if (PW.pt (pw_or (pt_cmpR op_ne (pe_callB call_isi (by rfl) B.isinstance PyProof.Rows.boot_isinstance (pa_cons (pv 0) (pa_cons (pe_bltn (v := .ty "tuple") rfl B.tuple PyProof.Rows.boot_tuple rfl) pa_nil)))
                (pe_callB call_isi (by rfl) B.isinstance PyProof.Rows.boot_isinstance (pa_cons (pv 1) (pa_cons (pe_bltn (v := .ty "tuple") rfl B.tuple PyProof.Rows.boot_tuple rfl) pa_nil))) (nomark _))
              (pw_or1 (pt_not (pt_val (pe_callB call_isiT (by rfl) B.isinstance PyProof.Rows.boot_isinstance (pa_cons (pv 0) (pa_cons (pe_tup (pa_cons (pe_bltn (v := .ty "tuple") rfl B.tuple PyProof.Rows.boot_tuple rfl) (pa_cons (pe_bltn (v := .ty "list") rfl B.list PyProof.Rows.boot_list rfl) pa_nil))) pa_nil))))))))
            pss_never pss_nil)
          (pss_one (ps_ret (pe_and (pe_cmpR op_eq (pe_callB call_len_seq (by rfl) B.len PySem.boot_len (pa_cons (pv 0) pa_nil)) (pe_callB call_len_seq (by rfl) B.len PySem.boot_len (pa_cons (pv 1) pa_nil)) (nomark _))
            (pe_one (pe_callB (cr_all rfl) (by rfl) ha PyProof.Rows.boot_all (pa_cons (pe_lc (own := [("one", 2), ("two", 3)]) (g := gTup K 2 (gCons (gName 2) (gCons (gName 3) gNil))) (tt := tYes) rfl nd (RZ.pi_zipA rfl hz (pa_cons (pv 0) (pa_cons (pv 1) pa_nil)))
              (blkOk_by (N := ["told", "due", "one", "two"]) (sc := defScope sIs) (by decide +kernel)) (fun _ _ _ _ _ => pg_tup rfl (pgs_cons (pg_name (i := 2) nd rfl (.inl rfl)) (pgs_cons (pg_name (i := 3) nd rfl (.inl rfl)) pgs_nil))) (fun _ _ _ _ _ => pts_nil)
              (fun _ _ _ _ _ => pe_call IH hr rfl D.m D.k D.b .nil pass0 (pa_cons (pv 2) (pa_cons (pv 3) pa_nil)))) pa_nil)))))))
          pss_nil)
        (pss_one (ps_ret (pe_and (pe_cmpR op_eq (pe_callB call_isi (by rfl) B.isinstance PyProof.Rows.boot_isinstance (pa_cons (pv 0) (pa_cons (pe_bltn (v := .ty "bool") rfl B.bool (by decide +kernel) rfl) pa_nil)))
            (pe_callB call_isi (by rfl) B.isinstance PyProof.Rows.boot_isinstance (pa_cons (pv 1) (pa_cons (pe_bltn (v := .ty "bool") rfl B.bool (by decide +kernel) rfl) pa_nil))) (nomark _))
          (pe_one (pe_cmpR op_eq (pv 0) (pv 1) (nomark _)))))), ?_⟩
      have cls2 : Paired ClsV [V.ty "tuple", V.ty "list"] [Value.type "tuple", Value.type "list"] := .cons (.ty _) (.cons (.ty _) .nil)
      rcases h with ⟨i, rfl, rfl⟩ | ⟨z, rfl, rfl⟩ | ⟨b0, rfl, rfl⟩ | ⟨rfl, rfl⟩ | ⟨a, b, xs, ys, rfl, rfl, h1, h2, hl, h3, hk⟩
      · refine ⟨_, rfl, (by show 2 ≤ sizeLine; decide), fun tp htp => ?_⟩
        refine ⟨.int i, tp, _, .type "int", _, false, rfl, upd_same, cls2, .base (.int _), kitTL (t := "int") (b := false) (c := false) (by decide +kernel) (by decide +kernel), _, rfl, iteF ?_⟩
        refine ⟨_, rfl, .int i, .ty "bool", .type "int", .type "bool", false, rfl, .ty _, .base (.int _), kit_ty (by decide +kernel), _, rfl, .int i, .ty "bool", .type "int", .type "bool", false, rfl, .ty _, .base (.int _), kit_ty (by decide +kernel), rfl, _, rfl, ?_⟩
        rw [decide_eq_true (rfl : V.bl false = V.bl false)]
        refine iteT ⟨_, rfl, _, rfl, rfl, ?_⟩
        rw [decide_eq_true rfl]
        exact k _ (sN htp)
      · refine ⟨_, rfl, (by show 2 ≤ sizeLine; decide), fun tp htp => ?_⟩
        refine ⟨.str z, tp, _, .type "str", _, false, rfl, upd_same, cls2, .base (.str _), kitTL (t := "str") (b := false) (c := false) (by decide +kernel) (by decide +kernel), _, rfl, iteF ?_⟩
        refine ⟨_, rfl, .str z, .ty "bool", .type "str", .type "bool", false, rfl, .ty _, .base (.str _), kit_ty (by decide +kernel), _, rfl, .str z, .ty "bool", .type "str", .type "bool", false, rfl, .ty _, .base (.str _), kit_ty (by decide +kernel), rfl, _, rfl, ?_⟩
        rw [decide_eq_true (rfl : V.bl false = V.bl false)]
        refine iteT ⟨_, rfl, _, rfl, rfl, ?_⟩
        rw [decide_eq_true rfl]
        exact k _ (sN htp)
      · refine ⟨_, rfl, (by show 2 ≤ sizeLine; decide), fun tp htp => ?_⟩
        refine ⟨.bl b0, tp, _, .type "bool", _, false, rfl, upd_same, cls2, .base (.bl _), kitTL (t := "bool") (b := false) (c := false) (by decide +kernel) (by decide +kernel), _, rfl, iteF ?_⟩
        refine ⟨_, rfl, .bl b0, .ty "bool", .type "bool", .type "bool", true, rfl, .ty _, .base (.bl _), kit_ty (by decide +kernel), _, rfl, .bl b0, .ty "bool", .type "bool", .type "bool", true, rfl, .ty _, .base (.bl _), kit_ty (by decide +kernel), rfl, _, rfl, ?_⟩
        rw [decide_eq_true (rfl : V.bl true = V.bl true)]
        refine iteT ⟨_, rfl, _, rfl, rfl, ?_⟩
        rw [decide_eq_true rfl]
        exact k _ (sN htp)
      · refine ⟨_, rfl, (by show 2 ≤ sizeLine; decide), fun tp htp => ?_⟩
        refine ⟨.non, tp, _, .type "NoneType", _, false, rfl, upd_same, cls2, .base (.non), kitTL (t := "NoneType") (b := false) (c := false) (by decide +kernel) (by decide +kernel), _, rfl, iteF ?_⟩
        refine ⟨_, rfl, .non, .ty "bool", .type "NoneType", .type "bool", false, rfl, .ty _, .base (.non), kit_ty (by decide +kernel), _, rfl, .non, .ty "bool", .type "NoneType", .type "bool", false, rfl, .ty _, .base (.non), kit_ty (by decide +kernel), rfl, _, rfl, ?_⟩
        rw [decide_eq_true (rfl : V.bl false = V.bl false)]
        refine iteT ⟨_, rfl, _, rfl, rfl, ?_⟩
        rw [decide_eq_true rfl]
        exact k _ (sN htp)
      · refine ⟨_, rfl, (by show 2 ≤ sizeLine; decide), fun tp htp => ?_⟩
        have s1 := sN (o := .tup [.ty "tuple", .ty "list"]) htp
        refine ⟨.ref b, tp, _, .type "tuple", _, true, rfl, upd_same, cls2, .base (.tup (s1 _ _ h2)), kitTL (t := "tuple") (b := true) (c := false) (by decide +kernel) (by decide +kernel), _, rfl, iteT ?_⟩
        refine ⟨_, rfl, .ref a, .ty "tuple", .type "tuple", .type "tuple", true, rfl, .ty _, .base (.tup (s1 _ _ h1)), kit_ty (by decide +kernel), _, rfl, .ref b, .ty "tuple", .type "tuple", .type "tuple", true, rfl, .ty _, .base (.tup (s1 _ _ h2)), kit_ty (by decide +kernel), rfl, _, rfl, ?_⟩
        rw [decide_eq_true (rfl : V.bl true = V.bl true)]
        refine iteF ⟨_, rfl, (by show 2 ≤ sizeLine; decide), fun tp2 htp2 => ?_⟩
        have s2 := sT s1 (sN (o := .tup [.ty "tuple", .ty "list"]) htp2)
        refine ⟨.ref a, tp2, _, .type "tuple", _, true, rfl, upd_same, cls2, .base (.tup (s2 _ _ h1)), kitTL (t := "tuple") (b := true) (c := false) (by decide +kernel) (by decide +kernel), _, rfl, iteF ?_⟩
        refine ⟨_, rfl, a, xs, rfl, .inr (SqT.of (s2 _ _ h1)), _, rfl, b, ys, rfl, .inr (SqT.of (s2 _ _ h2)), rfl, _, rfl, ?_⟩
        rw [hl, decide_eq_true (rfl : V.int (ys.length : Int) = V.int (ys.length : Int))]
        refine iteT ?_
        revert s2
        generalize (L2.upd (L2.upd H tp (.tup [.ty "tuple", .ty "list"])) tp2 (.tup [.ty "tuple", .ty "list"])) = H2
        intro s2
        refine ⟨_, rfl, _, rfl, a, b, xs, ys, rfl, .inr ⟨SqT.of (s2 _ _ h1), SqT.of (s2 _ _ h2), fun D hD => lc_it (walk_zipT (K := K) (a := a) (b := b) (xs := xs) (ys := ys) (n := xs.length) (by omega)) (fun i H' => H' D = some (.lst ((List.replicate i true).map V.bl)) ∧ i ≤ xs.length ∧ Same H2 H') ?_ ?_ ?_ ?_⟩⟩
        · exact ⟨upd_same, Nat.zero_le _, sN hD⟩
        · rintro i H3 hi ⟨_, _, s3⟩
          exact ⟨SqT.of (s3 _ _ (s2 _ _ h1)), SqT.of (s3 _ _ (s2 _ _ h2))⟩
        · rintro i v H3 H4 hi ⟨eD, _, s3⟩ ⟨T, x, y, rfl, hT, rfl, hx, hy⟩
          have s4 := sN (o := .tup [x, y]) hT
          refine ⟨T, _, rfl, SqT.of upd_same, rfl, _, _, rfl, _, _, rfl, rfl, rfl, ?_⟩
          refine ⟨_, rfl, _, rfl, x, y, rfl, (hk i x y hx hy).same (sT s2 (sT s3 s4)), fun H5 s5 => ⟨_, s5 _ _ (s4 _ _ eD), ?_, ?_, hi, ?_⟩⟩
          · rw [List.length_map, List.length_replicate]
            exact Nat.lt_of_lt_of_le (show i < 1001 by omega) (by decide)
          · rw [upd_same, List.replicate_succ', List.map_append]
            rfl
          · exact sNew (sT s3 (sT s4 s5)) hD
        · rintro H3 ⟨eD, _, s3⟩
          refine ⟨D, List.replicate xs.length true, rfl, SqL.of eD, ?_⟩
          have e : (List.replicate xs.length true).all id = true := by
            rw [List.all_eq_true]
            intro x hx
            rw [(List.mem_replicate.mp hx).2]
            rfl
          rw [e]
          exact k _ (sT s2 s3)
end
end Q

namespace Q
open PySem L2 QM
abbrev sOff : Stmt := top 85
/-! ### waves by turns over all ties: the mathematics -/
structure OffI (G : Nat → Nat → Prop) (s M t : Nat) (Pr : Nat → Nat → Prop) (f : Nat → Int) : Prop where
  sound : ∀ v, v < M → f v = -1 ∨ ∃ d : Nat, f v = (d : Int) ∧ Dist G s v d ∧ d ≤ t + 1
  full : ∀ v d, v < M → Dist G s v d → d ≤ t → f v = (d : Int)
  done : ∀ u v, Pr u v → v < M → Dist G s u t → G u v → f v ≠ -1
def putN (f : Nat → Int) (v : Nat) (x : Int) : Nat → Int := fun i => if i = v then x else f i
theorem OffI.start {G : Nat → Nat → Prop} {s M : Nat} : OffI G s M 0 (fun _ _ => False) (putN (fun _ => -1) s 0) := by
  refine ⟨fun v hv => ?_, fun v d hv h hd => ?_, fun u v h => h.elim⟩
  · by_cases c : v = s
    · rw [c]
      exact .inr ⟨0, if_pos rfl, Dist.zero, by omega⟩
    · exact .inl (if_neg c)
  · obtain rfl : d = 0 := by omega
    obtain rfl := h.of_zero
    exact if_pos rfl
theorem OffI.relax {G : Nat → Nat → Prop} {s M t : Nat} {Pr : Nat → Nat → Prop} {f : Nat → Int} (I : OffI G s M t Pr f) {u v : Nat} (hu : u < M) (hv : v < M) (e : f u = (t : Int)) (n : f v < 0) (g : G u v) :
    OffI G s M t (fun a b => Pr a b ∨ (a = u ∧ b = v)) (putN f v ((t : Int) + 1)) := by
  have du : Dist G s u t := by
    rcases I.sound u hu with h | ⟨d, h, q, _⟩
    · omega
    · have : d = t := by omega
      rw [← this]
      exact q
  have no : ∀ d, d ≤ t → ¬ Dist G s v d := fun d hd q => by
    have := I.full v d hv q hd
    omega
  have dv := Dist.next no du g
  refine ⟨fun w hw => ?_, fun w d hw h hd => ?_, fun a b h hb ha gab => ?_⟩
  · by_cases c : w = v
    · rw [c]
      exact .inr ⟨t + 1, by show (if v = v then _ else _) = _; rw [if_pos rfl]; omega, dv, Nat.le_refl _⟩
    · rw [show putN f v ((t : Int) + 1) w = f w from if_neg c]
      exact I.sound w hw
  · by_cases c : w = v
    · rw [c] at h
      exact absurd h (no d hd)
    · rw [show putN f v ((t : Int) + 1) w = f w from if_neg c]
      exact I.full w d hw h hd
  · by_cases c : b = v
    · rw [c, show putN f v ((t : Int) + 1) v = (t : Int) + 1 from if_pos rfl]
      omega
    · rw [show putN f v ((t : Int) + 1) b = f b from if_neg c]
      rcases h with h | h
      · exact I.done a b h hb ha gab
      · exact absurd h.2 c
theorem OffI.skip {G : Nat → Nat → Prop} {s M t : Nat} {Pr : Nat → Nat → Prop} {f : Nat → Int} (I : OffI G s M t Pr f) {u v : Nat} (hu : u < M) (hv : v < M) (h : ¬ (f u = (t : Int) ∧ f v < 0 ∧ G u v)) :
    OffI G s M t (fun a b => Pr a b ∨ (a = u ∧ b = v)) f := by
  refine ⟨I.sound, I.full, fun a b hab hb ha gab => ?_⟩
  rcases hab with z | ⟨rfl, rfl⟩
  · exact I.done a b z hb ha gab
  · intro z
    exact h ⟨I.full a t hu ha (Nat.le_refl _), by omega, gab⟩
theorem OffI.turn {G : Nat → Nat → Prop} {s M t : Nat} {Pr : Nat → Nat → Prop} {f : Nat → Int} (I : OffI G s M t Pr f) (all : ∀ u v, G u v → Pr u v) : OffI G s M (t + 1) (fun _ _ => False) f := by
  refine ⟨fun v hv => ?_, fun v d hv h hd => ?_, fun u v h => h.elim⟩
  · rcases I.sound v hv with h | ⟨d, h, q, l⟩
    · exact .inl h
    · exact .inr ⟨d, h, q, by omega⟩
  · by_cases c : d ≤ t
    · exact I.full v d hv h c
    · obtain rfl : d = t + 1 := by omega
      obtain ⟨u, du, g⟩ := h.pred
      have ne := I.done u v (all u v g) hv du g
      rcases I.sound v hv with z | ⟨d', e, q, _⟩
      · exact absurd z ne
      · rw [e, h.uniq q]
theorem OffI.mono {G : Nat → Nat → Prop} {s M t : Nat} {Pr Pr' : Nat → Nat → Prop} {f : Nat → Int} (I : OffI G s M t Pr f) (h : ∀ u v, Pr' u v → Pr u v) : OffI G s M t Pr' f :=
  ⟨I.sound, I.full, fun u v a => I.done u v (h u v a)⟩
/-- what the waves came to -/
def OffOk (G : Nat → Nat → Prop) (s M : Nat) (f : Nat → Int) : Prop := ∀ v, v < M → (f v = -1 ∧ ∀ d, ¬ Dist G s v d) ∨ ∃ d : Nat, f v = (d : Int) ∧ Dist G s v d ∧ d < M
theorem OffI.end_ {G : Nat → Nat → Prop} {s M : Nat} {f : Nat → Int} (I : OffI G s M M (fun _ _ => False) f) (hs : s < M) (hG : ∀ a b, G a b → b < M) : OffOk G s M f := fun v hv => by
  rcases I.sound v hv with h | ⟨d, e, q, _⟩
  · refine .inl ⟨h, fun d q => ?_⟩
    have l := q.lt hs hG
    have := I.full v d hv q (Nat.le_of_lt l)
    omega
  · exact .inr ⟨d, e, q, q.lt hs hG⟩
/-- a list of numbers, told by a function -/
def flN (M : Nat) (f : Nat → Int) : List V := (List.range M).map fun i => V.int (f i)
theorem flN_len (M : Nat) (f : Nat → Int) : (flN M f).length = M := by
  unfold flN
  rw [List.length_map, List.length_range]
theorem flN_at {M i : Nat} (f : Nat → Int) (h : i < M) : (flN M f)[i]? = some (V.int (f i)) := by
  unfold flN
  rw [List.getElem?_map, List.getElem?_range h]
  rfl
theorem flN_ix {M i : Nat} (f : Nat → Int) (h : i < M) : atI (flN M f) (i : Int) = some (V.int (f i)) := atI_nat (flN_at f h)
theorem ixN_of {n i : Nat} (h : i < n) : ixN n (i : Int) = some i := by
  unfold ixN
  rw [if_pos (by omega), if_pos (by omega), Int.toNat_natCast]
theorem flN_set {M : Nat} (f : Nat → Int) {v : Nat} (x : Int) : (flN M f).set v (V.int x) = flN M (putN f v x) := by
  apply List.ext_getElem?
  intro i
  rw [List.getElem?_set]
  by_cases c : v = i
  · rw [if_pos c, flN_len]
    subst c
    by_cases h : v < M
    · rw [if_pos h, flN_at _ h, show putN f v x v = x from if_pos rfl]
    · rw [if_neg h, List.getElem?_eq_none (by rw [flN_len]; omega)]
  · rw [if_neg c]
    by_cases h : i < M
    · rw [flN_at _ h, flN_at _ h, show putN f v x i = f i from if_neg fun z => c z.symm]
    · rw [List.getElem?_eq_none (by rw [flN_len]; omega), List.getElem?_eq_none (by rw [flN_len]; omega)]
theorem flN_rep (M : Nat) (x : Int) : (List.replicate M [V.int x]).flatten = flN M (fun _ => x) := by
  induction M with
  | zero => rfl
  | succ n ih =>
    have e : flN (n + 1) (fun _ => x) = flN n (fun _ => x) ++ [V.int x] := by
      unfold flN
      rw [List.range_succ, List.map_append]
      rfl
    rw [List.replicate_succ', List.flatten_append, ih, e]
    rfl
theorem inV_int (x : Int) (ls : List Int) : inV (V.int x) (ls.map V.int) = decide (x ∈ ls) := by
  unfold inV
  rw [Bool.eq_iff_iff, List.any_eq_true, decide_eq_true_iff]
  constructor
  · rintro ⟨y, hy, e⟩
    obtain ⟨z, hz, rfl⟩ := List.mem_map.mp hy
    have e' : (z == x) = true := e
    rw [← eq_of_beq e']
    exact hz
  · intro h
    exact ⟨V.int x, List.mem_map.mpr ⟨x, h, rfl⟩, by show (x == x) = true; exact beq_self_eq_true x⟩
theorem flat_int (ls : List Int) : (ls.map V.int).all flatV = true := by
  rw [List.all_map, List.all_eq_true]
  intro x _
  rfl
/-- ties on, to houses that are left -/
def GLl (L : List (Addr × List Int)) (ls : List Int) (u v : Nat) : Prop := GL L u v ∧ (v : Int) ∈ ls
def spOff (K : PySem.W.Frag) : Sp := fun vs H Q _ => ∃ (W q lf : Addr) (M s : Nat) (L : List (Addr × List Int)) (ls : List Int), vs = [.ref W, .int (s : Int), .ref lf] ∧ LWeb H W q (M : Int) L ∧ SqL K H lf (ls.map V.int) ∧ s < M ∧ M ≤ 40 ∧
  ∀ (p : Addr) (f : Nat → Int) (H' : Hp), Same H H' → H p = none → H' p = some (.lst (flN M f)) → OffOk (GLl L ls) s M f → Q (.ref p) H'
section
variable {P : Program} {w : World} {K : PySem.W.Frag} {mg : Str → Option Value} {base : Heap}
theorem scOff : FnScope ["web", "house", "left", "found", "turn", "a", "b", "one", "other"] ["web", "house", "left"] (defScope sOff) := ⟨rfl, rfl, rfl, by decide +kernel, rfl, by decide +kernel, by decide +kernel⟩
theorem ok_off {f : Addr} {fd : FuncData} (F : Fun K "_law_off" "_law_off" sOff f fd) (B : Bts mg) : FnOk P w K mg base CX0 1 f fd ["web", "house", "left"] (spOff K) := by
  refine F.ok scOff (fun vs H Q E h => ?_) (fun cdv A outer s H vs Q E hr h => ?_)
  · obtain ⟨W, q, lf, M, s, L, ls, rfl, _⟩ := h
    rfl
  · obtain ⟨W, q, lf, M, s0, L, ls, rfl, ⟨hW, tt⟩, hlf, sM, m40, k⟩ := h
    have nd := scOff.nd
    have rs : Same H H := fun _ _ e => e
    refine ⟨_, pss_cons (ps_set (i := 3) nd rfl (.inl rfl) (pe_op op_rep (pe_lst (pa_cons (pe_un un_neg pe_int) pa_nil)) (pe_ix ix_tup (pv 0) pe_int (fun _ _ => rfl))))
      (pss_cons (ps_asg pe_int (pg_sub (pv 3) (pv 1) set_list))
      (pss_cons (ps_for PassesOwn.never rfl (pi_range1 rfl B.range (pa_cons (pe_ix ix_tup (pv 0) pe_int (fun _ _ => rfl)) pa_nil)) (pg_name (i := 4) nd rfl (.inl rfl))
        (pss_one (ps_for PassesOwn.never rfl (pi_tup (pe_ix ix_tup (pv 0) pe_int (fun _ _ => rfl))) (pg_tup rfl (pgs_cons (pg_name (i := 5) nd rfl (.inl rfl)) (pgs_cons (pg_name (i := 6) nd rfl (.inl rfl)) pgs_nil)))
          (pss_one (ps_for PassesOwn.never rfl (pi_list (pe_lst (pa_cons (pe_tup (pa_cons (pv 5) (pa_cons (pv 6) pa_nil))) (pa_cons (pe_tup (pa_cons (pv 6) (pa_cons (pv 5) pa_nil))) pa_nil)))) (pg_tup rfl (pgs_cons (pg_name (i := 7) nd rfl (.inl rfl)) (pgs_cons (pg_name (i := 8) nd rfl (.inl rfl)) pgs_nil)))
            (pss_one (ps_if (PW.pt (pw_and (pt_cmpR op_eq (pe_ix ix_list (pv 3) (pv 7) (fun _ _ => rfl)) (pv 4) (nomark _)) (pw_and (pt_cmpR op_lt (pe_ix ix_list (pv 3) (pv 8) (fun _ _ => rfl)) pe_int (nomark _)) (pw_and1 (pt_cmpR op_in_seq (pv 8) (pv 2) rfl)))))
              (pss_one (ps_asg (pe_op op_add (pv 4) pe_int) (pg_sub (pv 3) (pv 8) set_list))) pss_nil)))))))
      (pss_one (ps_ret (pv 3))))), ?_⟩
    have eM : ((M : Int)).toNat = M := Int.toNat_natCast M
    have w0 : ∀ {H' : Hp}, Same H H' → SqT K H' W [V.int (M : Int), V.ref q] := fun s => SqT.of (s _ _ hW)
    have hlf' : ∀ {H' : Hp}, Same H H' → SqL K H' lf (ls.map V.int) := fun s => by
      rcases hlf with (e | ⟨ob, e⟩) | k
      · exact .inl (.inl (s _ _ e))
      · exact .inl (.inr ⟨ob, s _ _ e⟩)
      · exact .inr k
    refine ⟨_, rfl, (by show 1 ≤ sizeLine; decide), fun l0 hl0 => ?_⟩
    have s0' := sN (o := .lst [.int (-1)]) hl0
    refine ⟨_, rfl, W, _, 0, _, rfl, rfl, w0 s0', rfl, l0, (M : Int), _, rfl, rfl, upd_same, by omega, by omega, ?_, fun D hD => ?_⟩
    · rw [eM]
      exact Nat.le_trans (show 1 * M ≤ 40 by omega) (by decide)
    have hD0 : H D = none := by
      cases z : H D with
      | none => rfl
      | some o => rw [s0' _ _ z] at hD; cases hD
    rw [eM]
    show gName 3 (V.ref D) _ (upd (upd H l0 (.lst [V.int (-1)])) D (.lst (List.replicate M [V.int (-1)]).flatten)) _
    rw [flN_rep]
    refine ⟨_, rfl, _, rfl, D, _, (s0 : Int), s0, rfl, rfl, upd_same, by rw [flN_len]; exact ixN_of sM, ?_⟩
    rw [flN_set, upd_upd]
    have s1 : Same H (upd (upd H l0 (.lst [V.int (-1)])) D (.lst (flN M (putN (fun _ => -1) s0 0)))) := sNew s0' hD0
    have eD1 : (upd (upd H l0 (.lst [V.int (-1)])) D (.lst (flN M (putN (fun _ => -1) s0 0)))) D = some (.lst (flN M (putN (fun _ => -1) s0 0))) := upd_same
    revert s1 eD1
    generalize upd (upd H l0 (.lst [V.int (-1)])) D (.lst (flN M (putN (fun _ => -1) s0 0))) = H1
    intro s1 eD1
    refine ⟨_, rfl, W, _, 0, _, rfl, rfl, w0 s1, rfl, (M : Int), rfl, by omega, by omega, for_range (lo := 0) (n := (M : Int).toNat) (fun t σ H' => ∃ (x4 x5 x6 x7 x8 : Option V) (g : Nat → Int), σ = [some (.ref W), some (.int (s0 : Int)), some (.ref lf), some (.ref D), x4, x5, x6, x7, x8] ∧ H' D = some (.lst (flN M g)) ∧ OffI (GLl L ls) s0 M t (fun _ _ => False) g ∧ Same H H') ?_ ?_ ?_⟩
    · exact ⟨none, none, none, none, none, _, rfl, eD1, .start, s1⟩
    · rintro t σ H2 hi ⟨x4, x5, x6, x7, x8, g, rfl, eD2, I, s2⟩
      rw [Int.zero_add]
      refine ⟨_, rfl, W, _, 1, _, rfl, rfl, w0 s2, rfl, q, rfl, ⟨_, SqT.of (s2 _ _ tt.at_)⟩, for_tup (K := K) (a := q) (xs := L.map fun p => V.ref p.1) (fun k σ H' => ∃ (x5 x6 x7 x8 : Option V) (g : Nat → Int), σ = [some (.ref W), some (.int (s0 : Int)), some (.ref lf), some (.ref D), some (.int (t : Int)), x5, x6, x7, x8] ∧ H' D = some (.lst (flN M g)) ∧ OffI (GLl L ls) s0 M t (fun u v => GL (L.take k) u v) g ∧ Same H H') ?_ ?_ ?_ ?_⟩
      · exact ⟨x5, x6, x7, x8, g, rfl, eD2, I.mono fun u v ⟨p, hp, _⟩ => absurd hp (by simp), s2⟩
      · rintro k σ H3 hk ⟨_, _, _, _, _, _, _, _, s3⟩
        exact SqT.of (s3 _ _ tt.at_)
      · rintro k v σ H3 hv ⟨y5, y6, y7, y8, g, rfl, eD3, I, s3⟩
        obtain ⟨p, hp, rfl⟩ := map_inv hv
        obtain ⟨a, b, e2, a0, ab, bm⟩ := tt.ok p (List.mem_of_getElem? hp)
        obtain ⟨a', rfl⟩ : ∃ a' : Nat, a = (a' : Int) := ⟨a.toNat, by omega⟩
        obtain ⟨b', rfl⟩ : ∃ b' : Nat, b = (b' : Int) := ⟨b.toNat, by omega⟩
        have ht := s3 _ _ (tt.tup p (List.mem_of_getElem? hp))
        rw [e2] at ht
        have aM : a' < M := by omega
        have bM : b' < M := by omega
        have gab : GL L a' b' := ⟨p, List.mem_of_getElem? hp, .inl e2⟩
        have gba : GL L b' a' := ⟨p, List.mem_of_getElem? hp, .inr e2⟩
        refine ⟨p.1, _, rfl, SqT.of ht, rfl, _, _, rfl, _, _, rfl, rfl, ?_⟩
        refine ⟨_, rfl, _, rfl, (by show 2 ≤ sizeLine; decide), fun t1 ht1 => ?_⟩
        have z1 := sN (o := .tup [.int (a' : Int), .int (b' : Int)]) ht1
        refine ⟨_, rfl, _, rfl, (by show 2 ≤ sizeLine; decide), fun t2 ht2 => ?_⟩
        have z2 := sN (o := .tup [.int (b' : Int), .int (a' : Int)]) ht2
        refine ⟨(by show 2 ≤ sizeLine; decide), fun lw hlw => ?_⟩
        have z3 := sN (o := .lst [.ref t1, .ref t2]) hlw
        have et1 := z3 _ _ (z2 _ _ (upd_same (H := H3) (a := t1) (o := .tup [.int (a' : Int), .int (b' : Int)])))
        have et2 := z3 _ _ (upd_same (H := upd H3 t1 (.tup [.int (a' : Int), .int (b' : Int)])) (a := t2) (o := .tup [.int (b' : Int), .int (a' : Int)]))
        have elw : (upd (upd (upd H3 t1 (.tup [.int (a' : Int), .int (b' : Int)])) t2 (.tup [.int (b' : Int), .int (a' : Int)])) lw (.lst [.ref t1, .ref t2])) lw = some (.lst [.ref t1, .ref t2]) := upd_same
        have s4 := sT z1 (sT z2 z3)
        revert et1 et2 elw s4
        generalize (upd (upd (upd H3 t1 (.tup [.int (a' : Int), .int (b' : Int)])) t2 (.tup [.int (b' : Int), .int (a' : Int)])) lw (.lst [.ref t1, .ref t2])) = H4
        intro et1 et2 elw s4
        have nlD : lw ≠ D := fun e => by
          have z := s4 _ _ eD3
          rw [← e, elw] at z
          have z2 := HO.lst.inj (Option.some.inj z)
          unfold flN at z2
          cases M with
          | zero => omega
          | succ M =>
            have z3 : (V.ref t1) = V.int (g 0) := by
              have := congrArg (fun l => l[0]?) z2
              rw [List.getElem?_map, List.getElem?_range (by omega)] at this
              exact Option.some.inj this
            cases z3
        refine ⟨lw, rfl, ⟨_, SqL.of elw⟩, for_list (K := K) (a := lw) (xs := [V.ref t1, V.ref t2]) (fun j σ H' => ∃ (x7 x8 : Option V) (g : Nat → Int), σ = [some (.ref W), some (.int (s0 : Int)), some (.ref lf), some (.ref D), some (.int (t : Int)), some (.int (a' : Int)), some (.int (b' : Int)), x7, x8] ∧ H' D = some (.lst (flN M g)) ∧
            OffI (GLl L ls) s0 M t (fun u v => GL (L.take k) u v ∨ (1 ≤ j ∧ u = a' ∧ v = b') ∨ (2 ≤ j ∧ u = b' ∧ v = a')) g ∧ Same H H' ∧ H' lw = some (.lst [.ref t1, .ref t2]) ∧ H' t1 = some (.tup [.int (a' : Int), .int (b' : Int)]) ∧ H' t2 = some (.tup [.int (b' : Int), .int (a' : Int)])) ?_ ?_ ?_ ?_⟩
        · exact ⟨y7, y8, g, rfl, s4 _ _ eD3, I.mono fun u v h => by
            rcases h with h | h | h
            · exact h
            · omega
            · omega, sT s3 s4, elw, et1, et2⟩
        · rintro j σ H5 hj ⟨_, _, _, _, _, _, _, e5, _⟩
          exact SqL.of e5
        · rintro j v σ H5 hv ⟨x7, x8, g, rfl, eD5, I, s5, e5, f1, f2⟩
          have key : ∃ (u w' : Nat) (tx : Addr), v = .ref tx ∧ H5 tx = some (.tup [.int (u : Int), .int (w' : Int)]) ∧ u < M ∧ w' < M ∧ GL L u w' ∧ ∀ x y, (GL (L.take k) x y ∨ (1 ≤ j + 1 ∧ x = a' ∧ y = b') ∨ (2 ≤ j + 1 ∧ x = b' ∧ y = a')) → (GL (L.take k) x y ∨ (1 ≤ j ∧ x = a' ∧ y = b') ∨ (2 ≤ j ∧ x = b' ∧ y = a')) ∨ (x = u ∧ y = w') := by
            match j, hv with
            | 0, hv =>
              cases hv
              exact ⟨a', b', t1, rfl, f1, aM, bM, gab, fun x y h => by
                rcases h with h | h | h
                · exact .inl (.inl h)
                · exact .inr h.2
                · omega⟩
            | 1, hv =>
              cases hv
              exact ⟨b', a', t2, rfl, f2, bM, aM, gba, fun x y h => by
                rcases h with h | h | h
                · exact .inl (.inl h)
                · exact .inl (.inr (.inl ⟨Nat.le_refl _, h.2⟩))
                · exact .inr h.2⟩
            | j + 2, hv => exact absurd hv (by simp)
          obtain ⟨u, w', tx, rfl, ex, uM, wM, guw, mono⟩ := key
          have skip : ¬ (g u = (t : Int) ∧ g w' < 0 ∧ (w' : Int) ∈ ls) → OffI (GLl L ls) s0 M t (fun u v => GL (L.take k) u v ∨ (1 ≤ j + 1 ∧ u = a' ∧ v = b') ∨ (2 ≤ j + 1 ∧ u = b' ∧ v = a')) g := fun no => (I.skip uM wM fun z => no ⟨z.1, z.2.1, z.2.2.2⟩).mono mono
          refine ⟨tx, _, rfl, SqT.of ex, rfl, _, _, rfl, _, _, rfl, rfl, ?_⟩
          refine ⟨_, rfl, _, rfl, D, _, (u : Int), _, rfl, rfl, SqL.of eD5, flN_ix g uM, _, rfl, rfl, _, rfl, ?_⟩
          rw [dec_i]
          refine ite2 (fun c1 => ?_) (fun c1 => ?_)
          · have c1' := of_decide_eq_true c1
            refine ⟨_, rfl, _, rfl, D, _, (w' : Int), _, rfl, rfl, SqL.of eD5, flN_ix g wM, _, _, rfl, rfl, _, rfl, ite2 (fun c2 => ?_) (fun c2 => ?_)⟩
            · have c2' := of_decide_eq_true c2
              refine ⟨_, rfl, _, rfl, lf, _, rfl, .inl (hlf' s5), rfl, flat_int ls, _, rfl, ?_⟩
              rw [if_neg Bool.false_ne_true, inV_int]
              refine ite2 (fun c3 => ?_) (fun c3 => ?_)
              · have c3' := of_decide_eq_true c3
                refine ⟨_, rfl, _, _, rfl, rfl, _, rfl, _, rfl, D, _, (w' : Int), w', rfl, rfl, eD5, by rw [flN_len]; exact ixN_of wM, ?_⟩
                rw [flN_set]
                have ns : ∀ {b : Addr} {ys : List V}, H5 b = some (.tup ys) → b ≠ D := fun e => ne_of e eD5 (fun z => by cases z)
                refine ⟨_, _, _, rfl, upd_same, (I.relax uM wM c1' c2' ⟨guw, c3'⟩).mono mono, sNew s5 hD0, ?_, ?_, ?_⟩
                · rw [upd_ne nlD]
                  exact e5
                · rw [upd_ne (ns f1)]
                  exact f1
                · rw [upd_ne (ns f2)]
                  exact f2
              · exact ⟨_, _, g, rfl, eD5, skip fun z => c3 (decide_eq_true z.2.2), s5, e5, f1, f2⟩
            · exact ⟨_, _, g, rfl, eD5, skip fun z => c2 (decide_eq_true z.2.1), s5, e5, f1, f2⟩
          · exact ⟨_, _, g, rfl, eD5, skip fun z => c1 (decide_eq_true z.1), s5, e5, f1, f2⟩
        · rintro σ H5 ⟨x7, x8, g, rfl, eD5, I, s5, _⟩
          refine ⟨_, _, _, _, g, rfl, eD5, I.mono fun u v ⟨r, hr2, e⟩ => ?_, s5⟩
          rw [List.take_add_one, hp] at hr2
          rcases List.mem_append.mp hr2 with hr2 | hr2
          · exact .inl ⟨r, hr2, e⟩
          · have er : r = p := by simpa using hr2
            rw [er, e2] at e
            simp only [List.cons.injEq, and_true] at e
            rcases e with e | e
            · exact .inr (.inl ⟨by show 1 ≤ 2; decide, by omega, by omega⟩)
            · exact .inr (.inr ⟨by show 2 ≤ 2; decide, by omega, by omega⟩)
      · rintro σ H3 ⟨y5, y6, y7, y8, g, rfl, eD3, I, s3⟩
        rw [List.length_map, List.take_length] at I
        exact ⟨_, _, _, _, _, g, rfl, eD3, I.turn fun u v h => h.1, s3⟩
    · rintro σ H2 ⟨x4, x5, x6, x7, x8, g, rfl, eD2, I, s2⟩
      rw [eM] at I
      refine ⟨_, rfl, k D g H2 s2 hD0 eD2 (I.end_ sM fun a b h => ?_)⟩
      obtain ⟨⟨p, hp, e⟩, _⟩ := h
      obtain ⟨c, d, e2, _, _, _⟩ := tt.ok p hp
      rw [e2] at e
      simp only [List.cons.injEq, and_true] at e
      omega
end
end Q

namespace Q
open PySem L2 QM
abbrev sUp : Stmt := top 51
abbrev sLds : Stmt := top 52
abbrev sLLd : Stmt := top 86
/-! ### parents -/
def oV : Option Nat → V
  | none => .non
  | some u => nI u
def pVs (M : Nat) (par : Nat → Option Nat) : List V := (List.range M).map fun i => oV (par i)
theorem pVs_len (M : Nat) (par : Nat → Option Nat) : (pVs M par).length = M := by
  unfold pVs
  rw [List.length_map, List.length_range]
theorem pVs_get {M i : Nat} (par : Nat → Option Nat) (h : i < M) : (pVs M par)[i]? = some (oV (par i)) := by
  unfold pVs
  rw [List.getElem?_map, List.getElem?_range h]
  rfl
theorem pVs_at {M i : Nat} (par : Nat → Option Nat) (h : i < M) : atI (pVs M par) (i : Int) = some (oV (par i)) := atI_nat (pVs_get par h)
structure ParOk (M : Nat) (par : Nat → Option Nat) (rk : Nat → Nat) : Prop where
  up : ∀ v u, v < M → par v = some u → u < M ∧ rk u < rk v
  rkM : ∀ v, v < M → rk v < M
inductive Root (par : Nat → Option Nat) : Nat → Nat → Prop
  | here {v : Nat} : par v = none → Root par v v
  | up {v u r : Nat} : par v = some u → Root par u r → Root par v r
theorem Root.uniq {par : Nat → Option Nat} {v r s : Nat} (h : Root par v r) (g : Root par v s) : r = s := by
  induction h with
  | here e =>
    cases g with
    | here _ => rfl
    | up e' _ => rw [e] at e'; cases e'
  | up e _ ih =>
    cases g with
    | here e' => rw [e] at e'; cases e'
    | up e' g' =>
      rw [e] at e'
      cases e'
      exact ih g'
theorem Root.top {par : Nat → Option Nat} {v r : Nat} (h : Root par v r) : par r = none := by
  induction h with
  | here e => exact e
  | up _ _ ih => exact ih
def ldr (par : Nat → Option Nat) : Nat → Nat → Nat
  | 0, v => v
  | n + 1, v => match par v with
    | none => v
    | some u => ldr par n u
theorem ldr_root {M : Nat} {par : Nat → Option Nat} {rk : Nat → Nat} (P : ParOk M par rk) : ∀ n v, v < M → rk v < n → Root par v (ldr par n v) ∧ ldr par n v < M
  | 0, v, _, h => absurd h (Nat.not_lt_zero _)
  | n + 1, v, hv, h => by
    cases e : par v with
    | none =>
      have z : ldr par (n + 1) v = v := by
        show (match par v with | none => v | some u => ldr par n u) = v
        rw [e]
      rw [z]
      exact ⟨.here e, hv⟩
    | some u =>
      have z : ldr par (n + 1) v = ldr par n u := by
        show (match par v with | none => v | some u => ldr par n u) = _
        rw [e]
      obtain ⟨u1, u2⟩ := P.up v u hv e
      obtain ⟨i1, i2⟩ := ldr_root P n u u1 (by omega)
      rw [z]
      exact ⟨.up e i1, i2⟩
/-- the leader -/
def LD (par : Nat → Option Nat) (M v : Nat) : Nat := ldr par M v
theorem ParOk.root {M : Nat} {par : Nat → Option Nat} {rk : Nat → Nat} (P : ParOk M par rk) {v : Nat} (h : v < M) : Root par v (LD par M v) := (ldr_root P M v h (P.rkM v h)).1
theorem ParOk.lt {M : Nat} {par : Nat → Option Nat} {rk : Nat → Nat} (P : ParOk M par rk) {v : Nat} (h : v < M) : LD par M v < M := (ldr_root P M v h (P.rkM v h)).2
inductive Way (par : Nat → Option Nat) : Nat → List Nat → Prop
  | one {v : Nat} : par v = none → Way par v [v]
  | cons {v u : Nat} {ws : List Nat} : par v = some u → Way par u ws → Way par v (v :: ws)
theorem Way.last {par : Nat → Option Nat} {v : Nat} {ws : List Nat} (h : Way par v ws) : ∃ pre r, ws = pre ++ [r] ∧ Root par v r := by
  induction h with
  | @one v e => exact ⟨[], v, rfl, .here e⟩
  | @cons v u ws e _ ih =>
    obtain ⟨pre, r, e2, h⟩ := ih
    exact ⟨v :: pre, r, by rw [e2]; rfl, .up e h⟩
def spUp : Sp := fun vs H Q _ => ∃ (pa : Addr) (M v : Nat) (par : Nat → Option Nat) (rk : Nat → Nat), vs = [.ref pa, nI v] ∧ H pa = some (.tup (pVs M par)) ∧ ParOk M par rk ∧ v < M ∧ M ≤ 40 ∧
  ∀ (p : Addr) (ws : List Nat) (H' : Hp), Same H H' → H p = none → H' p = some (.lst (ws.map nI)) → Way par v ws → Q (.ref p) H'
def spLds : Sp := fun vs H Q _ => ∃ (pa : Addr) (M : Nat) (par : Nat → Option Nat) (rk : Nat → Nat), vs = [.ref pa] ∧ H pa = some (.tup (pVs M par)) ∧ ParOk M par rk ∧ M ≤ 40 ∧
  ∀ (p : Addr) (H' : Hp), Same H H' → H' p = some (.tup (flN M fun i => (LD par M i : Int))) → Q (.ref p) H'
def spLLd : Sp := fun vs H Q _ => ∃ (pa : Addr) (M v : Nat) (par : Nat → Option Nat) (rk : Nat → Nat), vs = [.ref pa, nI v] ∧ H pa = some (.tup (pVs M par)) ∧ ParOk M par rk ∧ v < M ∧ M ≤ 40 ∧ Q (nI (LD par M v)) H
section
variable {P : Program} {w : World} {K : PySem.W.Frag} {mg : Str → Option Value} {base : Heap}
theorem scUp : FnScope ["parents", "house", "way"] ["parents", "house"] (defScope sUp) := ⟨rfl, rfl, rfl, by decide +kernel, rfl, by decide +kernel, by decide +kernel⟩
theorem ok_up {f : Addr} {fd : FuncData} (F : Fun K "way_up" "way_up" sUp f fd) (B : Bts mg) : FnOk P w K mg base CX0 1 f fd ["parents", "house"] spUp := by
  refine F.ok scUp (fun vs H Q E h => ?_) (fun cdv A outer s H vs Q E hr h => ?_)
  · obtain ⟨pa, M, v, par, rk, rfl, _⟩ := h
    rfl
  · obtain ⟨pa, M, v, par, rk, rfl, hp, po, hv, m40, k⟩ := h
    have nd := scUp.nd
    refine ⟨_, pss_cons (ps_set (i := 2) nd rfl (.inl rfl) (pe_lst (pa_cons (pv 1) pa_nil)))
      (pss_cons (ps_while PassesOwn.never (PW.pt (pw_and (pt_cmp (pc_notN (pe_ix ix_tup (pv 0) (pe_ix ix_list (pv 2) (pe_un un_neg pe_int) (fun _ _ => rfl)) (fun _ _ => rfl))))
          (pw_and1 (pt_cmpR op_le (pe_callB call_len_seq (by rfl) B.len PySem.boot_len (pa_cons (pv 2) pa_nil)) (pe_callB call_len_seq (by rfl) B.len PySem.boot_len (pa_cons (pv 0) pa_nil)) (nomark _)))))
        (pss_one (ps_expr (pe_bm PySem.F.plainAttrs_list PySem.F.slot_list_append PySem.F.type_list_append mt_append (pv 2) (pa_cons (pe_ix ix_tup (pv 0) (pe_ix ix_list (pv 2) (pe_un un_neg pe_int) (fun _ _ => rfl)) (fun _ _ => rfl)) pa_nil)))))
      (pss_one (ps_ret (pv 2)))), ?_⟩
    refine ⟨_, rfl, (by show 1 ≤ sizeLine; decide), fun D hD => ?_⟩
    refine ⟨fun n σ H' => ∃ (pre : List Nat) (x : Nat), σ = [some (.ref pa), some (nI v), some (.ref D)] ∧ H' D = some (.lst ((pre ++ [x]).map nI)) ∧ x < M ∧ (∀ ws, Way par x ws → Way par v (pre ++ ws)) ∧ pre.length + rk x + 1 ≤ M ∧ n = rk x ∧ Same H H', ⟨rk v, [], v, rfl, upd_same, hv, fun ws h => h, by have := po.rkM v hv; show 0 + rk v + 1 ≤ M; omega, rfl, sN hD⟩, ?_⟩
    rintro n σ H1 ⟨pre, x, rfl, eD, hx, hw, hl, rfl, s1⟩
    have ex : atI ((pre ++ [x]).map nI) (-1) = some (nI x) := by
      rw [List.map_append]
      exact atI_last _ _
    refine ⟨_, rfl, _, rfl, _, rfl, D, _, -1, _, rfl, rfl, SqL.of eD, ex, pa, _, (x : Int), _, rfl, rfl, SqT.of (s1 _ _ hp), pVs_at par hx, _, rfl, ?_⟩
    cases e : par x with
    | none =>
      refine ite2 (fun c => absurd c (by simp [oV])) (fun _ => ?_)
      refine iteF ⟨_, rfl, k D _ H1 s1 hD eD (hw _ (.one e))⟩
    | some u =>
      obtain ⟨u1, u2⟩ := po.up x u hx e
      refine ite2 (fun _ => ?_) (fun c => absurd (by simp [oV, nI]) c)
      refine ⟨_, rfl, D, _, rfl, .inl (SqL.of eD), _, rfl, pa, _, rfl, .inr (SqT.of (s1 _ _ hp)), _, _, rfl, rfl, _, rfl, ?_⟩
      have le : (((pre ++ [x]).map nI).length : Int) ≤ ((pVs M par).length : Int) := by
        rw [List.length_map, List.length_append, pVs_len]
        show ((pre.length + 1 : Nat) : Int) ≤ _
        omega
      rw [decide_eq_true le]
      refine iteT ⟨_, fun σ1 H1 h => ⟨rk u, u2, h⟩, ?_⟩
      refine ⟨_, rfl, .inl ⟨rfl, _, SqL.of eD⟩, _, rfl, _, rfl, _, rfl, D, _, -1, _, rfl, rfl, SqL.of eD, ex, pa, _, (x : Int), _, rfl, rfl, SqT.of (s1 _ _ hp), pVs_at par hx, D, _, _, rfl, rfl, eD, ?_, ?_⟩
      · rw [List.length_map, List.length_append]
        exact Nat.lt_of_lt_of_le (show pre.length + 1 < 64 by omega) (by decide)
      · refine ⟨pre ++ [x], u, rfl, ?_, u1, fun ws h => ?_, ?_, rfl, sNew s1 hD⟩
        · rw [upd_same, e, List.map_append (l₁ := pre ++ [x])]
          rfl
        · rw [List.append_assoc]
          exact hw _ (.cons e h)
        · rw [List.length_append]
          show pre.length + 1 + rk u + 1 ≤ M
          omega
theorem scLds : FnScope ["parents", "house"] ["parents"] (defScope sLds) := ⟨rfl, rfl, rfl, by decide +kernel, rfl, by decide +kernel, by decide +kernel⟩
theorem ok_lds {f fU : Addr} {fd dU : FuncData} (F : Fun K "leaders_by" "leaders_by" sLds f fd) (B : Bts mg) (DU : Df K mg "way_up" sUp ["parents", "house"] fU dU) : FnOk P w K mg base CX0 2 f fd ["parents"] spLds := by
  have GU : FnOk P w K mg base CX0 1 fU dU ["parents", "house"] spUp := ok_up DU.F B
  refine F.ok scLds (fun vs H Q E h => ?_) (fun cdv A outer s H vs Q E hr h => ?_)
  · obtain ⟨pa, M, par, rk, rfl, _⟩ := h
    rfl
  · obtain ⟨pa, M, par, rk, rfl, hp, po, m40, k⟩ := h
    have nd := scLds.nd
    refine ⟨_, pss_one (ps_ret (pe_callTy call_tuple_of (by rfl) B.tuple PyProof.Rows.boot_tuple (pa_cons (pe_lc (own := [("house", 1)]) (g := gName 1) (tt := tYes) rfl nd (pi_range1 rfl B.range (pa_cons (pe_callB call_len_seq (by rfl) B.len PySem.boot_len (pa_cons (pv 0) pa_nil)) pa_nil))
      (blkOk_by (N := ["parents", "house"]) (sc := defScope sLds) (by decide +kernel)) (fun _ _ _ _ _ => pg_name (i := 1) nd rfl (.inl rfl)) (fun _ _ _ _ _ => pts_nil)
      (fun _ _ _ _ _ => pe_ix (r := rIxL K) ix_list (pe_call GU hr rfl DU.m DU.k DU.b .nil pass0 (pa_cons (pv 0) (pa_cons (pv 1) pa_nil))) (pe_un un_neg pe_int) (fun _ _ => rfl))) pa_nil))), ?_⟩
    refine ⟨_, rfl, pa, _, rfl, .inr (SqT.of hp), ?_⟩
    rw [pVs_len]
    refine ⟨(M : Int), rfl, by omega, by omega, fun D hD => lc_range (lo := 0) (n := (M : Int).toNat) (fun i H' => H' D = some (.lst (flN i fun i => (LD par M i : Int))) ∧ Same H H') ?_ ?_ ?_⟩
    · exact ⟨upd_same, sN hD⟩
    · rintro i H1 hi ⟨eD, s1⟩
      rw [Int.toNat_natCast] at hi
      rw [Int.zero_add]
      refine ⟨rfl, ?_⟩
      refine ⟨_, rfl, _, rfl, pa, M, i, par, rk, rfl, s1 _ _ hp, po, hi, m40, fun p ws H2 s2 hp2 ep wy => ?_⟩
      obtain ⟨pre, r, rfl, rt⟩ := wy.last
      obtain rfl := rt.uniq (po.root hi)
      have el : atI ((pre ++ [LD par M i]).map nI) (-1) = some (nI (LD par M i)) := by
        rw [List.map_append]
        exact atI_last _ _
      refine ⟨_, rfl, p, _, -1, _, rfl, rfl, SqL.of ep, el, _, s2 _ _ eD, ?_, ?_, sNew (sT s1 s2) hD⟩
      · rw [flN_len]
        exact Nat.lt_of_lt_of_le (show i < 64 by omega) (by decide)
      · rw [upd_same]
        unfold flN
        rw [List.range_succ, List.map_append]
        rfl
    · rintro H1 ⟨eD, s1⟩
      rw [Int.toNat_natCast] at eD
      exact ⟨D, _, rfl, .inl ⟨SqL.of eD, fun t ht => k t _ (sT s1 (sN ht)) upd_same⟩⟩
theorem scLLd : FnScope ["parents", "house", "here", "turn"] ["parents", "house"] (defScope sLLd) := ⟨rfl, rfl, rfl, by decide +kernel, rfl, by decide +kernel, by decide +kernel⟩
theorem ok_lld {f : Addr} {fd : FuncData} (F : Fun K "_law_leader" "_law_leader" sLLd f fd) (B : Bts mg) : FnOk P w K mg base CX0 1 f fd ["parents", "house"] spLLd := by
  refine F.ok scLLd (fun vs H Q E h => ?_) (fun cdv A outer s H vs Q E hr h => ?_)
  · obtain ⟨pa, M, v, par, rk, rfl, _⟩ := h
    rfl
  · obtain ⟨pa, M, v, par, rk, rfl, hp, po, hv, m40, k⟩ := h
    have nd := scLLd.nd
    refine ⟨_, pss_cons (ps_set (i := 2) nd rfl (.inl rfl) (pv 1))
      (pss_cons (ps_for PassesOwn.never rfl (pi_range1 rfl B.range (pa_cons (pe_op op_add (pe_callB call_len_seq (by rfl) B.len PySem.boot_len (pa_cons (pv 0) pa_nil)) pe_int) pa_nil)) (pg_name (i := 3) nd rfl (.inl rfl))
        (pss_cons (ps_if (pt_cmp (pc_isN (pe_ix ix_tup (pv 0) (pv 2) (fun _ _ => rfl)))) (pss_one (ps_ret (pv 2))) pss_nil)
        (pss_one (ps_set (i := 2) nd rfl (.inl rfl) (pe_ix ix_tup (pv 0) (pv 2) (fun _ _ => rfl))))))
      (pss_one (ps_ret pe_non))), ?_⟩
    refine ⟨_, rfl, _, rfl, pa, _, rfl, .inr (SqT.of hp), _, _, rfl, rfl, ?_⟩
    rw [pVs_len]
    refine ⟨(M : Int) + 1, rfl, by omega, by omega, for_range (lo := 0) (n := ((M : Int) + 1).toNat) (fun i σ H' => H' = H ∧ ∃ (x : Nat) (x3 : Option V), σ = [some (.ref pa), some (nI v), some (nI x), x3] ∧ x < M ∧ i + rk x + 1 ≤ M ∧ ∀ r, Root par x r → Root par v r) ?_ ?_ ?_⟩
    · exact ⟨rfl, v, none, rfl, hv, by have := po.rkM v hv; omega, fun r h => h⟩
    · rintro i σ H1 hi ⟨rfl, x, x3, rfl, hx, hl, hr2⟩
      refine ⟨_, rfl, _, rfl, pa, _, (x : Int), _, rfl, rfl, SqT.of hp, pVs_at par hx, _, rfl, ?_⟩
      cases e : par x with
      | none =>
        refine ite2 (fun _ => ?_) (fun c => absurd (by simp [oV]) c)
        obtain rfl := (hr2 x (.here e)).uniq (po.root hv)
        exact ⟨_, rfl, k⟩
      | some u =>
        obtain ⟨u1, u2⟩ := po.up x u hx e
        refine ite2 (fun c => absurd c (by simp [oV, nI])) (fun _ => ?_)
        refine ⟨_, rfl, _, rfl, pa, _, (x : Int), _, rfl, rfl, SqT.of hp, pVs_at par hx, ?_⟩
        rw [e]
        exact ⟨rfl, u, _, rfl, u1, by omega, fun r h => hr2 r (.up e h)⟩
    · rintro σ H1 ⟨rfl, x, x3, rfl, hx, hl, hr2⟩
      omega
end
end Q

namespace Q
open PySem L2 QM
abbrev sNbr : Stmt := top 20
abbrev sIsNb : Stmt := top 49
abbrev sCross : Stmt := top 54
abbrev sAreP : Stmt := top 50
abbrev sLNum : Stmt := top 82
abbrev sLAreP : Stmt := top 9999
def spNbr (C : Addr) : Sp := fun vs H Q _ => ∃ (w dx q r : Addr) (m : Int) (L : List (Addr × List Int)) (bs : List Addr) (nb : Nat → List Int) (h : Nat), vs = [.ref w, .int (h : Int)] ∧ WebIn C m L H w dx q r bs nb ∧ h < m.toNat ∧ ∀ t, H t = some (.tup ((nb h).map V.int)) → Q (.ref t) H
def spIsNb (C : Addr) : Sp := fun vs H Q _ => ∃ (w dx q r : Addr) (m : Int) (L : List (Addr × List Int)) (bs : List Addr) (nb : Nat → List Int) (h : Nat) (u : Int), vs = [.ref w, .int (h : Int), .int u] ∧ WebIn C m L H w dx q r bs nb ∧ h < m.toNat ∧ 0 ≤ u ∧ u < m ∧ u ∈ nb h ∧ Q (.bl true) H
/-- the pair of two numbers, the lesser one first -/
def cx (x y : Int) : List Int := [if y < x then y else x, if y > x then y else x]
def spCross : Sp := fun vs H Q _ => ∃ (la t : Addr) (M a b : Nat) (g : Nat → Int), vs = [.ref la, .ref t] ∧ H la = some (.tup (flN M g)) ∧ H t = some (.tup [nI a, nI b]) ∧ a < M ∧ b < M ∧ ∀ p, H p = none → Q (.ref p) (upd H p (.tup ((cx (g a) (g b)).map V.int)))
/-- parents along ties -/
structure ParN (M : Nat) (par : Nat → Option Nat) (rk : Nat → Nat) (nb : Nat → List Int) : Prop where
  ok : ParOk M par rk
  nbr : ∀ v u, v < M → par v = some u → (u : Int) ∈ nb v
def spAreP (C : Addr) : Sp := fun vs H Q _ => ∃ (w dx q r : Addr) (M : Nat) (L : List (Addr × List Int)) (bs : List Addr) (nb : Nat → List Int) (pa : Addr) (par : Nat → Option Nat) (rk : Nat → Nat), vs = [.ref w, .ref pa] ∧ WebIn C (M : Int) L H w dx q r bs nb ∧ H pa = some (.tup (pVs M par)) ∧ ParN M par rk nb ∧ M ≤ 40 ∧ ∀ H', Same H H' → Q (.bl true) H'
def spLNum : Sp := fun vs H Q _ => ∃ (i lo hi : Int), vs = [.int i, .int lo, .int hi] ∧ Q (.bl (decide (lo ≤ i) && decide (i ≤ hi))) H
section
variable {P : Program} {w : World} {K : PySem.W.Frag} {mg : Str → Option Value} {base : Heap}
theorem scNbr : FnScope ["web", "house"] ["web", "house"] (defScope sNbr) := ⟨rfl, rfl, rfl, by decide +kernel, rfl, by decide +kernel, by decide +kernel⟩
theorem ok_nbr {f C : Addr} {fd : FuncData} (F : Fun K "neighbours" "neighbours" sNbr f fd) (B : Bts mg) (T : WTxt K mg C) (D : WDefs K mg) : FnOk P w K mg base CX0 3 f fd ["web", "house"] (spNbr C) := by
  have GN : FnOk P w K mg base CX0 2 D.fN D.dN ["limit", "thing"] (spNum K) := ok_num D.DN.F B D.DP
  refine F.ok scNbr (fun vs H Q E h => ?_) (fun cdv A outer s H vs Q E hr h => ?_)
  · obtain ⟨w, dx, q, r, m, L, bs, nb, h, rfl, _⟩ := h
    rfl
  · obtain ⟨w, dx, q, r, m, L, bs, nb, h, rfl, x, lt, k⟩ := h
    refine ⟨_, pss_cons (ps_if (pt_not (pt_val (pe_call GN hr rfl D.DN.m D.DN.k D.DN.b .nil pass0 (pa_cons (pe_fld (pv 0) rfl) (pa_cons (pv 1) pa_nil))))) pss_never pss_nil)
      (pss_one (ps_ret (pe_ix ix_tup (pe_fld (pv 0) rfl) (pv 1) (fun _ _ => rfl)))), ?_⟩
    refine ⟨_, rfl, w, C, dx, _, _, rfl, x.at_, T.cl, T.nM, wf_many _ _ _, _, rfl, m, _, rfl, ?_⟩
    refine .inl ⟨_, rfl, _, rfl, ?_⟩
    have e : (decide (0 ≤ (h : Int)) && decide ((h : Int) < m)) = true := by rw [decide_eq_true (by omega), decide_eq_true (by omega)]; rfl
    rw [e]
    refine iteF ?_
    have ul : h < bs.length := by rw [x.rows.len]; exact lt
    have gu : bs[h]? = some bs[h] := List.getElem?_eq_getElem ul
    exact ⟨_, rfl, w, C, dx, _, _, rfl, x.at_, T.cl, T.nB, wf_beside _ _ _, _, rfl, r, _, (h : Int), _, rfl, rfl, SqT.of x.rows.at_, atI_nat (by rw [List.getElem?_map, gu]; rfl), k _ (x.rows.row _ _ gu)⟩
theorem scIsNb : FnScope ["web", "house", "thing"] ["web", "house", "thing"] (defScope sIsNb) := ⟨rfl, rfl, rfl, by decide +kernel, rfl, by decide +kernel, by decide +kernel⟩
theorem ok_isnb {f C fB : Addr} {fd dB : FuncData} (F : Fun K "is_neighbour" "is_neighbour" sIsNb f fd) (B : Bts mg) (T : WTxt K mg C) (D : WDefs K mg) (DB : Df K mg "neighbours" sNbr ["web", "house"] fB dB) : FnOk P w K mg base CX0 4 f fd ["web", "house", "thing"] (spIsNb C) := by
  have GB : FnOk P w K mg base CX0 3 fB dB ["web", "house"] (spNbr C) := ok_nbr DB.F B T D
  have GN : FnOk P w K mg base CX0 2 D.fN D.dN ["limit", "thing"] (spNum K) := ok_num D.DN.F B D.DP
  refine F.ok scIsNb (fun vs H Q E h => ?_) (fun cdv A outer s H vs Q E hr h => ?_)
  · obtain ⟨w, dx, q, r, m, L, bs, nb, h, u, rfl, _⟩ := h
    rfl
  · obtain ⟨w, dx, q, r, m, L, bs, nb, h, u, rfl, x, lt, u0, um, hu, k⟩ := h
    have hr2 : Room 2 _ := hr.mono (by decide)
    refine ⟨_, pss_one (ps_ret (pe_and (pe_call GN hr2 rfl D.DN.m D.DN.k D.DN.b .nil pass0 (pa_cons (pe_fld (pv 0) rfl) (pa_cons (pv 2) pa_nil)))
      (pe_one (pe_cmpR op_in_seq (pv 2) (pe_call GB hr rfl DB.m DB.k DB.b .nil pass0 (pa_cons (pv 0) (pa_cons (pv 1) pa_nil))) rfl)))), ?_⟩
    refine ⟨_, rfl, w, C, dx, _, _, rfl, x.at_, T.cl, T.nM, wf_many _ _ _, _, rfl, m, _, rfl, .inl ⟨u, rfl, _, rfl, ?_⟩⟩
    rw [decide_eq_true u0, decide_eq_true um]
    refine iteT ⟨_, rfl, _, rfl, _, rfl, w, dx, q, r, m, L, bs, nb, h, rfl, x, lt, fun t ht => ⟨t, _, rfl, .inr (SqT.of ht), rfl, flat_int _, ?_⟩⟩
    rw [if_neg Bool.false_ne_true, inV_int, decide_eq_true hu]
    exact k
theorem scCross : FnScope ["leaders", "tie", "low", "high"] ["leaders", "tie"] (defScope sCross) := ⟨rfl, rfl, rfl, by decide +kernel, rfl, by decide +kernel, by decide +kernel⟩
theorem ok_cross {f : Addr} {fd : FuncData} (F : Fun K "crossed_by" "crossed_by" sCross f fd) (B : Bts mg) : FnOk P w K mg base CX0 1 f fd ["leaders", "tie"] spCross := by
  refine F.ok scCross (fun vs H Q E h => ?_) (fun cdv A outer s H vs Q E hr h => ?_)
  · obtain ⟨la, t, M, a, b, g, rfl, _⟩ := h
    rfl
  · obtain ⟨la, t, M, a, b, g, rfl, hl, ht, ha, hb, k⟩ := h
    have nd := scCross.nd
    refine ⟨_, pss_cons (ps_asg (pv 1) (pg_tup rfl (pgs_cons (pg_name (i := 2) nd rfl (.inl rfl)) (pgs_cons (pg_name (i := 3) nd rfl (.inl rfl)) pgs_nil))))
      (pss_one (ps_ret (pe_tup (pa_cons (pe_callB (call_min2 rfl) (by rfl) B.min PyProof.Rows.boot_min (pa_cons (pe_ix ix_tup (pv 0) (pv 2) (fun _ _ => rfl)) (pa_cons (pe_ix ix_tup (pv 0) (pv 3) (fun _ _ => rfl)) pa_nil)))
        (pa_cons (pe_callB (call_max2 rfl) (by rfl) B.max PyProof.Rows.boot_max (pa_cons (pe_ix ix_tup (pv 0) (pv 2) (fun _ _ => rfl)) (pa_cons (pe_ix ix_tup (pv 0) (pv 3) (fun _ _ => rfl)) pa_nil))) pa_nil))))), ?_⟩
    refine ⟨_, rfl, t, _, rfl, SqT.of ht, rfl, _, _, rfl, _, _, rfl, rfl, ?_⟩
    refine ⟨_, rfl, _, rfl, la, _, (a : Int), _, rfl, rfl, SqT.of hl, flN_ix g ha, _, rfl, _, rfl, la, _, (b : Int), _, rfl, rfl, SqT.of hl, flN_ix g hb, _, _, rfl, ?_⟩
    refine ⟨_, rfl, _, rfl, la, _, (a : Int), _, rfl, rfl, SqT.of hl, flN_ix g ha, _, rfl, _, rfl, la, _, (b : Int), _, rfl, rfl, SqT.of hl, flN_ix g hb, _, _, rfl, ?_⟩
    exact ⟨(by show 2 ≤ sizeLine; decide), fun p hp => k p hp⟩
theorem scLNum : FnScope ["thing", "least", "most"] ["thing", "least", "most"] (defScope sLNum) := ⟨rfl, rfl, rfl, by decide +kernel, rfl, by decide +kernel, by decide +kernel⟩
theorem ok_lnum {f : Addr} {fd : FuncData} (F : Fun K "_law_number" "_law_number" sLNum f fd) (B : Bts mg) : FnOk P w K mg base CX0 1 f fd ["thing", "least", "most"] spLNum := by
  refine F.ok scLNum (fun vs H Q E h => ?_) (fun cdv A outer s H vs Q E hr h => ?_)
  · obtain ⟨i, lo, hi, rfl, _⟩ := h
    rfl
  · obtain ⟨i, lo, hi, rfl, k⟩ := h
    refine ⟨_, pss_one (ps_ret (pe_and (pe_callB call_isi (by rfl) B.isinstance PyProof.Rows.boot_isinstance (pa_cons (pv 0) (pa_cons (pe_bltn (v := .ty "int") rfl B.int PyProof.Rows.boot_int rfl) pa_nil)))
      (pe_and (pe_not (pe_callB call_isi (by rfl) B.isinstance PyProof.Rows.boot_isinstance (pa_cons (pv 0) (pa_cons (pe_bltn (v := .ty "bool") rfl B.bool (by decide +kernel) rfl) pa_nil))))
        (pe_one (pe_chain op_le op_le (pv 1) (pv 0) (pv 2)))))), ?_⟩
    refine ⟨_, rfl, .int i, .ty "int", .type "int", .type "int", true, rfl, .ty _, .base (.int _), kit_ty (by decide +kernel), _, rfl, iteT ?_⟩
    refine ⟨_, rfl, .int i, .ty "bool", .type "int", .type "bool", false, rfl, .ty _, .base (.int _), kit_ty (by decide +kernel), _, rfl, _, rfl, iteT ?_⟩
    refine ⟨_, rfl, _, rfl, _, _, rfl, rfl, _, rfl, ?_⟩
    by_cases c : lo ≤ i
    · rw [decide_eq_true c] at k ⊢
      exact iteT ⟨_, rfl, _, _, rfl, rfl, k⟩
    · rw [decide_eq_false c] at k ⊢
      exact iteF k
end
end Q

namespace Q
open PySem L2 QM
theorem WebIn.same {C : Addr} {m : Int} {L : List (Addr × List Int)} {H H' : Hp} {w dx q r : Addr} {bs : List Addr} {nb : Nat → List Int} (x : WebIn C m L H w dx q r bs nb) (s : Same H H') : WebIn C m L H' w dx q r bs nb := ⟨s _ _ x.at_, x.rows.same s, x.asc, x.nb⟩
section
variable {P : Program} {w : World} {K : PySem.W.Frag} {mg : Str → Option Value} {base : Heap}
theorem scAreP : FnScope ["web", "thing", "house", "parent", "leader"] ["web", "thing"] (defScope sAreP) := ⟨rfl, rfl, rfl, by decide +kernel, rfl, by decide +kernel, by decide +kernel⟩
theorem ok_arep {f C fB fI fU fL : Addr} {fd dB dI dU dL : FuncData} (F : Fun K "are_parents" "are_parents" sAreP f fd) (B : Bts mg) (ha : mg "all" = none) (T : WTxt K mg C) (D : WDefs K mg) (DB : Df K mg "neighbours" sNbr ["web", "house"] fB dB)
    (DI : Df K mg "is_neighbour" sIsNb ["web", "house", "thing"] fI dI) (DU : Df K mg "way_up" sUp ["parents", "house"] fU dU) (DL : Df K mg "leaders_by" sLds ["parents"] fL dL) : FnOk P w K mg base CX0 5 f fd ["web", "thing"] (spAreP C) := by
  have GI : FnOk P w K mg base CX0 4 fI dI ["web", "house", "thing"] (spIsNb C) := ok_isnb DI.F B T D DB
  have GL' : FnOk P w K mg base CX0 2 fL dL ["parents"] spLds := ok_lds DL.F B DU
  refine F.ok scAreP (fun vs H Q E h => ?_) (fun cdv A outer s H vs Q E hr h => ?_)
  · obtain ⟨w, dx, q, r, M, L, bs, nb, pa, par, rk, rfl, _⟩ := h
    rfl
  · obtain ⟨w, dx, q, r, M, L, bs, nb, pa, par, rk, rfl, x, hp, po, m40, k⟩ := h
    have nd := scAreP.nd
    have hr2 : Room 2 _ := hr.mono (by decide)
    refine ⟨_, pss_cons (ps_if (PW.pt (pw_or (pt_not (pt_val (pe_callB call_isi (by rfl) B.isinstance PyProof.Rows.boot_isinstance (pa_cons (pv 1) (pa_cons (pe_bltn (v := .ty "tuple") rfl B.tuple PyProof.Rows.boot_tuple rfl) pa_nil)))))
        (pw_or1 (pt_cmpR op_ne (pe_callB call_len_seq (by rfl) B.len PySem.boot_len (pa_cons (pv 1) pa_nil)) (pe_fld (pv 0) rfl) (nomark _))))) pss_never pss_nil)
      (pss_cons (ps_for PassesOwn.never rfl (pi_enumT rfl B.enumerate (pa_cons (pv 1) pa_nil)) (pg_tup rfl (pgs_cons (pg_name (i := 2) nd rfl (.inl rfl)) (pgs_cons (pg_name (i := 3) nd rfl (.inl rfl)) pgs_nil)))
        (pss_one (ps_if (PW.pt (pw_and (pt_cmp (pc_notN (pv 3))) (pw_and1 (pt_not (pt_val (pe_call GI hr rfl DI.m DI.k DI.b .nil pass0 (pa_cons (pv 0) (pa_cons (pv 2) (pa_cons (pv 3) pa_nil))))))))) pss_never pss_nil)))
      (pss_one (ps_ret (pe_callB (cr_all rfl) (by rfl) ha PyProof.Rows.boot_all (pa_cons (pe_lc (own := [("leader", 4)]) (g := gName 4) (tt := tYes) rfl nd (pi_tup (pe_call GL' hr2 rfl DL.m DL.k DL.b .nil pass0 (pa_cons (pv 1) pa_nil)))
        (blkOk_by (N := ["web", "thing", "house", "parent", "leader"]) (sc := defScope sAreP) (by decide +kernel)) (fun _ _ _ _ _ => pg_name (i := 4) nd rfl (.inl rfl)) (fun _ _ _ _ _ => pts_nil)
        (fun _ _ _ _ _ => pe_cmp (pc_isN (pe_ix (r := rIxT K) ix_tup (pv 1) (pv 4) (fun _ _ => rfl))))) pa_nil))))), ?_⟩
    have rs : Same H H := fun _ _ e => e
    refine ⟨_, rfl, .ref pa, .ty "tuple", .type "tuple", .type "tuple", true, rfl, .ty _, .base (.tup hp), kit_ty (by decide +kernel), _, rfl, iteF ?_⟩
    refine ⟨_, rfl, pa, _, rfl, .inr (SqT.of hp), _, rfl, w, C, dx, _, _, rfl, x.at_, T.cl, T.nM, wf_many _ _ _, rfl, _, rfl, ?_⟩
    rw [pVs_len, decide_eq_true (rfl : V.int (M : Int) = V.int (M : Int))]
    refine iteF ?_
    refine ⟨_, rfl, pa, _, rfl, SqT.of hp, for_enT (a := pa) (xs := pVs M par) (fun i σ H' => ∃ (x2 x3 : Option V), σ = [some (.ref w), some (.ref pa), x2, x3, none] ∧ Same H H') ?_ ?_ ?_ ?_⟩
    · exact ⟨none, none, rfl, rs⟩
    · rintro i σ H1 hi ⟨x2, x3, rfl, s1⟩
      exact SqT.of (s1 _ _ hp)
    · rintro i v T' σ H1 hv ⟨x2, x3, rfl, s1⟩ hT
      have hi : i < M := by
        have z := (List.getElem?_eq_some_iff.mp hv).1
        rw [pVs_len] at z
        exact z
      rw [pVs_get par hi] at hv
      obtain rfl := Option.some.inj hv
      have s2 := sT s1 (sN (o := .tup [.int (i : Nat), oV (par i)]) hT)
      refine ⟨T', _, rfl, SqT.of upd_same, rfl, _, _, rfl, _, _, rfl, rfl, ?_⟩
      refine ⟨_, rfl, _, rfl, ?_⟩
      cases e : par i with
      | none =>
        refine ite2 (fun c => absurd c (by simp [oV])) (fun _ => ?_)
        rw [e] at s2
        exact iteF ⟨_, _, rfl, s2⟩
      | some u =>
        obtain ⟨u1, _⟩ := po.ok.up i u hi e
        refine ite2 (fun _ => ?_) (fun c => absurd (by simp [oV, nI]) c)
        rw [e] at s2
        refine ⟨_, rfl, _, rfl, _, rfl, w, dx, q, r, (M : Int), L, bs, nb, i, (u : Int), rfl, x.same s2, by omega, by omega, by omega, po.nbr i u hi e, _, rfl, ?_⟩
        exact iteF ⟨_, _, rfl, s2⟩
    · rintro σ H1 ⟨x2, x3, rfl, s1⟩
      refine ⟨_, rfl, pa, M, par, rk, rfl, s1 _ _ hp, po.ok, m40, fun la H2 s2 hla => ?_⟩
      refine ⟨la, rfl, ⟨_, SqT.of hla⟩, fun D0 hD0 => lc_tup (K := K) (a := la) (xs := flN M fun i => (LD par M i : Int)) (fun i H' => H' D0 = some (.lst ((List.replicate i true).map V.bl)) ∧ Same H2 H') ?_ ?_ ?_ ?_⟩
      · exact ⟨upd_same, sN hD0⟩
      · rintro i H3 hi ⟨_, s3⟩
        exact SqT.of (s3 _ _ hla)
      · rintro i v H3 hv ⟨eD, s3⟩
        have hi : i < M := by
          have z := (List.getElem?_eq_some_iff.mp hv).1
          rw [flN_len] at z
          exact z
        rw [flN_at _ hi] at hv
        obtain rfl := Option.some.inj hv
        have top := (po.ok.root hi).top
        refine ⟨rfl, _, rfl, _, rfl, pa, _, (LD par M i : Int), _, rfl, rfl, SqT.of (s3 _ _ (s2 _ _ (s1 _ _ hp))), pVs_at par (po.ok.lt hi), ?_⟩
        rw [top]
        refine ⟨_, eD, ?_, ?_, sNew s3 hD0⟩
        · rw [List.length_map, List.length_replicate]
          exact Nat.lt_of_lt_of_le (show i < 64 by omega) (by decide)
        · rw [upd_same, List.replicate_succ', List.map_append]
          rfl
      · rintro H3 ⟨eD, s3⟩
        rw [flN_len] at eD
        refine ⟨D0, List.replicate M true, rfl, SqL.of eD, ?_⟩
        have e : (List.replicate M true).all id = true := by
          rw [List.all_eq_true]
          intro x hx
          rw [(List.mem_replicate.mp hx).2]
          rfl
        rw [e]
        exact k _ (sT s1 (sT s2 s3))
end
end Q

namespace Q
open PySem L2 QM
/-- parents along ties, by the ties themselves -/
def ParG (M : Nat) (par : Nat → Option Nat) (rk : Nat → Nat) (L : List (Addr × List Int)) : Prop := ParOk M par rk ∧ ∀ v u, v < M → par v = some u → GL L v u
def spLAreP : Sp := fun vs H Q _ => ∃ (W q pa : Addr) (M : Nat) (L : List (Addr × List Int)) (par : Nat → Option Nat) (rk : Nat → Nat), vs = [.ref W, .ref pa] ∧ LWeb H W q (M : Int) L ∧ H pa = some (.tup (pVs M par)) ∧ ParG M par rk L ∧ M ≤ 40 ∧ ∀ H', Same H H' → Q (.bl true) H'
section
variable {P : Program} {w : World} {K : PySem.W.Frag} {mg : Str → Option Value} {base : Heap}
end
end Q

/-! list(d.values()), d a dict whose keys are tuples -/
namespace Q
open PySem PySem.Spec PyProof.Rows L2
section
variable {prog : Program} {w : World} {es : Array DictEntry} {ep : Nat} {r d : Addr}
theorem src_vals : PySem.W.KdlSrc prog w "dict_values" r d es.size (fun i v => ∃ hi : i < es.size, v = es[i].val) (fun h => h.IsValuesView r d ∧ h.DictRaw d es ep) where
  type := fun _ hm => hm.1.typeIs
  there := fun _ hm => by
    obtain ⟨⟨o, ho, _⟩, ⟨o2, ho2, _⟩⟩ := hm
    exact ⟨Heap.lt_size ho, Heap.lt_size ho2⟩
  keep := fun _ _ hm hk => by
    obtain ⟨⟨o, ho, x⟩, hm2⟩ := hm
    exact ⟨⟨o, hk r (.inl rfl) o ho, x⟩, hm2.at fun o e => hk d (.inr rfl) o e⟩
  notList := by decide
  notTuple := by decide
  hint := fun _ _ _ _ hm hq => PySem.W.kdl_hint_values hm.1.typeIs hq
  iter := fun _ _ hh hm => by
    have ne : d ≠ _ := fun z => by
      obtain ⟨_, ⟨o2, ho2, _⟩⟩ := hm
      exact absurd (Heap.lt_size ho2) (by rw [z]; exact Nat.lt_irrefl _)
    exact ⟨_, _, (fun _ _ hq => wpAny_pyIter_values_raw hm.1 hm.2 hq), Walks.rawValues hh _ d ne es ep, ⟨⟨_, Heap.get?_push_size _ rfl, rfl, rfl⟩, hm.2.at fun o e => Heap.get?_push_of_some _ e⟩⟩
end
def rValuesT : V → List V → Hp → VK → Prop := fun x xs H Q => ∃ (a : Addr) (kvs : List (List L2.Key × V)), x = .ref a ∧ xs = [] ∧ H a = some (.dT kvs) ∧ ∀ p, H p = none → Q (.ref p) (upd H p (viewO "dict_values" p a))
theorem kt_vals {H : Hp} {kvs : List (List L2.Key × V)} {xs : List (List L2.Key × Addr × Value)} (r : KT H kvs xs) : Vals (kvs.map (·.2)) (xs.map fun x => x.2.2) := by
  induction r with
  | nil => exact .nil
  | cons h t ih => exact .cons h.2.2 ih
section
variable {X : Cx}
theorem mt_valuesT : MtR X "dict.values" rValuesT := by
  intro pins s σ H x xs v us Q I rx rxs h
  obtain ⟨a, kvs, rfl, rfl, ha, q⟩ := h
  cases rx
  cases rxs
  obtain ⟨z, hd, xs', rel, o, es, ep, ho, hx, hdat, _⟩ := dt_of I.hok ha
  have hm : s.heap.DictRaw a es ep := ⟨o, ho, hx, hdat⟩
  have hf : H s.heap.objs.size = none := I.hok.fresh (Nat.le_refl _)
  refine call_meetsIn PySem.F.slot_dict_values hm.typeIs PySem.F.entry_dict_values (PySem.F.args_dict_values_1 _) (meets_dict_values_raw a hd) ⟨⟨es, ep, hm⟩, ?_⟩
  exact ⟨.ref s.heap.objs.size, upd H s.heap.objs.size (viewO "dict_values" s.heap.objs.size a), I.laid (t' := s.toks) (fun b u e => Heap.get?_push_of_some _ e) (Nat.le_refl _) (viewO_ok (Heap.get?_push_size _ rfl)), rfl, q _ hf⟩
theorem call_list_valuesT (hc : X.calm = true) : CallR X (.type "list") (fun xs H Q => ∃ (p d : Addr) (kvs : List (List L2.Key × V)), xs = [V.ref p] ∧ H p = some (viewO "dict_values" p d) ∧ H d = some (.dT kvs) ∧ ∀ l, H l = none → Q (.ref l) (upd H l (.lst (kvs.map (·.2))))) := by
  intro pins s σ H xs us Q I r h
  obtain ⟨p, d, kvs, rfl, hp, hd, q⟩ := h
  obtain ⟨u, rfl, rx⟩ := r.one
  cases rx
  obtain ⟨z, hs, ks, pr, o, es, ep, ho, hx, hdt, he, hn⟩ := (show ObjOk X.prog X.w H s.heap d (.dT kvs) from I.hok d _ hd)
  have hv : s.heap.get? p = some (DSub.viewOb "dict_values" d) := (show ObjOk X.prog X.w H s.heap p (viewO "dict_values" p d) from I.hok p _ hp).1
  have l1 : es.size = ks.length := size_of_entries he
  have l2 : kvs.length = ks.length := Paired.length pr
  refine PySem.W.kdl_call (src_vals (r := p) (d := d) (es := es) (ep := ep)) (I.ok.hd hc) ⟨⟨_, hv, rfl, rfl⟩, ⟨o, ho, hx, hdt⟩⟩ (by omega) fun h' tk acc' c' kp e it => ?_
  have ea : acc'.toList = ks.map fun x => x.2.2 := by
    have hl : acc'.toList.length = ks.length := by rw [Array.length_toList, it.1]; exact l1
    apply List.ext_getElem?
    intro j
    rw [List.getElem?_map]
    by_cases hj : j < ks.length
    · have hja : j < acc'.toList.length := by rw [hl]; exact hj
      have hje : j < es.size := by rw [l1]; exact hj
      obtain ⟨_, e3⟩ := it.2 j (acc'.toList[j]) (by rw [← Array.getElem?_toList]; exact List.getElem?_eq_getElem hja)
      have qe := entry_at he j
      rw [Array.getElem?_eq_getElem hje, List.getElem?_eq_getElem hj] at qe
      have e4 : es[j] = entryOfKey (tupleKind (mixKind X.prog X.w)) ks[j] := Option.some.inj qe
      rw [List.getElem?_eq_getElem hja, e3, e4, List.getElem?_eq_getElem hj]
      rfl
    · rw [List.getElem?_eq_none (by omega), List.getElem?_eq_none (by omega)]
      rfl
  have rv : Vals (kvs.map (·.2)) acc'.toList := by
    rw [ea]
    exact kt_vals pr
  have hz : (kvs.map (·.2)).length ≤ sizeLine := by rw [List.length_map]; exact z
  refine ⟨.ref s.heap.objs.size, _, I.laid (t' := tk) (o := .lst (kvs.map (·.2))) kp (Nat.le_refl _) ?_, rfl, q _ (I.hok.fresh (Nat.le_refl _))⟩
  exact ⟨hz, acc'.toList, c', rv, by rw [Array.toArray_toList]; exact e⟩
end
end Q

namespace Q
open PySem L2 QM
abbrev sLeast : Stmt := top 55
/-- the clusters that a tie joins -/
def crL (g : Nat → Int) : List Int → List Int
  | [a, b] => cx (g a.toNat) (g b.toNat)
  | _ => [0, 0]
def CrossL (g : Nat → Int) (l : List Int) : Prop := ∃ x y : Int, crL g l = [x, y] ∧ x ≠ y
/-- the least tie between its clusters -/
def LstV (g : Nat → Int) (L : List (Addr × List Int)) (l : List Int) : Prop := (∃ p ∈ L, p.2 = l) ∧ CrossL g l ∧ ∀ p ∈ L, crL g p.2 = crL g l → p.2 = l ∨ ltP l p.2
/-- the ties taken so far -/
structure LTI (g : Nat → Int) (L F : List (Addr × List Int)) (i : Nat) : Prop where
  sub : ∀ p ∈ F, p ∈ L.take i
  crs : ∀ p ∈ F, CrossL g p.2
  fst : ∀ p ∈ F, ∀ r ∈ L.take i, crL g r.2 = crL g p.2 → r.2 = p.2 ∨ ltP p.2 r.2
  all : ∀ r ∈ L.take i, CrossL g r.2 → ∃ p ∈ F, crL g p.2 = crL g r.2
  len : F.length ≤ i
  asc : F.Pairwise (fun x y => ltP x.2 y.2)
def kT (g : Nat → Int) (F : List (Addr × List Int)) : List (List Key × V) := F.map fun p => ((crL g p.2).map Sum.inl, V.ref p.1)
theorem LTI.nil {g : Nat → Int} {L : List (Addr × List Int)} : LTI g L [] 0 := ⟨fun p hp => absurd hp List.not_mem_nil, fun p hp => absurd hp List.not_mem_nil, fun p hp => absurd hp List.not_mem_nil, fun r hr => absurd hr (by simp), Nat.le_refl _, .nil⟩
theorem take_snoc {α : Type} {L : List α} {i : Nat} {p : α} (h : L[i]? = some p) : L.take (i + 1) = L.take i ++ [p] := by
  rw [List.take_add_one, h]
  rfl
theorem asc_take {L : List (Addr × List Int)} (asc : L.Pairwise (fun x y => ltP x.2 y.2)) {i : Nat} {p r : Addr × List Int} (h : L[i]? = some p) (hr : r ∈ L.take i) : ltP r.2 p.2 := by
  obtain ⟨j, hj, ej⟩ := List.mem_take_iff_getElem.mp hr
  obtain ⟨hi, ei⟩ := List.getElem?_eq_some_iff.mp h
  have z := List.pairwise_iff_getElem.mp asc j i (by omega) hi (by omega)
  rw [ej, ei] at z
  exact z
theorem LTI.skip {g : Nat → Int} {L F : List (Addr × List Int)} {i : Nat} {p : Addr × List Int} (I : LTI g L F i) (asc : L.Pairwise (fun x y => ltP x.2 y.2)) (h : L[i]? = some p) (no : CrossL g p.2 → ∃ q ∈ F, crL g q.2 = crL g p.2) : LTI g L F (i + 1) := by
  refine ⟨fun q hq => ?_, I.crs, fun q hq r hr e => ?_, fun r hr c => ?_, Nat.le_succ_of_le I.len, I.asc⟩
  · rw [take_snoc h]
    exact List.mem_append_left _ (I.sub q hq)
  · rw [take_snoc h] at hr
    rcases List.mem_append.mp hr with hr | hr
    · exact I.fst q hq r hr e
    · rw [List.mem_singleton.mp hr]
      exact .inr (asc_take asc h (I.sub q hq))
  · rw [take_snoc h] at hr
    rcases List.mem_append.mp hr with hr | hr
    · exact I.all r hr c
    · rw [List.mem_singleton.mp hr] at c ⊢
      exact no c
theorem LTI.put {g : Nat → Int} {L F : List (Addr × List Int)} {i : Nat} {p : Addr × List Int} (I : LTI g L F i) (asc : L.Pairwise (fun x y => ltP x.2 y.2)) (h : L[i]? = some p) (c : CrossL g p.2) (no : ¬ ∃ q ∈ F, crL g q.2 = crL g p.2) : LTI g L (F ++ [p]) (i + 1) := by
  refine ⟨fun q hq => ?_, fun q hq => ?_, fun q hq r hr e => ?_, fun r hr cr => ?_, ?_, ?_⟩
  · rw [take_snoc h]
    rcases List.mem_append.mp hq with hq | hq
    · exact List.mem_append_left _ (I.sub q hq)
    · exact List.mem_append_right _ hq
  · rcases List.mem_append.mp hq with hq | hq
    · exact I.crs q hq
    · rw [List.mem_singleton.mp hq]
      exact c
  · rw [take_snoc h] at hr
    rcases List.mem_append.mp hq with hq | hq
    · rcases List.mem_append.mp hr with hr | hr
      · exact I.fst q hq r hr e
      · rw [List.mem_singleton.mp hr]
        exact .inr (asc_take asc h (I.sub q hq))
    · rw [List.mem_singleton.mp hq] at e ⊢
      rcases List.mem_append.mp hr with hr | hr
      · have cr : CrossL g r.2 := by
          obtain ⟨x, y, ec, ne⟩ := c
          exact ⟨x, y, e.trans ec, ne⟩
        obtain ⟨q', hq', e'⟩ := I.all r hr cr
        exact absurd ⟨q', hq', e'.trans e⟩ no
      · rw [List.mem_singleton.mp hr]
        exact .inl rfl
  · rw [take_snoc h] at hr
    rcases List.mem_append.mp hr with hr | hr
    · obtain ⟨q, hq, e⟩ := I.all r hr cr
      exact ⟨q, List.mem_append_left _ hq, e⟩
    · rw [List.mem_singleton.mp hr]
      exact ⟨p, List.mem_append_right _ (List.mem_singleton.mpr rfl), rfl⟩
  · rw [List.length_append]
    exact Nat.succ_le_succ I.len
  · rw [List.pairwise_append]
    exact ⟨I.asc, List.pairwise_singleton _ _, fun q hq y hy => by rw [List.mem_singleton.mp hy]; exact asc_take asc h (I.sub q hq)⟩
theorem ltP_irr {l : List Int} : ¬ ltP l l := by
  rintro ⟨a, b, c, d, rfl, e, h⟩
  simp only [List.cons.injEq, and_true] at e
  omega
theorem LTI.end_ {g : Nat → Int} {L F : List (Addr × List Int)} (I : LTI g L F L.length) (l : List Int) : (∃ p ∈ F, p.2 = l) ↔ LstV g L l := by
  constructor
  · rintro ⟨p, hp, rfl⟩
    have hs := I.sub p hp
    rw [List.take_length] at hs
    refine ⟨⟨p, hs, rfl⟩, I.crs p hp, fun r hr e => ?_⟩
    exact I.fst p hp r (by rw [List.take_length]; exact hr) e
  · rintro ⟨⟨p, hp, rfl⟩, c, least⟩
    obtain ⟨q, hq, e⟩ := I.all p (by rw [List.take_length]; exact hp) c
    have hs := I.sub q hq
    rw [List.take_length] at hs
    refine ⟨q, hq, ?_⟩
    rcases I.fst q hq p (by rw [List.take_length]; exact hp) e.symm with h | h
    · exact h.symm
    · rcases least q hs e with h2 | h2
      · exact h2
      · exact absurd (ltP_trans h h2) ltP_irr
theorem kT_none {g : Nat → Int} {F : List (Addr × List Int)} {l : List Int} : valV (kT g F) (l.map Sum.inl) = none ↔ ¬ ∃ q ∈ F, crL g q.2 = l := by
  have inj : ∀ {x y : List Int}, x.map (Sum.inl : Int → Key) = y.map Sum.inl → x = y := fun {x y} e => by
    have z := congrArg (List.map fun k : Key => match k with | .inl i => i | .inr _ => 0) e
    rw [List.map_map, List.map_map] at z
    have id1 : ∀ w : List Int, w.map ((fun k : Key => match k with | .inl i => i | .inr _ => 0) ∘ Sum.inl) = w := fun w => by
      induction w with
      | nil => rfl
      | cons a t ih => rw [List.map_cons, ih]; rfl
    rw [id1, id1] at z
    exact z
  induction F with
  | nil => exact ⟨fun _ ⟨q, hq, _⟩ => absurd hq List.not_mem_nil, fun _ => valV_nil⟩
  | cons p r ih =>
    by_cases c : crL g p.2 = l
    · rw [show kT g (p :: r) = ((crL g p.2).map Sum.inl, V.ref p.1) :: kT g r from rfl, valV_pos (p := ((crL g p.2).map Sum.inl, V.ref p.1)) (by show (crL g p.2).map Sum.inl = _; rw [c])]
      exact ⟨fun z => (nomatch z), fun z => absurd ⟨p, List.mem_cons_self, c⟩ z⟩
    · rw [show kT g (p :: r) = ((crL g p.2).map Sum.inl, V.ref p.1) :: kT g r from rfl, valV_neg (p := ((crL g p.2).map Sum.inl, V.ref p.1)) (fun e => c (inj e))]
      refine ih.trans ?_
      constructor
      · rintro h ⟨q, hq, e⟩
        rcases List.mem_cons.mp hq with rfl | hq
        · exact c e
        · exact h ⟨q, hq, e⟩
      · rintro h ⟨q, hq, e⟩
        exact h ⟨q, List.mem_cons_of_mem _ hq, e⟩
/-- what was sorted, as pairs, of distinct ones -/
theorem sorted_nd {m : Int} {H : Hp} {f : Addr} {ks : List (Addr × List Int)} (pr : Pairs m H f ks) (nd : (ks.map (·.2)).Nodup) {ys : List V} (pm : ys.Perm (ks.map fun p => V.ref p.1)) (sr : SrtO.Srtd (L2.ltP (kH H)) ys) :
    ∃ L : List (Addr × List Int), ys = L.map (fun p => V.ref p.1) ∧ L.Perm ks ∧ L.Pairwise (fun x y => ltP x.2 y.2) := by
  obtain ⟨L, e, sub, sup, hl, pw⟩ := sorted_back pr pm sr
  have e2 : L = ys.map (pH H) := by
    rw [e, List.map_map]
    refine (List.map_id L).symm.trans (List.map_congr_left fun p hp => ?_)
    exact (pH_at pr (sub p hp)).symm
  have e3 : (ks.map fun p => V.ref p.1).map (pH H) = ks := by
    rw [List.map_map]
    refine (List.map_congr_left fun p hp => ?_).trans (List.map_id ks)
    exact pH_at pr hp
  have perm : L.Perm ks := by
    have z := pm.map (pH H)
    rw [e3, ← e2] at z
    exact z
  refine ⟨L, e, perm, ?_⟩
  have nd2 : (L.map (·.2)).Nodup := (perm.map (·.2)).nodup_iff.mpr nd
  have nd3 : L.Pairwise (fun x y => x.2 ≠ y.2) := List.pairwise_map.mp nd2
  refine (List.Pairwise.and pw nd3).imp_of_mem fun {x y} hx hy h => ?_
  obtain ⟨a, b, ex, _⟩ := pr.ok x (sub x hx)
  obtain ⟨c, d, ey, _⟩ := pr.ok y (sub y hy)
  obtain ⟨h1, h2⟩ := h
  rw [ex, ey] at h1 h2 ⊢
  exact ltP_of h1 fun z => h2 z.symm
theorem sorted_strict {m : Int} {H : Hp} {f : Addr} {ks : List (Addr × List Int)} (pr : Pairs m H f ks) (asc : ks.Pairwise (fun x y => ltP x.2 y.2)) {ys : List V} (pm : ys.Perm (ks.map fun p => V.ref p.1)) (sr : SrtO.Srtd (L2.ltP (kH H)) ys) :
    ∃ L : List (Addr × List Int), ys = L.map (fun p => V.ref p.1) ∧ L.Perm ks ∧ L.Pairwise (fun x y => ltP x.2 y.2) :=
  sorted_nd pr (List.pairwise_map.mpr (asc.imp fun {x y} (h : ltP x.2 y.2) (e : x.2 = y.2) => ltP_irr (l := y.2) (e ▸ h))) pm sr
end Q

namespace Q
open PySem L2 QM
/-- the least ties, as they stand -/
structure LeastAt (g : Nat → Int) (L : List (Addr × List Int)) (m : Int) (H : Hp) (t : Addr) (T : List (Addr × List Int)) : Prop where
  at_ : H t = some (.tup (T.map fun p => V.ref p.1))
  tup : ∀ p ∈ T, H p.1 = some (.tup (p.2.map V.int))
  ok : ∀ p ∈ T, ∃ a b : Int, p.2 = [a, b] ∧ 0 ≤ a ∧ a < b ∧ b < m
  asc : T.Pairwise (fun x y => ltP x.2 y.2)
  len : T.length ≤ L.length
  mem : ∀ l, (∃ p ∈ T, p.2 = l) ↔ LstV g L l
def spLeast (C : Addr) : Sp := fun vs H Q _ => ∃ (w dx q r la : Addr) (M : Nat) (L : List (Addr × List Int)) (bs : List Addr) (nb : Nat → List Int) (g : Nat → Int), vs = [.ref w, .ref la] ∧ WebIn C (M : Int) L H w dx q r bs nb ∧ TiesAt (M : Int) H q L ∧ H la = some (.tup (flN M g)) ∧ M ≤ 40 ∧
  ∀ t T H', Same H H' → H t = none → LeastAt g L (M : Int) H' t T → Q (.ref t) H'
section
variable {P : Program} {w : World} {K : PySem.W.Frag} {mg : Str → Option Value} {base : Heap}
theorem scLeast : FnScope ["web", "leaders", "least", "tie", "one", "other"] ["web", "leaders"] (defScope sLeast) := ⟨rfl, rfl, rfl, by decide +kernel, rfl, by decide +kernel, by decide +kernel⟩
theorem ok_least {f C fC : Addr} {fd dC : FuncData} (F : Fun K "least_ties" "least_ties" sLeast f fd) (B : Bts mg) (T : WTxt K mg C) (DC : Df K mg "crossed_by" sCross ["leaders", "tie"] fC dC) : FnOk P w K mg base CX0 2 f fd ["web", "leaders"] (spLeast C) := by
  have GC : FnOk P w K mg base CX0 1 fC dC ["leaders", "tie"] spCross := ok_cross DC.F B
  refine F.ok scLeast (fun vs H Q E h => ?_) (fun cdv A outer s H vs Q E hr h => ?_)
  · obtain ⟨w, dx, q, r, la, M, L, bs, nb, g, rfl, _⟩ := h
    rfl
  · obtain ⟨w, dx, q, r, la, M, L, bs, nb, g, rfl, x, tt, hla, m40, k⟩ := h
    have nd := scLeast.nd
    refine ⟨_, pss_cons (ps_set (i := 2) nd rfl (.inl rfl) pe_dnewT)
      (pss_cons (ps_for PassesOwn.never rfl (pi_tup (pe_fld (pv 0) rfl)) (pg_name (i := 3) nd rfl (.inl rfl))
        (pss_cons (ps_asg (pe_call GC hr rfl DC.m DC.k DC.b .nil pass0 (pa_cons (pv 1) (pa_cons (pv 3) pa_nil))) (pg_tup rfl (pgs_cons (pg_name (i := 4) nd rfl (.inl rfl)) (pgs_cons (pg_name (i := 5) nd rfl (.inl rfl)) pgs_nil))))
        (pss_one (ps_if (PW.pt (pw_and (pt_cmpR op_ne (pv 4) (pv 5) (nomark _)) (pw_and1 (pt_cmp (pc_dnotin (hu_of hr) (pe_tup (pa_cons (pv 4) (pa_cons (pv 5) pa_nil))) (pv 2))))))
          (pss_one (ps_dput (hu_of hr) (pv 2) (pe_tup (pa_cons (pv 4) (pa_cons (pv 5) pa_nil))) (pv 3) rfl)) pss_nil))))
      (pss_one (ps_ret (pe_callTy call_tuple_of (by rfl) B.tuple PyProof.Rows.boot_tuple (pa_cons (pe_callB cr_sortedPO (by rfl) B.sorted PyProof.Rows.boot_sorted (pa_cons (pe_callTy (call_list_valuesT rfl) (by rfl) B.list PyProof.Rows.boot_list
        (pa_cons (pe_bm0 PySem.F.plainAttrs_dict PySem.F.slot_dict_values PySem.F.type_dict_values mt_valuesT (pv 2)) pa_nil)) pa_nil)) pa_nil))))), ?_⟩
    intro D hD
    have few := tt.few
    have sD : Same H (upd H D (.dT [])) := sN hD
    have nx : ∀ {b : Addr} {o : HO}, H b = some o → b ≠ D := fun e => ne_of_none e hD
    refine ⟨_, rfl, w, C, dx, _, _, rfl, sD _ _ x.at_, T.cl, T.nT, wf_ties _ _ _, q, rfl, ⟨_, SqT.of (sD _ _ tt.at_)⟩, for_tup (K := K) (a := q) (xs := L.map fun p => V.ref p.1) (fun i σ H' => ∃ (x3 x4 x5 : Option V) (F : List (Addr × List Int)), σ = [some (.ref w), some (.ref la), some (.ref D), x3, x4, x5] ∧ H' D = some (.dT (kT g F)) ∧ LTI g L F i ∧ Same H H') ?_ ?_ ?_ ?_⟩
    · exact ⟨none, none, none, [], rfl, upd_same, .nil, sD⟩
    · rintro i σ H1 hi ⟨_, _, _, _, _, _, _, s1⟩
      exact SqT.of (s1 _ _ tt.at_)
    · rintro i v σ H1 hv ⟨x3, x4, x5, F, rfl, eD, I, s1⟩
      obtain ⟨p, hp, rfl⟩ := map_inv hv
      have hm := List.mem_of_getElem? hp
      have hi : i < L.length := (List.getElem?_eq_some_iff.mp hp).1
      obtain ⟨a, b, e2, a0, ab, bm⟩ := tt.ok p hm
      obtain ⟨a', rfl⟩ : ∃ a' : Nat, a = (a' : Int) := ⟨a.toNat, by omega⟩
      obtain ⟨b', rfl⟩ : ∃ b' : Nat, b = (b' : Int) := ⟨b.toNat, by omega⟩
      have ht := s1 _ _ (tt.tup p hm)
      rw [e2] at ht
      have ecr : crL g p.2 = cx (g a') (g b') := by
        rw [e2]
        show cx (g ((a' : Int)).toNat) (g ((b' : Int)).toNat) = _
        rw [Int.toNat_natCast, Int.toNat_natCast]
      obtain ⟨mn, mx, ecx⟩ : ∃ mn mx : Int, cx (g a') (g b') = [mn, mx] := ⟨_, _, rfl⟩
      refine ⟨_, rfl, _, rfl, la, p.1, M, a', b', g, rfl, s1 _ _ hla, ht, by omega, by omega, fun c hc => ?_⟩
      rw [ecx]
      have s2 := sT s1 (sN (o := .tup ([mn, mx].map V.int)) hc)
      have eD2 : (upd H1 c (.tup ([mn, mx].map V.int))) D = some (.dT (kT g F)) := by rw [upd_ne (ne_of_none eD hc)]; exact eD
      refine ⟨c, _, rfl, SqT.of upd_same, rfl, _, _, rfl, _, _, rfl, rfl, ?_⟩
      revert s2 eD2
      generalize (upd H1 c (.tup ([mn, mx].map V.int))) = H2
      intro s2 eD2
      refine ⟨_, rfl, _, rfl, rfl, _, rfl, ?_⟩
      rw [dec_i]
      refine ite2 (fun c1 => ?_) (fun c1 => ?_)
      · have ne : mn ≠ mx := fun e => by rw [decide_eq_true e] at c1; cases c1
        have crs : CrossL g p.2 := ⟨mn, mx, ecr.trans ecx, ne⟩
        refine ⟨_, rfl, _, rfl, (by show 2 ≤ sizeLine; decide), fun kt hkt => ?_⟩
        have s3 := sT s2 (sN (o := .tup [.int mn, .int mx]) hkt)
        have eD3 : (upd H2 kt (.tup [.int mn, .int mx])) D = some (.dT (kT g F)) := by rw [upd_ne (ne_of_none eD2 hkt)]; exact eD2
        have ekt : (upd H2 kt (.tup [.int mn, .int mx])) kt = some (.tup ([Sum.inl mn, Sum.inl mx].map kV)) := upd_same
        refine ⟨_, rfl, D, _, rfl, DGet.t eD3 ekt, _, rfl, ite2 (fun c2 => ?_) (fun c2 => ?_)⟩
        · have vn : valV (kT g F) (([mn, mx] : List Int).map Sum.inl) = none := by
            cases z : valV (kT g F) (([mn, mx] : List Int).map Sum.inl) with
            | none => rfl
            | some o =>
              have c2' : (!(valV (kT g F) (([mn, mx] : List Int).map Sum.inl)).isSome) = true := c2
              rw [z] at c2'
              cases c2'
          have nin := kT_none.mp vn
          revert s3 eD3
          generalize (upd H2 kt (.tup [.int mn, .int mx])) = H3
          intro s3 eD3
          refine ⟨_, rfl, _, rfl, _, rfl, _, rfl, (by show 2 ≤ sizeLine; decide), fun k2 hk2 => ?_⟩
          have s4 := sT s3 (sN (o := .tup [.int mn, .int mx]) hk2)
          have eD4 : (upd H3 k2 (.tup [.int mn, .int mx])) D = some (.dT (kT g F)) := by rw [upd_ne (ne_of_none eD3 hk2)]; exact eD3
          have ek2 : (upd H3 k2 (.tup [.int mn, .int mx])) k2 = some (.tup ([Sum.inl mn, Sum.inl mx].map kV)) := upd_same
          refine ⟨D, _, rfl, DPut.t eD4 ek2 ?_, ?_⟩
          · unfold kT
            rw [List.length_map]
            exact Nat.lt_of_lt_of_le (show F.length < 1000 by have := I.len; omega) (by decide)
          refine ⟨_, _, _, F ++ [p], rfl, ?_, I.put tt.asc hp crs (by rw [ecr, ecx]; exact nin), sNew s4 hD⟩
          have vn' : valV (kT g F) [Sum.inl mn, Sum.inl mx] = none := vn
          rw [upd_same, putK_new _ vn']
          unfold kT
          rw [List.map_append]
          show _ = some (HO.dT (_ ++ [((crL g p.2).map Sum.inl, V.ref p.1)]))
          rw [ecr, ecx]
          rfl
        · refine ⟨_, _, _, F, rfl, eD3, I.skip tt.asc hp fun _ => ?_, s3⟩
          rw [ecr, ecx]
          by_cases z : ∃ q ∈ F, crL g q.2 = [mn, mx]
          · exact z
          · have vn := kT_none.mpr z
            refine absurd ?_ c2
            show (!(valV (kT g F) (([mn, mx] : List Int).map Sum.inl)).isSome) = true
            rw [vn]
            rfl
      · have eq : mn = mx := by
          by_cases z : mn = mx
          · exact z
          · rw [decide_eq_false z] at c1
            exact absurd rfl c1
        refine ⟨_, _, _, F, rfl, eD2, I.skip tt.asc hp fun ⟨y1, y2, e, ne⟩ => ?_, s2⟩
        rw [ecr, ecx] at e
        simp only [List.cons.injEq, and_true] at e
        omega
    · rintro σ H1 ⟨x3, x4, x5, F, rfl, eD, I, s1⟩
      rw [List.length_map] at I
      have subL : ∀ p ∈ F, p ∈ L := fun p hp => by
        have z := I.sub p hp
        rw [List.take_length] at z
        exact z
      refine ⟨_, rfl, .inr (.inr (.inl ⟨rfl, .inr ⟨_, eD⟩⟩)), D, _, rfl, rfl, eD, fun vw hvw => ?_⟩
      have s2 := sT s1 (sN (o := viewO "dict_values" vw D) hvw)
      have eD2 : (upd H1 vw (viewO "dict_values" vw D)) D = some (.dT (kT g F)) := by rw [upd_ne (ne_of_none eD hvw)]; exact eD
      refine ⟨vw, D, _, rfl, upd_same, eD2, fun l hl => ?_⟩
      have exs : (kT g F).map (·.2) = F.map fun p => V.ref p.1 := by
        unfold kT
        rw [List.map_map]
        rfl
      rw [exs]
      have s3 := sT s2 (sN (o := .lst (F.map fun p => V.ref p.1)) hl)
      have el : (upd (upd H1 vw (viewO "dict_values" vw D)) l (.lst (F.map fun p => V.ref p.1))) l = some (.lst (F.map fun p => V.ref p.1)) := upd_same
      revert s3 el
      generalize (upd (upd H1 vw (viewO "dict_values" vw D)) l (.lst (F.map fun p => V.ref p.1))) = H3
      intro s3 el
      have pr : Pairs (M : Int) H3 l F := ⟨el, fun p hp => s3 _ _ (tt.tup p (subL p hp)), fun p hp => tt.ok p (subL p hp)⟩
      refine ⟨l, F.map (fun p => V.ref p.1), kH H3, rfl, SqL.of el, fun y hy => ?_, fun ys sp sr sb hsp => ?_⟩
      · obtain ⟨p, hp, rfl⟩ := List.mem_map.mp hy
        obtain ⟨a, b, e, _⟩ := pr.ok p hp
        have t := pr.tup p hp
        rw [e] at t
        refine ⟨p.1, rfl, ?_⟩
        rw [kH_at t]
        exact t
      obtain ⟨Ts, rfl, perm, asc⟩ := sorted_strict pr I.asc sb.perm sr
      refine ⟨sp, _, rfl, .inl ⟨SqL.of upd_same, fun t ht => ?_⟩⟩
      have s4 := sN (o := .lst (Ts.map fun p => V.ref p.1)) hsp
      have s5 := sT s4 (sN (o := .tup (Ts.map fun p => V.ref p.1)) ht)
      have ht0 : H t = none := by
        cases z : H t with
        | none => rfl
        | some o => rw [s4 _ _ (s3 _ _ z)] at ht; cases ht
      refine k t Ts _ (sT s3 s5) ht0 ⟨upd_same, fun p hp => s5 _ _ (pr.tup p (perm.mem_iff.mp hp)), fun p hp => pr.ok p (perm.mem_iff.mp hp), asc, by rw [perm.length_eq]; exact I.len, fun lv => ?_⟩
      rw [← I.end_ lv]
      constructor
      · rintro ⟨p, hp, e⟩
        exact ⟨p, perm.mem_iff.mp hp, e⟩
      · rintro ⟨p, hp, e⟩
        exact ⟨p, perm.mem_iff.mpr hp, e⟩
end
end Q

namespace Q
open PySem L2 QM
abbrev sBtw : Stmt := top 87
theorem sort2 {ns : List Int} {x y : Int} (pm : ns.Perm [x, y]) (pw : ns.Pairwise (· ≤ ·)) : ns = cx x y := by
  have hl := pm.length_eq
  match ns, hl with
  | [u, v], _ =>
    have huv : u ≤ v := (List.pairwise_cons.mp pw).1 v (by simp)
    have hx : x ∈ [u, v] := pm.mem_iff.mpr (by simp)
    have hy : y ∈ [u, v] := pm.mem_iff.mpr (by simp)
    have hu : u ∈ [x, y] := pm.mem_iff.mp (by simp)
    have hv : v ∈ [x, y] := pm.mem_iff.mp (by simp)
    simp only [List.mem_cons, List.not_mem_nil, or_false] at hx hy hu hv
    unfold cx
    by_cases c : y < x
    · rw [if_pos c, if_neg (by omega)]
      have e1 : u = y := by omega
      have e2 : v = x := by omega
      rw [e1, e2]
    · rw [if_neg c]
      by_cases d : y > x
      · rw [if_pos d]
        have e1 : u = x := by omega
        have e2 : v = y := by omega
        rw [e1, e2]
      · rw [if_neg d]
        have e1 : u = x := by omega
        have e2 : v = x := by omega
        rw [e1, e2]
/-- a group: the clusters, where its list stands, its ties -/
abbrev Grp := List Int × Addr × List (Addr × List Int)
def kG (E : List Grp) : List (List Key × V) := E.map fun e => (e.1.map Sum.inl, V.ref e.2.1)
/-- the groups so far -/
structure GI (g : Nat → Int) (L : List (Addr × List Int)) (i : Nat) (E : List Grp) : Prop where
  crs : ∀ e ∈ E, ∃ x y : Int, e.1 = [x, y] ∧ x ≠ y
  grp : ∀ e ∈ E, e.2.2.map (·.2) = ((L.take i).filter fun p => decide (crL g p.2 = e.1)).map (·.2)
  ne : ∀ e ∈ E, e.2.2 ≠ []
  all : ∀ r ∈ L.take i, CrossL g r.2 → ∃ e ∈ E, e.1 = crL g r.2
  len : E.length ≤ i
  nd : (E.map (·.1)).Nodup
structure GAt (H : Hp) (E : List Grp) : Prop where
  at_ : ∀ e ∈ E, H e.2.1 = some (.lst (e.2.2.map fun p => V.ref p.1))
  tup : ∀ e ∈ E, ∀ p ∈ e.2.2, H p.1 = some (.tup (p.2.map V.int))
theorem GAt.same {H H' : Hp} {E : List Grp} (h : GAt H E) (s : Same H H') : GAt H' E := ⟨fun e he => s _ _ (h.at_ e he), fun e he p hp => s _ _ (h.tup e he p hp)⟩
theorem inl_inj {x y : List Int} (e : x.map (Sum.inl : Int → Key) = y.map Sum.inl) : x = y := by
  induction x generalizing y with
  | nil =>
    cases y with
    | nil => rfl
    | cons b t => cases e
  | cons a s ih =>
    cases y with
    | nil => cases e
    | cons b t =>
      rw [List.map_cons, List.map_cons] at e
      obtain ⟨h1, h2⟩ := List.cons.inj e
      rw [Sum.inl.inj h1, ih h2]
/-- what the dict holds at a pair -/
theorem kG_get {E : List Grp} (nd : (E.map (·.1)).Nodup) (l : List Int) : (valV (kG E) (l.map Sum.inl) = none ∧ ∀ e ∈ E, e.1 ≠ l) ∨ ∃ e ∈ E, e.1 = l ∧ valV (kG E) (l.map Sum.inl) = some (.ref e.2.1) := by
  induction E with
  | nil => exact .inl ⟨valV_nil, fun e he => absurd he List.not_mem_nil⟩
  | cons a r ih =>
    rw [List.map_cons, List.nodup_cons] at nd
    have ex : kG (a :: r) = (a.1.map Sum.inl, V.ref a.2.1) :: kG r := rfl
    by_cases c : a.1 = l
    · exact .inr ⟨a, List.mem_cons_self, c, by rw [ex, valV_pos (p := (a.1.map Sum.inl, V.ref a.2.1)) (by show a.1.map Sum.inl = _; rw [c])]⟩
    · rw [ex, valV_neg (p := (a.1.map Sum.inl, V.ref a.2.1)) (fun e => c (inl_inj e))]
      rcases ih nd.2 with ⟨h1, h2⟩ | ⟨e, he, h1, h2⟩
      · refine .inl ⟨h1, fun e he => ?_⟩
        rcases List.mem_cons.mp he with rfl | he
        · exact c
        · exact h2 e he
      · exact .inr ⟨e, List.mem_cons_of_mem _ he, h1, h2⟩
/-- one tie more into its group, or a new one -/
def putG (E : List Grp) (l : List Int) (la : Addr) (t : Addr × List Int) : List Grp := E.map fun e => if e.1 = l then (e.1, la, e.2.2 ++ [t]) else e
theorem kG_put {E : List Grp} {l : List Int} {la : Addr} {t : Addr × List Int} (h : ∃ e ∈ E, e.1 = l) : putK (kG E) (l.map Sum.inl) (V.ref la) = kG (putG E l la t) := by
  obtain ⟨e0, h0, c0⟩ := h
  unfold putK
  have an : ((kG E).any fun kv => decide (kv.1 = l.map Sum.inl)) = true := List.any_eq_true.mpr ⟨(e0.1.map Sum.inl, V.ref e0.2.1), List.mem_map.mpr ⟨e0, h0, rfl⟩, by rw [c0]; exact decide_eq_true rfl⟩
  rw [if_pos an]
  unfold kG putG
  rw [List.map_map, List.map_map]
  refine List.map_congr_left fun e _ => ?_
  show (if e.1.map Sum.inl = l.map Sum.inl then (e.1.map Sum.inl, V.ref la) else (e.1.map Sum.inl, V.ref e.2.1)) = (((if e.1 = l then (e.1, la, e.2.2 ++ [t]) else e : Grp)).1.map Sum.inl, V.ref ((if e.1 = l then (e.1, la, e.2.2 ++ [t]) else e : Grp)).2.1)
  by_cases c : e.1 = l
  · rw [if_pos (by rw [c]), if_pos c]
  · rw [if_neg (fun z => c (inl_inj z)), if_neg c]
theorem filt_snoc {g : Nat → Int} {L : List (Addr × List Int)} {i : Nat} {p : Addr × List Int} (h : L[i]? = some p) (l : List Int) :
    ((L.take (i + 1)).filter fun p => decide (crL g p.2 = l)).map (·.2) = ((L.take i).filter fun p => decide (crL g p.2 = l)).map (·.2) ++ (if crL g p.2 = l then [p.2] else []) := by
  rw [take_snoc h, List.filter_append, List.map_append]
  by_cases c : crL g p.2 = l
  · rw [if_pos c, List.filter_cons_of_pos (by exact decide_eq_true c)]
    rfl
  · rw [if_neg c, List.filter_cons_of_neg (by rw [decide_eq_false c]; exact Bool.false_ne_true)]
    rfl
theorem GI.nil {g : Nat → Int} {L : List (Addr × List Int)} : GI g L 0 [] := ⟨fun e h => absurd h List.not_mem_nil, fun e h => absurd h List.not_mem_nil, fun e h => absurd h List.not_mem_nil, fun r h => absurd h (by simp), Nat.le_refl _, .nil⟩
theorem GI.skip {g : Nat → Int} {L : List (Addr × List Int)} {i : Nat} {E : List Grp} {p : Addr × List Int} (I : GI g L i E) (h : L[i]? = some p) (no : ¬ CrossL g p.2) : GI g L (i + 1) E := by
  refine ⟨I.crs, fun e he => ?_, I.ne, fun r hr c => ?_, Nat.le_succ_of_le I.len, I.nd⟩
  · rw [filt_snoc h, if_neg (fun z => ?_), List.append_nil]
    · exact I.grp e he
    · obtain ⟨x, y, e1, ne⟩ := I.crs e he
      exact no ⟨x, y, z.trans e1, ne⟩
  · rw [take_snoc h] at hr
    rcases List.mem_append.mp hr with hr | hr
    · exact I.all r hr c
    · rw [List.mem_singleton.mp hr] at c
      exact absurd c no
theorem putG_mem {E : List Grp} {l : List Int} {la : Addr} {t : Addr × List Int} {e : Grp} (h : e ∈ putG E l la t) : (∃ e0 ∈ E, e0.1 = l ∧ e = (l, la, e0.2.2 ++ [t])) ∨ (e ∈ E ∧ e.1 ≠ l) := by
  obtain ⟨e0, h0, e1⟩ := List.mem_map.mp h
  by_cases c : e0.1 = l
  · rw [if_pos c] at e1
    exact .inl ⟨e0, h0, c, by rw [← e1, c]⟩
  · rw [if_neg c] at e1
    rw [← e1]
    exact .inr ⟨h0, c⟩
theorem putG_keys {E : List Grp} {l : List Int} {la : Addr} {t : Addr × List Int} : (putG E l la t).map (·.1) = E.map (·.1) := by
  unfold putG
  rw [List.map_map]
  refine List.map_congr_left fun e _ => ?_
  show ((if e.1 = l then (e.1, la, e.2.2 ++ [t]) else e : Grp)).1 = e.1
  by_cases c : e.1 = l
  · rw [if_pos c]
  · rw [if_neg c]
theorem GI.more {g : Nat → Int} {L : List (Addr × List Int)} {i : Nat} {E : List Grp} {p t : Addr × List Int} {la : Addr} (I : GI g L i E) (h : L[i]? = some p) (et : t.2 = p.2) : GI g L (i + 1) (putG E (crL g p.2) la t) ∨ ∀ e ∈ E, e.1 ≠ crL g p.2 := by
  by_cases ex : ∃ e ∈ E, e.1 = crL g p.2
  · refine .inl ⟨fun e he => ?_, fun e he => ?_, fun e he => ?_, fun r hr c => ?_, ?_, ?_⟩
    · rcases putG_mem he with ⟨e0, h0, c0, rfl⟩ | ⟨h0, _⟩
      · obtain ⟨x, y, e1, ne⟩ := I.crs e0 h0
        exact ⟨x, y, c0.symm.trans e1, ne⟩
      · exact I.crs e h0
    · rw [filt_snoc h]
      rcases putG_mem he with ⟨e0, h0, c0, rfl⟩ | ⟨h0, c0⟩
      · show (e0.2.2 ++ [t]).map (·.2) = ((L.take i).filter fun q => decide (crL g q.2 = crL g p.2)).map (·.2) ++ (if crL g p.2 = crL g p.2 then [p.2] else [])
        rw [List.map_append, I.grp e0 h0, c0, if_pos rfl, ← et]
        rfl
      · rw [if_neg (fun z => c0 z.symm), List.append_nil]
        exact I.grp e h0
    · rcases putG_mem he with ⟨e0, h0, c0, rfl⟩ | ⟨h0, _⟩
      · simp
      · exact I.ne e h0
    · have key : ∃ e ∈ E, e.1 = crL g r.2 := by
        rw [take_snoc h] at hr
        rcases List.mem_append.mp hr with hr | hr
        · exact I.all r hr c
        · rw [List.mem_singleton.mp hr]
          exact ex
      obtain ⟨e, he, e1⟩ := key
      have z : e.1 ∈ (putG E (crL g p.2) la t).map (·.1) := by
        rw [putG_keys]
        exact List.mem_map.mpr ⟨e, he, rfl⟩
      obtain ⟨e', he', e2⟩ := List.mem_map.mp z
      exact ⟨e', he', e2.trans e1⟩
    · unfold putG
      rw [List.length_map]
      exact Nat.le_succ_of_le I.len
    · rw [putG_keys]
      exact I.nd
  · exact .inr fun e he c => ex ⟨e, he, c⟩
theorem GI.new {g : Nat → Int} {L : List (Addr × List Int)} {i : Nat} {E : List Grp} {p t : Addr × List Int} {la : Addr} (I : GI g L i E) (h : L[i]? = some p) (et : t.2 = p.2) (c : CrossL g p.2) (no : ∀ e ∈ E, e.1 ≠ crL g p.2) : GI g L (i + 1) (E ++ [(crL g p.2, la, [t])]) := by
  refine ⟨fun e he => ?_, fun e he => ?_, fun e he => ?_, fun r hr cr => ?_, ?_, ?_⟩
  · rcases List.mem_append.mp he with he | he
    · exact I.crs e he
    · rw [List.mem_singleton.mp he]
      exact c
  · rw [filt_snoc h]
    rcases List.mem_append.mp he with he | he
    · rw [if_neg (fun z => no e he z.symm), List.append_nil]
      exact I.grp e he
    · rw [List.mem_singleton.mp he, if_pos rfl]
      have em : ((L.take i).filter fun q => decide (crL g q.2 = crL g p.2)) = [] := by
        rw [List.filter_eq_nil_iff]
        intro r hr z
        have e1 := of_decide_eq_true z
        obtain ⟨x, y, e2, ne⟩ := c
        obtain ⟨e, he, e3⟩ := I.all r hr ⟨x, y, e1.trans e2, ne⟩
        exact no e he (e3.trans e1)
      show [t].map (·.2) = _
      rw [em]
      show [t.2] = [] ++ [p.2]
      rw [et]
      rfl
  · rcases List.mem_append.mp he with he | he
    · exact I.ne e he
    · rw [List.mem_singleton.mp he]
      simp
  · rw [take_snoc h] at hr
    rcases List.mem_append.mp hr with hr | hr
    · obtain ⟨e, he, e1⟩ := I.all r hr cr
      exact ⟨e, List.mem_append_left _ he, e1⟩
    · rw [List.mem_singleton.mp hr]
      exact ⟨_, List.mem_append_right _ (List.mem_singleton.mpr rfl), rfl⟩
  · rw [List.length_append]
    exact Nat.succ_le_succ I.len
  · rw [List.map_append, List.nodup_append]
    refine ⟨I.nd, by simp, fun x hx y hy e => ?_⟩
    obtain ⟨e1, h1, e2⟩ := List.mem_map.mp hx
    have e3 : y = crL g p.2 := by simpa using hy
    exact no e1 h1 (e2.trans (e.trans e3))
end Q

namespace Q
open PySem L2 QM
def spBtw : Sp := fun vs H Q _ => ∃ (W q pa : Addr) (M : Nat) (L : List (Addr × List Int)) (par : Nat → Option Nat) (rk : Nat → Nat), vs = [.ref W, .ref pa] ∧ LWeb H W q (M : Int) L ∧ H pa = some (.tup (pVs M par)) ∧ ParOk M par rk ∧ M ≤ 40 ∧
  ∀ D E H', Same H H' → H D = none → H' D = some (.dT (kG E)) → GI (fun i => (LD par M i : Int)) L L.length E → GAt H' E → Q (.ref D) H'
section
variable {P : Program} {w : World} {K : PySem.W.Frag} {mg : Str → Option Value} {base : Heap}
theorem scBtw : FnScope ["web", "parents", "found", "a", "b", "pair"] ["web", "parents"] (defScope sBtw) := ⟨rfl, rfl, rfl, by decide +kernel, rfl, by decide +kernel, by decide +kernel⟩
theorem ok_btw {f fL : Addr} {fd dL : FuncData} (F : Fun K "_law_between" "_law_between" sBtw f fd) (B : Bts mg) (DL : Df K mg "_law_leader" sLLd ["parents", "house"] fL dL) : FnOk P w K mg base CX0 2 f fd ["web", "parents"] spBtw := by
  have GD : FnOk P w K mg base CX0 1 fL dL ["parents", "house"] spLLd := ok_lld DL.F B
  refine F.ok scBtw (fun vs H Q E h => ?_) (fun cdv A outer s H vs Q E hr h => ?_)
  · obtain ⟨W, q, pa, M, L, par, rk, rfl, _⟩ := h
    rfl
  · obtain ⟨W, q, pa, M, L, par, rk, rfl, lw, hp, po, m40, k⟩ := h
    have nd := scBtw.nd
    refine ⟨_, pss_cons (ps_set (i := 2) nd rfl (.inl rfl) pe_dnewT)
      (pss_cons (ps_for PassesOwn.never rfl (pi_tup (pe_ix ix_tup (pv 0) pe_int (fun _ _ => rfl))) (pg_tup rfl (pgs_cons (pg_name (i := 3) nd rfl (.inl rfl)) (pgs_cons (pg_name (i := 4) nd rfl (.inl rfl)) pgs_nil)))
        (pss_cons (ps_set (i := 5) nd rfl (.inl rfl) (pe_callTy call_tuple_of (by rfl) B.tuple PyProof.Rows.boot_tuple (pa_cons (pe_callB cr_sorted (by rfl) B.sorted PyProof.Rows.boot_sorted (pa_cons (pe_lst
            (pa_cons (pe_call GD hr rfl DL.m DL.k DL.b .nil pass0 (pa_cons (pv 1) (pa_cons (pv 3) pa_nil))) (pa_cons (pe_call GD hr rfl DL.m DL.k DL.b .nil pass0 (pa_cons (pv 1) (pa_cons (pv 4) pa_nil))) pa_nil))) pa_nil)) pa_nil)))
        (pss_one (ps_if (pt_cmpR op_ne (pe_ix ix_tup (pv 5) pe_int (fun _ _ => rfl)) (pe_ix ix_tup (pv 5) pe_int (fun _ _ => rfl)) (nomark _))
          (pss_one (ps_dput (hu_of hr) (pv 2) (pv 5) (pe_op op_cat (pe_dget2 (hu_of hr) (pv 2) (pv 5) (pe_lst pa_nil) ⟨rfl, rfl, rfl, rfl⟩) (pe_lst (pa_cons (pe_tup (pa_cons (pv 3) (pa_cons (pv 4) pa_nil))) pa_nil))) rfl)) pss_nil))))
      (pss_one (ps_ret (pv 2)))), ?_⟩
    intro D hD
    obtain ⟨hW, tt⟩ := lw
    have few := tt.few
    have sD : Same H (upd H D (.dT [])) := sN hD
    have eq0 : atI [V.int (M : Int), V.ref q] 1 = some (V.ref q) := rfl
    refine ⟨_, rfl, W, _, 1, _, rfl, rfl, SqT.of (sD _ _ hW), eq0, q, rfl, ⟨_, SqT.of (sD _ _ tt.at_)⟩, for_tup (K := K) (a := q) (xs := L.map fun p => V.ref p.1) (fun i σ H' => ∃ (x3 x4 x5 : Option V) (E : List Grp), σ = [some (.ref W), some (.ref pa), some (.ref D), x3, x4, x5] ∧ H' D = some (.dT (kG E)) ∧ GI (fun i => (LD par M i : Int)) L i E ∧ GAt H' E ∧ Same H H') ?_ ?_ ?_ ?_⟩
    · exact ⟨none, none, none, [], rfl, upd_same, .nil, ⟨fun e h => absurd h List.not_mem_nil, fun e h => absurd h List.not_mem_nil⟩, sD⟩
    · rintro i σ H1 hi ⟨_, _, _, _, _, _, _, _, s1⟩
      exact SqT.of (s1 _ _ tt.at_)
    · rintro i v σ H1 hv ⟨x3, x4, x5, E, rfl, eD, I, ga, s1⟩
      obtain ⟨p, hp', rfl⟩ := map_inv hv
      have hm := List.mem_of_getElem? hp'
      have hi : i < L.length := (List.getElem?_eq_some_iff.mp hp').1
      obtain ⟨a, b, e2, a0, ab, bm⟩ := tt.ok p hm
      obtain ⟨a', rfl⟩ : ∃ a' : Nat, a = (a' : Int) := ⟨a.toNat, by omega⟩
      obtain ⟨b', rfl⟩ : ∃ b' : Nat, b = (b' : Int) := ⟨b.toNat, by omega⟩
      have ht := s1 _ _ (tt.tup p hm)
      rw [e2] at ht
      have ecr : crL (fun i => (LD par M i : Int)) p.2 = cx (LD par M a' : Int) (LD par M b' : Int) := by
        rw [e2]
        show cx (LD par M ((a' : Int)).toNat : Int) (LD par M ((b' : Int)).toNat : Int) = _
        rw [Int.toNat_natCast, Int.toNat_natCast]
      refine ⟨p.1, _, rfl, SqT.of ht, rfl, _, _, rfl, _, _, rfl, rfl, ?_⟩
      refine ⟨_, rfl, _, rfl, pa, M, a', par, rk, rfl, s1 _ _ hp, po, by omega, m40, ?_⟩
      refine ⟨_, rfl, _, rfl, pa, M, b', par, rk, rfl, s1 _ _ hp, po, by omega, m40, ?_⟩
      refine ⟨(by show 2 ≤ sizeLine; decide), fun l hl => ?_⟩
      refine ⟨l, [(LD par M a' : Int), (LD par M b' : Int)], rfl, SqL.of upd_same, (by show 2 < 64; decide), fun ns sp pm pw hsp => ?_⟩
      obtain rfl := sort2 pm pw
      obtain ⟨mn, mx, ecx⟩ : ∃ mn mx : Int, cx (LD par M a' : Int) (LD par M b' : Int) = [mn, mx] := ⟨_, _, rfl⟩
      rw [ecx]
      refine ⟨sp, _, rfl, .inl ⟨SqL.of upd_same, fun pt hpt => ?_⟩⟩
      have s2 : Same H1 (upd (upd (upd H1 l (.lst [nI (LD par M a'), nI (LD par M b')])) sp (.lst ([mn, mx].map V.int))) pt (.tup ([mn, mx].map V.int))) := sT (sN hl) (sT (sN hsp) (sN hpt))
      have ept : (upd (upd (upd H1 l (.lst [nI (LD par M a'), nI (LD par M b')])) sp (.lst ([mn, mx].map V.int))) pt (.tup ([mn, mx].map V.int))) pt = some (.tup ([Sum.inl mn, Sum.inl mx].map kV)) := upd_same
      show gName 5 (V.ref pt) _ (upd (upd (upd H1 l (.lst [nI (LD par M a'), nI (LD par M b')])) sp (.lst ([mn, mx].map V.int))) pt (.tup ([mn, mx].map V.int))) _
      revert s2 ept
      generalize (upd (upd (upd H1 l (.lst [nI (LD par M a'), nI (LD par M b')])) sp (.lst ([mn, mx].map V.int))) pt (.tup ([mn, mx].map V.int))) = H2
      intro s2 ept
      have hcs : ∀ {b : Addr} {o : HO}, H1 b = some o → H2 b = some o := fun e => s2 _ _ e
      have eD2 := hcs eD
      have ga2 := ga.same s2
      have s12 := sT s1 s2
      refine ⟨_, rfl, pt, _, 0, _, rfl, rfl, SqT.of ept, rfl, _, rfl, pt, _, 1, _, rfl, rfl, SqT.of ept, rfl, rfl, _, rfl, ?_⟩
      show (if (!decide (V.int mn = V.int mx)) = true then _ else _)
      rw [dec_i]
      refine ite2 (fun c1 => ?_) (fun c1 => ?_)
      · have ne : mn ≠ mx := fun e => by rw [decide_eq_true e] at c1; cases c1
        have crs : CrossL (fun i => (LD par M i : Int)) p.2 := ⟨mn, mx, ecr.trans ecx, ne⟩
        refine ⟨_, rfl, D, rfl, .inr ⟨_, .inl eD2⟩, _, rfl, Nat.zero_le _, fun el hel => ?_⟩
        have s3 := sT s2 (sN (o := .lst []) hel)
        have eD3 : (upd H2 el (.lst [])) D = some (.dT (kG E)) := by rw [upd_ne (ne_of_none eD2 hel)]; exact eD2
        have ept3 : (upd H2 el (.lst [])) pt = some (.tup ([Sum.inl mn, Sum.inl mx].map kV)) := by rw [upd_ne (ne_of_none ept hel)]; exact ept
        have ga3 := ga.same s3
        have eel : (upd H2 el (.lst [])) el = some (.lst []) := upd_same
        revert s3 eD3 ept3 ga3 eel
        generalize upd H2 el (.lst []) = H3
        intro s3 eD3 ept3 ga3 eel
        refine ⟨_, DGet.t eD3 ept3, _, rfl, _, rfl, (by show 2 ≤ sizeLine; decide), fun tn htn => ?_⟩
        refine ⟨(by show 1 ≤ sizeLine; decide), fun l2 hl2 => ?_⟩
        have z1 := sN (o := .tup [.int (a' : Int), .int (b' : Int)]) htn
        have z2 := sN (o := .lst [.ref tn]) hl2
        have s4 := sT s3 (sT z1 z2)
        have etn := z2 _ _ (upd_same (H := H3) (a := tn) (o := .tup [.int (a' : Int), .int (b' : Int)]))
        have el2 : (upd (upd H3 tn (.tup [.int (a' : Int), .int (b' : Int)])) l2 (.lst [.ref tn])) l2 = some (.lst [.ref tn]) := upd_same
        have eD4 := z2 _ _ (z1 _ _ eD3)
        have ept4 := z2 _ _ (z1 _ _ ept3)
        have eel4 := z2 _ _ (z1 _ _ eel)
        have ga4 := ga3.same (sT z1 z2)
        revert s4 etn el2 eD4 ept4 eel4 ga4
        generalize (upd (upd H3 tn (.tup [.int (a' : Int), .int (b' : Int)])) l2 (.lst [.ref tn])) = H4
        intro s4 etn el2 eD4 ept4 eel4 ga4
        have s14 := sT s1 s4
        have klen : (kG E).length < sizeLine := by
          unfold kG
          rw [List.length_map]
          exact Nat.lt_of_lt_of_le (show E.length < 1000 by have := I.len; omega) (by decide)
        have et : ((tn, p.2) : Addr × List Int).2 = p.2 := rfl
        have ekey : crL (fun i => (LD par M i : Int)) p.2 = [mn, mx] := ecr.trans ecx
        -- behind the list's making
        have fin : ∀ (xs : List (Addr × List Int)) (nl : Addr) (E' : List Grp), H4 nl = none → putK (kG E) [Sum.inl mn, Sum.inl mx] (V.ref nl) = kG E' → GI (fun i => (LD par M i : Int)) L (i + 1) E' →
            (∀ e ∈ E', (e ∈ E ∧ e.2.1 ≠ nl) ∨ (e.2.1 = nl ∧ e.2.2 = xs ++ [(tn, p.2)])) → (∀ r ∈ xs, H4 r.1 = some (.tup (r.2.map V.int))) →
            ∃ (x3 x4 x5 : Option V) (E0 : List Grp), [some (.ref W), some (.ref pa), some (.ref D), some (.int (a' : Int)), some (.int (b' : Int)), some (.ref pt)] = [some (.ref W), some (.ref pa), some (.ref D), x3, x4, x5] ∧ (upd (upd H4 nl (.lst ((xs ++ [(tn, p.2)]).map fun r => V.ref r.1))) D (.dT (putK (kG E) [Sum.inl mn, Sum.inl mx] (V.ref nl)))) D = some (.dT (kG E0)) ∧ GI (fun i => (LD par M i : Int)) L (i + 1) E0 ∧ GAt (upd (upd H4 nl (.lst ((xs ++ [(tn, p.2)]).map fun r => V.ref r.1))) D (.dT (putK (kG E) [Sum.inl mn, Sum.inl mx] (V.ref nl)))) E0 ∧ Same H (upd (upd H4 nl (.lst ((xs ++ [(tn, p.2)]).map fun r => V.ref r.1))) D (.dT (putK (kG E) [Sum.inl mn, Sum.inl mx] (V.ref nl)))) := fun xs nl E' hnl epk gi mem xt => by
          have nD : ∀ {b : Addr} {zs : List V}, H4 b = some (.lst zs) → b ≠ D := fun e => ne_of e eD4 (fun z => by cases z)
          have nDt : ∀ {b : Addr} {zs : List V}, H4 b = some (.tup zs) → b ≠ D := fun e => ne_of e eD4 (fun z => by cases z)
          have nlD : nl ≠ D := fun e => by rw [e, eD4] at hnl; cases hnl
          refine ⟨_, _, _, E', rfl, by rw [upd_same, epk], gi, ⟨fun e he => ?_, fun e he r hr2 => ?_⟩, sNew (sT s14 (sN hnl)) hD⟩
          · rcases mem e he with ⟨h1, h2⟩ | ⟨h1, h2⟩
            · have z := ga4.at_ e h1
              rw [upd_ne (nD z), upd_ne h2]
              exact z
            · rw [h1, h2, upd_ne nlD, upd_same]
          · have z : H4 r.1 = some (.tup (r.2.map V.int)) := by
              rcases mem e he with ⟨h1, _⟩ | ⟨_, h2⟩
              · exact ga4.tup e h1 r hr2
              · rw [h2] at hr2
                rcases List.mem_append.mp hr2 with hr2 | hr2
                · exact xt r hr2
                · rw [List.mem_singleton.mp hr2]
                  show H4 tn = some (.tup (p.2.map V.int))
                  rw [etn, e2]
                  rfl
            rw [upd_ne (nDt z), upd_ne (ne_of_none z hnl)]
            exact z
        rcases kG_get I.nd ([mn, mx] : List Int) with ⟨vn, no⟩ | ⟨e0, he0, c0, vs0⟩
        · have vn' : valV (kG E) [Sum.inl mn, Sum.inl mx] = none := vn
          rw [vn']
          refine ⟨el, l2, _, _, rfl, rfl, eel4, el2, (by show 0 + 1 ≤ sizeLine; decide), fun nl hnl => ?_⟩
          have eD5 : (upd H4 nl (.lst ([] ++ [V.ref tn]))) D = some (.dT (kG E)) := by rw [upd_ne (ne_of_none eD4 hnl)]; exact eD4
          have ept5 : (upd H4 nl (.lst ([] ++ [V.ref tn]))) pt = some (.tup ([Sum.inl mn, Sum.inl mx].map kV)) := by rw [upd_ne (ne_of_none ept4 hnl)]; exact ept4
          refine ⟨_, rfl, _, rfl, D, _, rfl, DPut.t eD5 ept5 klen, ?_⟩
          refine fin [] nl (E ++ [(crL (fun i => (LD par M i : Int)) p.2, nl, [(tn, p.2)])]) hnl ?_ (I.new hp' et crs fun e he => by rw [ekey]; exact no e he) (fun e he => ?_) (fun r hr2 => absurd hr2 List.not_mem_nil)
          · rw [putK_new _ vn', ekey]
            unfold kG
            rw [List.map_append]
            rfl
          · rcases List.mem_append.mp he with he | he
            · exact .inl ⟨he, fun z => by have y := ga4.at_ e he; rw [z, hnl] at y; cases y⟩
            · rw [List.mem_singleton.mp he]
              exact .inr ⟨rfl, rfl⟩
        · have vs0' : valV (kG E) [Sum.inl mn, Sum.inl mx] = some (.ref e0.2.1) := vs0
          rw [vs0']
          have le0 : e0.2.2.length ≤ i := by
            have z := congrArg List.length (I.grp e0 he0)
            rw [List.length_map, List.length_map] at z
            rw [z]
            refine Nat.le_trans (List.length_filter_le _ _) ?_
            rw [List.length_take]
            omega
          refine ⟨e0.2.1, l2, _, _, rfl, rfl, ga4.at_ e0 he0, el2, ?_, fun nl hnl => ?_⟩
          · rw [List.length_map]
            exact Nat.le_trans (show e0.2.2.length + 1 ≤ 1001 by omega) (by decide)
          have eD5 : (upd H4 nl (.lst (e0.2.2.map (fun p => V.ref p.1) ++ [V.ref tn]))) D = some (.dT (kG E)) := by rw [upd_ne (ne_of_none eD4 hnl)]; exact eD4
          have ept5 : (upd H4 nl (.lst (e0.2.2.map (fun p => V.ref p.1) ++ [V.ref tn]))) pt = some (.tup ([Sum.inl mn, Sum.inl mx].map kV)) := by rw [upd_ne (ne_of_none ept4 hnl)]; exact ept4
          refine ⟨_, rfl, _, rfl, D, _, rfl, DPut.t eD5 ept5 klen, ?_⟩
          have em : (e0.2.2.map (fun p => V.ref p.1) ++ [V.ref tn]) = (e0.2.2 ++ [(tn, p.2)]).map fun r => V.ref r.1 := by rw [List.map_append]; rfl
          rw [em]
          have epk : putK (kG E) [Sum.inl mn, Sum.inl mx] (V.ref nl) = kG (putG E [mn, mx] nl (tn, p.2)) := kG_put (l := [mn, mx]) ⟨e0, he0, c0⟩
          have gi : GI (fun i => (LD par M i : Int)) L (i + 1) (putG E [mn, mx] nl (tn, p.2)) := by
            rcases I.more (la := nl) hp' et with h | h
            · rw [ekey] at h
              exact h
            · exact absurd (c0.trans ekey.symm) (h e0 he0)
          refine fin e0.2.2 nl _ hnl epk gi (fun e he => ?_) (fun r hr2 => ga4.tup e0 he0 r hr2)
          rcases putG_mem he with ⟨e1, h1, c1', rfl⟩ | ⟨h1, c1'⟩
          · have e01 : e1 = e0 := by
              have idx : ∀ {E : List Grp}, (E.map (·.1)).Nodup → e1 ∈ E → e0 ∈ E → e1.1 = e0.1 → e1 = e0 := fun {E} => by
                induction E with
                | nil => exact fun _ h => absurd h List.not_mem_nil
                | cons x r ih =>
                  intro n m1 m2 ee
                  rw [List.map_cons, List.nodup_cons] at n
                  rcases List.mem_cons.mp m1 with q1 | q1
                  · rcases List.mem_cons.mp m2 with q2 | q2
                    · rw [q1, q2]
                    · exact absurd (List.mem_map.mpr ⟨e0, q2, ee.symm.trans (by rw [q1])⟩) n.1
                  · rcases List.mem_cons.mp m2 with q2 | q2
                    · exact absurd (List.mem_map.mpr ⟨e1, q1, ee.trans (by rw [q2])⟩) n.1
                    · exact ih n.2 q1 q2 ee
              exact idx I.nd h1 he0 (c1'.trans c0.symm)
            rw [e01]
            exact .inr ⟨rfl, rfl⟩
          · exact .inl ⟨h1, fun z => by have y := ga4.at_ e h1; rw [z, hnl] at y; cases y⟩
      · have eq : mn = mx := by
          by_cases z : mn = mx
          · exact z
          · rw [decide_eq_false z] at c1
            exact absurd rfl c1
        refine ⟨_, _, _, E, rfl, eD2, I.skip hp' fun ⟨y1, y2, e, ne⟩ => ?_, ga2, s12⟩
        rw [ecr, ecx] at e
        simp only [List.cons.injEq, and_true] at e
        omega
    · rintro σ H1 ⟨x3, x4, x5, E, rfl, eD, I, ga, s1⟩
      rw [List.length_map] at I
      exact ⟨_, rfl, k D E H1 s1 hD eD I ga⟩
end
end Q

namespace Q
open PySem L2 QM
abbrev sLLt : Stmt := top 88
def hdG (e : Grp) : Addr × List Int := e.2.2.headD (mainGlobals, [])
theorem hdG_mem {e : Grp} (h : e.2.2 ≠ []) : hdG e ∈ e.2.2 := by
  unfold hdG
  cases z : e.2.2 with
  | nil => exact absurd z h
  | cons a t => exact List.mem_cons_self
theorem hdG_head {e : Grp} (h : e.2.2 ≠ []) : e.2.2.head? = some (hdG e) := by
  unfold hdG
  cases z : e.2.2 with
  | nil => exact absurd z h
  | cons a t => rfl
/-- a group's first tie -/
theorem GI.head {g : Nat → Int} {L : List (Addr × List Int)} {E : List Grp} (I : GI g L L.length E) (asc : L.Pairwise (fun x y => ltP x.2 y.2)) {e : Grp} (he : e ∈ E) : crL g (hdG e).2 = e.1 ∧ (∃ p ∈ L, p.2 = (hdG e).2) ∧ ∀ p ∈ L, crL g p.2 = e.1 → p.2 = (hdG e).2 ∨ ltP (hdG e).2 p.2 := by
  have gr := I.grp e he
  rw [List.take_length] at gr
  have hd := hdG_head (I.ne e he)
  cases z : L.filter (fun p => decide (crL g p.2 = e.1)) with
  | nil =>
    rw [z] at gr
    exact absurd (List.map_eq_nil_iff.mp gr) (I.ne e he)
  | cons p0 t =>
    have hm : p0 ∈ L.filter (fun p => decide (crL g p.2 = e.1)) := by rw [z]; exact List.mem_cons_self
    obtain ⟨m1, m2⟩ := List.mem_filter.mp hm
    have e0 : (hdG e).2 = p0.2 := by
      have y := congrArg List.head? gr
      rw [List.head?_map, hd, z] at y
      exact Option.some.inj y
    have as := asc.filter (fun p => decide (crL g p.2 = e.1))
    rw [z] at as
    refine ⟨by rw [e0]; exact of_decide_eq_true m2, ⟨p0, m1, e0.symm⟩, fun p hp c => ?_⟩
    have hp2 : p ∈ p0 :: t := by
      rw [← z]
      exact List.mem_filter.mpr ⟨hp, decide_eq_true c⟩
    rcases List.mem_cons.mp hp2 with rfl | hp2
    · exact .inl e0.symm
    · rw [e0]
      exact .inr ((List.pairwise_cons.mp as).1 p hp2)
theorem GI.heads {g : Nat → Int} {L : List (Addr × List Int)} {E : List Grp} (I : GI g L L.length E) (asc : L.Pairwise (fun x y => ltP x.2 y.2)) : ((E.map hdG).map (·.2)).Nodup := by
  have e : ((E.map hdG).map (·.2)).map (crL g) = E.map (·.1) := by
    rw [List.map_map, List.map_map]
    refine List.map_congr_left fun e he => ?_
    exact (I.head asc he).1
  have nd := I.nd
  rw [← e] at nd
  exact (List.pairwise_map.mp nd).imp fun h c => h (by rw [c])
theorem GI.least {g : Nat → Int} {L : List (Addr × List Int)} {E : List Grp} (I : GI g L L.length E) (asc : L.Pairwise (fun x y => ltP x.2 y.2)) (l : List Int) : (∃ p ∈ E.map hdG, p.2 = l) ↔ LstV g L l := by
  constructor
  · rintro ⟨p, hp, rfl⟩
    obtain ⟨e, he, rfl⟩ := List.mem_map.mp hp
    obtain ⟨h1, h2, h3⟩ := I.head asc he
    obtain ⟨x, y, ex, ne⟩ := I.crs e he
    exact ⟨h2, ⟨x, y, h1.trans ex, ne⟩, fun p hp c => h3 p hp (c.trans h1)⟩
  · rintro ⟨⟨p, hp, rfl⟩, c, least⟩
    obtain ⟨e, he, ec⟩ := I.all p (by rw [List.take_length]; exact hp) c
    obtain ⟨h1, ⟨r, hr, er⟩, h3⟩ := I.head asc he
    refine ⟨hdG e, List.mem_map.mpr ⟨e, he, rfl⟩, ?_⟩
    rcases h3 p hp ec.symm with h | h
    · exact h.symm
    · rcases least r hr (by rw [er, h1, ec]) with h' | h'
      · rw [← er]
        exact h'
      · rw [er] at h'
        exact absurd (ltP_trans h h') ltP_irr
theorem kG_at {E : List Grp} (nd : (E.map (·.1)).Nodup) {e : Grp} (he : e ∈ E) : valV (kG E) (e.1.map Sum.inl) = some (.ref e.2.1) := by
  induction E with
  | nil => exact absurd he List.not_mem_nil
  | cons a r ih =>
    rw [List.map_cons, List.nodup_cons] at nd
    have ex : kG (a :: r) = (a.1.map Sum.inl, V.ref a.2.1) :: kG r := rfl
    rcases List.mem_cons.mp he with c | he
    · rw [ex, c, valV_pos (p := (a.1.map Sum.inl, V.ref a.2.1)) rfl]
    · rw [ex, valV_neg (p := (a.1.map Sum.inl, V.ref a.2.1)) (fun z => nd.1 (List.mem_map.mpr ⟨e, he, (inl_inj z).symm⟩))]
      exact ih nd.2 he
def spLLt : Sp := fun vs H Q _ => ∃ (W q pa : Addr) (M : Nat) (L : List (Addr × List Int)) (par : Nat → Option Nat) (rk : Nat → Nat), vs = [.ref W, .ref pa] ∧ LWeb H W q (M : Int) L ∧ H pa = some (.tup (pVs M par)) ∧ ParOk M par rk ∧ M ≤ 40 ∧
  ∀ t T H', Same H H' → H t = none → LeastAt (fun i => (LD par M i : Int)) L (M : Int) H' t T → Q (.ref t) H'
section
variable {P : Program} {w : World} {K : PySem.W.Frag} {mg : Str → Option Value} {base : Heap}
theorem scLLt : FnScope ["web", "parents", "between", "pair"] ["web", "parents"] (defScope sLLt) := ⟨rfl, rfl, rfl, by decide +kernel, rfl, by decide +kernel, by decide +kernel⟩
theorem ok_llt {f fL fB : Addr} {fd dL dB : FuncData} (F : Fun K "_law_least_ties" "_law_least_ties" sLLt f fd) (B : Bts mg) (DL : Df K mg "_law_leader" sLLd ["parents", "house"] fL dL) (DB : Df K mg "_law_between" sBtw ["web", "parents"] fB dB) : FnOk P w K mg base CX0 3 f fd ["web", "parents"] spLLt := by
  have GB : FnOk P w K mg base CX0 2 fB dB ["web", "parents"] spBtw := ok_btw DB.F B DL
  refine F.ok scLLt (fun vs H Q E h => ?_) (fun cdv A outer s H vs Q E hr h => ?_)
  · obtain ⟨W, q, pa, M, L, par, rk, rfl, _⟩ := h
    rfl
  · obtain ⟨W, q, pa, M, L, par, rk, rfl, lw, hp, po, m40, k⟩ := h
    have nd := scLLt.nd
    refine ⟨_, pss_cons (ps_set (i := 2) nd rfl (.inr rfl) (pe_call GB hr rfl DB.m DB.k DB.b .nil pass0 (pa_cons (pv 0) (pa_cons (pv 1) pa_nil))))
      (pss_one (ps_ret (pe_callTy call_tuple_of (by rfl) B.tuple PyProof.Rows.boot_tuple (pa_cons (pe_callB cr_sortedPO (by rfl) B.sorted PyProof.Rows.boot_sorted (pa_cons (pe_lock
        (pe_lc (own := [("pair", 3)]) (g := gName 3) (tt := tYes) rfl nd (pi_keys (pv 2)) (blkOk_by (N := ["web", "parents", "between", "pair"]) (sc := defScope sLLt) (by decide +kernel)) (fun _ _ _ _ _ => pg_name (i := 3) nd rfl (.inl rfl)) (fun _ _ _ _ _ => pts_nil)
          (fun _ _ _ _ _ => pe_ix (r := rIxL K) ix_list (pe_dget (hu_of hr) (pv 2) (pv 3) (by intro _ _; rfl)) pe_int (fun _ _ => rfl)))) pa_nil)) pa_nil)))), ?_⟩
    have few := lw.2.few
    refine ⟨_, rfl, _, rfl, W, q, pa, M, L, par, rk, rfl, lw, hp, po, m40, fun D E H1 s1 hD eD I ga => ?_⟩
    have lenE := I.len
    refine ⟨D, _, eD, trivial, fun od => ?_⟩
    refine ⟨_, rfl, D, od, rfl, .inr ⟨_, upd_same, fun Dl hDl => lc_it (walk_keysT (d := D) (o := od) (kvs := kG E)) (fun i H' => H' Dl = some (.lst ((E.take i).map fun e => V.ref (hdG e).1)) ∧ i ≤ E.length ∧ H' D = some (.frz od (.dT (kG E))) ∧ (∀ b o, H1 b = some o → b ≠ D → H' b = some o)) ?_ ?_ ?_ ?_⟩⟩
    · have nd2 : D ≠ Dl := fun e => by rw [← e, upd_same] at hDl; cases hDl
      refine ⟨upd_same, Nat.zero_le _, by rw [upd_ne nd2, upd_same], fun b o e nb => ?_⟩
      have hb : b ≠ Dl := fun z => by rw [← z, upd_ne nb, e] at hDl; cases hDl
      rw [upd_ne hb, upd_ne nb]
      exact e
    · rintro i H2 hi ⟨_, _, eF, _⟩
      exact eF
    · rintro i x H2 H3 hi ⟨eL, _, eF, kp⟩ ⟨rfl, ky, vv, qk, hk, rfl, eqk⟩
      have hiE : i < E.length := by
        unfold kG at hi
        rw [List.length_map] at hi
        exact hi
      have hke : (kG E)[i]? = some (E[i].1.map Sum.inl, V.ref E[i].2.1) := by
        unfold kG
        rw [List.getElem?_map, List.getElem?_eq_getElem hiE]
        rfl
      rw [hke] at hk
      obtain ⟨rfl, rfl⟩ := Prod.mk.inj (Option.some.inj hk)
      have hm : E[i] ∈ E := List.getElem_mem hiE
      have hl := ga.at_ _ hm
      have nD : E[i].2.1 ≠ D := ne_of hl eD (fun z => by cases z)
      have a0 : atI (E[i].2.2.map fun p => V.ref p.1) 0 = some (V.ref (hdG E[i]).1) := by
        have h := hdG_head (I.ne _ hm)
        cases z : E[i].2.2 with
        | nil => exact absurd z (I.ne _ hm)
        | cons c t =>
          rw [z] at h
          have e : c = hdG E[i] := Option.some.inj h
          rw [← e]
          exact atI_nat (xs := (c :: t).map fun p => V.ref p.1) (j := 0) rfl
      refine ⟨rfl, _, rfl, _, rfl, D, _, rfl, .inr ⟨_, _, qk, .inr ⟨od, eF⟩, rfl, eqk, (kG_at I.nd hm).symm⟩, E[i].2.1, _, 0, _, rfl, rfl, SqL.of (kp _ _ hl nD), a0, ?_⟩
      have nDl : ∀ {b : Addr} {zs : List V}, H1 b = some (.lst zs) → b ≠ D → True := fun _ _ => trivial
      have DlD : D ≠ Dl := fun z => by rw [← z, eF] at eL; cases eL
      refine ⟨_, eL, ?_, ?_, hiE, ?_, fun b o e nb => ?_⟩
      · rw [List.length_map, List.length_take]
        exact Nat.lt_of_lt_of_le (show min i E.length < 1000 by omega) (by decide)
      · rw [upd_same, List.take_add_one, List.getElem?_eq_getElem hiE, List.map_append]
        rfl
      · rw [upd_ne DlD]
        exact eF
      · have hb : b ≠ Dl := fun z => by
          rw [← z, upd_ne nb, e] at hDl
          cases hDl
        rw [upd_ne hb]
        exact kp b o e nb
    · rintro H2 ⟨eL, _, eF, kp⟩
      have lk : (kG E).length = E.length := by
        unfold kG
        rw [List.length_map]
      rw [lk, List.take_length] at eL
      refine ⟨eF, ?_⟩
      have s3 : Same H (upd H2 D (.dT (kG E))) := fun b o e => by
        have nb : b ≠ D := ne_of_none e hD
        rw [upd_ne nb]
        exact kp b o (s1 _ _ e) nb
      have DlD : Dl ≠ D := fun z => by rw [z, eF] at eL; cases eL
      have el : (upd H2 D (.dT (kG E))) Dl = some (.lst ((E.map hdG).map fun p => V.ref p.1)) := by
        rw [upd_ne DlD, List.map_map]
        exact eL
      have tups : ∀ p ∈ E.map hdG, (upd H2 D (.dT (kG E))) p.1 = some (.tup (p.2.map V.int)) := fun p hp => by
        obtain ⟨e, he, rfl⟩ := List.mem_map.mp hp
        have z := ga.tup e he _ (hdG_mem (I.ne e he))
        have nb := ne_of z eD (fun z => by cases z)
        rw [upd_ne nb]
        exact kp _ _ z nb
      have oks : ∀ p ∈ E.map hdG, ∃ a b : Int, p.2 = [a, b] ∧ 0 ≤ a ∧ a < b ∧ b < (M : Int) := fun p hp => by
        obtain ⟨e, he, rfl⟩ := List.mem_map.mp hp
        obtain ⟨_, ⟨r, hr2, er⟩, _⟩ := I.head lw.2.asc he
        rw [← er]
        exact lw.2.ok r hr2
      revert s3 el tups
      generalize upd H2 D (.dT (kG E)) = H3
      intro s3 el tups
      have pr : Pairs (M : Int) H3 Dl (E.map hdG) := ⟨el, tups, oks⟩
      refine ⟨Dl, (E.map hdG).map (fun p => V.ref p.1), kH H3, rfl, SqL.of el, fun y hy => ?_, fun ys sp sr sb hsp => ?_⟩
      · obtain ⟨p, hp', rfl⟩ := List.mem_map.mp hy
        obtain ⟨a, b, e, _⟩ := pr.ok p hp'
        have t := pr.tup p hp'
        rw [e] at t
        refine ⟨p.1, rfl, ?_⟩
        rw [kH_at t]
        exact t
      obtain ⟨Ts, rfl, perm, asc⟩ := sorted_nd pr (I.heads lw.2.asc) sb.perm sr
      refine ⟨sp, _, rfl, .inl ⟨SqL.of upd_same, fun t ht => ?_⟩⟩
      have s4 := sN (o := .lst (Ts.map fun p => V.ref p.1)) hsp
      have s5 := sT s4 (sN (o := .tup (Ts.map fun p => V.ref p.1)) ht)
      have ht0 : H t = none := by
        cases z : H t with
        | none => rfl
        | some o => rw [s4 _ _ (s3 _ _ z)] at ht; cases ht
      refine k t Ts _ (sT s3 s5) ht0 ⟨upd_same, fun p hp' => s5 _ _ (pr.tup p (perm.mem_iff.mp hp')), fun p hp' => pr.ok p (perm.mem_iff.mp hp'), asc, by rw [perm.length_eq, List.length_map]; exact lenE, fun lv => ?_⟩
      rw [← I.least lw.2.asc lv]
      constructor
      · rintro ⟨p, hp', e⟩
        exact ⟨p, perm.mem_iff.mp hp', e⟩
      · rintro ⟨p, hp', e⟩
        exact ⟨p, perm.mem_iff.mpr hp', e⟩
end
end Q

namespace Q
open PySem L2 QM
abbrev sAsc : Stmt := top 12
/-- t[lo:hi], its items -/
def rSlC : V → Option Int → Option Int → Hp → VK → Prop := fun x lo hi H Q => ∃ a xs, x = .ref a ∧ H a = some (.tup xs) ∧ ∀ z H', Same H H' → H' z = some (.tup (cutV xs lo hi)) → Q (.ref z) H'
theorem sl_C {X : Cx} : SlR X rSlC := by
  intro pins s σ H x v vl vu lo hi sl Q I rx hs pl pu h
  obtain ⟨a, xs, rfl, ha, k⟩ := h
  refine sl_tupA pins s σ H _ v vl vu lo hi sl Q I rx hs pl pu ⟨a, xs, rfl, SqT.of ha, fun e => k a H (fun _ _ e => e) ?_, fun _ p hp => k p _ (sN hp) upd_same⟩
  rw [ha]
  congr 2
  unfold cutV
  rw [e.1, e.2]
  simp
theorem cut_tail (x : V) (r : List V) : cutV (x :: r) (some 1) none = r := by
  unfold cutV
  have e1 : HT.sIx (x :: r).length 0 (some ((1 : Nat) : Int)) = min 1 (x :: r).length := HT.sIx_nat _ _ 1
  have e2 : HT.sIx (x :: r).length (x :: r).length none = (x :: r).length := rfl
  show ((x :: r).drop (HT.sIx (x :: r).length 0 (some ((1 : Nat) : Int)))).take (HT.sIx (x :: r).length (x :: r).length none - HT.sIx (x :: r).length 0 (some ((1 : Nat) : Int))) = r
  rw [e1, e2, List.length_cons]
  rw [show min 1 (r.length + 1) = 1 by omega]
  simp

theorem cut_tl (xs : List V) : cutV xs (some 1) none = xs.tail := by
  cases xs with
  | nil => rfl
  | cons x r => exact cut_tail x r
theorem lexLt_of {x y : List Int} (h : ltP x y) : HT.lexLt x y = true := by
  obtain ⟨a, b, c, d, rfl, rfl, h⟩ := h
  show (if a = c then (if b = d then HT.lexLt [] [] else decide (b < d)) else decide (a < c)) = true
  rcases h with h | ⟨h1, h2⟩
  · rw [if_neg (by omega), decide_eq_true h]
  · rw [if_pos h1, if_neg (by omega), decide_eq_true h2]
def spAsc : Sp := fun vs H Q _ => ∃ (t : Addr) (T : List (Addr × List Int)), vs = [.ref t] ∧ H t = some (.tup (T.map fun p => V.ref p.1)) ∧ (∀ p ∈ T, H p.1 = some (.tup (p.2.map V.int))) ∧ T.Pairwise (fun x y => ltP x.2 y.2) ∧ T.length ≤ 1000 ∧ ∀ H', Same H H' → Q (.bl true) H'
section
variable {P : Program} {w : World} {K : PySem.W.Frag} {mg : Str → Option Value} {base : Heap}
theorem scAsc : FnScope ["things", "low", "high"] ["things"] (defScope sAsc) := ⟨rfl, rfl, rfl, by decide +kernel, rfl, by decide +kernel, by decide +kernel⟩
theorem ok_asc {f : Addr} {fd : FuncData} (F : Fun K "is_ascending" "is_ascending" sAsc f fd) (B : Bts mg) (hz : mg "zip" = none) (ha : mg "all" = none) : FnOk P w K mg base CX0 1 f fd ["things"] spAsc := by
  refine F.ok scAsc (fun vs H Q E h => ?_) (fun cdv A outer s H vs Q E hr h => ?_)
  · obtain ⟨t, T, rfl, _⟩ := h
    rfl
  · obtain ⟨t, T, rfl, ht, tp, asc, hl, k⟩ := h
    have nd := scAsc.nd
    have hu := hr.units0
    refine ⟨_, pss_one (ps_ret (pe_callB (cr_all rfl) (by rfl) ha PyProof.Rows.boot_all (pa_cons (pe_lc (own := [("low", 1), ("high", 2)]) (g := gTup K 2 (gCons (gName 1) (gCons (gName 2) gNil))) (tt := tYes) rfl nd (RZ.pi_zipA rfl hz (pa_cons (pv 0) (pa_cons (pe_slice sl_C (pv 0) (po_some pe_int) po_none) pa_nil)))
      (blkOk_by (N := ["things", "low", "high"]) (sc := defScope sAsc) (by decide +kernel)) (fun _ _ _ _ _ => pg_tup rfl (pgs_cons (pg_name (i := 1) nd rfl (.inl rfl)) (pgs_cons (pg_name (i := 2) nd rfl (.inl rfl)) pgs_nil))) (fun _ _ _ _ _ => pts_nil)
      (fun _ _ _ _ _ => pe_cmpR (r := rLtT K) (op_ltT hu) (pv 1) (pv 2) (nomark _))) pa_nil))), ?_⟩
    refine ⟨_, rfl, _, rfl, 1, rfl, t, _, rfl, ht, fun z H1 s1 hz1 => ?_⟩
    rw [cut_tl, ← List.map_tail] at hz1
    refine ⟨t, z, T.map (fun p => V.ref p.1), T.tail.map (fun p => V.ref p.1), rfl, .inr ⟨SqT.of (s1 _ _ ht), SqT.of hz1, fun D hD => lc_it (walk_zipT (K := K) (a := t) (b := z) (xs := T.map fun p => V.ref p.1) (ys := T.tail.map fun p => V.ref p.1) (n := T.length - 1) (by rw [List.length_map, List.length_map, List.length_tail]; omega)) (fun i H' => H' D = some (.lst ((List.replicate i true).map V.bl)) ∧ i ≤ T.length ∧ Same H1 H') ?_ ?_ ?_ ?_⟩⟩
    · exact ⟨upd_same, Nat.zero_le _, sN hD⟩
    · rintro i H3 hi ⟨_, _, s3⟩
      exact ⟨SqT.of (s3 _ _ (s1 _ _ ht)), SqT.of (s3 _ _ hz1)⟩
    · rintro i v H3 H4 hi ⟨eD, _, s3⟩ ⟨T', x, y, rfl, hT, rfl, hx, hy⟩
      have s4 := sN (o := .tup [x, y]) hT
      have hx' : (T.map fun p => V.ref p.1)[i]? = some x := hx
      have hy' : (T.tail.map fun p => V.ref p.1)[i]? = some y := hy
      obtain ⟨p, hp, rfl⟩ := map_inv hx'
      obtain ⟨r, hr2, rfl⟩ := map_inv hy'
      have hr3 : T[i + 1]? = some r := by
        rw [List.getElem?_tail] at hr2
        exact hr2
      obtain ⟨h1, e1⟩ := List.getElem?_eq_some_iff.mp hp
      obtain ⟨h2, e2⟩ := List.getElem?_eq_some_iff.mp hr3
      have lt : ltP p.2 r.2 := by
        have z := List.pairwise_iff_getElem.mp asc i (i + 1) h1 h2 (by omega)
        rw [e1, e2] at z
        exact z
      have ss := sT s1 (sT s3 s4)
      refine ⟨T', _, rfl, SqT.of upd_same, rfl, _, _, rfl, _, _, rfl, rfl, rfl, ?_⟩
      refine ⟨_, rfl, _, rfl, p.1, r.1, p.2, r.2, rfl, rfl, SqT.of (ss _ _ (tp p (List.mem_of_getElem? hp))), SqT.of (ss _ _ (tp r (List.mem_of_getElem? hr3))), ?_⟩
      rw [lexLt_of lt]
      refine ⟨_, s4 _ _ eD, ?_, ?_, by omega, ?_⟩
      · rw [List.length_map, List.length_replicate]
        exact Nat.lt_of_lt_of_le (show i < 1001 by omega) (by decide)
      · rw [upd_same, List.replicate_succ', List.map_append]
        rfl
      · exact sNew (sT s3 s4) hD
    · rintro H3 ⟨eD, _, s3⟩
      refine ⟨D, List.replicate (T.length - 1) true, rfl, SqL.of eD, ?_⟩
      have e : (List.replicate (T.length - 1) true).all id = true := by
        rw [List.all_eq_true]
        intro x hx
        rw [(List.mem_replicate.mp hx).2]
        rfl
      rw [e]
      exact k _ (sT s1 s3)
end
end Q

namespace Q
open PySem L2 QM
theorem asc_ext : ∀ (xs ys : List (List Int)), xs.Pairwise ltP → ys.Pairwise ltP → (∀ l, l ∈ xs ↔ l ∈ ys) → xs = ys
  | [], [], _, _, _ => rfl
  | [], y :: ys, _, _, h => absurd ((h y).mpr List.mem_cons_self) List.not_mem_nil
  | x :: xs, [], _, _, h => absurd ((h x).mp List.mem_cons_self) List.not_mem_nil
  | x :: xs, y :: ys, h1, h2, h => by
    rw [List.pairwise_cons] at h1 h2
    have e : x = y := by
      rcases List.mem_cons.mp ((h x).mp List.mem_cons_self) with e | m1
      · exact e
      · rcases List.mem_cons.mp ((h y).mpr List.mem_cons_self) with e | m2
        · exact e.symm
        · exact absurd (ltP_trans (h1.1 y m2) (h2.1 x m1)) ltP_irr
    subst e
    rw [asc_ext xs ys h1.2 h2.2 fun l => ?_]
    constructor
    · intro m
      rcases List.mem_cons.mp ((h l).mp (List.mem_cons_of_mem _ m)) with e | m2
      · exact absurd (h1.1 l m) (by rw [e]; exact ltP_irr)
      · exact m2
    · intro m
      rcases List.mem_cons.mp ((h l).mpr (List.mem_cons_of_mem _ m)) with e | m2
      · exact absurd (h2.1 l m) (by rw [e]; exact ltP_irr)
      · exact m2
theorem depth_pTs : ∀ L : List (Addr × List Int), PyData.depthAll (L.map fun p => pT p.2) ≤ 1
  | [] => by simp [PyData.depthAll]
  | p :: r => by
    have ih := depth_pTs r
    rw [List.map_cons]
    simp only [PyData.depthAll, depth_pT]
    omega
theorem shaped_pTs (L : List (Addr × List Int)) : SeqAt.shaped (.list (L.map fun p => pT p.2)) = true := by
  unfold SeqAt.shaped
  have h := depth_pTs L
  refine Bool.and_eq_true_iff.mpr ⟨?_, decide_eq_true ?_⟩
  · simp only [PyData.canLay0, lay_all]
  · simp only [PyData.depth]
    omega
theorem eqv_pTs : ∀ {L L' : List (Addr × List Int)}, L.map (·.2) = L'.map (·.2) → PyData.eqvAll (L.map fun p => pT p.2) (L'.map fun p => pT p.2) = true
  | [], [], _ => rfl
  | [], _ :: _, e => by cases e
  | _ :: _, [], e => by cases e
  | p :: r, p' :: r', e => by
    rw [List.map_cons, List.map_cons] at e
    obtain ⟨e1, e2⟩ := List.cons.inj e
    have ih := eqv_pTs e2
    have e0 : PyData.eqv (pT p.2) (pT p'.2) = true := by
      unfold pT
      simp only [PyData.eqv, eqv_ints]
      exact decide_eq_true e1
    rw [List.map_cons, List.map_cons]
    simp only [PyData.eqvAll, e0, ih, Bool.and_self]
/-- chosen ties that are right, as they stand -/
structure ChoAt (g : Nat → Int) (L : List (Addr × List Int)) (m : Int) (H : Hp) (t : Addr) (T : List (Addr × List Int)) : Prop where
  at_ : H t = some (.tup (T.map fun p => V.ref p.1))
  tup : ∀ p ∈ T, H p.1 = some (.tup (p.2.map V.int))
  ok : ∀ p ∈ T, ∃ a b : Int, p.2 = [a, b] ∧ 0 ≤ a ∧ a < b ∧ b < m
  asc : T.Pairwise (fun x y => ltP x.2 y.2)
  len : T.length ≤ L.length
  sub : ∀ p ∈ T, ∃ r ∈ L, r.2 = p.2
  crs : ∀ p ∈ T, CrossL g p.2
  all : ∀ r ∈ L, CrossL g r.2 → ∃ p ∈ T, crL g p.2 = crL g r.2
  nd : (T.map fun p => crL g p.2).Nodup
theorem ChoAt.same {g : Nat → Int} {L : List (Addr × List Int)} {m : Int} {H H' : Hp} {t : Addr} {T : List (Addr × List Int)} (h : ChoAt g L m H t T) (s : Same H H') : ChoAt g L m H' t T := ⟨s _ _ h.at_, fun p hp => s _ _ (h.tup p hp), h.ok, h.asc, h.len, h.sub, h.crs, h.all, h.nd⟩
theorem LeastAt.cho {g : Nat → Int} {L : List (Addr × List Int)} {m : Int} {H : Hp} {t : Addr} {T : List (Addr × List Int)} (h : LeastAt g L m H t T) (asc : L.Pairwise (fun x y => ltP x.2 y.2)) : ChoAt g L m H t T := by
  have lv : ∀ p ∈ T, LstV g L p.2 := fun p hp => (h.mem p.2).mp ⟨p, hp, rfl⟩
  refine ⟨h.at_, h.tup, h.ok, h.asc, h.len, fun p hp => (lv p hp).1, fun p hp => (lv p hp).2.1, fun r hr c => ?_, ?_⟩
  · -- the least of those with these clusters
    have key : ∀ (X : List (Addr × List Int)), X.Pairwise (fun x y => ltP x.2 y.2) → (∃ r' ∈ X, crL g r'.2 = crL g r.2) → ∃ p ∈ X, crL g p.2 = crL g r.2 ∧ ∀ q ∈ X, crL g q.2 = crL g r.2 → q.2 = p.2 ∨ ltP p.2 q.2 := by
      intro X
      induction X with
      | nil => exact fun _ ⟨_, h, _⟩ => absurd h List.not_mem_nil
      | cons x xs ih =>
        intro ax ⟨r', hr', er⟩
        rw [List.pairwise_cons] at ax
        by_cases c : crL g x.2 = crL g r.2
        · refine ⟨x, List.mem_cons_self, c, fun q hq e => ?_⟩
          rcases List.mem_cons.mp hq with rfl | hq
          · exact .inl rfl
          · exact .inr (ax.1 q hq)
        · have hr2 : r' ∈ xs := by
            rcases List.mem_cons.mp hr' with e | h
            · exact absurd (by rw [← e]; exact er) c
            · exact h
          obtain ⟨p, hp, e1, l1⟩ := ih ax.2 ⟨r', hr2, er⟩
          refine ⟨p, List.mem_cons_of_mem _ hp, e1, fun q hq e => ?_⟩
          rcases List.mem_cons.mp hq with e2 | hq
          · exact absurd (by rw [← e2]; exact e) c
          · exact l1 q hq e
    obtain ⟨p, hp, e1, l1⟩ := key L asc ⟨r, hr, rfl⟩
    have cp : CrossL g p.2 := by
      obtain ⟨x, y, e, ne⟩ := c
      exact ⟨x, y, e1.trans e, ne⟩
    obtain ⟨p', hp', e'⟩ := (h.mem p.2).mpr ⟨⟨p, hp, rfl⟩, cp, fun q hq e => l1 q hq (e.trans e1)⟩
    exact ⟨p', hp', by rw [e']; exact e1⟩
  · refine List.pairwise_map.mpr (h.asc.imp_of_mem fun {x y} hx hy lt e => ?_)
    obtain ⟨⟨ry, hry, ey⟩, _, _⟩ := lv y hy
    have z := (lv x hx).2.2 ry hry (by rw [ey]; exact e.symm)
    obtain ⟨⟨rx, hrx, ex⟩, _, _⟩ := lv x hx
    have z2 := (lv y hy).2.2 rx hrx (by rw [ex]; exact e)
    rw [ey] at z
    rw [ex] at z2
    rcases z2 with z2 | z2
    · rw [z2] at lt
      exact ltP_irr lt
    · exact ltP_irr (ltP_trans lt z2)
theorem LeastAt.same {g : Nat → Int} {L : List (Addr × List Int)} {m : Int} {H H' : Hp} {t : Addr} {T : List (Addr × List Int)} (h : LeastAt g L m H t T) (s : Same H H') : LeastAt g L m H' t T := ⟨s _ _ h.at_, fun p hp => s _ _ (h.tup p hp), h.ok, h.asc, h.len, h.mem⟩
theorem LeastAt.uniq {g : Nat → Int} {L : List (Addr × List Int)} {m : Int} {H H' : Hp} {t t' : Addr} {T T' : List (Addr × List Int)} (h : LeastAt g L m H t T) (h' : LeastAt g L m H' t' T') : T.map (·.2) = T'.map (·.2) := by
  refine asc_ext _ _ (List.pairwise_map.mpr h.asc) (List.pairwise_map.mpr h'.asc) fun l => ?_
  rw [List.mem_map, List.mem_map]
  exact (h.mem l).trans (h'.mem l).symm
end Q

namespace Q
open PySem L2 QM
abbrev sAreC : Stmt := top 56
theorem pe_fldK {X : Cx} {K : PySem.W.Frag} {e : Expr} {f : Str} {pos : Pos} {ta : TE} (hK : X.K = K) (he : PE X e ta) (hb : attributeBase e f X.env (eval e X.env) = eval e X.env) : PE X (.Attribute e f pos) (tFld K ta f) := by
  subst hK
  exact pe_fld he hb
theorem all_rep (n : Nat) : (List.replicate n true).all id = true := by
  rw [List.all_eq_true]
  intro x hx
  rw [(List.mem_replicate.mp hx).2]
  rfl
theorem cx_ok {x y m : Int} (hx : 0 ≤ x ∧ x < m) (hy : 0 ≤ y ∧ y < m) (c : ∃ u v : Int, cx x y = [u, v] ∧ u ≠ v) : ∃ u v : Int, cx x y = [u, v] ∧ 0 ≤ u ∧ u < v ∧ v < m := by
  obtain ⟨u, v, e, ne⟩ := c
  refine ⟨u, v, e, ?_⟩
  unfold cx at e
  simp only [List.cons.injEq, and_true] at e
  obtain ⟨e1, e2⟩ := e
  by_cases c : y < x
  · rw [if_pos c] at e1
    rw [if_neg (by omega)] at e2
    omega
  · rw [if_neg c] at e1
    by_cases d : y > x
    · rw [if_pos d] at e2
      omega
    · rw [if_neg d] at e2
      omega
def spAreC (C : Addr) : Sp := fun vs H Q _ => ∃ (w dx q r la t : Addr) (M : Nat) (L : List (Addr × List Int)) (bs : List Addr) (nb : Nat → List Int) (g : Nat → Int) (T : List (Addr × List Int)), vs = [.ref w, .ref la, .ref t] ∧ WebIn C (M : Int) L H w dx q r bs nb ∧ TiesAt (M : Int) H q L ∧ H la = some (.tup (flN M g)) ∧ (∀ i, i < M → 0 ≤ g i ∧ g i < (M : Int)) ∧ ChoAt g L (M : Int) H t T ∧ M ≤ 40 ∧
  ∀ H', Same H H' → Q (.bl true) H'
section
variable {P : Program} {w : World} {K : PySem.W.Frag} {mg : Str → Option Value} {base : Heap}
theorem scAreC : FnScope ["web", "leaders", "thing", "due", "tie"] ["web", "leaders", "thing"] (defScope sAreC) := ⟨rfl, rfl, rfl, by decide +kernel, rfl, by decide +kernel, by decide +kernel⟩
theorem ok_arec {f C fC fA fL : Addr} {fd dC dA dL : FuncData} (F : Fun K "are_chosen" "are_chosen" sAreC f fd) (B : Bts mg) (hz : mg "zip" = none) (ha : mg "all" = none) (T0 : WTxt K mg C) (D0 : WDefs K mg) (DC : Df K mg "crossed_by" sCross ["leaders", "tie"] fC dC)
    (DA : Df K mg "is_ascending" sAsc ["things"] fA dA) (DL : Df K mg "least_ties" sLeast ["web", "leaders"] fL dL) : FnOk P w K mg base CX0 4 f fd ["web", "leaders", "thing"] (spAreC C) := by
  have GC : FnOk P w K mg base CX0 1 fC dC ["leaders", "tie"] spCross := ok_cross DC.F B
  have GA : FnOk P w K mg base CX0 1 fA dA ["things"] spAsc := ok_asc DA.F B hz ha
  have GL2 : FnOk P w K mg base CX0 2 fL dL ["web", "leaders"] (spLeast C) := ok_least DL.F B T0 DC
  have GT : FnOk P w K mg base CX0 3 D0.fT D0.dT ["many", "thing"] spTie := ok_tie D0.DT.F B D0.DP D0.DN
  refine F.ok scAreC (fun vs H Q E h => ?_) (fun cdv A outer s H vs Q E hr h => ?_)
  · obtain ⟨w, dx, q, r, la, t, M, L, bs, nb, g, T, rfl, _⟩ := h
    rfl
  · obtain ⟨w, dx, q, r, la, t, M, L, bs, nb, g, T, rfl, x, tt, hla, gM, cho, m40, k⟩ := h
    have nd := scAreC.nd
    have hr1 : Room 1 _ := hr.mono (by decide)
    have hr2 : Room 2 _ := hr.mono (by decide)
    have hu := hr.units
    refine ⟨_, pss_cons (ps_if (PW.pt (pw_or (pt_not (pt_val (pe_callB call_isi (by rfl) B.isinstance PyProof.Rows.boot_isinstance (pa_cons (pv 2) (pa_cons (pe_bltn (v := .ty "tuple") rfl B.tuple PyProof.Rows.boot_tuple rfl) pa_nil)))))
        (pw_or1 (pt_not (pt_val (pe_callB (cr_all rfl) (by rfl) ha PyProof.Rows.boot_all (pa_cons (pe_lc (own := [("tie", 4)]) (g := gName 4) (tt := tYes) rfl nd (pi_tup (pv 2))
          (blkOk_by (N := ["web", "leaders", "thing", "due", "tie"]) (sc := defScope sAreC) (by decide +kernel)) (fun _ _ _ _ _ => pg_name (i := 4) nd rfl (.inl rfl)) (fun _ _ _ _ _ => pts_nil)
          (fun _ _ _ _ _ => pe_call GT hr rfl D0.DT.m D0.DT.k D0.DT.b .nil pass0 (pa_cons (pe_fldK (K := K) rfl (pv 0) rfl) (pa_cons (pv 4) pa_nil)))) pa_nil))))))) pss_never pss_nil)
      (pss_cons (ps_if (PW.pt (pw_or (pt_not (pt_val (pe_call GA hr1 rfl DA.m DA.k DA.b .nil pass0 (pa_cons (pv 2) pa_nil))))
        (pw_or1 (pt_not (pt_val (pe_callB (cr_all rfl) (by rfl) ha PyProof.Rows.boot_all (pa_cons (pe_lc (own := [("tie", 4)]) (g := gName 4) (tt := tYes) rfl nd (pi_tup (pv 2))
          (blkOk_by (N := ["web", "leaders", "thing", "due", "tie"]) (sc := defScope sAreC) (by decide +kernel)) (fun _ _ _ _ _ => pg_name (i := 4) nd rfl (.inl rfl)) (fun _ _ _ _ _ => pts_nil)
          (fun _ _ _ _ _ => pe_cmpR (op_inP hu) (pv 4) (pe_fldK (K := K) rfl (pv 0) rfl) rfl)) pa_nil))))))) pss_never pss_nil)
      (pss_cons (ps_setLc (i := 3) (own := [("tie", 4)]) (g := gName 4) (tt := tYes) rfl nd rfl rfl (sw_true rfl rfl rfl (by decide +kernel)) (pi_tup (pe_call GL2 hr2 rfl DL.m DL.k DL.b .nil pass0 (pa_cons (pv 0) (pa_cons (pv 1) pa_nil))))
          (blkOk_by (N := ["web", "leaders", "thing", "due", "tie"]) (sc := defScope sAreC) (by decide +kernel)) (fun _ _ _ _ _ => pg_name (i := 4) nd rfl (.inl rfl)) (fun _ _ _ _ _ => pts_nil)
          (fun _ _ _ _ _ => pe_call GC hr1 rfl DC.m DC.k DC.b .nil pass0 (pa_cons (pv 1) (pa_cons (pv 4) pa_nil))))
      (pss_one (ps_ret (pe_cmpR (op_eqD hu) (pe_callB cr_sortedPO (by rfl) B.sorted PyProof.Rows.boot_sorted (pa_cons (pe_lc (own := [("tie", 4)]) (g := gName 4) (tt := tYes) rfl nd (pi_tup (pv 2))
          (blkOk_by (N := ["web", "leaders", "thing", "due", "tie"]) (sc := defScope sAreC) (by decide +kernel)) (fun _ _ _ _ _ => pg_name (i := 4) nd rfl (.inl rfl)) (fun _ _ _ _ _ => pts_nil)
          (fun _ _ _ _ _ => pe_call GC hr1 rfl DC.m DC.k DC.b .nil pass0 (pa_cons (pv 1) (pa_cons (pv 4) pa_nil)))) pa_nil)) (pe_callB cr_sortedPO (by rfl) B.sorted PyProof.Rows.boot_sorted (pa_cons (pv 3) pa_nil)) (nomark _)))))), ?_⟩
    have few := tt.few
    have lT := cho.len
    refine ⟨_, rfl, .ref t, .ty "tuple", .type "tuple", .type "tuple", true, rfl, .ty _, .base (.tup cho.at_), kit_ty (by decide +kernel), _, rfl, iteF ?_⟩
    refine ⟨_, rfl, t, rfl, ⟨_, SqT.of cho.at_⟩, fun D1 hD1 => lc_tup (K := K) (a := t) (xs := T.map fun p => V.ref p.1) (fun i H' => H' D1 = some (.lst ((List.replicate i true).map V.bl)) ∧ Same H H') ?_ ?_ ?_ ?_⟩
    · exact ⟨upd_same, sN hD1⟩
    · rintro i H1 hi ⟨_, s1⟩
      exact SqT.of (s1 _ _ cho.at_)
    · rintro i v H1 hv ⟨eD, s1⟩
      obtain ⟨p, hp, rfl⟩ := map_inv hv
      have hi : i < T.length := (List.getElem?_eq_some_iff.mp hp).1
      obtain ⟨a, b, e2, a0, ab, bm⟩ := cho.ok p (List.mem_of_getElem? hp)
      have ht := s1 _ _ (cho.tup p (List.mem_of_getElem? hp))
      rw [e2] at ht
      refine ⟨rfl, _, rfl, w, C, dx, _, _, rfl, s1 _ _ x.at_, T0.cl, T0.nM, wf_many _ _ _, _, rfl, (M : Int), p.1, a, b, rfl, ht, a0, ab, bm, _, eD, ?_, ?_, sNew s1 hD1⟩
      · rw [List.length_map, List.length_replicate]
        exact Nat.lt_of_lt_of_le (show i < 1001 by omega) (by decide)
      · rw [upd_same, List.replicate_succ', List.map_append]
        rfl
    rintro H1 ⟨eD1, s1⟩
    refine ⟨D1, List.replicate (T.map fun p => V.ref p.1).length true, rfl, SqL.of eD1, ?_⟩
    rw [all_rep]
    refine ⟨_, rfl, iteF ?_⟩
    refine ⟨_, rfl, t, T, rfl, s1 _ _ cho.at_, fun p hp => s1 _ _ (cho.tup p hp), cho.asc, by omega, fun H2 s2 => ⟨_, rfl, iteF ?_⟩⟩
    have s12 := sT s1 s2
    refine ⟨_, rfl, t, rfl, ⟨_, SqT.of (s12 _ _ cho.at_)⟩, fun D2 hD2 => lc_tup (K := K) (a := t) (xs := T.map fun p => V.ref p.1) (fun i H' => H' D2 = some (.lst ((List.replicate i true).map V.bl)) ∧ Same H2 H') ?_ ?_ ?_ ?_⟩
    · exact ⟨upd_same, sN hD2⟩
    · rintro i H3 hi ⟨_, s3⟩
      exact SqT.of (s3 _ _ (s12 _ _ cho.at_))
    · rintro i v H3 hv ⟨eD, s3⟩
      obtain ⟨p, hp, rfl⟩ := map_inv hv
      have hi : i < T.length := (List.getElem?_eq_some_iff.mp hp).1
      have hm := List.mem_of_getElem? hp
      have s13 := sT s12 s3
      obtain ⟨r', hr', er⟩ := cho.sub p hm
      refine ⟨rfl, _, rfl, _, rfl, w, C, dx, _, _, rfl, s13 _ _ x.at_, T0.cl, T0.nT, wf_ties _ _ _, p.1, q, p.2, L, rfl, rfl, s13 _ _ (cho.tup p hm), s13 _ _ tt.at_, fun z hz2 => s13 _ _ (tt.tup z hz2), ?_⟩
      rw [decide_eq_true (List.mem_map.mpr ⟨r', hr', er⟩)]
      refine ⟨_, eD, ?_, ?_, sNew s3 hD2⟩
      · rw [List.length_map, List.length_replicate]
        exact Nat.lt_of_lt_of_le (show i < 1001 by omega) (by decide)
      · rw [upd_same, List.replicate_succ', List.map_append]
        rfl
    rintro H3 ⟨eD2, s3⟩
    refine ⟨D2, List.replicate (T.map fun p => V.ref p.1).length true, rfl, SqL.of eD2, ?_⟩
    rw [all_rep]
    refine ⟨_, rfl, iteF ?_⟩
    have s03 := sT s12 s3
    refine ⟨_, rfl, _, rfl, w, dx, q, r, la, M, L, bs, nb, g, rfl, x.same s03, tt.same s03, s03 _ _ hla, m40, fun t2 T2 H4 s4 _ lst => ?_⟩
    have cho2 := lst.cho tt.asc
    have s04 := sT s03 s4
    refine ⟨t2, rfl, ⟨_, SqT.of lst.at_⟩, fun D3 hD3 => lc_tup (K := K) (a := t2) (xs := T2.map fun p => V.ref p.1) (fun i H' => ∃ Cs : List (Addr × List Int), H' D3 = some (.lst (Cs.map fun c => V.ref c.1)) ∧ Cs.map (·.2) = (T2.take i).map (fun p => crL g p.2) ∧ (∀ c ∈ Cs, H' c.1 = some (.tup (c.2.map V.int))) ∧ Same H4 H' ) ?_ ?_ ?_ ?_⟩
    · exact ⟨[], upd_same, rfl, fun c hc => absurd hc List.not_mem_nil, sN hD3⟩
    · rintro i H5 hi ⟨_, _, _, _, s5⟩
      exact SqT.of (s5 _ _ lst.at_)
    · rintro i v H5 hv ⟨Cs, eD, ev, tc, s5⟩
      obtain ⟨p, hp, rfl⟩ := map_inv hv
      have hi : i < T2.length := (List.getElem?_eq_some_iff.mp hp).1
      have hm := List.mem_of_getElem? hp
      obtain ⟨a, b, e2, a0, ab, bm⟩ := lst.ok p hm
      obtain ⟨a', rfl⟩ : ∃ a' : Nat, a = (a' : Int) := ⟨a.toNat, by omega⟩
      obtain ⟨b', rfl⟩ : ∃ b' : Nat, b = (b' : Int) := ⟨b.toNat, by omega⟩
      have ht := s5 _ _ (lst.tup p hm)
      have ecr : crL g p.2 = cx (g a') (g b') := by
        rw [e2]
        show cx (g ((a' : Int)).toNat) (g ((b' : Int)).toNat) = _
        rw [Int.toNat_natCast, Int.toNat_natCast]
      rw [e2] at ht
      have lc : Cs.length = i := by
        have z := congrArg List.length ev
        rw [List.length_map, List.length_map, List.length_take] at z
        omega
      refine ⟨rfl, _, rfl, _, rfl, la, p.1, M, a', b', g, rfl, s5 _ _ (s04 _ _ hla), ht, by omega, by omega, fun c hc => ?_⟩
      have s6 := sN (o := .tup ((cx (g a') (g b')).map V.int)) hc
      have ncD : c ≠ D3 := fun e => by rw [e, eD] at hc; cases hc
      refine ⟨_, s6 _ _ eD, ?_, Cs ++ [(c, crL g p.2)], ?_, ?_, fun z hz2 => ?_, sNew (sT s5 s6) hD3⟩
      · rw [List.length_map, lc]
        exact Nat.lt_of_lt_of_le (show i < 1001 by have := lst.len; omega) (by decide)
      · rw [upd_same, List.map_append]
        rfl
      · rw [List.map_append, ev, take_snoc hp, List.map_append]
        rfl
      · rcases List.mem_append.mp hz2 with hz2 | hz2
        · have z1 := s6 _ _ (tc z hz2)
          rw [upd_ne (ne_of z1 (s6 _ _ eD) (fun z => by cases z))]
          exact z1
        · rw [List.mem_singleton.mp hz2, upd_ne ncD]
          show (upd H5 c (.tup ((cx (g a') (g b')).map V.int))) c = some (.tup ((crL g p.2).map V.int))
          rw [upd_same, ecr]
    rintro H5 ⟨Cs2, eD3, ev2, tc2, s5⟩
    rw [List.length_map, List.take_length] at ev2
    have s05 := sT s04 s5
    refine ⟨_, rfl, t, rfl, ⟨_, SqT.of (s05 _ _ cho.at_)⟩, fun D4 hD4 => lc_tup (K := K) (a := t) (xs := T.map fun p => V.ref p.1) (fun i H' => ∃ Cs : List (Addr × List Int), H' D4 = some (.lst (Cs.map fun c => V.ref c.1)) ∧ Cs.map (·.2) = (T.take i).map (fun p => crL g p.2) ∧ (∀ c ∈ Cs, H' c.1 = some (.tup (c.2.map V.int))) ∧ Same H5 H' ) ?_ ?_ ?_ ?_⟩
    · exact ⟨[], upd_same, rfl, fun c hc => absurd hc List.not_mem_nil, sN hD4⟩
    · rintro i H6 hi ⟨_, _, _, _, s6⟩
      exact SqT.of (s6 _ _ (s05 _ _ cho.at_))
    · rintro i v H6 hv ⟨Cs, eD, ev, tc, s6⟩
      obtain ⟨p, hp, rfl⟩ := map_inv hv
      have hi : i < T.length := (List.getElem?_eq_some_iff.mp hp).1
      have hm := List.mem_of_getElem? hp
      obtain ⟨a, b, e2, a0, ab, bm⟩ := cho.ok p hm
      obtain ⟨a', rfl⟩ : ∃ a' : Nat, a = (a' : Int) := ⟨a.toNat, by omega⟩
      obtain ⟨b', rfl⟩ : ∃ b' : Nat, b = (b' : Int) := ⟨b.toNat, by omega⟩
      have ht := s6 _ _ ((fun p hp => s05 _ _ (cho.tup p hp)) p hm)
      have ecr : crL g p.2 = cx (g a') (g b') := by
        rw [e2]
        show cx (g ((a' : Int)).toNat) (g ((b' : Int)).toNat) = _
        rw [Int.toNat_natCast, Int.toNat_natCast]
      rw [e2] at ht
      have lc : Cs.length = i := by
        have z := congrArg List.length ev
        rw [List.length_map, List.length_map, List.length_take] at z
        omega
      refine ⟨rfl, _, rfl, _, rfl, la, p.1, M, a', b', g, rfl, s6 _ _ (s05 _ _ hla), ht, by omega, by omega, fun c hc => ?_⟩
      have s7 := sN (o := .tup ((cx (g a') (g b')).map V.int)) hc
      have ncD : c ≠ D4 := fun e => by rw [e, eD] at hc; cases hc
      refine ⟨_, s7 _ _ eD, ?_, Cs ++ [(c, crL g p.2)], ?_, ?_, fun z hz2 => ?_, sNew (sT s6 s7) hD4⟩
      · rw [List.length_map, lc]
        exact Nat.lt_of_lt_of_le (show i < 1001 by have := lT; omega) (by decide)
      · rw [upd_same, List.map_append]
        rfl
      · rw [List.map_append, ev, take_snoc hp, List.map_append]
        rfl
      · rcases List.mem_append.mp hz2 with hz2 | hz2
        · have z1 := s7 _ _ (tc z hz2)
          rw [upd_ne (ne_of z1 (s7 _ _ eD) (fun z => by cases z))]
          exact z1
        · rw [List.mem_singleton.mp hz2, upd_ne ncD]
          show (upd H6 c (.tup ((cx (g a') (g b')).map V.int))) c = some (.tup ((crL g p.2).map V.int))
          rw [upd_same, ecr]
    rintro H6 ⟨Cs1, eD4, ev1, tc1, s6⟩
    rw [List.length_map, List.take_length] at ev1
    have okc : ∀ (X : List (Addr × List Int)) (Cs : List (Addr × List Int)), (∀ p ∈ X, ∃ a b : Int, p.2 = [a, b] ∧ 0 ≤ a ∧ a < b ∧ b < (M : Int)) → (∀ p ∈ X, CrossL g p.2) → Cs.map (·.2) = X.map (fun p => crL g p.2) → ∀ c ∈ Cs, ∃ u v : Int, c.2 = [u, v] ∧ 0 ≤ u ∧ u < v ∧ v < (M : Int) := fun X Cs ok crs ev c hc => by
      have z : c.2 ∈ X.map (fun p => crL g p.2) := by
        rw [← ev]
        exact List.mem_map.mpr ⟨c, hc, rfl⟩
      obtain ⟨p, hp, e⟩ := List.mem_map.mp z
      obtain ⟨a, b, e2, a0, ab, bm⟩ := ok p hp
      obtain ⟨x1, y1, e3, ne⟩ := crs p hp
      have ecr : crL g p.2 = cx (g a.toNat) (g b.toNat) := by rw [e2]; rfl
      obtain ⟨u, v, e4, h1, h2, h3⟩ := cx_ok (gM a.toNat (by omega)) (gM b.toNat (by omega)) ⟨x1, y1, ecr.symm.trans e3, ne⟩
      exact ⟨u, v, e.symm.trans (ecr.trans e4), h1, h2, h3⟩
    have pr1 : Pairs (M : Int) H6 D4 Cs1 := ⟨eD4, tc1, okc T Cs1 cho.ok cho.crs ev1⟩
    have kx : ∀ {H' : Hp} {Da : Addr} {Cs : List (Addr × List Int)}, Pairs (M : Int) H' Da Cs → ∀ y ∈ Cs.map (fun p => V.ref p.1), ∃ t, y = V.ref t ∧ H' t = some (.tup [.int (kH H' y).1, .int (kH H' y).2]) := fun {H' Da Cs} pr y hy => by
      obtain ⟨p, hp, rfl⟩ := List.mem_map.mp hy
      obtain ⟨a, b, e, _⟩ := pr.ok p hp
      have t := pr.tup p hp
      rw [e] at t
      refine ⟨p.1, rfl, ?_⟩
      rw [kH_at t]
      exact t
    refine ⟨D4, _, kH H6, rfl, SqL.of eD4, kx pr1, fun ys1 sp1 sr1 sb1 hsp1 => ?_⟩
    obtain ⟨R1, rfl, perm1, asc1⟩ := sorted_nd pr1 (by rw [ev1]; exact cho.nd) sb1.perm sr1
    have s7 := sN (o := .lst (R1.map fun p => V.ref p.1)) hsp1
    have esp1 : (upd H6 sp1 (.lst (R1.map fun p => V.ref p.1))) sp1 = some (.lst (R1.map fun p => V.ref p.1)) := upd_same
    revert s7 esp1
    generalize upd H6 sp1 (.lst (R1.map fun p => V.ref p.1)) = H7
    intro s7 esp1
    have s67 := sT s6 s7
    have pr2 : Pairs (M : Int) H7 D3 Cs2 := ⟨s67 _ _ eD3, fun c hc => s67 _ _ (tc2 c hc), okc T2 Cs2 lst.ok cho2.crs ev2⟩
    refine ⟨_, rfl, D3, _, kH H7, rfl, SqL.of pr2.at_, kx pr2, fun ys2 sp2 sr2 sb2 hsp2 => ?_⟩
    obtain ⟨R2, rfl, perm2, asc2⟩ := sorted_nd pr2 (by rw [ev2]; exact cho2.nd) sb2.perm sr2
    have s8 := sN (o := .lst (R2.map fun p => V.ref p.1)) hsp2
    have eq12 : R1.map (·.2) = R2.map (·.2) := by
      refine asc_ext _ _ (List.pairwise_map.mpr asc1) (List.pairwise_map.mpr asc2) fun l => ?_
      have m1 : l ∈ R1.map (·.2) ↔ l ∈ T.map (fun p => crL g p.2) := by
        rw [← ev1]
        exact (perm1.map (·.2)).mem_iff
      have m2 : l ∈ R2.map (·.2) ↔ l ∈ T2.map (fun p => crL g p.2) := by
        rw [← ev2]
        exact (perm2.map (·.2)).mem_iff
      rw [m1, m2, List.mem_map, List.mem_map]
      constructor
      · rintro ⟨p, hp, rfl⟩
        obtain ⟨r', hr', er⟩ := cho.sub p hp
        obtain ⟨p', hp', e⟩ := cho2.all r' hr' (by rw [er]; exact cho.crs p hp)
        exact ⟨p', hp', by rw [e, er]⟩
      · rintro ⟨p, hp, rfl⟩
        obtain ⟨r', hr', er⟩ := cho2.sub p hp
        obtain ⟨p', hp', e⟩ := cho.all r' hr' (by rw [er]; exact cho2.crs p hp)
        exact ⟨p', hp', by rw [e, er]⟩
    have t1 : ∀ p ∈ R1, (upd H7 sp2 (.lst (R2.map fun p => V.ref p.1))) p.1 = some (.tup (p.2.map V.int)) := fun p hp => s8 _ _ (s7 _ _ (pr1.tup p (perm1.mem_iff.mp hp)))
    have t2' : ∀ p ∈ R2, (upd H7 sp2 (.lst (R2.map fun p => V.ref p.1))) p.1 = some (.tup (p.2.map V.int)) := fun p hp => s8 _ _ (pr2.tup p (perm2.mem_iff.mp hp))
    refine ⟨.list (R1.map fun p => pT p.2), .list (R2.map fun p => pT p.2), .lst (SqL.of (s8 _ _ esp1)) (dp_all R1 t1), .lst (SqL.of upd_same) (dp_all R2 t2'), shaped_pTs _, shaped_pTs _, ?_⟩
    have ev : PyData.eqv (.list (R1.map fun p => pT p.2)) (.list (R2.map fun p => pT p.2)) = true := by
      simp only [PyData.eqv]
      exact eqv_pTs eq12
    rw [ev]
    exact k _ (sT s05 (sT s67 s8))
end
end Q

namespace Q
open PySem L2 QM
abbrev sChild : Stmt := top 53
abbrev sKeep : Stmt := inClass (top 47) 0
def spChild : Sp := fun vs H Q _ => ∃ (pa : Addr) (M : Nat) (par : Nat → Option Nat), vs = [.ref pa] ∧ H pa = some (.tup (pVs M par)) ∧ M ≤ 40 ∧ ∀ (t : Addr) H', Same H H' → Q (.ref t) H'
section
variable {P : Program} {w : World} {K : PySem.W.Frag} {mg : Str → Option Value} {base : Heap}
theorem scChild : FnScope ["parents", "many", "house", "child"] ["parents"] (defScope sChild) := ⟨rfl, rfl, rfl, by decide +kernel, rfl, by decide +kernel, by decide +kernel⟩
theorem ok_child {f : Addr} {fd : FuncData} (F : Fun K "children_by" "children_by" sChild f fd) (B : Bts mg) : FnOk P w K mg base CX0 1 f fd ["parents"] spChild := by
  refine F.ok scChild (fun vs H Q E h => ?_) (fun cdv A outer s H vs Q E hr h => ?_)
  · obtain ⟨pa, M, par, rfl, _⟩ := h
    rfl
  · obtain ⟨pa, M, par, rfl, hp, m40, k⟩ := h
    have nd := scChild.nd
    refine ⟨_, pss_cons (ps_set (i := 1) nd rfl (.inr rfl) (pe_callB call_len_seq (by rfl) B.len PySem.boot_len (pa_cons (pv 0) pa_nil)))
      (pss_one (ps_ret (pe_callTy call_tuple_of (by rfl) B.tuple PyProof.Rows.boot_tuple (pa_cons (pe_lc (own := [("house", 2)]) (g := gName 2) (tt := tYes) rfl nd (pi_range1 rfl B.range (pa_cons (pv 1) pa_nil))
        (blkOk_by (by rfl)) (fun _ _ _ _ _ => pg_name (i := 2) nd rfl (.inr rfl)) (fun _ _ _ _ _ => pts_nil)
        (fun _ _ _ _ _ => pe_callTy (r := fun xs H Q => ∃ p ys, xs = [.ref p] ∧ ((SqL K H p ys ∧ ∀ l, H l = none → Q (.ref l) (upd H l (.tup ys))) ∨ (SqT K H p ys ∧ Q (.ref p) H))) call_tuple_of (by rfl) B.tuple PyProof.Rows.boot_tuple
          (pa_cons (pe_lc (own := [("child", 3)]) (g := gName 3) rfl nd (wi := iRng1 (tCons (tVar 1) tNil)) (pi_range1 rfl B.range (pa_cons (pv 1) pa_nil)) (blkOk_by (by rfl)) (fun _ _ _ _ _ => pg_name (i := 3) nd rfl (.inl rfl))
            (fun _ _ _ _ _ => pts_one (pt_cmpR op_eq (pe_ix (r := rIxT K) ix_tup (pv 0) (pv 3) (fun _ _ => rfl)) (pv 2) (nomark _))) (fun _ _ _ _ _ => pv 3)) pa_nil))) pa_nil)))), ?_⟩
    have eM : ((M : Int)).toNat = M := Int.toNat_natCast M
    refine ⟨_, rfl, pa, _, rfl, .inr (SqT.of hp), ?_⟩
    rw [pVs_len]
    refine ⟨_, rfl, (M : Int), rfl, by omega, by omega, fun D hD => lc_range (lo := 0) (n := (M : Int).toNat) (fun i H' => ∃ acc : List V, H' D = some (.lst acc) ∧ acc.length = i ∧ Same H H') ?_ ?_ ?_⟩
    · exact ⟨[], upd_same, rfl, sN hD⟩
    · rintro i H1 hi ⟨acc, eD, hl, s1⟩
      rw [eM] at hi
      rw [Int.zero_add]
      refine ⟨rfl, _, rfl, (M : Int), rfl, by omega, by omega, fun D2 hD2 => lc_range (lo := 0) (n := (M : Int).toNat) (fun j H' => ∃ acc2 : List V, H' D2 = some (.lst acc2) ∧ acc2.length ≤ j ∧ Same H1 H') ?_ ?_ ?_⟩
      · exact ⟨[], upd_same, Nat.le_refl _, sN hD2⟩
      · rintro j H2 hj ⟨acc2, eD2, hl2, s2⟩
        rw [eM] at hj
        rw [Int.zero_add]
        have sc : scal (oV (par j)) (V.int (i : Int)) = true := by cases par j <;> rfl
        refine ⟨rfl, _, rfl, _, rfl, pa, _, (j : Int), _, rfl, rfl, SqT.of (s2 _ _ (s1 _ _ hp)), pVs_at par hj, _, rfl, sc, _, rfl, ite2 (fun _ => ?_) (fun _ => ?_)⟩
        · refine ⟨_, rfl, _, eD2, ?_, _, upd_same, ?_, sNew s2 hD2⟩
          · exact Nat.lt_of_lt_of_le (show acc2.length < 64 by omega) (by decide)
          · rw [List.length_append]
            exact Nat.succ_le_succ hl2
        · exact ⟨acc2, eD2, Nat.le_succ_of_le hl2, s2⟩
      · rintro H2 ⟨acc2, eD2, hl2, s2⟩
        refine ⟨D2, acc2, rfl, .inl ⟨SqL.of eD2, fun l hl3 => ?_⟩⟩
        have s3 := sT s2 (sN (o := .tup acc2) hl3)
        refine ⟨acc, s3 _ _ eD, ?_, _, upd_same, ?_, sNew (sT s1 s3) hD⟩
        · exact Nat.lt_of_lt_of_le (show acc.length < 64 by omega) (by decide)
        · rw [List.length_append, hl]
          rfl
    · rintro H1 ⟨acc, eD, hl, s1⟩
      exact ⟨D, _, rfl, .inl ⟨SqL.of eD, fun t ht => k t _ (sT s1 (sN ht))⟩⟩
end
end Q

namespace Q
open PySem L2 QM
theorem ChoAt.n {g : Nat → Int} {L : List (Addr × List Int)} {m : Int} {H : Hp} {t : Addr} {T : List (Addr × List Int)} (h : ChoAt g L m H t T) (few : L.length < 1000) : TiesN m H t T := ⟨h.at_, h.tup, h.ok, h.asc, Nat.lt_of_le_of_lt h.len few⟩
/-- what the top says of Keeper -/
structure KTxt (K : PySem.W.Frag) (mg : Str → Option Value) (C : Addr) : Prop where
  cl : Cls K C
  nW : NoAttr K C "web"
  nP : NoAttr K C "parents"
  nC : NoAttr K C "chosen"
  nL : NoAttr K C "_leaders"
  nH : NoAttr K C "_children"
  nA : NoAttr K C "_across"
  mgC : mg "Keeper" = some (.ref C)
def kf (w pa t la ch ac : V) : List (Str × V) := putF "_across" ac (putF "_children" ch (putF "_leaders" la (putF "chosen" t (putF "parents" pa (putF "web" w [])))))
theorem kf_web (w pa t la ch ac : V) : (kf w pa t la ch ac).lookup ("web" : Str) = some w := by
  unfold kf
  rw [lookup_putF, if_neg (by decide +kernel), lookup_putF, if_neg (by decide +kernel), lookup_putF, if_neg (by decide +kernel), lookup_putF, if_neg (by decide +kernel), lookup_putF, if_neg (by decide +kernel), lookup_putF, if_pos rfl]
theorem kf_parents (w pa t la ch ac : V) : (kf w pa t la ch ac).lookup ("parents" : Str) = some pa := by
  unfold kf
  rw [lookup_putF, if_neg (by decide +kernel), lookup_putF, if_neg (by decide +kernel), lookup_putF, if_neg (by decide +kernel), lookup_putF, if_neg (by decide +kernel), lookup_putF, if_pos rfl]
theorem kf_chosen (w pa t la ch ac : V) : (kf w pa t la ch ac).lookup ("chosen" : Str) = some t := by
  unfold kf
  rw [lookup_putF, if_neg (by decide +kernel), lookup_putF, if_neg (by decide +kernel), lookup_putF, if_neg (by decide +kernel), lookup_putF, if_pos rfl]
/-- what a keeper is made of -/
structure KeepIn (C : Addr) (M : Nat) (H : Hp) (w pa t : Addr) (L T : List (Addr × List Int)) (par : Nat → Option Nat) : Prop where
  web : ∃ dx q r bs nb rk, WebIn C (M : Int) L H w dx q r bs nb ∧ TiesAt (M : Int) H q L ∧ ParN M par rk nb
  hpar : H pa = some (.tup (pVs M par))
  cho : ChoAt (fun i => (LD par M i : Int)) L (M : Int) H t T
  m1 : 1 ≤ M
  m40 : M ≤ 40
/-- the leaders, as they are kept -/
def LdAt (H : Hp) (la : V) (M : Nat) (par : Nat → Option Nat) : Prop := ∃ a : Addr, la = .ref a ∧ H a = some (.tup (flN M fun i => (LD par M i : Int)))
theorem LdAt.same {H H' : Hp} {la : V} {M : Nat} {par : Nat → Option Nat} (h : LdAt H la M par) (s : Same H H') : LdAt H' la M par := by
  obtain ⟨a, e, x⟩ := h
  exact ⟨a, e, s _ _ x⟩
def spKeep (C CK : Addr) : Sp := fun vs H Q _ => ∃ (x dx w pa t : Addr) (M : Nat) (L T : List (Addr × List Int)) (par : Nat → Option Nat), vs = [.ref x, .ref w, .ref pa, .ref t] ∧ H x = some (.ins CK dx []) ∧ KeepIn C M H w pa t L T par ∧
  ∀ la ch ac H', H' x = some (.ins CK dx (kf (.ref w) (.ref pa) (.ref t) la ch ac)) → LdAt H' la M par → (∀ b o, H b = some o → b ≠ x → H' b = some o) → Q .non H'
/-- the defs that Keeper leans on -/
structure GDefs (K : PySem.W.Frag) (mg : Str → Option Value) where
  fN : Addr
  dN : FuncData
  DN : Df K mg "neighbours" sNbr ["web", "house"] fN dN
  fI : Addr
  dI : FuncData
  DI : Df K mg "is_neighbour" sIsNb ["web", "house", "thing"] fI dI
  fP : Addr
  dP : FuncData
  DP : Df K mg "are_parents" sAreP ["web", "thing"] fP dP
  fU : Addr
  dU : FuncData
  DU : Df K mg "way_up" sUp ["parents", "house"] fU dU
  fL : Addr
  dL : FuncData
  DL : Df K mg "leaders_by" sLds ["parents"] fL dL
  fH : Addr
  dH : FuncData
  DH : Df K mg "children_by" sChild ["parents"] fH dH
  fX : Addr
  dX : FuncData
  DX : Df K mg "crossed_by" sCross ["leaders", "tie"] fX dX
  fT : Addr
  dT : FuncData
  DT : Df K mg "least_ties" sLeast ["web", "leaders"] fT dT
  fA : Addr
  dA : FuncData
  DA : Df K mg "is_ascending" sAsc ["things"] fA dA
  fC : Addr
  dC : FuncData
  DC : Df K mg "are_chosen" sAreC ["web", "leaders", "thing"] fC dC
section
variable {P : Program} {w : World} {K : PySem.W.Frag} {mg : Str → Option Value} {base : Heap}
theorem scKeep : FnScope ["self", "web", "parents", "chosen", "leaders"] ["self", "web", "parents", "chosen"] (defScope sKeep) := ⟨rfl, rfl, rfl, by decide +kernel, rfl, by decide +kernel, by decide +kernel⟩
theorem ok_keep {f C CK : Addr} {fd : FuncData} (F : Fun K "__init__" "Keeper.__init__" sKeep f fd) (B : Bts mg) (hz : mg "zip" = none) (ha : mg "all" = none) (T : WTxt K mg C) (TK : KTxt K mg CK) (D : WDefs K mg) (G : GDefs K mg) : FnOk P w K mg base CX0 6 f fd ["self", "web", "parents", "chosen"] (spKeep C CK) := by
  have GP : FnOk P w K mg base CX0 5 G.fP G.dP ["web", "thing"] (spAreP C) := ok_arep G.DP.F B ha T D G.DN G.DI G.DU G.DL
  have GL2 : FnOk P w K mg base CX0 2 G.fL G.dL ["parents"] spLds := ok_lds G.DL.F B G.DU
  have GC : FnOk P w K mg base CX0 4 G.fC G.dC ["web", "leaders", "thing"] (spAreC C) := ok_arec G.DC.F B hz ha T D G.DX G.DA G.DT
  have GH : FnOk P w K mg base CX0 1 G.fH G.dH ["parents"] spChild := ok_child G.DH.F B
  have GB : FnOk P w K mg base CX0 1 D.fB D.dB ["many", "ties"] spBeside := ok_beside D.DB.F B
  refine F.ok scKeep (fun vs H Q E h => ?_) (fun cdv A outer s H vs Q E hr h => ?_)
  · obtain ⟨x, dx, w, pa, t, M, L, T', par, rfl, _⟩ := h
    rfl
  · obtain ⟨x, dx, w, pa, t, M, L, T', par, rfl, hx, ⟨⟨dw, q, r, bs, nb, rk, wi, tt, pn⟩, hpa, cho, m1, m40⟩, k⟩ := h
    have nd := scKeep.nd
    have hr1 : Room 1 _ := hr.mono (by decide)
    have hr2 : Room 2 _ := hr.mono (by decide)
    have hr4 : Room 4 _ := hr.mono (by decide)
    refine ⟨_, pss_cons (ps_if (pt_not (pt_val (pe_call GP hr rfl G.DP.m G.DP.k G.DP.b .nil pass0 (pa_cons (pv 1) (pa_cons (pv 2) pa_nil))))) pss_never pss_nil)
      (pss_cons (ps_set (i := 4) nd rfl (.inl rfl) (pe_call GL2 hr2 rfl G.DL.m G.DL.k G.DL.b .nil pass0 (pa_cons (pv 2) pa_nil)))
      (pss_cons (ps_if (pt_not (pt_val (pe_call GC hr4 rfl G.DC.m G.DC.k G.DC.b .nil pass0 (pa_cons (pv 1) (pa_cons (pv 4) (pa_cons (pv 3) pa_nil)))))) pss_never pss_nil)
      (pss_cons (ps_fld (pv 0) (pv 1) rfl)
      (pss_cons (ps_fld (pv 0) (pv 2) rfl)
      (pss_cons (ps_fld (pv 0) (pv 3) rfl)
      (pss_cons (ps_fld (pv 0) (pv 4) rfl)
      (pss_cons (ps_fld (pv 0) (pe_call GH hr1 rfl G.DH.m G.DH.k G.DH.b .nil pass0 (pa_cons (pv 2) pa_nil)) rfl)
      (pss_one (ps_fld (pv 0) (pe_call GB hr1 rfl D.DB.m D.DB.k D.DB.b .nil pass0 (pa_cons (pe_fld (pv 1) rfl) (pa_cons (pv 3) pa_nil))) rfl))))))))), ?_⟩
    have gM : ∀ i, i < M → 0 ≤ (LD par M i : Int) ∧ (LD par M i : Int) < (M : Int) := fun i hi => by
      have := pn.ok.lt hi
      omega
    refine ⟨_, rfl, _, rfl, w, dw, q, r, M, L, bs, nb, pa, par, rk, rfl, wi, hpa, pn, m40, fun H1 s1 => ⟨_, rfl, iteF ?_⟩⟩
    refine ⟨_, rfl, pa, M, par, rk, rfl, s1 _ _ hpa, pn.ok, m40, fun la H2 s2 hla => ?_⟩
    have s12 := sT s1 s2
    refine ⟨_, rfl, _, rfl, _, rfl, w, dw, q, r, la, t, M, L, bs, nb, _, T', rfl, wi.same s12, tt.same s12, hla, gM, cho.same s12, m40, fun H3 s3 => ⟨_, rfl, iteF ?_⟩⟩
    have s13 := sT s12 s3
    have ox := s13 _ _ hx
    refine ⟨_, rfl, _, rfl, x, CK, dx, _, rfl, ox, TK.cl, TK.nW, (by show 0 < 1000; decide), ?_⟩
    refine ⟨_, rfl, _, rfl, x, CK, dx, _, rfl, upd_same, TK.cl, TK.nP, (by show 1 < 1000; decide), ?_⟩
    refine ⟨_, rfl, _, rfl, x, CK, dx, _, rfl, upd_same, TK.cl, TK.nC, (by show 2 < 1000; decide), ?_⟩
    refine ⟨_, rfl, _, rfl, x, CK, dx, _, rfl, upd_same, TK.cl, TK.nL, (by show 3 < 1000; decide), ?_⟩
    rw [upd_upd, upd_upd, upd_upd]
    -- all else stands
    have st : ∀ b o, H b = some o → b ≠ x → (upd H3 x (.ins CK dx (putF "_leaders" (.ref la) (putF "chosen" (.ref t) (putF "parents" (.ref pa) (putF "web" (.ref w) [])))))) b = some o := fun b o e nb => by
      rw [upd_ne nb]
      exact s13 _ _ e
    have ex : (upd H3 x (.ins CK dx (putF "_leaders" (.ref la) (putF "chosen" (.ref t) (putF "parents" (.ref pa) (putF "web" (.ref w) [])))))) x = some (.ins CK dx (putF "_leaders" (.ref la) (putF "chosen" (.ref t) (putF "parents" (.ref pa) (putF "web" (.ref w) []))))) := upd_same
    have nla : la ≠ x := ne_of (s3 _ _ hla) ox (fun z => by cases z)
    have el4 : (upd H3 x (.ins CK dx (putF "_leaders" (.ref la) (putF "chosen" (.ref t) (putF "parents" (.ref pa) (putF "web" (.ref w) [])))))) la = some (.tup (flN M fun i => (LD par M i : Int))) := by
      rw [upd_ne nla]
      exact s3 _ _ hla
    revert st ex el4
    generalize (upd H3 x (.ins CK dx (putF "_leaders" (.ref la) (putF "chosen" (.ref t) (putF "parents" (.ref pa) (putF "web" (.ref w) [])))))) = H4
    intro st ex el4
    have nt : ∀ {b : Addr} {zs : List V}, H b = some (.tup zs) → b ≠ x := fun e => ne_of e hx (fun z => by cases z)
    refine ⟨_, rfl, pa, M, par, rfl, st _ _ hpa (nt hpa), m40, fun ch H5 s5 => ?_⟩
    refine ⟨_, rfl, x, CK, dx, _, rfl, s5 _ _ ex, TK.cl, TK.nH, (by show 4 < 1000; decide), ?_⟩
    have st6 : ∀ b o, H b = some o → b ≠ x → (upd H5 x (.ins CK dx (putF "_children" (.ref ch) (putF "_leaders" (.ref la) (putF "chosen" (.ref t) (putF "parents" (.ref pa) (putF "web" (.ref w) []))))))) b = some o := fun b o e nb => by
      rw [upd_ne nb]
      exact s5 _ _ (st b o e nb)
    have ex6 : (upd H5 x (.ins CK dx (putF "_children" (.ref ch) (putF "_leaders" (.ref la) (putF "chosen" (.ref t) (putF "parents" (.ref pa) (putF "web" (.ref w) []))))))) x = _ := upd_same
    have el6 : (upd H5 x (.ins CK dx (putF "_children" (.ref ch) (putF "_leaders" (.ref la) (putF "chosen" (.ref t) (putF "parents" (.ref pa) (putF "web" (.ref w) []))))))) la = some (.tup (flN M fun i => (LD par M i : Int))) := by
      rw [upd_ne nla]
      exact s5 _ _ el4
    revert st6 ex6 el6
    generalize (upd H5 x (.ins CK dx (putF "_children" (.ref ch) (putF "_leaders" (.ref la) (putF "chosen" (.ref t) (putF "parents" (.ref pa) (putF "web" (.ref w) []))))))) = H6
    intro st6 ex6 el6
    have nw : w ≠ x := fun e => by
      have z := wi.at_
      rw [e, hx] at z
      have z2 := Option.some.inj z
      injection z2 with z3 z4 z5
      have z6 := wf_many (M : Int) q r
      rw [← z5] at z6
      cases z6
    refine ⟨_, rfl, w, C, dw, _, _, rfl, st6 _ _ wi.at_ nw, T.cl, T.nM, wf_many _ _ _, _, rfl, (M : Int), t, T', rfl, by omega, by omega, ⟨st6 _ _ cho.at_ (nt cho.at_), fun p hp => st6 _ _ (cho.tup p hp) (nt (cho.tup p hp)), cho.ok, cho.asc, Nat.lt_of_le_of_lt cho.len tt.few⟩, fun ac bs2 nb2 H7 rt _ _ s7 => ?_⟩
    refine ⟨_, rfl, x, CK, dx, _, rfl, s7 _ _ ex6, TK.cl, TK.nA, (by show 5 < 1000; decide), ?_⟩
    exact k _ _ _ _ upd_same ⟨la, rfl, by rw [upd_ne nla]; exact s7 _ _ el6⟩ fun b o e nb => by
      rw [upd_ne nb]
      exact s7 _ _ (st6 b o e nb)
end
end Q

/-! a tuple times a number from 1 on: a new one, or the same -/
namespace QT
open PySem PySem.Spec PyProof.Rows L2
theorem tm_once (a : Addr) (xs : Array Value) (m : Nat) (dd : Option Addr) (sl : Array (Option Value)) (u : Tok) :
    Meets (Builtin.«tuple.__mul__» ⟨[.ref a, .int 1 u], []⟩) (fun _ R s => s.heap.get? a = some { cls := .type "tuple", dict := dd, data := .seq xs m, slots := sl } ∧ R (.ok (.ret (.ref a))) s) :=
  .of_wp fun prog w A R s h => by
    obtain ⟨hp, g, d, tk, os⟩ := s
    obtain ⟨ha, h⟩ := h
    have f1 := AutoSeq1.idx_int
    have c1 : (decide ((1 : Int) < -(2 ^ 63)) || decide ((1 : Int) ≥ 2 ^ 63)) = false := by decide
    have c2 : (xs.isEmpty || (1 : Int) == 1) = true := by rw [Bool.or_eq_true]; exact .inr rfl
    wp_walk using wpAny_loadPart' ha
    repeat (first
      | (refine wpAny_ite_false (decide_eq_false (by rw [c1]; exact Bool.false_ne_true)) ?_; wp_walk using wpAny_loadPart' ha)
      | (refine wpAny_ite_true (decide_eq_true (by rw [c2])) ?_; wp_walk using wpAny_loadPart' ha))
    first
    | exact ⟨_, rfl, h⟩
    | exact h
    | skip
/-- t * k, k from 1 on -/
def rRepA : R2 := fun x y H Q => ∃ l k xs, x = .ref l ∧ y = .int k ∧ H l = some (.tup xs) ∧ xs ≠ [] ∧ 1 ≤ k ∧ k ≤ 1000 ∧ xs.length ≤ 1000 ∧ ∀ z H', (∀ b o, H b = some o → H' b = some o) → H' z = some (.tup (List.replicate k.toNat xs).flatten) → Q (.ref z) H'
theorem op_repA {X : Cx} : OpR X (binaryOp .Mult) rRepA := by
  intro pins s σ H x y v u Q I rx ry h
  obtain ⟨l, k, xs, rfl, rfl, hT, hne, h1, h2, hz, q⟩ := h
  by_cases c : 2 ≤ k
  · refine op_repT pins s σ H _ _ v u Q I rx ry ⟨l, k, xs, rfl, rfl, SqT.of hT, hne, c, h2, hz, fun p hp => q p _ (fun b o e => ?_) upd_same⟩
    rw [upd_ne (fun z => by rw [z, hp] at e; cases e)]
    exact e
  obtain rfl : k = 1 := by omega
  cases rx
  obtain ⟨t, rfl⟩ := ry
  obtain ⟨its, r, ⟨⟨cls, dd, data, sl⟩, hob, hc, m, hd⟩, _⟩ := I.tuple (SqT.of hT)
  simp only at hc hd
  subst hc hd
  have e1 : (List.replicate (1 : Int).toNat xs).flatten = xs := by simp
  have fin : EP X pins σ Q (Value.ref l) s := ⟨.ref l, H, I, rfl, q l H (fun _ _ e => e) (by rw [e1]; exact hT)⟩
  have left := @F.slot_int_rmul
  refine wpAny_binaryOp_repeat_ref (U := "int") (T := "tuple") (by decide) ⟨_, hob, rfl⟩ (fun z => typeIs_int z 1 t) noFill_tuple_mul F.fills_int_mul F.slot_int_rmul repeat_tuple F.slot_int_index.lookup ?_
  refine call_meets F.slot_int_rmul (typeIs_int s 1 t) F.entry_int_rmul (F.args_int_rmul_2 _ _) (int_rmul_tuple 1 t l its.toArray m dd sl) ?_
  refine ⟨hob, rfl, ⟨_, hob, rfl⟩, ?_⟩
  exact call_meets F.slot_tuple_mul ⟨_, hob, rfl⟩ F.entry_tuple_mul (F.args_tuple_mul_2 _ _) (tm_once l its.toArray m dd sl t) ⟨hob, fin⟩
end QT

namespace Q
open PySem L2 QM
abbrev sAlpha : Stmt := top 9999
abbrev noPar : Nat → Option Nat := fun _ => none
theorem LD_no (M v : Nat) : LD noPar M v = v := by
  unfold LD
  cases M with
  | zero => rfl
  | succ n => rfl
theorem pVs_no (M : Nat) : pVs M noPar = List.replicate M V.non := by
  unfold pVs
  induction M with
  | zero => rfl
  | succ n ih =>
    rw [List.range_succ, List.map_append, ih, List.replicate_succ']
    rfl
theorem cx_lt {a b : Int} (h : a < b) : cx a b = [a, b] := by
  unfold cx
  rw [if_neg (by omega), if_pos (by omega)]
theorem cho_all {m : Int} {M : Nat} {H : Hp} {q : Addr} {L : List (Addr × List Int)} (tt : TiesAt m H q L) : ChoAt (fun i => (LD noPar M i : Int)) L m H q L := by
  have cr : ∀ p ∈ L, crL (fun i => (LD noPar M i : Int)) p.2 = p.2 ∧ CrossL (fun i => (LD noPar M i : Int)) p.2 := fun p hp => by
    obtain ⟨a, b, e, a0, ab, _⟩ := tt.ok p hp
    have e1 : crL (fun i => (LD noPar M i : Int)) p.2 = [a, b] := by
      rw [e]
      show cx (LD noPar M a.toNat : Int) (LD noPar M b.toNat : Int) = _
      rw [LD_no, LD_no, Int.toNat_of_nonneg a0, Int.toNat_of_nonneg (by omega), cx_lt ab]
    exact ⟨e1.trans e.symm, a, b, e1, by omega⟩
  refine ⟨tt.at_, tt.tup, tt.ok, tt.asc, Nat.le_refl _, fun p hp => ⟨p, hp, rfl⟩, fun p hp => (cr p hp).2, fun r hr _ => ⟨r, hr, rfl⟩, ?_⟩
  have e : L.map (fun p => crL (fun i => (LD noPar M i : Int)) p.2) = L.map (·.2) := List.map_congr_left fun p hp => (cr p hp).1
  rw [e]
  exact List.pairwise_map.mpr (tt.asc.imp fun {x y} (h : ltP x.2 y.2) (z : x.2 = y.2) => ltP_irr (l := y.2) (z ▸ h))
/-- a web that stands, with its ties -/
def WebQ (C : Addr) (M : Nat) (H : Hp) (w q : Addr) (L : List (Addr × List Int)) : Prop := ∃ dx r bs nb, WebIn C (M : Int) L H w dx q r bs nb ∧ TiesAt (M : Int) H q L
theorem WebQ.same {C : Addr} {M : Nat} {H H' : Hp} {w q : Addr} {L : List (Addr × List Int)} (h : WebQ C M H w q L) (s : Same H H') : WebQ C M H' w q L := by
  obtain ⟨dx, r, bs, nb, x, t⟩ := h
  exact ⟨dx, r, bs, nb, x.same s, t.same s⟩
def spAlpha (C CK : Addr) : Sp := fun vs H Q _ => ∃ (w q : Addr) (M : Nat) (L : List (Addr × List Int)), vs = [.ref w] ∧ WebQ C M H w q L ∧ 1 ≤ M ∧ M ≤ 40 ∧
  ∀ x dx pa la ch ac H', Same H H' → H' x = some (.ins CK dx (kf (.ref w) (.ref pa) (.ref q) la ch ac)) → LdAt H' la M noPar → H' pa = some (.tup (pVs M noPar)) → Q (.ref x) H'
section
variable {P : Program} {w : World} {K : PySem.W.Frag} {mg : Str → Option Value} {base : Heap}
end
end Q

namespace Q
open PySem L2 QM
abbrev sBall : Stmt := top 59
abbrev sReach : Stmt := top 60
/-- the houses within so many steps -/
def inB (st : Nat → Option Nat) (r : Int) (i : Nat) : Bool := match st i with
  | none => false
  | some d => decide ((d : Int) ≤ r)
def ballN (M : Nat) (st : Nat → Option Nat) (r : Int) : List Nat := (List.range M).filter (inB st r)
def spBall : Sp := fun vs H Q _ => ∃ (D : Addr) (M : Nat) (st : Nat → Option Nat) (r : Int), vs = [.ref D, .int r] ∧ H D = some (.lst (pVs M st)) ∧ M ≤ 40 ∧ ∀ (p : Addr) H', Same H H' → H p = none → H' p = some (.lst ((ballN M st r).map nI)) → Q (.ref p) H'
section
variable {P : Program} {w : World} {K : PySem.W.Frag} {mg : Str → Option Value} {base : Heap}
theorem scBall : FnScope ["steps", "reach", "house", "far_off"] ["steps", "reach"] (defScope sBall) := ⟨rfl, rfl, rfl, by decide +kernel, rfl, by decide +kernel, by decide +kernel⟩
theorem ok_ball {f : Addr} {fd : FuncData} (F : Fun K "ball_within" "ball_within" sBall f fd) (B : Bts mg) : FnOk P w K mg base CX0 1 f fd ["steps", "reach"] spBall := by
  refine F.ok scBall (fun vs H Q E h => ?_) (fun cdv A outer s H vs Q E hr h => ?_)
  · obtain ⟨D, M, st, r, rfl, _⟩ := h
    rfl
  · obtain ⟨D, M, st, r, rfl, hD, m40, k⟩ := h
    have nd := scBall.nd
    refine ⟨_, pss_one (ps_ret (pe_lc (own := [("house", 2), ("far_off", 3)]) (g := gTup K 2 (gCons (gName 2) (gCons (gName 3) gNil))) rfl nd (pi_enum rfl B.enumerate (pa_cons (pv 0) pa_nil))
      (blkOk_by (N := ["steps", "reach", "house", "far_off"]) (sc := defScope sBall) (by decide +kernel)) (fun _ _ _ _ _ => pg_tup rfl (pgs_cons (pg_name (i := 2) nd rfl (.inl rfl)) (pgs_cons (pg_name (i := 3) nd rfl (.inl rfl)) pgs_nil)))
      (fun _ _ _ _ _ => pts_one (PW.pt (pw_and (pt_cmp (pc_notN (pv 3))) (pw_and1 (pt_cmpR op_le (pv 3) (pv 1) (nomark _)))))) (fun _ _ _ _ _ => pv 2))), ?_⟩
    refine ⟨_, rfl, D, _, rfl, SqL.of hD, fun D2 hD2 => lc_it (walk_enum (K := K) (a := D) (xs := pVs M st)) (fun i H' => H' D2 = some (.lst (((List.range i).filter (inB st r)).map nI)) ∧ i ≤ M ∧ Same H H') ?_ ?_ ?_ ?_⟩
    · exact ⟨upd_same, Nat.zero_le _, sN hD2⟩
    · rintro i H1 hi ⟨_, _, s1⟩
      exact SqL.of (s1 _ _ hD)
    · rintro i v H1 H2 hi ⟨eD, _, s1⟩ ⟨T, x, y, rfl, hT, rfl, hx, hy⟩
      have hiM : i < M := by rw [pVs_len] at hi; exact hi
      have hy' : (pVs M st)[i]? = some y := hy
      rw [pVs_get st hiM] at hy'
      obtain rfl := Option.some.inj hy'
      have hx' : some (V.int (i : Nat)) = some x := hx
      obtain rfl := Option.some.inj hx'
      have s2 := sN (o := .tup [V.int (i : Nat), oV (st i)]) hT
      have ll : ((List.range i).filter (inB st r)).length ≤ i := by
        refine Nat.le_trans (List.length_filter_le _ _) ?_
        rw [List.length_range]
        exact Nat.le_refl _
      have sn : (List.range (i + 1)).filter (inB st r) = (List.range i).filter (inB st r) ++ (if inB st r i = true then [i] else []) := by
        rw [List.range_succ, List.filter_append]
        by_cases c : inB st r i = true
        · rw [if_pos c, List.filter_cons_of_pos c]
          rfl
        · rw [if_neg c, List.filter_cons_of_neg c]
          rfl
      refine ⟨T, _, rfl, SqT.of upd_same, rfl, _, _, rfl, _, _, rfl, rfl, rfl, _, rfl, _, rfl, ?_⟩
      have no : inB st r i = false → (upd H1 T (.tup [V.int (i : Nat), oV (st i)])) D2 = some (.lst (((List.range (i + 1)).filter (inB st r)).map nI)) ∧ i + 1 ≤ M ∧ Same H (upd H1 T (.tup [V.int (i : Nat), oV (st i)])) := fun c => by
        refine ⟨?_, hiM, sT s1 s2⟩
        rw [sn, c, if_neg Bool.false_ne_true, List.append_nil]
        exact s2 _ _ eD
      cases e : st i with
      | none =>
        refine ite2 (fun c => absurd c (by simp [oV])) (fun _ => ?_)
        have z := no (by unfold inB; rw [e])
        rw [e] at z
        exact z
      | some d =>
        refine ite2 (fun _ => ?_) (fun c => absurd (by simp [oV, nI]) c)
        refine ⟨_, rfl, _, rfl, _, _, rfl, rfl, _, rfl, ite2 (fun c => ?_) (fun c => ?_)⟩
        · have c' : inB st r i = true := by
            unfold inB
            rw [e]
            exact c
          refine ⟨_, rfl, _, (by rw [← e]; exact s2 _ _ eD), ?_, ?_, hiM, ?_⟩
          · rw [List.length_map]
            exact Nat.lt_of_lt_of_le (show ((List.range i).filter (inB st r)).length < 64 by omega) (by decide)
          · rw [upd_same, sn, if_pos c', List.map_append]
            rfl
          · rw [← e]
            exact sNew (sT s1 s2) hD2
        · have z := no (by
            unfold inB
            rw [e]
            have c2 : ¬ decide ((d : Int) ≤ r) = true := c
            exact Bool.eq_false_iff.mpr c2)
          rw [e] at z
          exact z
    · rintro H1 ⟨eD, _, s1⟩
      rw [pVs_len] at eD
      exact k D2 H1 s1 hD2 eD
end
end Q

namespace Q
open PySem L2 QM
/-- how large a ball is -/
def bsz (M : Nat) (st : Nat → Option Nat) (r : Nat) : Nat := (ballN M st (r : Int)).length
theorem bsz_le (M : Nat) (st : Nat → Option Nat) (r : Nat) : bsz M st r ≤ M := by
  unfold bsz ballN
  refine Nat.le_trans (List.length_filter_le _ _) ?_
  rw [List.length_range]
  exact Nat.le_refl _
theorem bsz_pos {M : Nat} {st : Nat → Option Nat} {i : Nat} (hi : i < M) (h : st i = some 0) (r : Nat) : 1 ≤ bsz M st r := by
  unfold bsz
  refine List.length_pos_of_mem (a := i) ?_
  unfold ballN
  refine List.mem_filter.mpr ⟨List.mem_range.mpr hi, ?_⟩
  unfold inB
  rw [h]
  exact decide_eq_true (by omega)
/-- the reach of a ball -/
def RchOf (M : Nat) (st : Nat → Option Nat) (k r : Nat) : Prop := (∀ j, j < r → k * bsz M st j ≤ bsz M st (j + 1)) ∧ bsz M st (r + 1) < k * bsz M st r
def spReach : Sp := fun vs H Q _ => ∃ (D : Addr) (M k : Nat) (st : Nat → Option Nat), vs = [.int (k : Int), .ref D] ∧ H D = some (.lst (pVs M st)) ∧ M ≤ 40 ∧ 2 ≤ k ∧ k ≤ 8 ∧ (∃ i, i < M ∧ st i = some 0) ∧ ∀ r H', RchOf M st k r → Same H H' → Q (nI r) H'
section
variable {P : Program} {w : World} {K : PySem.W.Frag} {mg : Str → Option Value} {base : Heap}
theorem scReach : FnScope ["k", "steps", "reach"] ["k", "steps"] (defScope sReach) := ⟨rfl, rfl, rfl, by decide +kernel, rfl, by decide +kernel, by decide +kernel⟩
theorem ok_reach {f fB : Addr} {fd dB : FuncData} (F : Fun K "reach_of" "reach_of" sReach f fd) (B : Bts mg) (DB : Df K mg "ball_within" sBall ["steps", "reach"] fB dB) : FnOk P w K mg base CX0 2 f fd ["k", "steps"] spReach := by
  have GB : FnOk P w K mg base CX0 1 fB dB ["steps", "reach"] spBall := ok_ball DB.F B
  refine F.ok scReach (fun vs H Q E h => ?_) (fun cdv A outer s H vs Q E hr h => ?_)
  · obtain ⟨D, M, k, st, rfl, _⟩ := h
    rfl
  · obtain ⟨D, M, kk, st, rfl, hD, m40, k2, k8, ⟨i0, hi0, e0⟩, k⟩ := h
    have nd := scReach.nd
    refine ⟨_, pss_cons (ps_set (i := 2) nd rfl (.inl rfl) pe_int)
      (pss_cons (ps_while PassesOwn.never (pt_cmpR op_ge (pe_callB call_len_seq (by rfl) B.len PySem.boot_len (pa_cons (pe_call GB hr rfl DB.m DB.k DB.b .nil pass0 (pa_cons (pv 1) (pa_cons (pe_op op_add (pv 2) pe_int) pa_nil))) pa_nil))
          (pe_op op_mul (pv 0) (pe_callB call_len_seq (by rfl) B.len PySem.boot_len (pa_cons (pe_call GB hr rfl DB.m DB.k DB.b .nil pass0 (pa_cons (pv 1) (pa_cons (pv 2) pa_nil))) pa_nil))) (nomark _))
        (pss_one (ps_aug (i := 2) nd rfl (.inl rfl) pe_int in_add)))
      (pss_one (ps_ret (pv 2)))), ?_⟩
    refine ⟨fun n σ H' => ∃ r : Nat, σ = [some (.int (kk : Int)), some (.ref D), some (nI r)] ∧ (∀ j, j < r → kk * bsz M st j ≤ bsz M st (j + 1)) ∧ n = M - bsz M st r ∧ Same H H', ⟨_, 0, rfl, fun j hj => absurd hj (Nat.not_lt_zero _), rfl, fun _ _ e => e⟩, ?_⟩
    rintro n σ H1 ⟨r, rfl, grow, rfl, s1⟩
    refine ⟨_, rfl, _, rfl, _, _, rfl, rfl, D, M, st, (r : Int) + 1, rfl, s1 _ _ hD, m40, fun p1 H2 s2 _ e1 => ?_⟩
    refine ⟨p1, _, rfl, .inl (SqL.of e1), ?_⟩
    refine ⟨_, rfl, _, rfl, _, rfl, D, M, st, (r : Int), rfl, s2 _ _ (s1 _ _ hD), m40, fun p2 H3 s3 _ e2 => ?_⟩
    refine ⟨p2, _, rfl, .inl (SqL.of e2), ?_⟩
    have l1 : ((ballN M st ((r : Int) + 1)).map nI).length = bsz M st (r + 1) := by
      rw [List.length_map]
      rfl
    have l2 : ((ballN M st (r : Int)).map nI).length = bsz M st r := by
      rw [List.length_map]
      rfl
    rw [l1, l2]
    have pz := bsz_pos hi0 e0 r
    have lz := bsz_le M st r
    refine ⟨_, _, rfl, rfl, .inl ⟨by omega, by omega⟩, _, _, rfl, rfl, _, rfl, ite2 (fun c => ?_) (fun c => ?_)⟩
    · have c' := of_decide_eq_true c
      have c2 : kk * bsz M st r ≤ bsz M st (r + 1) := by
        have : ((kk * bsz M st r : Nat) : Int) ≤ (bsz M st (r + 1) : Int) := by rw [Int.natCast_mul]; exact c'
        omega
      have l3 := bsz_le M st (r + 1)
      have g2 : 2 * bsz M st r ≤ kk * bsz M st r := Nat.mul_le_mul_right _ k2
      refine ⟨_, fun σ' H' h => ⟨M - bsz M st (r + 1), by omega, h⟩, ?_⟩
      refine ⟨_, rfl, _, _, rfl, rfl, r + 1, rfl, fun j hj => ?_, rfl, sT s1 (sT s2 s3)⟩
      by_cases e : j = r
      · rw [e]
        exact c2
      · exact grow j (by omega)
    · have c2 : bsz M st (r + 1) < kk * bsz M st r := by
        refine Nat.lt_of_not_le fun z => c (decide_eq_true ?_)
        have : ((kk * bsz M st r : Nat) : Int) ≤ (bsz M st (r + 1) : Int) := by omega
        rw [Int.natCast_mul] at this
        exact this
      exact ⟨_, rfl, k r H3 ⟨grow, c2⟩ (sT s1 (sT s2 s3))⟩
end
end Q

namespace Q
open PySem L2 QM
abbrev sNear : Stmt := top 61
theorem minOf_int : ∀ (ys : List Int) (y : Int), PySem.W.minOf y ys ∈ y :: ys ∧ ∀ x ∈ y :: ys, PySem.W.minOf y ys ≤ x
  | [], y => ⟨List.mem_singleton.mpr rfl, fun x hx => by rw [List.mem_singleton.mp hx]; exact Int.le_refl _⟩
  | z :: ys, y => by
    have e : PySem.W.minOf y (z :: ys) = PySem.W.minOf (if decide (z < y) = true then z else y) ys := rfl
    obtain ⟨h1, h2⟩ := minOf_int ys (if decide (z < y) = true then z else y)
    rw [e]
    by_cases c : z < y
    · rw [decide_eq_true c, if_pos rfl] at h1 h2 ⊢
      refine ⟨List.mem_cons_of_mem _ h1, fun x hx => ?_⟩
      rcases List.mem_cons.mp hx with rfl | hx
      · have := h2 z List.mem_cons_self
        omega
      · exact h2 x hx
    · rw [decide_eq_false c, if_neg Bool.false_ne_true] at h1 h2 ⊢
      refine ⟨?_, fun x hx => ?_⟩
      · rcases List.mem_cons.mp h1 with h | h
        · rw [h]; exact List.mem_cons_self
        · exact List.mem_cons_of_mem _ (List.mem_cons_of_mem _ h)
      · rcases List.mem_cons.mp hx with rfl | hx
        · exact h2 _ List.mem_cons_self
        · rcases List.mem_cons.mp hx with rfl | hx
          · have := h2 y List.mem_cons_self
            omega
          · exact h2 x (List.mem_cons_of_mem _ hx)

def rMinN (K : PySem.W.Frag) : List V → List V → Hp → VK → Prop := fun vs zs H Q => ∃ (a : Addr) (ns : List Int), vs = [.ref a] ∧ zs = [.non] ∧ SqL K H a (ns.map V.int) ∧ (ns = [] → Q .non H) ∧ ∀ m, m ∈ ns → (∀ y ∈ ns, m ≤ y) → Q (.int m) H
theorem cr_minN {X : Cx} (hc : X.calm = true) (hu : X.A.units + 64 < cLine) : CallRK X (.builtin "min") [Str.ofString "default"] (rMinN X.K) := by
  intro pins s σ H vs zs us ws Q I r rz h
  obtain ⟨a, ns, rfl, rfl, hs, q0, q⟩ := h
  obtain rfl := Vals.ref1 r
  obtain ⟨w1, rfl, e1⟩ := vals1 rz
  obtain rfl : w1 = Value.none := e1
  have hd : X.A.units + 1 + PySem.W.Datum.depth Int < cLine := by
    have : PySem.W.Datum.depth Int ≤ 60 := by decide
    omega
  obtain ⟨its, rv, hl, hz⟩ := I.list hs
  refine PySem.W.min_list_datum_default (α := Int) (xs := ns) (I.ok.hd hc) hl.isList (PySem.W.HoldAll.of_ints (by simpa using rv.ints)) hd (fun e h' tk hk => ⟨.non, H, I.kept hk, rfl, q0 e⟩) fun y ys i v h' tk e hi hv hk => ?_
  obtain ⟨t', rfl⟩ := PySem.W.int_of_holds hv
  obtain ⟨m1, m2⟩ := minOf_int ys y
  subst e
  exact ⟨.int _, H, I.kept hk, ⟨t', rfl⟩, q _ m1 m2⟩
/-- a list at D of n lists of ints, perhaps some of them the same -/
structure RowsI (H : Hp) (D : Addr) (bs : List Addr) (nb : Nat → List Int) (n : Nat) : Prop where
  at_ : H D = some (.lst (bs.map V.ref))
  len : bs.length = n
  row : ∀ (i : Nat) (a : Addr), bs[i]? = some a → H a = some (.lst ((nb i).map V.int))
/-- the least nearer neighbour -/
def NearOf (nb : List Int) (st : Nat → Option Nat) (d : Nat) (r : Option Nat) : Prop := (r = none ∧ ∀ o ∈ nb, ∀ e, st o.toNat = some e → ¬ e < d) ∨ ∃ u : Nat, r = some u ∧ (u : Int) ∈ nb ∧ (∃ e, st u = some e ∧ e < d) ∧ ∀ o ∈ nb, ∀ e, st o.toNat = some e → e < d → (u : Int) ≤ o
def spNear : Sp := fun vs H Q _ => ∃ (bD sD : Addr) (M h d : Nat) (bs : List Addr) (nb : Nat → List Int) (st : Nat → Option Nat), vs = [.ref bD, .ref sD, .int (h : Int)] ∧ RowsI H bD bs nb M ∧ H sD = some (.lst (pVs M st)) ∧ h < M ∧ M ≤ 40 ∧ st h = some d ∧ (nb h).length ≤ 1000 ∧
  (∀ o ∈ nb h, 0 ≤ o ∧ o < (M : Int) ∧ ∃ e, st o.toNat = some e) ∧ ∀ r H', NearOf (nb h) st d r → Same H H' → Q (oV r) H'
section
variable {P : Program} {w : World} {K : PySem.W.Frag} {mg : Str → Option Value} {base : Heap}
theorem scNear : FnScope ["beside", "steps", "house", "nearer", "other"] ["beside", "steps", "house"] (defScope sNear) := ⟨rfl, rfl, rfl, by decide +kernel, rfl, by decide +kernel, by decide +kernel⟩
theorem ok_near {f : Addr} {fd : FuncData} (F : Fun K "nearest_beside" "nearest_beside" sNear f fd) (B : Bts mg) : FnOk P w K mg base CX0 1 f fd ["beside", "steps", "house"] spNear := by
  refine F.ok scNear (fun vs H Q E h => ?_) (fun cdv A outer s H vs Q E hr h => ?_)
  · obtain ⟨bD, sD, M, h, d, bs, nb, st, rfl, _⟩ := h
    rfl
  · obtain ⟨bD, sD, M, h, d, bs, nb, st, rfl, rw1, hS, hM, m40, ed, nl, inn, k⟩ := h
    have nd := scNear.nd
    have hu := hr.units
    refine ⟨_, pss_cons (ps_setLc (i := 3) (own := [("other", 4)]) (g := gName 4) rfl nd rfl rfl (sw_true rfl rfl rfl (by decide +kernel)) (pi_list (pe_ix ix_list (pv 0) (pv 2) (fun _ _ => rfl)))
        (blkOk_by (N := ["beside", "steps", "house", "nearer", "other"]) (sc := defScope sNear) (by decide +kernel)) (fun _ _ _ _ _ => pg_name (i := 4) nd rfl (.inl rfl))
        (fun _ _ _ _ _ => pts_one (pt_cmpR op_lt (pe_ix (r := rIxL K) ix_list (pv 1) (pv 4) (fun _ _ => rfl)) (pe_ix (r := rIxL K) ix_list (pv 1) (pv 2) (fun _ _ => rfl)) (nomark _))) (fun _ _ _ _ _ => pv 4))
      (pss_one (ps_ret (pe_callBK (r := rMinN K) (cr_minN rfl hu) (by rfl) B.min PyProof.Rows.boot_min (pa_cons (pv 3) pa_nil) (pk_cons pe_non pk_nil)))), ?_⟩
    have ul : h < bs.length := by rw [rw1.len]; exact hM
    have gu : bs[h]? = some bs[h] := List.getElem?_eq_getElem ul
    have hrow := rw1.row h _ gu
    have ix : atI (bs.map V.ref) (h : Int) = some (V.ref bs[h]) := atI_nat (by rw [List.getElem?_map, gu]; rfl)
    refine ⟨_, rfl, _, rfl, bD, _, (h : Int), _, rfl, rfl, SqL.of rw1.at_, ix, bs[h], rfl, ⟨_, SqL.of hrow⟩, fun D hD => lc_list (K := K) (a := bs[h]) (xs := (nb h).map V.int) (fun j H' => ∃ as : List Int, H' D = some (.lst (as.map V.int)) ∧ as.length ≤ j ∧ (∀ z : Int, z ∈ as ↔ z ∈ (nb h).take j ∧ ∃ e, st z.toNat = some e ∧ e < d) ∧ Same H H') ?_ ?_ ?_ ?_⟩
    · exact ⟨[], upd_same, Nat.le_refl _, fun z => ⟨fun h => absurd h List.not_mem_nil, fun h => absurd h.1 (by simp)⟩, sN hD⟩
    · rintro j H1 hj ⟨_, _, _, _, s1⟩
      exact SqL.of (s1 _ _ hrow)
    · rintro j v H1 hv ⟨as, eD, hla, iff, s1⟩
      obtain ⟨o, ho, rfl⟩ := map_inv hv
      have hj : j < (nb h).length := (List.getElem?_eq_some_iff.mp ho).1
      obtain ⟨o0, oM, e, ee⟩ := inn o (List.mem_of_getElem? ho)
      obtain ⟨o', rfl⟩ : ∃ o' : Nat, o = (o' : Int) := ⟨o.toNat, by omega⟩
      rw [Int.toNat_natCast] at ee
      have i1 : atI (pVs M st) (o' : Int) = some (oV (some e)) := by rw [← ee]; exact pVs_at st (by omega)
      have i2 : atI (pVs M st) (h : Int) = some (oV (some d)) := by rw [← ed]; exact pVs_at st hM
      have tk : ∀ z : Int, z ∈ (nb h).take (j + 1) ↔ z ∈ (nb h).take j ∨ z = (o' : Int) := fun z => by
        rw [take_snoc ho, List.mem_append, List.mem_singleton]
      refine ⟨rfl, _, rfl, _, rfl, sD, _, (o' : Int), _, rfl, rfl, SqL.of (s1 _ _ hS), i1, _, rfl, _, rfl, sD, _, (h : Int), _, rfl, rfl, SqL.of (s1 _ _ hS), i2, _, _, rfl, rfl, _, rfl, ite2 (fun c => ?_) (fun c => ?_)⟩
      · have c' : e < d := by
          have := of_decide_eq_true c
          omega
        refine ⟨_, rfl, _, eD, ?_, as ++ [(o' : Int)], ?_, ?_, fun z => ?_, sNew s1 hD⟩
        · rw [List.length_map]
          exact Nat.lt_of_lt_of_le (show as.length < 1001 by omega) (by decide)
        · rw [upd_same, List.map_append]
          rfl
        · rw [List.length_append]
          exact Nat.succ_le_succ hla
        · rw [List.mem_append, iff, tk, List.mem_singleton]
          constructor
          · rintro (⟨h1, h2⟩ | rfl)
            · exact ⟨.inl h1, h2⟩
            · exact ⟨.inr rfl, e, by rw [Int.toNat_natCast]; exact ee, c'⟩
          · rintro ⟨h1 | h1, h2⟩
            · exact .inl ⟨h1, h2⟩
            · exact .inr h1
      · have c' : ¬ e < d := fun z => c (decide_eq_true (by omega))
        refine ⟨as, eD, by omega, fun z => ?_, s1⟩
        rw [iff, tk]
        constructor
        · rintro ⟨h1, h2⟩
          exact ⟨.inl h1, h2⟩
        · rintro ⟨h1 | rfl, e2, h2, h3⟩
          · exact ⟨h1, e2, h2, h3⟩
          · rw [Int.toNat_natCast, ee] at h2
            cases h2
            exact absurd h3 c'
    · rintro H1 ⟨as, eD, _, iff, s1⟩
      rw [List.length_map, List.take_length] at iff
      refine ⟨_, rfl, D, as, rfl, rfl, SqL.of eD, fun e => ?_, fun m hm least => ?_⟩
      · refine k none H1 (.inl ⟨rfl, fun o ho e1 h1 h2 => ?_⟩) s1
        have z := (iff o).mpr ⟨ho, e1, h1, h2⟩
        rw [e] at z
        exact absurd z List.not_mem_nil
      · obtain ⟨hm1, e1, h1, h2⟩ := (iff m).mp hm
        obtain ⟨m0, _, _⟩ := inn m hm1
        obtain ⟨m', rfl⟩ : ∃ m' : Nat, m = (m' : Int) := ⟨m.toNat, by omega⟩
        rw [Int.toNat_natCast] at h1
        exact k (some m') H1 (.inr ⟨m', rfl, hm1, ⟨e1, h1, h2⟩, fun o ho e2 h3 h4 => least o ((iff o).mpr ⟨ho, e2, h3, h4⟩)⟩) s1
end
end Q

namespace Q
open PySem L2 QM
abbrev sBesL : Stmt := top 58
/-- neighbours that are left, of the first so many of those that are left -/
def nbL (nb : Nat → List Int) (ls : List Nat) (j : Nat) (h : Nat) : List Int := if h ∈ ls.take j then (nb h).filter (fun o => decide (o ∈ ls.map fun i : Nat => (i : Int))) else []
def spBesL (C : Addr) : Sp := fun vs H Q _ => ∃ (w dx q r lf : Addr) (M : Nat) (L : List (Addr × List Int)) (bs : List Addr) (nb : Nat → List Int) (ls : List Nat), vs = [.ref w, .ref lf] ∧ WebIn C (M : Int) L H w dx q r bs nb ∧ H lf = some (.lst (ls.map nI)) ∧ (∀ i ∈ ls, i < M) ∧ M ≤ 40 ∧ (∀ h, h < M → (nb h).length ≤ 1000) ∧
  ∀ D bs2 H', Same H H' → H D = none → (∀ a ∈ bs2, H a = none) → RowsI H' D bs2 (nbL nb ls ls.length) M → Q (.ref D) H'
section
variable {P : Program} {w : World} {K : PySem.W.Frag} {mg : Str → Option Value} {base : Heap}
theorem scBesL : FnScope ["web", "left", "beside", "house", "_", "other"] ["web", "left"] (defScope sBesL) := ⟨rfl, rfl, rfl, by decide +kernel, rfl, by decide +kernel, by decide +kernel⟩
theorem ok_besl {f C fN : Addr} {fd dN : FuncData} (F : Fun K "beside_left" "beside_left" sBesL f fd) (B : Bts mg) (T : WTxt K mg C) (D0 : WDefs K mg) (DN : Df K mg "neighbours" sNbr ["web", "house"] fN dN) : FnOk P w K mg base CX0 4 f fd ["web", "left"] (spBesL C) := by
  have GN : FnOk P w K mg base CX0 3 fN dN ["web", "house"] (spNbr C) := ok_nbr DN.F B T D0
  refine F.ok scBesL (fun vs H Q E h => ?_) (fun cdv A outer s H vs Q E hr h => ?_)
  · obtain ⟨w, dx, q, r, lf, M, L, bs, nb, ls, rfl, _⟩ := h
    rfl
  · obtain ⟨w, dx, q, r, lf, M, L, bs, nb, ls, rfl, x, hlf, lsM, m40, nbl, k⟩ := h
    have nd := scBesL.nd
    refine ⟨_, pss_cons (ps_setLc (i := 2) (own := [("_", 4)]) (g := gName 4) (tt := tYes) rfl nd rfl rfl (sw_true rfl rfl rfl (by decide +kernel)) (pi_range1 rfl B.range (pa_cons (pe_fld (pv 0) rfl) pa_nil))
        (blkOk_by (N := ["web", "left", "beside", "house", "_", "other"]) (sc := defScope sBesL) (by decide +kernel)) (fun _ _ _ _ _ => pg_name (i := 4) nd rfl (.inl rfl)) (fun _ _ _ _ _ => pts_nil) (fun _ _ _ _ _ => pe_lst pa_nil))
      (pss_cons (ps_for PassesOwn.never rfl (pi_list (pv 1)) (pg_name (i := 3) nd rfl (.inl rfl))
        (pss_one (ps_asg (pe_lc (own := [("other", 5)]) (g := gName 5) rfl nd (pi_tup (pe_call GN hr rfl DN.m DN.k DN.b .nil pass0 (pa_cons (pv 0) (pa_cons (pv 3) pa_nil))))
          (blkOk_by (N := ["web", "left", "beside", "house", "_", "other"]) (sc := defScope sBesL) (by decide +kernel)) (fun _ _ _ _ _ => pg_name (i := 5) nd rfl (.inl rfl)) (fun _ _ _ _ _ => pts_one (pt_cmpR (r := rIn K false) op_in_seq (pv 5) (pv 1) rfl)) (fun _ _ _ _ _ => pv 5)) (pg_sub (pv 2) (pv 3) set_list))))
      (pss_one (ps_ret (pv 2)))), ?_⟩
    have eM : ((M : Int)).toNat = M := Int.toNat_natCast M
    have els : ls.map nI = (ls.map fun i : Nat => (i : Int)).map V.int := by
      rw [List.map_map]
      rfl
    have lsl : SqL K H lf ((ls.map fun i : Nat => (i : Int)).map V.int) := by rw [← els]; exact SqL.of hlf
    refine ⟨_, rfl, w, C, dx, _, _, rfl, x.at_, T.cl, T.nM, wf_many _ _ _, (M : Int), rfl, by omega, by omega, fun D hD => lc_range (lo := 0) (n := (M : Int).toNat) (fun i H' => ∃ bs2 : List Addr, H' D = some (.lst (bs2.map V.ref)) ∧ bs2.length = i ∧ (∀ a ∈ bs2, H' a = some (.lst []) ∧ H a = none) ∧ Same H H') ?_ ?_ ?_⟩
    · exact ⟨[], upd_same, rfl, fun a h => absurd h List.not_mem_nil, sN hD⟩
    · rintro i H1 hi ⟨bs2, eD, hl, ha, s1⟩
      rw [eM] at hi
      refine ⟨rfl, Nat.zero_le _, fun a hna => ?_⟩
      have z1 := sN (o := .lst []) hna
      have naD : a ≠ D := fun e => by rw [e, eD] at hna; cases hna
      have ha0 : H a = none := by
        cases z : H a with
        | none => rfl
        | some o => rw [s1 _ _ z] at hna; cases hna
      refine ⟨_, z1 _ _ eD, ?_, bs2 ++ [a], ?_, ?_, fun b hb => ?_, sNew (sT s1 z1) hD⟩
      · rw [List.length_map, hl]
        exact Nat.lt_of_lt_of_le (show i < 64 by omega) (by decide)
      · rw [upd_same, List.map_append]
        rfl
      · rw [List.length_append, hl]
        rfl
      · have nbD : b ≠ D := fun e => by
          rcases List.mem_append.mp hb with hb | hb
          · have y := (ha b hb).1
            rw [e, eD] at y
            have y2 := HO.lst.inj (Option.some.inj y)
            cases bs2 with
            | nil => exact absurd hb List.not_mem_nil
            | cons c t => cases y2
          · rw [List.mem_singleton.mp hb] at e
            exact naD e
        rw [upd_ne nbD]
        rcases List.mem_append.mp hb with hb | hb
        · exact ⟨z1 _ _ (ha b hb).1, (ha b hb).2⟩
        · rw [List.mem_singleton.mp hb]
          exact ⟨upd_same, ha0⟩
    rintro H1 ⟨bs2, eD, hl, ha, s1⟩
    rw [eM] at hl
    refine ⟨_, rfl, lf, rfl, ⟨_, SqL.of (s1 _ _ hlf)⟩, for_list (K := K) (a := lf) (xs := ls.map nI) (fun j σ H' => ∃ (x3 : Option V) (b3 : List Addr), σ = [some (.ref w), some (.ref lf), some (.ref D), x3, none, none] ∧ RowsI H' D b3 (nbL nb ls j) M ∧ Same H H' ∧ (∀ a ∈ b3, H a = none)) ?_ ?_ ?_ ?_⟩
    · refine ⟨none, bs2, rfl, ⟨eD, hl, fun i a h => ?_⟩, s1, fun a h => (ha a h).2⟩
      have e : nbL nb ls 0 i = [] := by
        unfold nbL
        rw [if_neg (by simp)]
      rw [e]
      exact (ha a (List.mem_of_getElem? h)).1
    · rintro j σ H2 hj ⟨_, _, _, _, s2, _⟩
      exact SqL.of (s2 _ _ hlf)
    · rintro j v σ H2 hv ⟨x3, b3, rfl, rw3, s2, new3⟩
      obtain ⟨h, hh, rfl⟩ := map_inv hv
      have hM := lsM h (List.mem_of_getElem? hh)
      refine ⟨_, rfl, _, rfl, w, dx, q, r, (M : Int), L, bs, nb, h, rfl, x.same s2, by omega, fun t ht => ⟨t, rfl, ⟨_, SqT.of ht⟩, fun D2 hD2 => lc_tup (K := K) (a := t) (xs := (nb h).map V.int) (fun i H' => H' D2 = some (.lst ((((nb h).take i).filter (fun o => decide (o ∈ ls.map fun i : Nat => (i : Int)))).map V.int)) ∧ Same H2 H') ?_ ?_ ?_ ?_⟩⟩
      · exact ⟨upd_same, sN hD2⟩
      · rintro i H3 hi ⟨_, s3⟩
        exact SqT.of (s3 _ _ ht)
      · rintro i v H3 hv2 ⟨eD2, s3⟩
        obtain ⟨o, ho, rfl⟩ := map_inv hv2
        have hi : i < (nb h).length := (List.getElem?_eq_some_iff.mp ho).1
        have lsl3 : SqL K H3 lf ((ls.map fun i : Nat => (i : Int)).map V.int) := by rw [← els]; exact SqL.of (s3 _ _ (s2 _ _ hlf))
        have ll : (((nb h).take i).filter (fun o => decide (o ∈ ls.map fun i : Nat => (i : Int)))).length ≤ i := by
          refine Nat.le_trans (List.length_filter_le _ _) ?_
          rw [List.length_take]
          omega
        refine ⟨rfl, _, rfl, _, rfl, lf, _, rfl, .inl lsl3, rfl, flat_int _, _, rfl, ?_⟩
        rw [if_neg Bool.false_ne_true, inV_int]
        refine ite2 (fun c => ?_) (fun c => ?_)
        · refine ⟨_, rfl, _, eD2, ?_, ?_, sNew s3 hD2⟩
          · rw [List.length_map]
            exact Nat.lt_of_lt_of_le (show (((nb h).take i).filter (fun o => decide (o ∈ ls.map fun i : Nat => (i : Int)))).length < 1001 by have := nbl h hM; omega) (by decide)
          · rw [upd_same, take_snoc ho, List.filter_append, List.filter_cons_of_pos (by exact c), List.map_append]
            rfl
        · refine ⟨?_, s3⟩
          rw [take_snoc ho, List.filter_append, List.filter_cons_of_neg (by exact c)]
          show H3 D2 = some (.lst ((_ ++ []).map V.int))
          rw [List.append_nil]
          exact eD2
      · rintro H3 ⟨eD2, s3⟩
        rw [List.length_map, List.take_length] at eD2
        have eD3 := s3 _ _ rw3.at_
        refine ⟨_, rfl, _, rfl, D, _, (h : Int), h, rfl, rfl, eD3, ixN_of (by rw [List.length_map, rw3.len]; exact hM), ?_⟩
        have D2D : D2 ≠ D := fun e => by rw [e, rw3.at_] at hD2; cases hD2
        have notD : ∀ (i : Nat) (a : Addr), b3[i]? = some a → a ≠ D := fun i a hi e => by
          have y := rw3.row i a hi
          rw [e, rw3.at_] at y
          have y2 := HO.lst.inj (Option.some.inj y)
          have hb : b3 ≠ [] := fun z => by rw [z] at hi; simp at hi
          cases b3 with
          | nil => exact hb rfl
          | cons c t =>
            cases z : nbL nb ls j i with
            | nil => rw [z] at y2; cases y2
            | cons u v => rw [z] at y2; exact V.noConfusion (List.cons.inj y2).1
        refine ⟨_, b3.set h D2, rfl, ⟨?_, ?_, fun i a hi => ?_⟩, sNew (sT s2 s3) hD, fun a m => ?_⟩
        · rw [upd_same, List.map_set]
        · rw [List.length_set]
          exact rw3.len
        · have nl : nbL nb ls (j + 1) i = if i = h then (nb h).filter (fun o => decide (o ∈ ls.map fun i : Nat => (i : Int))) else nbL nb ls j i := by
            unfold nbL
            rw [take_snoc hh]
            by_cases c : i = h
            · rw [if_pos c, c, if_pos (List.mem_append_right _ (List.mem_singleton.mpr rfl))]
            · rw [if_neg c]
              by_cases m : i ∈ ls.take j
              · rw [if_pos m, if_pos (List.mem_append_left _ m)]
              · rw [if_neg m, if_neg fun z => ?_]
                rcases List.mem_append.mp z with z | z
                · exact m z
                · exact c (List.mem_singleton.mp z)
          rw [nl]
          rw [List.getElem?_set] at hi
          by_cases c : h = i
          · rw [if_pos c] at hi
            rw [if_pos c.symm]
            have ea : D2 = a := by
              split at hi
              · exact Option.some.inj hi
              · cases hi
            rw [← ea, upd_ne D2D]
            exact eD2
          · rw [if_neg c] at hi
            rw [if_neg (fun z => c z.symm), upd_ne (notD i a hi)]
            exact s3 _ _ (rw3.row i a hi)
        · rcases List.mem_or_eq_of_mem_set m with m | m
          · exact new3 a m
          · rw [m]
            exact sNo s2 hD2
    · rintro σ H2 ⟨x3, b3, rfl, rw3, s2, new3⟩
      rw [List.length_map] at rw3
      exact ⟨_, rfl, k D b3 H2 s2 hD new3 rw3⟩
end
end Q

namespace Q
open PySem L2 QM
def spStepsI : Sp := fun vs H Q _ => ∃ (r : Addr) (bs : List Addr) (nb : Nat → List Int) (n : Nat) (G : Nat → Nat → Prop) (st : Nat), vs = [.ref r, .int (st : Int)] ∧ RowsI H r bs nb n ∧ n ≤ 40 ∧ st < n ∧ NbG G n nb ∧ (∀ a b, G a b → b < n) ∧
  ∀ (p : Addr) (cs : List V) (H' : Hp), H p = none → H' p = some (.lst cs) → Cells G st n cs → Same H H' → Q (.ref p) H'
section
variable {P : Program} {w : World} {K : PySem.W.Frag} {mg : Str → Option Value} {base : Heap}
theorem ok_stepsI {f : Addr} {fd : FuncData} (F : Fun K "steps_from" "steps_from" sSteps f fd) (B : Bts mg) : FnOk P w K mg base CX0 1 f fd ["beside", "start"] spStepsI := by
  refine F.ok scSteps (fun vs H Q E h => ?_) (fun cdv A outer s H vs Q E hr h => ?_)
  · obtain ⟨r, bs, nb, n, G, st, rfl, _⟩ := h
    rfl
  · obtain ⟨r, bs, nb, n, G, st, rfl, rt, n40, hst, hnb, hG, k⟩ := h
    have nd := scSteps.nd
    refine ⟨_, pss_cons (ps_set (i := 2) nd rfl (.inl rfl) (pe_op op_rep (pe_lst (pa_cons pe_non pa_nil)) (pe_callB call_len_seq (by rfl) B.len PySem.boot_len (pa_cons (pv 0) pa_nil))))
      (pss_cons (ps_asg pe_int (pg_sub (pv 2) (pv 1) set_list))
      (pss_cons (ps_set (i := 3) nd rfl (.inl rfl) (pe_lst (pa_cons (pv 1) pa_nil)))
      (pss_cons (ps_while PassesOwn.never (pt_truth (pv 3) (fun _ => rfl))
        (pss_cons (ps_set (i := 4) nd rfl (.inl rfl) (pe_lst pa_nil))
        (pss_cons (ps_for PassesOwn.never rfl (pi_list (pv 3)) (pg_name (i := 5) nd rfl (.inl rfl))
          (pss_one (ps_for PassesOwn.never rfl (pi_list (pe_ix ix_list (pv 0) (pv 5) (fun _ _ => rfl))) (pg_name (i := 6) nd rfl (.inl rfl))
            (pss_one (ps_if (pt_cmp (pc_isN (pe_ix ix_list (pv 2) (pv 6) (fun _ _ => rfl))))
              (pss_cons (ps_asg (pe_op op_add (pe_ix ix_list (pv 2) (pv 5) (fun _ _ => rfl)) pe_int) (pg_sub (pv 2) (pv 6) set_list))
              (pss_one (ps_expr (pe_bm PySem.F.plainAttrs_list PySem.F.slot_list_append PySem.F.type_list_append mt_append (pv 4) (pa_cons (pv 6) pa_nil))))) pss_nil)))))
        (pss_one (ps_set (i := 3) nd rfl (.inl rfl) (pv 4))))))
      (pss_one (ps_ret (pv 2)))))), ?_⟩
    -- steps = [None] * len(beside); steps[start] = 0; reached = [start]
    refine ⟨(by show 1 ≤ sizeLine; decide), fun l hl => ?_⟩
    have sl : Same H (upd H l (.lst [.non])) := sNew (fun _ _ e => e) hl
    have el : (bs.map V.ref).length = n := by rw [List.length_map, rt.len]
    refine ⟨_, rfl, r, _, rfl, .inl (SqL.of (sl _ _ rt.at_)), l, _, _, rfl, rfl, upd_same, ?_, ?_, ?_, fun sp hsp => ?_⟩
    · omega
    · rw [el]; omega
    · rw [el]; exact size_le (by show 1 * (n : Int).toNat ≤ 64; omega)
    · have hsp0 : H sp = none := sNo sl hsp
      have ef : (List.replicate (((bs.map V.ref).length : Nat) : Int).toNat [V.non]).flatten = List.replicate n V.non := by
        rw [el, Int.toNat_natCast, List.flatten_replicate_singleton]
      rw [ef]
      refine ⟨_, rfl, _, rfl, sp, _, (st : Int), st, rfl, rfl, upd_same, ixN_nat (by rw [List.length_replicate]; exact hst), ?_⟩
      refine ⟨_, rfl, (by show 1 ≤ sizeLine; decide), fun re hre => ?_⟩
      have nsr : sp ≠ re := fun e => by rw [← e, upd_same] at hre; cases hre
      have s1 : Same H (upd (upd (upd H l (.lst [.non])) sp (.lst (List.replicate n V.non))) sp (.lst ((List.replicate n V.non).set st (.int 0)))) := sNew (sNew sl hsp0) hsp0
      have hre0 : H re = none := sNo s1 hre
      refine ⟨stW H r sp G st n, ⟨_, 0, re, [st], _, none, none, none, rfl, by rw [upd_ne nsr, upd_same]; rfl, upd_same, nsr, lev_zero hst, ?_, ?_, sNew s1 hre0, rfl⟩, ?_⟩
      · intro x hx
        rw [List.mem_singleton.mp hx]
        exact ⟨hst, .zero⟩
      · intro x d
        rw [d.of_zero]
        exact List.mem_singleton.mpr rfl
      · clear nsr s1 hre0 hre re ef sl hsp el
        rintro m σ H1 ⟨t, re, rs, cs, x4, x5, x6, rfl, e1, e2, nsr, lv, hin, hall, s1, em⟩
        cases hb : (!(rs.map nI).isEmpty) with
        | false =>
          have er : rs = [] := by
            cases rs with
            | nil => rfl
            | cons u v => exact absurd hb (by simp)
          subst er
          exact ⟨_, rfl, false, .inl ⟨_, SqL.of e2, rfl⟩, iteF ⟨_, rfl, k sp cs _ hsp0 e1 (lv.all fun x d => absurd (hall x d) List.not_mem_nil) s1⟩⟩
        | true =>
          have er : rs.isEmpty = false := by
            cases rs with
            | nil => exact absurd hb (by simp)
            | cons u v => rfl
          rw [er, if_neg Bool.false_ne_true] at em
          refine ⟨_, rfl, true, .inl ⟨_, SqL.of e2, hb.symm⟩, iteT ⟨fun σ' H' => ∃ m', m' < m ∧ stW H r sp G st n m' σ' H', fun _ _ z => z, ?_⟩⟩
          -- coming = []
          refine ⟨Nat.zero_le _, fun co hco => ?_⟩
          have nsc : sp ≠ co := ne_of_none e1 hco
          have nrc : re ≠ co := ne_of_none e2 hco
          have hco0 : H co = none := sNo s1 hco
          refine ⟨_, rfl, re, rfl, ⟨_, SqL.of (by rw [upd_ne nrc]; exact e2)⟩, for_list (K := K) (a := re) (xs := rs.map nI) (fun i σ H' => ∃ (cs' : List V) (cm : List Nat) (x5 x6 : Option V),
            σ = [some (.ref r), some (.int (st : Int)), some (.ref sp), some (.ref re), some (.ref co), x5, x6] ∧ H' sp = some (.lst cs') ∧ H' co = some (.lst (cm.map nI)) ∧ H' re = some (.lst (rs.map nI)) ∧
              Mid G st n t (fun v => ∃ u ∈ rs.take i, G u v) (nn cs) cs' cm ∧ Same H H') ?_ ?_ ?_ ?_⟩
          · exact ⟨cs, [], x5, x6, rfl, by rw [upd_ne nsc]; exact e1, upd_same, by rw [upd_ne nrc]; exact e2, (Mid.start lv).mono (fun v hv ⟨u, hu, _⟩ => absurd hu (by simp)), sNew s1 hco0⟩
          · rintro i σ H2 hi ⟨cs', cm, y5, y6, rfl, f1, f2, f3, md, s2⟩
            exact SqL.of f3
          · rintro i x σ H2 hx ⟨cs', cm, y5, y6, rfl, f1, f2, f3, md, s2⟩
            obtain ⟨u, hu, rfl⟩ := map_inv hx
            obtain ⟨un, du⟩ := hin u (List.mem_of_getElem? hu)
            have ul : u < bs.length := by rw [rt.len]; exact un
            have gu : bs[u]? = some bs[u] := List.getElem?_eq_getElem ul
            refine ⟨_, rfl, _, rfl, r, _, (u : Int), _, rfl, rfl, SqL.of (s2 _ _ rt.at_), atI_nat (map_get gu), bs[u], rfl, ⟨_, SqL.of (s2 _ _ (rt.row u _ gu))⟩, for_list (K := K) (a := bs[u]) (xs := (nb u).map V.int) (fun j σ H' => ∃ (cs' : List V) (cm : List Nat) (x6 : Option V),
              σ = [some (.ref r), some (.int (st : Int)), some (.ref sp), some (.ref re), some (.ref co), some (nI u), x6] ∧ H' sp = some (.lst cs') ∧ H' co = some (.lst (cm.map nI)) ∧ H' re = some (.lst (rs.map nI)) ∧
                Mid G st n t (fun v => (∃ u ∈ rs.take i, G u v) ∨ (v : Int) ∈ (nb u).take j) (nn cs) cs' cm ∧ Same H H') ?_ ?_ ?_ ?_⟩
            · exact ⟨cs', cm, _, rfl, f1, f2, f3, md.mono (fun v hv z => z.elim id fun z => absurd z (by simp)), s2⟩
            · rintro j σ H3 hj ⟨cs3, cm3, z6, rfl, g1, g2, g3, md3, s3⟩
              exact SqL.of (s3 _ _ (rt.row u _ gu))
            · rintro j y σ H3 hy ⟨cs3, cm3, z6, rfl, g1, g2, g3, md3, s3⟩
              obtain ⟨w, hw, rfl⟩ := map_inv hy
              obtain ⟨v, rfl, guv⟩ := (hnb u un w).mp (List.mem_of_getElem? hw)
              have vn : v < n := hG _ _ guv
              have vl : v < cs3.length := by rw [md3.len]; exact vn
              have hcv : cs3[v]? = some cs3[v] := List.getElem?_eq_getElem vl
              have hcu := md3.house un du
              have dn : ∀ x, ((∃ u ∈ rs.take i, G u x) ∨ (x : Int) ∈ (nb u).take (j + 1)) → ((∃ u ∈ rs.take i, G u x) ∨ (x : Int) ∈ (nb u).take j) ∨ x = v := by
                rintro x (z | z)
                · exact .inl (.inl z)
                · rcases (take_succ_mem hw).mp z with z | z
                  · exact .inl (.inr z)
                  · exact .inr (by omega)
              refine ⟨_, rfl, _, rfl, sp, cs3, (v : Int), _, rfl, rfl, SqL.of g1, atI_nat hcv, _, rfl, ite2 (fun c => ?_) (fun c => ?_)⟩
              · have ec : cs3[v] = .non := of_decide_eq_true c
                rw [ec] at hcv
                have cl : cm3.length ≤ 40 := by
                  have z := md3.cnt
                  have z2 := nn_le cs
                  rw [lv.len] at z2
                  omega
                refine ⟨_, rfl, _, rfl, sp, cs3, (u : Int), _, rfl, rfl, SqL.of g1, atI_nat hcu, _, _, rfl, rfl, _, rfl, _, rfl, sp, cs3, (v : Int), v, rfl, rfl, g1, ixN_nat vl, ?_⟩
                have g2' : upd H3 sp (.lst (cs3.set v (nI (t + 1)))) co = some (.lst (cm3.map nI)) := by rw [upd_ne nsc.symm]; exact g2
                refine ⟨_, rfl, .inl ⟨rfl, _, SqL.of g2'⟩, _, rfl, co, _, _, rfl, rfl, g2', ?_, ?_⟩
                · rw [List.length_map]
                  exact size_ok (by omega)
                · refine ⟨cs3.set v (nI (t + 1)), cm3 ++ [v], _, rfl, ?_, ?_, ?_, (md3.more vn hcv du guv).mono (fun x _ z => dn x z), ?_⟩
                  · rw [upd_ne nsc, upd_same]
                    rfl
                  · rw [upd_same, List.map_append]
                    rfl
                  · rw [upd_ne nrc, upd_ne nsr.symm]
                    exact g3
                  · exact sNew (sNew s3 hsp0) hco0
              · exact ⟨cs3, cm3, _, rfl, g1, g2, g3, (md3.skip hcv (fun e => c (decide_eq_true e))).mono (fun x _ z => dn x z), s3⟩
            · rintro σ H3 ⟨cs3, cm3, z6, rfl, g1, g2, g3, md3, s3⟩
              refine ⟨cs3, cm3, _, _, rfl, g1, g2, g3, md3.mono ?_, s3⟩
              rintro v hv ⟨u', hu', g⟩
              rcases (take_succ_mem hu).mp hu' with z | rfl
              · exact .inl ⟨u', z, g⟩
              · refine .inr ?_
                rw [List.length_map, List.take_length]
                exact (hnb u' un _).mpr ⟨v, rfl, g⟩
          · rintro σ H2 ⟨cs', cm, y5, y6, rfl, f1, f2, f3, md, s2⟩
            obtain ⟨lv2, all2⟩ := md.fin hG fun u v d g => ⟨u, by rw [List.length_map, List.take_length]; exact hall u d, g⟩
            refine ⟨_, rfl, nn cs' + (if cm.isEmpty = true then 0 else 1), ?_, t + 1, co, cm, cs', _, _, _, rfl, f1, f2, nsc, lv2, md.cmok, all2, s2, rfl⟩
            have z := md.cnt
            cases cm with
            | nil =>
              rw [if_pos (show ([] : List Nat).isEmpty = true from rfl)]
              rw [List.length_nil] at z
              omega
            | cons a b =>
              rw [if_neg (show ¬ ((a :: b).isEmpty = true) from Bool.false_ne_true)]
              rw [List.length_cons] at z
              omega
end
end Q

namespace Q
open PySem L2 QM
section
variable {G : Nat → Nat → Prop} {s n : Nat}
def ofV : Option V → Option Nat
  | some (.int z) => some z.toNat
  | _ => none
theorem Cells.pVs {cs : List V} (h : Cells G s n cs) : ∃ st : Nat → Option Nat, cs = pVs n st ∧ ∀ v, v < n → ∀ d, st v = some d ↔ Dist G s v d := by
  refine ⟨fun v => ofV cs[v]?, ?_, fun v hv d => ?_⟩
  · refine List.ext_getElem? fun i => ?_
    by_cases hi : i < n
    · rw [pVs_get _ hi]
      rcases h.cell i hi with ⟨d, e, _⟩ | ⟨e, _⟩
      · rw [e]
        show some (nI d) = some (nI ((d : Int).toNat))
        rw [Int.toNat_natCast]
      · rw [e]
        rfl
    · rw [List.getElem?_eq_none (by rw [h.len]; omega), List.getElem?_eq_none (by rw [pVs_len]; omega)]
  · rcases h.cell v hv with ⟨c, e, x⟩ | ⟨e, x⟩
    · have z : ofV cs[v]? = some c := by
        rw [e]
        show some ((c : Int).toNat) = some c
        rw [Int.toNat_natCast]
      constructor
      · intro k
        have : some c = some d := z.symm.trans k
        cases this
        exact x
      · intro k
        exact z.trans (by rw [x.uniq k])
    · have z : ofV cs[v]? = none := by rw [e]; rfl
      exact ⟨fun k => absurd (z.symm.trans k) (fun h => by cases h), fun k => absurd k (x d)⟩
/-- nearest neighbours lead to the start -/
theorem near_none {nb : Nat → List Int} {st : Nat → Option Nat} (hst : ∀ v, v < n → ∀ d, st v = some d ↔ Dist G s v d) (hnb : NbG G n nb) (hG : ∀ a b, G a b → b < n) (sym : ∀ a b, G a b → G b a) {v d : Nat} (hv : v < n) (hd : st v = some d) (h : NearOf (nb v) st d none) : v = s := by
  have x := (hst v hv d).mp hd
  cases d with
  | zero => exact x.of_zero
  | succ t =>
    obtain ⟨u, du, g⟩ := x.pred
    rcases h with ⟨_, h⟩ | ⟨u, e, _⟩
    · have un : u < n := hG _ _ (sym _ _ g)
      have m : (u : Int) ∈ nb v := (hnb v hv u).mpr ⟨u, rfl, sym _ _ g⟩
      exact absurd (Nat.lt_succ_self t) (h u m t (by rw [Int.toNat_natCast]; exact (hst u un t).mpr du))
    · cases e
theorem near_some {nb : Nat → List Int} {st : Nat → Option Nat} (hst : ∀ v, v < n → ∀ d, st v = some d ↔ Dist G s v d) (hnb : NbG G n nb) (hG : ∀ a b, G a b → b < n) {v u d : Nat} (hv : v < n) (h : NearOf (nb v) st d (some u)) : u < n ∧ G v u ∧ ∃ e, st u = some e ∧ e < d := by
  rcases h with ⟨e, _⟩ | ⟨u', e, m, k, _⟩
  · cases e
  · cases e
    obtain ⟨u', e, g⟩ := (hnb v hv u).mp m
    have : u = u' := by omega
    subst this
    exact ⟨hG _ _ g, g, k⟩
theorem near_root {nb : Nat → List Int} {st : Nat → Option Nat} {par : Nat → Option Nat} (hst : ∀ v, v < n → ∀ d, st v = some d ↔ Dist G s v d) (hnb : NbG G n nb) (hG : ∀ a b, G a b → b < n) (sym : ∀ a b, G a b → G b a)
    (hp : ∀ v, v < n → ∀ d, st v = some d → NearOf (nb v) st d (par v)) : ∀ (d v : Nat), v < n → st v = some d → Root par v s := by
  intro d
  induction d using Nat.strongRecOn with
  | _ d ih =>
    intro v hv hd
    have h := hp v hv d hd
    cases e : par v with
    | none =>
      rw [e] at h
      have := near_none hst hnb hG sym hv hd h
      subst this
      exact .here e
    | some u =>
      rw [e] at h
      obtain ⟨un, _, c, ec, lt⟩ := near_some hst hnb hG hv h
      exact .up e (ih c lt u un ec)
end
end Q

namespace Q
open PySem L2 QM
/-- one cluster: no tie is chosen -/
theorem cho_one {M : Nat} {H : Hp} {q t : Addr} {L : List (Addr × List Int)} {par : Nat → Option Nat} (tt : TiesAt (M : Int) H q L) (ht : H t = some (.tup [])) (one : ∀ v, v < M → LD par M v = 0) : ChoAt (fun i => (LD par M i : Int)) L (M : Int) H t [] := by
  refine ⟨ht, fun p hp => absurd hp List.not_mem_nil, fun p hp => absurd hp List.not_mem_nil, .nil, Nat.zero_le _, fun p hp => absurd hp List.not_mem_nil, fun p hp => absurd hp List.not_mem_nil, fun r hr c => ?_, .nil⟩
  obtain ⟨a, b, e, a0, ab, bm⟩ := tt.ok r hr
  obtain ⟨x, y, e2, ne⟩ := c
  rw [e] at e2
  have z : cx (LD par M a.toNat : Int) (LD par M b.toNat : Int) = [x, y] := e2
  rw [one a.toNat (by omega), one b.toNat (by omega)] at z
  simp only [cx, List.cons.injEq, and_true] at z
  obtain ⟨z1, z2⟩ := z
  exact absurd (z1.symm.trans (by simpa using z2)) ne
/-- what beta grows -/
theorem beta_par {M : Nat} {L : List (Addr × List Int)} {nb : Nat → List Int} {st par : Nat → Option Nat} (T : TL (M : Int) L) (m1 : 1 ≤ M) (hn : NbOf L M nb) (hst : ∀ v, v < M → ∀ d, st v = some d ↔ Dist (GL L) 0 v d)
    (hp : ∀ v, v < M → ∀ d, st v = some d → NearOf (nb v) st d (par v)) : ∃ rk, ParN M par rk nb ∧ ∀ v, v < M → LD par M v = 0 := by
  have hnb : NbG (GL L) M nb := by
    have := T.nb (nb := nb) (by simpa using hn)
    simpa using this
  have hG : ∀ a b, GL L a b → b < M := fun a b h => by
    have := (T.in2 h).2
    omega
  have ex : ∀ v, v < M → ∃ d, st v = some d := fun v hv => by
    obtain ⟨d, h⟩ := T.dist (s := 0) (v := v) (by omega) (by omega)
    exact ⟨d, (hst v hv d).mpr h⟩
  have P : ParN M par (fun v => (st v).getD 0) nb := by
    refine ⟨⟨fun v u hv e => ?_, fun v hv => ?_⟩, fun v u hv e => ?_⟩
    · obtain ⟨d, hd⟩ := ex v hv
      obtain ⟨un, _, c, ec, lt⟩ := near_some hst hnb hG hv (e ▸ hp v hv d hd)
      refine ⟨un, ?_⟩
      show (st u).getD 0 < (st v).getD 0
      rw [ec, hd]
      exact lt
    · obtain ⟨d, hd⟩ := ex v hv
      show (st v).getD 0 < M
      rw [hd]
      exact ((hst v hv d).mp hd).lt m1 hG
    · obtain ⟨d, hd⟩ := ex v hv
      obtain ⟨un, g, _⟩ := near_some hst hnb hG hv (e ▸ hp v hv d hd)
      exact (hnb v hv u).mpr ⟨u, rfl, g⟩
  refine ⟨_, P, fun v hv => ?_⟩
  obtain ⟨d, hd⟩ := ex v hv
  exact (P.ok.root hv).uniq (near_root hst hnb hG (fun a b h => TL.sym a b h) hp d v hv hd)
end Q

namespace Q
open PySem L2 QM
/-! growing, by itself: what is told of the balls, without any text -/
/-- the least neighbour that is one step nearer, none of the start -/
def HungOf (G : Nat → Nat → Prop) (s v : Nat) (r : Option Nat) : Prop := (r = none ∧ v = s) ∨ ∃ u d, r = some u ∧ Dist G s v (d + 1) ∧ Dist G s u d ∧ G v u ∧ ∀ o, G v o → Dist G s o d → u ≤ o
theorem HungOf.uniq {G : Nat → Nat → Prop} {s v : Nat} {r r' : Option Nat} (h : HungOf G s v r) (g : HungOf G s v r') : r = r' := by
  rcases h with ⟨rfl, e⟩ | ⟨u, d, rfl, a, b, c, l⟩
  · rcases g with ⟨rfl, _⟩ | ⟨u', d', rfl, a', _⟩
    · rfl
    · subst e
      exact absurd (a'.uniq Dist.zero) (by omega)
  · rcases g with ⟨rfl, e⟩ | ⟨u', d', rfl, a', b', c', l'⟩
    · subst e
      exact absurd (a.uniq Dist.zero) (by omega)
    · have e : d = d' := by
        have := a.uniq a'
        omega
      subst e
      rw [Nat.le_antisymm (l u' c' b') (l' u c b)]
theorem near_hung {G : Nat → Nat → Prop} {s n : Nat} {nb : Nat → List Int} {st : Nat → Option Nat} (hst : ∀ v, v < n → ∀ d, st v = some d ↔ Dist G s v d) (hnb : NbG G n nb) (hG : ∀ a b, G a b → b < n) (sym : ∀ a b, G a b → G b a) {v d : Nat} (hv : v < n) (hd : st v = some d) {r : Option Nat} (h : NearOf (nb v) st d r) : HungOf G s v r := by
  cases r with
  | none => exact .inl ⟨rfl, near_none hst hnb hG sym hv hd h⟩
  | some u =>
    obtain ⟨un, g, e, ee, lt⟩ := near_some hst hnb hG hv h
    have dv := (hst v hv d).mp hd
    have du := (hst u un e).mp ee
    have ed : d = e + 1 := by
      have no : ¬ e + 1 < d := fun z => dv.2 (e + 1) z (.succ du.1 (sym _ _ g))
      omega
    subst ed
    refine .inr ⟨u, e, rfl, dv, du, g, fun o go dd => ?_⟩
    have on : o < n := hG _ _ go
    rcases h with ⟨z, _⟩ | ⟨u', z, _, _, least⟩
    · cases z
    · cases z
      have m : (o : Int) ∈ nb v := (hnb v hv o).mpr ⟨o, rfl, go⟩
      have := least o m e (by rw [Int.toNat_natCast]; exact (hst o on e).mpr dd) (by omega)
      omega
/-- ties between those that are left -/
def GB (L : List (Addr × List Int)) (ls : List Nat) (u v : Nat) : Prop := GL L u v ∧ u ∈ ls ∧ v ∈ ls
theorem GB.sym {L : List (Addr × List Int)} {ls : List Nat} {u v : Nat} (h : GB L ls u v) : GB L ls v u := ⟨TL.sym _ _ h.1, h.2.2, h.2.1⟩
theorem gb_nb {L : List (Addr × List Int)} {M : Nat} {nb : Nat → List Int} (hn : NbG (GL L) M nb) (ls : List Nat) : NbG (GB L ls) M (nbL nb ls ls.length) := fun i hi j => by
  unfold nbL
  rw [List.take_length]
  by_cases c : i ∈ ls
  · rw [if_pos c, List.mem_filter, hn i hi j]
    constructor
    · rintro ⟨⟨v, rfl, g⟩, m⟩
      obtain ⟨w, hw, e⟩ := List.mem_map.mp (of_decide_eq_true m)
      have : w = v := by omega
      subst this
      exact ⟨w, rfl, g, c, hw⟩
    · rintro ⟨v, rfl, g, _, hv⟩
      exact ⟨⟨v, rfl, g⟩, decide_eq_true (List.mem_map.mpr ⟨v, hv, rfl⟩)⟩
  · rw [if_neg c]
    exact ⟨fun h => absurd h List.not_mem_nil, fun ⟨_, _, _, h, _⟩ => absurd h c⟩
theorem gb_mem {L : List (Addr × List Int)} {ls : List Nat} {s k v : Nat} (hs : s ∈ ls) (h : Rch (GB L ls) s k v) : v ∈ ls := by
  cases h with
  | zero => exact hs
  | succ _ e => exact e.2.2
theorem rch_gl {L : List (Addr × List Int)} {ls : List Nat} {s k v : Nat} (hs : s ∈ ls) (h : Rch (GLl L (ls.map fun i : Nat => (i : Int))) s k v) : Rch (GB L ls) s k v := by
  induction h with
  | zero => exact .zero
  | succ _ e ih =>
    obtain ⟨w, hw, e2⟩ := List.mem_map.mp e.2
    have ew := Int.ofNat.inj e2
    exact .succ ih ⟨e.1, gb_mem hs ih, ew ▸ hw⟩
theorem gb_rch {L : List (Addr × List Int)} {ls : List Nat} {s k v : Nat} (h : Rch (GB L ls) s k v) : Rch (GLl L (ls.map fun i : Nat => (i : Int))) s k v := by
  induction h with
  | zero => exact .zero
  | succ _ e ih => exact .succ ih ⟨e.1, List.mem_map.mpr ⟨_, e.2.2, rfl⟩⟩
theorem dist_gl {L : List (Addr × List Int)} {ls : List Nat} {s v d : Nat} (hs : s ∈ ls) : Dist (GLl L (ls.map fun i : Nat => (i : Int))) s v d ↔ Dist (GB L ls) s v d :=
  ⟨fun h => ⟨rch_gl hs h.1, fun e he r => h.2 e he (gb_rch r)⟩, fun h => ⟨gb_rch h.1, fun e he r => h.2 e he (rch_gl hs r)⟩⟩
/-- all distances, none of what is not reached -/
def StOf (G : Nat → Nat → Prop) (s : Nat) (st : Nat → Option Nat) : Prop := ∀ v d, st v = some d ↔ Dist G s v d
theorem StOf.uniq {G : Nat → Nat → Prop} {s : Nat} {st st' : Nat → Option Nat} (h : StOf G s st) (g : StOf G s st') : st = st' := by
  funext v
  cases e : st v with
  | none =>
    cases e' : st' v with
    | none => rfl
    | some d =>
      have z := (h v d).mpr ((g v d).mp e')
      rw [e] at z
      cases z
  | some d => exact ((g v d).mpr ((h v d).mp e)).symm
theorem RchOf.uniq {M k r r' : Nat} {st : Nat → Option Nat} (h : RchOf M st k r) (g : RchOf M st k r') : r = r' := by
  rcases Nat.lt_trichotomy r r' with c | c | c
  · exact absurd h.2 (Nat.not_lt.mpr (g.1 r c))
  · exact c
  · exact absurd g.2 (Nat.not_lt.mpr (h.1 r' c))
/-- the parents, and who is left, behind so many balls -/
inductive GrS (L : List (Addr × List Int)) (M k : Nat) : Nat → (Nat → Option Nat) → List Nat → Prop
  | zero : GrS L M k 0 (fun _ => none) (List.range M)
  | step {j : Nat} {par par' : Nat → Option Nat} {s : Nat} {rest : List Nat} {st : Nat → Option Nat} {r : Nat} : GrS L M k j par (s :: rest) → StOf (GB L (s :: rest)) s st → RchOf M st k r →
      (∀ v, inB st r v = true → HungOf (GB L (s :: rest)) s v (par' v)) → (∀ v, inB st r v = false → par' v = par v) → GrS L M k (j + 1) par' ((s :: rest).filter fun v => !inB st r v)
section
variable {L : List (Addr × List Int)} {M k : Nat}
theorem GrS.uniq {j : Nat} {par : Nat → Option Nat} {ls : List Nat} (h : GrS L M k j par ls) : ∀ {par' : Nat → Option Nat} {ls' : List Nat}, GrS L M k j par' ls' → par = par' ∧ ls = ls' := by
  induction h with
  | zero =>
    intro par' ls' g
    cases g
    exact ⟨rfl, rfl⟩
  | step h1 h2 h3 h4 h5 ih =>
    intro par' ls' g
    cases g with
    | step g1 g2 g3 g4 g5 =>
      obtain ⟨rfl, e⟩ := ih g1
      cases e
      obtain rfl := h2.uniq g2
      obtain rfl := h3.uniq g3
      refine ⟨funext fun v => ?_, rfl⟩
      cases c : inB _ _ v with
      | true => exact (h4 v c).uniq (g4 v c)
      | false => rw [h5 v c, g5 v c]
theorem GrS.back {j : Nat} {par : Nat → Option Nat} {ls : List Nat} (h : GrS L M k (j + 1) par ls) : ∃ p0 s l0, GrS L M k j p0 (s :: l0) := by
  cases h with
  | step h1 _ _ _ _ => exact ⟨_, _, _, h1⟩
theorem GrS.ahead {i : Nat} : ∀ {j : Nat} {par : Nat → Option Nat} {ls : List Nat}, GrS L M k j par ls → i < j → ∃ p0 s l0, GrS L M k i p0 (s :: l0)
  | 0, _, _, _, lt => absurd lt (Nat.not_lt_zero _)
  | j + 1, _, _, h, lt => by
    obtain ⟨p0, s, l0, h0⟩ := h.back
    by_cases c : i = j
    · subst c
      exact ⟨p0, s, l0, h0⟩
    · exact GrS.ahead h0 (by omega)
theorem GrS.end_ {j j' : Nat} {par par' : Nat → Option Nat} (h : GrS L M k j par []) (g : GrS L M k j' par' []) : par = par' := by
  rcases Nat.lt_trichotomy j j' with c | c | c
  · obtain ⟨p0, s, l0, g0⟩ := g.ahead c
    exact nomatch (h.uniq g0).2
  · subst c
    exact (h.uniq g).1
  · obtain ⟨p0, s, l0, g0⟩ := h.ahead c
    exact nomatch (g.uniq g0).2
/-- what holds all along -/
structure GrI (L : List (Addr × List Int)) (M : Nat) (par : Nat → Option Nat) (ls : List Nat) (rk : Nat → Nat) : Prop where
  sub : ∀ v ∈ ls, v < M
  nd : ls.Nodup
  non : ∀ v ∈ ls, par v = none
  up : ∀ v u, v < M → v ∉ ls → par v = some u → u < M ∧ u ∉ ls ∧ rk u < rk v ∧ GL L v u
  rkM : ∀ v, v < M → rk v < M
theorem inB_some {st : Nat → Option Nat} {r v : Nat} (h : inB st (r : Int) v = true) : ∃ d, st v = some d ∧ d ≤ r := by
  unfold inB at h
  cases e : st v with
  | none => rw [e] at h; cases h
  | some d =>
    rw [e] at h
    have := of_decide_eq_true h
    exact ⟨d, rfl, by omega⟩
theorem inB_of {st : Nat → Option Nat} {r v d : Nat} (e : st v = some d) (h : d ≤ r) : inB st (r : Int) v = true := by
  unfold inB
  rw [e]
  exact decide_eq_true (by omega)
theorem GrS.inv (T : TL (M : Int) L) {j : Nat} {par : Nat → Option Nat} {ls : List Nat} (h : GrS L M k j par ls) : ∃ rk, GrI L M par ls rk := by
  induction h with
  | zero => exact ⟨fun _ => 0, fun v hv => List.mem_range.mp hv, List.nodup_range, fun v _ => rfl, fun v u hv nv _ => absurd (List.mem_range.mpr hv) nv, fun v hv => by omega⟩
  | @step j par par' s rest st r h1 h2 h3 h4 h5 ih =>
    obtain ⟨rk, I⟩ := ih
    have hs : s ∈ s :: rest := List.mem_cons_self
    have sM : s < M := I.sub s hs
    have hG : ∀ a b, GB L (s :: rest) a b → b < M := fun a b g => I.sub b g.2.2
    have inl : ∀ v, inB st r v = true → v ∈ s :: rest := fun v c => by
      obtain ⟨d, e, _⟩ := inB_some c
      exact gb_mem hs ((h2 v d).mp e).1
    have out : ∀ v, v ∉ ((s :: rest).filter fun v => !inB st r v) → inB st r v = true ∨ v ∉ s :: rest := fun v nv => by
      cases c : inB st r v with
      | true => exact .inl rfl
      | false => exact .inr fun m => nv (List.mem_filter.mpr ⟨m, by rw [c]; rfl⟩)
    have nin : ∀ v, inB st r v = true → v ∉ ((s :: rest).filter fun v => !inB st r v) := fun v c m => by
      have z := (List.mem_filter.mp m).2
      rw [c] at z
      cases z
    refine ⟨fun v => if inB st r v = true then (st v).getD 0 else rk v, fun v hv => I.sub v (List.mem_filter.mp hv).1, I.nd.filter _, fun v hv => ?_, fun v u hv nv e => ?_, fun v hv => ?_⟩
    · obtain ⟨m, c⟩ := List.mem_filter.mp hv
      have c' : inB st r v = false := by
        cases z : inB st r v with
        | true => rw [z] at c; cases c
        | false => rfl
      rw [h5 v c']
      exact I.non v m
    · rcases out v nv with c | nm
      · rcases h4 v c with ⟨z, _⟩ | ⟨u', d, z, dv, du, g, _⟩
        · rw [e] at z
          cases z
        · rw [e] at z
          cases z
          obtain ⟨d', e', le⟩ := inB_some c
          have ed : d' = d + 1 := (((h2 v d').mp e').uniq dv)
          subst ed
          have eu : st u = some d := (h2 u d).mpr du
          have cu : inB st r u = true := inB_of eu (by omega)
          refine ⟨hG _ _ g, nin u cu, ?_, g.1⟩
          show (if inB st r u = true then (st u).getD 0 else rk u) < (if inB st r v = true then (st v).getD 0 else rk v)
          rw [if_pos cu, if_pos c, eu, e']
          exact Nat.lt_succ_self d
      · have c : inB st r v = false := by
          cases z : inB st r v with
          | true => exact absurd (inl v z) nm
          | false => rfl
        rw [h5 v c] at e
        obtain ⟨uM, nu, lt, g⟩ := I.up v u hv nm e
        have cu : inB st r u = false := by
          cases z : inB st r u with
          | true => exact absurd (inl u z) nu
          | false => rfl
        refine ⟨uM, fun m => nu (List.mem_filter.mp m).1, ?_, g⟩
        show (if inB st r u = true then (st u).getD 0 else rk u) < (if inB st r v = true then (st v).getD 0 else rk v)
        rw [cu, c, if_neg Bool.false_ne_true, if_neg Bool.false_ne_true]
        exact lt
    · show (if inB st r v = true then (st v).getD 0 else rk v) < M
      by_cases c : inB st r v = true
      · rw [if_pos c]
        obtain ⟨d, e, _⟩ := inB_some c
        rw [e]
        exact ((h2 v d).mp e).lt sM hG
      · rw [if_neg c]
        exact I.rkM v hv
theorem GrS.parG (T : TL (M : Int) L) {j : Nat} {par : Nat → Option Nat} (h : GrS L M k j par []) : ∃ rk, ParG M par rk L := by
  obtain ⟨rk, I⟩ := h.inv T
  exact ⟨rk, ⟨fun v u hv e => ⟨(I.up v u hv List.not_mem_nil e).1, (I.up v u hv List.not_mem_nil e).2.2.1⟩, I.rkM⟩, fun v u hv e => (I.up v u hv List.not_mem_nil e).2.2.2⟩
/-- who is left is fewer and fewer -/
theorem GrS.less {j : Nat} {par : Nat → Option Nat} {ls : List Nat} (h : GrS L M k j par ls) : ls = [] ∨ ls.length + j ≤ M := by
  induction h with
  | zero => exact .inr (by rw [List.length_range]; exact Nat.le_refl _)
  | @step j par par' s rest st r h1 h2 h3 h4 h5 ih =>
    refine .inr ?_
    have c : inB st r s = true := inB_of ((h2 s 0).mpr Dist.zero) (Nat.zero_le _)
    rw [List.filter_cons_of_neg (by rw [c]; exact Bool.false_ne_true)]
    rcases ih with z | z
    · cases z
    · have le := List.length_filter_le (fun v => !inB st r v) rest
      rw [List.length_cons] at z
      omega
end
theorem StOf.of_lt {G : Nat → Nat → Prop} {s n : Nat} {st : Nat → Option Nat} (hs : s < n) (hG : ∀ a b, G a b → b < n) (h : ∀ v, v < n → ∀ d, st v = some d ↔ Dist G s v d) : StOf G s (fun v => if v < n then st v else none) ∧ pVs n (fun v => if v < n then st v else none) = pVs n st := by
  refine ⟨fun v d => ?_, ?_⟩
  · by_cases c : v < n
    · show (if v < n then st v else none) = some d ↔ _
      rw [if_pos c]
      exact h v c d
    · show (if v < n then st v else none) = some d ↔ _
      rw [if_neg c]
      constructor
      · intro z
        cases z
      · rintro ⟨z, _⟩
        exfalso
        cases z with
        | zero => exact c hs
        | succ _ e => exact c (hG _ _ e)
  · unfold pVs
    refine List.map_congr_left fun i hi => ?_
    show oV (if i < n then st i else none) = _
    rw [if_pos (List.mem_range.mp hi)]
theorem nd_len : ∀ (a b : List Nat), a.Nodup → (∀ x ∈ a, x ∈ b) → a.length ≤ b.length
  | [], _, _, _ => Nat.zero_le _
  | x :: a, b, h, k => by
    obtain ⟨h1, h2⟩ := List.nodup_cons.mp h
    have m := k x List.mem_cons_self
    have z := nd_len a (b.erase x) h2 fun y hy => (List.mem_erase_of_ne (fun (e : y = x) => h1 (e ▸ hy))).mpr (k y (List.mem_cons_of_mem _ hy))
    rw [List.length_erase_of_mem m] at z
    have := List.length_pos_of_mem m
    rw [List.length_cons]
    omega
end Q

namespace Q
open PySem L2 QM
abbrev sBeta : Stmt := top 9999
theorem rgV0 (M : Nat) : rgV 0 (M : Int) = (List.range M).map nI := by
  unfold rgV
  rw [Int.sub_zero, Int.toNat_natCast]
  refine List.map_congr_left fun i _ => ?_
  show V.int (0 + (i : Int)) = V.int (i : Int)
  rw [Int.zero_add]
theorem gb_all {L : List (Addr × List Int)} {M : Nat} (T : TL (M : Int) L) : GB L (List.range M) = GL L := by
  funext u v
  refine propext ⟨fun h => h.1, fun h => ⟨h, List.mem_range.mpr ?_, List.mem_range.mpr ?_⟩⟩
  · have := (T.in2 (TL.sym _ _ h)).2
    omega
  · have := (T.in2 h).2
    omega
theorem nb_len {L : List (Addr × List Int)} {M : Nat} {nb : Nat → List Int} (T : TL (M : Int) L) (hn : NbOf L M nb) (ha : NbA M nb) {h : Nat} (hM : h < M) : (nb h).length ≤ M := by
  have z := nd_len ((nb h).map Int.toNat) (List.range M) ?_ ?_
  · rw [List.length_map, List.length_range] at z
    exact z
  · refine List.pairwise_map.mpr ?_
    refine List.Pairwise.imp_of_mem (R := (· < ·)) (fun {a b} ma mb lt e => ?_) (ha h hM)
    have za := T.in2 ((hn h hM a).mp ma)
    have zb := T.in2 ((hn h hM b).mp mb)
    omega
  · intro x hx
    obtain ⟨a, ma, rfl⟩ := List.mem_map.mp hx
    have za := T.in2 ((hn h hM a).mp ma)
    exact List.mem_range.mpr (by omega)
theorem nbof_g {L : List (Addr × List Int)} {M : Nat} {nb : Nat → List Int} (T : TL (M : Int) L) (h : NbG (GL L) M nb) : NbOf L M nb := fun i hi j => by
  rw [h i hi j]
  constructor
  · rintro ⟨v, rfl, g⟩
    exact g
  · intro e
    have z := T.in2 e
    exact ⟨j.toNat, by omega, by show Edge L (i : Int) ((j.toNat : Nat) : Int); rw [Int.toNat_of_nonneg z.1]; exact e⟩
theorem nbg_of {L : List (Addr × List Int)} {M : Nat} {nb : Nat → List Int} (T : TL (M : Int) L) (hn : NbOf L M nb) : NbG (GL L) M nb := by
  have := T.nb (nb := nb) (by simpa using hn)
  simpa using this
theorem pVs_snoc {i : Nat} {par par' : Nat → Option Nat} {r : Option Nat} (h : ∀ v, v < i → par' v = par v) (e : par' i = r) : pVs (i + 1) par' = pVs i par ++ [oV r] := by
  unfold pVs
  rw [List.range_succ, List.map_append, List.map_cons, List.map_nil, e]
  congr 1
  exact List.map_congr_left fun v hv => by rw [h v (List.mem_range.mp hv)]
theorem nbL_sub {nb : Nat → List Int} {ls : List Nat} {j h : Nat} {o : Int} (m : o ∈ nbL nb ls j h) : o ∈ nb h := by
  unfold nbL at m
  by_cases c : h ∈ ls.take j
  · rw [if_pos c] at m
    exact (List.mem_filter.mp m).1
  · rw [if_neg c] at m
    exact absurd m List.not_mem_nil
theorem nbL_len {nb : Nat → List Int} {ls : List Nat} {j h : Nat} : (nbL nb ls j h).length ≤ (nb h).length := by
  unfold nbL
  by_cases c : h ∈ ls.take j
  · rw [if_pos c]
    exact List.length_filter_le _ _
  · rw [if_neg c]
    exact Nat.zero_le _
def BetaOf (L : List (Addr × List Int)) (M : Nat) (par : Nat → Option Nat) : Prop := ∀ v, v < M → HungOf (GL L) 0 v (par v)
def spBeta (C CK : Addr) : Sp := fun vs H Q _ => ∃ (w q : Addr) (M : Nat) (L : List (Addr × List Int)), vs = [.ref w] ∧ WebQ C M H w q L ∧ 1 ≤ M ∧ M ≤ 40 ∧
  ∀ x dx pa t par la ch ac H', Same H H' → H' x = some (.ins CK dx (kf (.ref w) (.ref pa) (.ref t) la ch ac)) → LdAt H' la M par → H' pa = some (.tup (pVs M par)) → BetaOf L M par → (∃ rk, ParG M par rk L) → ChoAt (fun i => (LD par M i : Int)) L (M : Int) H' t [] → Q (.ref x) H'
section
variable {P : Program} {w : World} {K : PySem.W.Frag} {mg : Str → Option Value} {base : Heap}
/-- the defs that growing leans on -/
structure RDefs (K : PySem.W.Frag) (mg : Str → Option Value) where
  fB : Addr
  dB : FuncData
  DB : Df K mg "beside_left" sBesL ["web", "left"] fB dB
  fW : Addr
  dW : FuncData
  DW : Df K mg "ball_within" sBall ["steps", "reach"] fW dW
  fR : Addr
  dR : FuncData
  DR : Df K mg "reach_of" sReach ["k", "steps"] fR dR
  fN : Addr
  dN : FuncData
  DN : Df K mg "nearest_beside" sNear ["beside", "steps", "house"] fN dN
end
end Q

namespace Q
open PySem L2 QM
abbrev sHung : Stmt := top 89
theorem head_least {l : List Int} {u : Int} (h : l.Pairwise (· < ·)) (m : u ∈ l) (le : ∀ x ∈ l, u ≤ x) : ∃ r, l = u :: r := by
  cases l with
  | nil => exact absurd m List.not_mem_nil
  | cons a r =>
    refine ⟨r, ?_⟩
    rcases List.mem_cons.mp m with e | m
    · rw [e]
    · have z1 := (List.pairwise_cons.mp h).1 u m
      have z2 := le a List.mem_cons_self
      omega
theorem least_ex {p : Nat → Prop} : ∀ {n : Nat}, p n → ∃ u, p u ∧ ∀ o, p o → u ≤ o := by
  intro n
  induction n using Nat.strongRecOn with
  | _ n ih =>
    intro h
    by_cases c : ∃ m, m < n ∧ p m
    · obtain ⟨m, lt, hm⟩ := c
      exact ih m lt hm
    · exact ⟨n, h, fun o ho => by
        by_cases d : o < n
        · exact absurd ⟨o, d, ho⟩ c
        · omega⟩
def spHung : Sp := fun vs H Q _ => ∃ (W q D lot : Addr) (M v u : Nat) (L : List (Addr × List Int)) (f : Nat → Int) (ls : List Nat), vs = [.ref W, .ref D, .int (v : Int), .ref lot] ∧ LWeb H W q (M : Int) L ∧ H D = some (.lst (flN M f)) ∧ H lot = some (.lst (ls.map nI)) ∧ v < M ∧ M ≤ 40 ∧
  (GL L v u ∧ u ∈ ls ∧ f u = f v - 1) ∧ (∀ o : Nat, GL L v o → o ∈ ls → f o = f v - 1 → u ≤ o) ∧ ∀ H', Same H H' → Q (nI u) H'
section
variable {P : Program} {w : World} {K : PySem.W.Frag} {mg : Str → Option Value} {base : Heap}
theorem scHung : FnScope ["web", "off", "house", "lot", "other"] ["web", "off", "house", "lot"] (defScope sHung) := ⟨rfl, rfl, rfl, by decide +kernel, rfl, by decide +kernel, by decide +kernel⟩
theorem ok_hung {f fB : Addr} {fd dB : FuncData} (F : Fun K "_law_hung" "_law_hung" sHung f fd) (B : Bts mg) (DB : Df K mg "_law_beside" sLBes ["web", "house"] fB dB) : FnOk P w K mg base CX0 2 f fd ["web", "off", "house", "lot"] spHung := by
  have GB : FnOk P w K mg base CX0 1 fB dB ["web", "house"] spLBes := ok_lbes DB.F B
  refine F.ok scHung (fun vs H Q E h => ?_) (fun cdv A outer s H vs Q E hr h => ?_)
  · obtain ⟨W, q, D, lot, M, v, u, L, f, ls, rfl, _⟩ := h
    rfl
  · obtain ⟨W, q, D, lot, M, v, u, L, f, ls, rfl, lw, hD, hlot, hv, m40, ⟨g1, g2, g3⟩, least, k⟩ := h
    have nd := scHung.nd
    refine ⟨_, pss_one (ps_ret (pe_ix ix_list (pe_lc (own := [("other", 4)]) (g := gName 4) rfl nd (pi_list (pe_call GB hr rfl DB.m DB.k DB.b .nil pass0 (pa_cons (pv 0) (pa_cons (pv 2) pa_nil))))
      (blkOk_by (N := ["web", "off", "house", "lot", "other"]) (sc := defScope sHung) (by decide +kernel)) (fun _ _ _ _ _ => pg_name (i := 4) nd rfl (.inl rfl))
      (fun _ _ _ _ _ => pts_one (PW.pt (pw_and (pt_cmpR (r := rIn K false) op_in_seq (pv 4) (pv 3) rfl) (pw_and1 (pt_cmpR op_eq (pe_ix (r := rIxL K) ix_list (pv 1) (pv 4) (fun _ _ => rfl)) (pe_op op_sub (pe_ix (r := rIxL K) ix_list (pv 1) (pv 2) (fun _ _ => rfl)) pe_int) (nomark _))))))
      (fun _ _ _ _ _ => pv 4)) pe_int (fun _ _ => rfl))), ?_⟩
    have TT : TL (M : Int) L := ⟨lw.2.ok, lw.2.conn, by omega, by omega⟩
    have els : ls.map nI = (ls.map fun i : Nat => (i : Int)).map V.int := by
      rw [List.map_map]
      rfl
    refine ⟨_, rfl, _, rfl, W, q, (M : Int), (v : Int), L, rfl, lw, fun p ns H1 s1 hp1 ep asc mem => ⟨p, rfl, ⟨_, SqL.of ep⟩, fun D2 hD2 => lc_list (K := K) (a := p) (xs := ns.map V.int) (fun i H' => H' D2 = some (.lst (((ns.take i).filter (fun o : Int => decide (o ∈ ls.map fun i : Nat => (i : Int)) && decide (f o.toNat = f v - 1))).map V.int)) ∧ Same H1 H') ?_ ?_ ?_ ?_⟩⟩
    · exact ⟨upd_same, sN hD2⟩
    · rintro i H2 hi ⟨_, s2⟩
      exact SqL.of (s2 _ _ ep)
    · rintro i x H2 hx ⟨eD, s2⟩
      obtain ⟨o, ho, rfl⟩ := map_inv hx
      have om := (mem o).mp (List.mem_of_getElem? ho)
      have oz := TT.in2 om
      obtain ⟨o', rfl⟩ : ∃ o' : Nat, o = (o' : Int) := ⟨o.toNat, by omega⟩
      have oM : o' < M := by omega
      have s12 := sT s1 s2
      have hi : i < ns.length := (List.getElem?_eq_some_iff.mp ho).1
      have nl : ns.length ≤ M := by
        have z := nd_len (ns.map Int.toNat) (List.range M) ?_ ?_
        · rw [List.length_map, List.length_range] at z
          exact z
        · refine List.pairwise_map.mpr ?_
          refine List.Pairwise.imp_of_mem (R := (· < ·)) (fun {a b} ma mb lt e => ?_) asc
          have za := TT.in2 ((mem a).mp ma)
          have zb := TT.in2 ((mem b).mp mb)
          omega
        · intro x hx
          obtain ⟨a, ma, rfl⟩ := List.mem_map.mp hx
          have za := TT.in2 ((mem a).mp ma)
          exact List.mem_range.mpr (by omega)
      have ll : ((ns.take i).filter (fun o : Int => decide (o ∈ ls.map fun i : Nat => (i : Int)) && decide (f o.toNat = f v - 1))).length ≤ i := by
        refine Nat.le_trans (List.length_filter_le _ _) ?_
        rw [List.length_take]
        omega
      have yes : ((o' : Int) ∈ ls.map fun i : Nat => (i : Int)) → f o' = f v - 1 → (ns.take (i + 1)).filter (fun o : Int => decide (o ∈ ls.map fun i : Nat => (i : Int)) && decide (f o.toNat = f v - 1)) = (ns.take i).filter (fun o : Int => decide (o ∈ ls.map fun i : Nat => (i : Int)) && decide (f o.toNat = f v - 1)) ++ [(o' : Int)] := fun a b => by
        rw [take_snoc ho, List.filter_append, List.filter_cons_of_pos (by rw [decide_eq_true a, Int.toNat_natCast, decide_eq_true b]; rfl)]
        rfl
      have no : ¬ (((o' : Int) ∈ ls.map fun i : Nat => (i : Int)) ∧ f o' = f v - 1) → (ns.take (i + 1)).filter (fun o : Int => decide (o ∈ ls.map fun i : Nat => (i : Int)) && decide (f o.toNat = f v - 1)) = (ns.take i).filter (fun o : Int => decide (o ∈ ls.map fun i : Nat => (i : Int)) && decide (f o.toNat = f v - 1)) := fun a => by
        rw [take_snoc ho, List.filter_append, List.filter_cons_of_neg (fun z => by
          rw [Bool.and_eq_true] at z
          have z2 := of_decide_eq_true z.2
          rw [Int.toNat_natCast] at z2
          exact a ⟨of_decide_eq_true z.1, z2⟩)]
        show _ ++ [] = _
        rw [List.append_nil]
      refine ⟨rfl, _, rfl, _, rfl, lot, _, rfl, .inl (SqL.of (by rw [← els]; exact s12 _ _ hlot)), rfl, flat_int _, _, rfl, ?_⟩
      rw [if_neg Bool.false_ne_true, inV_int]
      refine ite2 (fun c1 => ?_) (fun c1 => ?_)
      · refine ⟨_, rfl, _, rfl, D, _, (o' : Int), _, rfl, rfl, SqL.of (s12 _ _ hD), flN_ix f oM, _, rfl, _, rfl, D, _, (v : Int), _, rfl, rfl, SqL.of (s12 _ _ hD), flN_ix f hv, _, _, rfl, rfl, rfl, _, rfl, ?_⟩
        rw [dec_i]
        refine ite2 (fun c2 => ?_) (fun c2 => ?_)
        · refine ⟨_, rfl, _, eD, ?_, ?_, sNew s2 hD2⟩
          · rw [List.length_map]
            exact Nat.lt_of_lt_of_le (show _ < 64 by omega) (by decide)
          · rw [upd_same, yes (of_decide_eq_true c1) (of_decide_eq_true c2), List.map_append]
            rfl
        · refine ⟨?_, s2⟩
          rw [no fun z => c2 (decide_eq_true z.2)]
          exact eD
      · refine ⟨?_, s2⟩
        rw [no fun z => c1 (decide_eq_true z.1)]
        exact eD
    · rintro H2 ⟨eD, s2⟩
      rw [List.length_map, List.take_length] at eD
      obtain ⟨rest, er⟩ := head_least (l := ns.filter (fun o : Int => decide (o ∈ ls.map fun i : Nat => (i : Int)) && decide (f o.toNat = f v - 1))) (u := (u : Int)) (asc.filter _) (List.mem_filter.mpr ⟨(mem _).mpr g1, by
        rw [Int.toNat_natCast, decide_eq_true (List.mem_map.mpr ⟨u, g2, rfl⟩), decide_eq_true g3]
        rfl⟩) (fun x hx => by
          obtain ⟨m1, c⟩ := List.mem_filter.mp hx
          rw [Bool.and_eq_true] at c
          have om := (mem x).mp m1
          have oz := TT.in2 om
          obtain ⟨o', rfl⟩ : ∃ o' : Nat, x = (o' : Int) := ⟨x.toNat, by omega⟩
          obtain ⟨w', hw, e⟩ := List.mem_map.mp (of_decide_eq_true c.1)
          have ew : w' = o' := Int.ofNat.inj e
          have c2 := of_decide_eq_true c.2
          rw [Int.toNat_natCast] at c2
          have := least o' om (ew ▸ hw) c2
          omega)
      rw [er] at eD
      exact ⟨D2, _, 0, _, rfl, rfl, SqL.of eD, atI_nat (xs := ((u : Int) :: rest).map V.int) (j := 0) rfl, k H2 (sT s1 s2)⟩
end
end Q

/-! ways up over a list -/
namespace Q
open PySem L2 QM
def spUpL : Sp := fun vs H Q _ => ∃ (pa : Addr) (M v : Nat) (par : Nat → Option Nat) (rk : Nat → Nat), vs = [.ref pa, nI v] ∧ H pa = some (.lst (pVs M par)) ∧ ParOk M par rk ∧ v < M ∧ M ≤ 40 ∧
  ∀ (p : Addr) (ws : List Nat) (H' : Hp), Same H H' → H p = none → H' p = some (.lst (ws.map nI)) → Way par v ws → Q (.ref p) H'
def spLdsL : Sp := fun vs H Q _ => ∃ (pa : Addr) (M : Nat) (par : Nat → Option Nat) (rk : Nat → Nat), vs = [.ref pa] ∧ H pa = some (.lst (pVs M par)) ∧ ParOk M par rk ∧ M ≤ 40 ∧
  ∀ (p : Addr) (H' : Hp), Same H H' → H' p = some (.tup (flN M fun i => (LD par M i : Int))) → Q (.ref p) H'
section
variable {P : Program} {w : World} {K : PySem.W.Frag} {mg : Str → Option Value} {base : Heap}
theorem ok_upL {f : Addr} {fd : FuncData} (F : Fun K "way_up" "way_up" sUp f fd) (B : Bts mg) : FnOk P w K mg base CX0 1 f fd ["parents", "house"] spUpL := by
  refine F.ok scUp (fun vs H Q E h => ?_) (fun cdv A outer s H vs Q E hr h => ?_)
  · obtain ⟨pa, M, v, par, rk, rfl, _⟩ := h
    rfl
  · obtain ⟨pa, M, v, par, rk, rfl, hp, po, hv, m40, k⟩ := h
    have nd := scUp.nd
    refine ⟨_, pss_cons (ps_set (i := 2) nd rfl (.inl rfl) (pe_lst (pa_cons (pv 1) pa_nil)))
      (pss_cons (ps_while PassesOwn.never (PW.pt (pw_and (pt_cmp (pc_notN (pe_ix ix_list (pv 0) (pe_ix ix_list (pv 2) (pe_un un_neg pe_int) (fun _ _ => rfl)) (fun _ _ => rfl))))
          (pw_and1 (pt_cmpR op_le (pe_callB call_len_seq (by rfl) B.len PySem.boot_len (pa_cons (pv 2) pa_nil)) (pe_callB call_len_seq (by rfl) B.len PySem.boot_len (pa_cons (pv 0) pa_nil)) (nomark _)))))
        (pss_one (ps_expr (pe_bm PySem.F.plainAttrs_list PySem.F.slot_list_append PySem.F.type_list_append mt_append (pv 2) (pa_cons (pe_ix ix_list (pv 0) (pe_ix ix_list (pv 2) (pe_un un_neg pe_int) (fun _ _ => rfl)) (fun _ _ => rfl)) pa_nil)))))
      (pss_one (ps_ret (pv 2)))), ?_⟩
    refine ⟨_, rfl, (by show 1 ≤ sizeLine; decide), fun D hD => ?_⟩
    refine ⟨fun n σ H' => ∃ (pre : List Nat) (x : Nat), σ = [some (.ref pa), some (nI v), some (.ref D)] ∧ H' D = some (.lst ((pre ++ [x]).map nI)) ∧ x < M ∧ (∀ ws, Way par x ws → Way par v (pre ++ ws)) ∧ pre.length + rk x + 1 ≤ M ∧ n = rk x ∧ Same H H', ⟨rk v, [], v, rfl, upd_same, hv, fun ws h => h, by have := po.rkM v hv; show 0 + rk v + 1 ≤ M; omega, rfl, sN hD⟩, ?_⟩
    rintro n σ H1 ⟨pre, x, rfl, eD, hx, hw, hl, rfl, s1⟩
    have ex : atI ((pre ++ [x]).map nI) (-1) = some (nI x) := by
      rw [List.map_append]
      exact atI_last _ _
    refine ⟨_, rfl, _, rfl, _, rfl, D, _, -1, _, rfl, rfl, SqL.of eD, ex, pa, _, (x : Int), _, rfl, rfl, SqL.of (s1 _ _ hp), pVs_at par hx, _, rfl, ?_⟩
    cases e : par x with
    | none =>
      refine ite2 (fun c => absurd c (by simp [oV])) (fun _ => ?_)
      refine iteF ⟨_, rfl, k D _ H1 s1 hD eD (hw _ (.one e))⟩
    | some u =>
      obtain ⟨u1, u2⟩ := po.up x u hx e
      refine ite2 (fun _ => ?_) (fun c => absurd (by simp [oV, nI]) c)
      refine ⟨_, rfl, D, _, rfl, .inl (SqL.of eD), _, rfl, pa, _, rfl, .inl (SqL.of (s1 _ _ hp)), _, _, rfl, rfl, _, rfl, ?_⟩
      have le : (((pre ++ [x]).map nI).length : Int) ≤ ((pVs M par).length : Int) := by
        rw [List.length_map, List.length_append, pVs_len]
        show ((pre.length + 1 : Nat) : Int) ≤ _
        omega
      rw [decide_eq_true le]
      refine iteT ⟨_, fun σ1 H1 h => ⟨rk u, u2, h⟩, ?_⟩
      refine ⟨_, rfl, .inl ⟨rfl, _, SqL.of eD⟩, _, rfl, _, rfl, _, rfl, D, _, -1, _, rfl, rfl, SqL.of eD, ex, pa, _, (x : Int), _, rfl, rfl, SqL.of (s1 _ _ hp), pVs_at par hx, D, _, _, rfl, rfl, eD, ?_, ?_⟩
      · rw [List.length_map, List.length_append]
        exact Nat.lt_of_lt_of_le (show pre.length + 1 < 64 by omega) (by decide)
      · refine ⟨pre ++ [x], u, rfl, ?_, u1, fun ws h => ?_, ?_, rfl, sNew s1 hD⟩
        · rw [upd_same, e, List.map_append (l₁ := pre ++ [x])]
          rfl
        · rw [List.append_assoc]
          exact hw _ (.cons e h)
        · rw [List.length_append]
          show pre.length + 1 + rk u + 1 ≤ M
          omega
theorem ok_ldsL {f fU : Addr} {fd dU : FuncData} (F : Fun K "leaders_by" "leaders_by" sLds f fd) (B : Bts mg) (DU : Df K mg "way_up" sUp ["parents", "house"] fU dU) : FnOk P w K mg base CX0 2 f fd ["parents"] spLdsL := by
  have GU : FnOk P w K mg base CX0 1 fU dU ["parents", "house"] spUpL := ok_upL DU.F B
  refine F.ok scLds (fun vs H Q E h => ?_) (fun cdv A outer s H vs Q E hr h => ?_)
  · obtain ⟨pa, M, par, rk, rfl, _⟩ := h
    rfl
  · obtain ⟨pa, M, par, rk, rfl, hp, po, m40, k⟩ := h
    have nd := scLds.nd
    refine ⟨_, pss_one (ps_ret (pe_callTy call_tuple_of (by rfl) B.tuple PyProof.Rows.boot_tuple (pa_cons (pe_lc (own := [("house", 1)]) (g := gName 1) (tt := tYes) rfl nd (pi_range1 rfl B.range (pa_cons (pe_callB call_len_seq (by rfl) B.len PySem.boot_len (pa_cons (pv 0) pa_nil)) pa_nil))
      (blkOk_by (N := ["parents", "house"]) (sc := defScope sLds) (by decide +kernel)) (fun _ _ _ _ _ => pg_name (i := 1) nd rfl (.inl rfl)) (fun _ _ _ _ _ => pts_nil)
      (fun _ _ _ _ _ => pe_ix (r := rIxL K) ix_list (pe_call GU hr rfl DU.m DU.k DU.b .nil pass0 (pa_cons (pv 0) (pa_cons (pv 1) pa_nil))) (pe_un un_neg pe_int) (fun _ _ => rfl))) pa_nil))), ?_⟩
    refine ⟨_, rfl, pa, _, rfl, .inl (SqL.of hp), ?_⟩
    rw [pVs_len]
    refine ⟨(M : Int), rfl, by omega, by omega, fun D hD => lc_range (lo := 0) (n := (M : Int).toNat) (fun i H' => H' D = some (.lst (flN i fun i => (LD par M i : Int))) ∧ Same H H') ?_ ?_ ?_⟩
    · exact ⟨upd_same, sN hD⟩
    · rintro i H1 hi ⟨eD, s1⟩
      rw [Int.toNat_natCast] at hi
      rw [Int.zero_add]
      refine ⟨rfl, ?_⟩
      refine ⟨_, rfl, _, rfl, pa, M, i, par, rk, rfl, s1 _ _ hp, po, hi, m40, fun p ws H2 s2 hp2 ep wy => ?_⟩
      obtain ⟨pre, r, rfl, rt⟩ := wy.last
      obtain rfl := rt.uniq (po.root hi)
      have el : atI ((pre ++ [LD par M i]).map nI) (-1) = some (nI (LD par M i)) := by
        rw [List.map_append]
        exact atI_last _ _
      refine ⟨_, rfl, p, _, -1, _, rfl, rfl, SqL.of ep, el, _, s2 _ _ eD, ?_, ?_, sNew (sT s1 s2) hD⟩
      · rw [flN_len]
        exact Nat.lt_of_lt_of_le (show i < 64 by omega) (by decide)
      · rw [upd_same]
        unfold flN
        rw [List.range_succ, List.map_append]
        rfl
    · rintro H1 ⟨eD, s1⟩
      rw [Int.toNat_natCast] at eD
      exact ⟨D, _, rfl, .inl ⟨SqL.of eD, fun t ht => k t _ (sT s1 (sN ht)) upd_same⟩⟩
end
end Q

namespace Q
open PySem L2 QM
abbrev sGamma : Stmt := top 57
theorem pVs_set {M : Nat} (par : Nat → Option Nat) {v : Nat} (r : Option Nat) : (pVs M par).set v (oV r) = pVs M (fun i => if i = v then r else par i) := by
  refine List.ext_getElem? fun i => ?_
  rw [List.getElem?_set]
  by_cases hi : i < M
  · rw [pVs_get _ hi, pVs_get _ hi, pVs_len]
    by_cases c : v = i
    · subst c
      rw [if_pos rfl, if_pos hi, if_pos rfl]
    · rw [if_neg c, if_neg (fun z => c z.symm)]
  · rw [List.getElem?_eq_none (l := pVs M fun i => if i = v then r else par i) (by rw [pVs_len]; omega), List.getElem?_eq_none (l := pVs M par) (by rw [pVs_len]; omega), pVs_len]
    by_cases c : v = i
    · rw [if_pos c, if_neg (by omega)]
    · rw [if_neg c]
theorem pVs_rep (M : Nat) : (List.replicate M [V.non]).flatten = pVs M noPar := by
  rw [pVs_no, List.flatten_replicate_singleton]
theorem ballN_mem {M : Nat} {st : Nat → Option Nat} {r : Int} {v : Nat} : v ∈ ballN M st r ↔ v < M ∧ inB st r v = true := by
  unfold ballN
  rw [List.mem_filter, List.mem_range]
def spGamma (C CK : Addr) : Sp := fun vs H Q _ => ∃ (w q : Addr) (M kk : Nat) (L : List (Addr × List Int)), vs = [.ref w, .int (kk : Int)] ∧ WebQ C M H w q L ∧ 1 ≤ M ∧ M ≤ 40 ∧ 2 ≤ kk ∧ kk ≤ 8 ∧
  ∀ x dx pa t T par j la ch ac H', Same H H' → H' x = some (.ins CK dx (kf (.ref w) (.ref pa) (.ref t) la ch ac)) → LdAt H' la M par → H' pa = some (.tup (pVs M par)) → GrS L M kk j par [] → LeastAt (fun i => (LD par M i : Int)) L (M : Int) H' t T → Q (.ref x) H'
section
variable {P : Program} {w : World} {K : PySem.W.Frag} {mg : Str → Option Value} {base : Heap}
theorem scGamma : FnScope ["web", "k", "parents", "left", "beside", "steps", "ball", "house"] ["web", "k"] (defScope sGamma) := ⟨rfl, rfl, rfl, by decide +kernel, rfl, by decide +kernel, by decide +kernel⟩
theorem ok_gamma {f C CK fK : Addr} {fd fdK : FuncData} (F : Fun K "gamma" "gamma" sGamma f fd) (B : Bts mg) (hz : mg "zip" = none) (ha : mg "all" = none) (T : WTxt K mg C) (TK : KTxt K mg CK) (D : WDefs K mg) (G : GDefs K mg) (R : RDefs K mg) (MK : Mk K CK fK) (FK : Fun K "__init__" "Keeper.__init__" sKeep fK fdK) (bK : Binds K fdK ["self", "web", "parents", "chosen"] []) :
    FnOk P w K mg base CX0 8 f fd ["web", "k"] (spGamma C CK) := by
  have GK : FnOk P w K mg base CX0 6 fK fdK ["self", "web", "parents", "chosen"] (spKeep C CK) := ok_keep FK B hz ha T TK D G
  have GPl : FnOk P w K mg base CX0 1 D.fP D.dP ["thing"] (spPlain K) := ok_plain (x := "") (st := sPlain) D.DP.F B
  have GBL : FnOk P w K mg base CX0 4 R.fB R.dB ["web", "left"] (spBesL C) := ok_besl R.DB.F B T D G.DN
  have GS : FnOk P w K mg base CX0 1 D.fS D.dS ["beside", "start"] spStepsI := ok_stepsI D.DS.F B
  have GNr : FnOk P w K mg base CX0 1 R.fN R.dN ["beside", "steps", "house"] spNear := ok_near R.DN.F B
  have GRc : FnOk P w K mg base CX0 2 R.fR R.dR ["k", "steps"] spReach := ok_reach R.DR.F B R.DW
  have GBa : FnOk P w K mg base CX0 1 R.fW R.dW ["steps", "reach"] spBall := ok_ball R.DW.F B
  have GLd : FnOk P w K mg base CX0 2 G.fL G.dL ["parents"] spLdsL := ok_ldsL G.DL.F B G.DU
  have GLt : FnOk P w K mg base CX0 2 G.fT G.dT ["web", "leaders"] (spLeast C) := ok_least G.DT.F B T G.DX
  refine F.ok scGamma (fun vs H Q E h => ?_) (fun cdv A outer s H vs Q E hr h => ?_)
  · obtain ⟨w, q, M, kk, L, rfl, _⟩ := h
    rfl
  · obtain ⟨w, q, M, kk, L, rfl, ⟨dw, r, bs, nb, wi, tt⟩, m1, m40, k2, k8, k⟩ := h
    have nd := scGamma.nd
    have hr1 : Room 1 _ := hr.mono (by decide)
    have hr2 : Room 2 _ := hr.mono (by decide)
    have hr4 : Room 4 _ := hr.mono (by decide)
    refine ⟨_, pss_cons (ps_if (PW.pt (pw_or (pt_not (pt_val (pe_call GPl hr1 rfl D.DP.m D.DP.k D.DP.b .nil pass0 (pa_cons (pv 1) pa_nil)))) (pw_or1 (pt_not (pt_chain op_le op_le pe_int (pv 1) pe_int))))) pss_never pss_nil)
      (pss_cons (ps_set (i := 2) nd rfl (.inl rfl) (pe_op op_rep (pe_lst (pa_cons pe_non pa_nil)) (pe_fld (pv 0) rfl)))
      (pss_cons (ps_set (i := 3) nd rfl (.inl rfl) (pe_listRg rfl (by rfl) B.list (prg_1 (by rfl) B.range (pe_fld (pv 0) rfl))))
      (pss_cons (ps_while PassesOwn.never (pt_truth (pv 3) (fun _ => rfl))
        (pss_cons (ps_set (i := 4) nd rfl (.inl rfl) (pe_call GBL hr4 rfl R.DB.m R.DB.k R.DB.b .nil pass0 (pa_cons (pv 0) (pa_cons (pv 3) pa_nil))))
        (pss_cons (ps_set (i := 5) nd rfl (.inl rfl) (pe_call GS hr1 rfl D.DS.m D.DS.k D.DS.b .nil pass0 (pa_cons (pv 4) (pa_cons (pe_ix ix_list (pv 3) pe_int (fun _ _ => rfl)) pa_nil))))
        (pss_cons (ps_set (i := 6) nd rfl (.inr rfl) (pe_call GBa hr1 rfl R.DW.m R.DW.k R.DW.b .nil pass0 (pa_cons (pv 5) (pa_cons (pe_call GRc hr2 rfl R.DR.m R.DR.k R.DR.b .nil pass0 (pa_cons (pv 1) (pa_cons (pv 5) pa_nil))) pa_nil))))
        (pss_cons (ps_for PassesOwn.never rfl (pi_list (pv 6)) (pg_name (i := 7) nd rfl (.inl rfl))
          (pss_one (ps_asg (pe_call GNr hr1 rfl R.DN.m R.DN.k R.DN.b .nil pass0 (pa_cons (pv 4) (pa_cons (pv 5) (pa_cons (pv 7) pa_nil)))) (pg_sub (pv 2) (pv 7) set_list))))
        (pss_one (ps_setLc (i := 3) (own := [("house", 7)]) (g := gName 7) rfl nd rfl rfl (sw_true rfl rfl rfl (by decide +kernel)) (pi_list (pv 3))
          (blkOk_by (N := ["web", "k", "parents", "left", "beside", "steps", "ball", "house"]) (sc := defScope sGamma) (by decide +kernel)) (fun _ _ _ _ _ => pg_name (i := 7) nd rfl (.inl rfl))
          (fun _ _ _ _ _ => pts_one (pt_cmpR (r := rIn K true) op_notIn_seq (pv 7) (pv 6) rfl)) (fun _ _ _ _ _ => pv 7))))))))
      (pss_one (ps_ret (pe_make MK GK hr rfl TK.mgC bK .nil pass0 (pa_cons (pv 0) (pa_cons (pe_callTy call_tuple_of (by rfl) B.tuple PyProof.Rows.boot_tuple (pa_cons (pv 2) pa_nil))
        (pa_cons (pe_call GLt hr2 rfl G.DT.m G.DT.k G.DT.b .nil pass0 (pa_cons (pv 0) (pa_cons (pe_call GLd hr2 rfl G.DL.m G.DL.k G.DL.b .nil pass0 (pa_cons (pv 2) pa_nil)) pa_nil))) pa_nil))))))))), ?_⟩
    have eM : ((M : Int)).toNat = M := Int.toNat_natCast M
    have TT : TL (M : Int) L := ⟨tt.ok, tt.conn, by omega, by omega⟩
    have hn : NbOf L M nb := by
      have := wi.nb
      rwa [eM] at this
    have hasc : NbA M nb := by
      have := wi.asc
      rwa [eM] at this
    have nbl : ∀ h, h < M → (nb h).length ≤ 1000 := fun h hM => Nat.le_trans (nb_len TT hn hasc hM) (by omega)
    refine ⟨_, rfl, .int (kk : Int), .type "int", true, false, rfl, .base (.int _), kInt_int, kBool_int, _, rfl, ?_⟩
    refine iteF ⟨_, rfl, _, _, rfl, rfl, _, rfl, ite2 (fun _ => ?_) (fun c => absurd (decide_eq_true (show (2 : Int) ≤ (kk : Int) by omega)) c)⟩
    refine ⟨_, _, rfl, rfl, _, rfl, ?_⟩
    rw [decide_eq_true (show (kk : Int) ≤ 8 by omega)]
    refine iteF ⟨(by show 1 ≤ sizeLine; decide), fun l hl => ?_⟩
    have s1 := sN (o := .lst [.non]) hl
    refine ⟨_, rfl, w, C, dw, _, _, rfl, s1 _ _ wi.at_, T.cl, T.nM, wf_many _ _ _, l, _, _, rfl, rfl, upd_same, ?_, ?_, ?_, fun pa hpa => ?_⟩
    · omega
    · omega
    · exact size_le (by show 1 * (M : Int).toNat ≤ 64; omega)
    have hpa0 : H pa = none := sNo s1 hpa
    have s2 := sT s1 (sN (o := .lst (List.replicate ((M : Int)).toNat [V.non]).flatten) hpa)
    have epa : (upd (upd H l (.lst [.non])) pa (.lst (List.replicate ((M : Int)).toNat [V.non]).flatten)) pa = some (.lst (pVs M noPar)) := by
      rw [upd_same, eM, pVs_rep]
    revert s2 epa
    generalize (upd (upd H l (.lst [.non])) pa (.lst (List.replicate ((M : Int)).toNat [V.non]).flatten)) = H2
    intro s2 epa
    refine ⟨_, rfl, w, C, dw, _, _, rfl, s2 _ _ wi.at_, T.cl, T.nM, wf_many _ _ _, (M : Int), rfl, RgOk.of_le (by omega) (by omega) (by omega) (by omega), fun lf hlf => ?_⟩
    have s3 := sN (o := .lst (rgV 0 (M : Int))) hlf
    have nlf0 : lf ≠ pa := (ne_of_none epa hlf).symm
    have elf : (upd H2 lf (.lst (rgV 0 (M : Int)))) lf = some (.lst ((List.range M).map nI)) := by
      rw [upd_same, rgV0]
    have epa3 := s3 _ _ epa
    have s03 := sT s2 s3
    revert s3 elf epa3 s03
    generalize (upd H2 lf (.lst (rgV 0 (M : Int)))) = H3
    intro s3 elf epa3 s03
    refine ⟨fun n σ H' => ∃ (j : Nat) (par : Nat → Option Nat) (ls : List Nat) (lf : Addr) (x4 x5 x6 x7 : Option V), σ = [some (.ref w), some (.int (kk : Int)), some (.ref pa), some (.ref lf), x4, x5, x6, x7] ∧ H' pa = some (.lst (pVs M par)) ∧ H' lf = some (.lst (ls.map nI)) ∧ GrS L M kk j par ls ∧ Same H H' ∧ lf ≠ pa ∧ n = ls.length,
      ⟨_, 0, noPar, List.range M, lf, none, none, none, none, rfl, epa3, elf, .zero, s03, nlf0, rfl⟩, ?_⟩
    clear s1 s2 s3 epa elf epa3 s03 hlf hl hpa
    rintro n σ H4 ⟨j, par, ls, lf, x4, x5, x6, x7, rfl, epa, elf, gr, s4, nlf, rfl⟩
    obtain ⟨rk, I⟩ := gr.inv TT
    cases ls with
    | nil =>
      refine ⟨_, rfl, false, .inl ⟨_, SqL.of elf, rfl⟩, iteF ?_⟩
      obtain ⟨rk, po, pg⟩ := gr.parG TT
      refine ⟨_, rfl, _, rfl, pa, _, rfl, .inl ⟨SqL.of epa, fun ta hta => ?_⟩⟩
      have s5 := sN (o := .tup (pVs M par)) hta
      have eta : (upd H4 ta (.tup (pVs M par))) ta = some (.tup (pVs M par)) := upd_same
      revert s5 eta
      generalize (upd H4 ta (.tup (pVs M par))) = H5
      intro s5 eta
      have s05 := sT s4 s5
      refine ⟨_, rfl, _, rfl, pa, M, par, rk, rfl, s5 _ _ epa, po, m40, fun la H6 s6 ela => ?_⟩
      have s06 := sT s05 s6
      refine ⟨w, dw, q, r, la, M, L, bs, nb, _, rfl, wi.same s06, tt.same s06, ela, m40, fun t Tl H7 s7 _ lt => ?_⟩
      have s07 := sT s06 s7
      have eta7 := s7 _ _ (s6 _ _ eta)
      intro x dx nx ndx nex
      have sx : Same H7 (L2.upd (L2.upd H7 dx (.own x)) x (.ins CK dx [])) := sNew (sNew (fun _ _ e => e) ndx) nx
      have s8 := sT s07 sx
      refine ⟨x, dx, w, ta, t, M, L, Tl, par, rfl, upd_same, ⟨⟨dw, q, r, bs, nb, rk, wi.same s8, tt.same s8, po, fun v u hv e => (nbg_of TT hn v hv u).mpr ⟨u, rfl, pg v u hv e⟩⟩, sx _ _ eta7, (lt.cho tt.asc).same sx, m1, m40⟩, fun la2 ch ac H' ex2 ld st2 => ⟨rfl, ?_⟩⟩
      have nbx : ∀ {b : Addr} {o : HO}, H7 b = some o → b ≠ x := fun e => ne_of_none e nx
      have s9 : Same H7 H' := fun b o e => st2 b o (sx _ _ e) (nbx e)
      exact k x dx ta t Tl par j la2 ch ac H' (sT s07 s9) ex2 ld (s9 _ _ eta7) gr (lt.same s9)
    | cons s0 rest =>
      refine ⟨_, rfl, true, .inl ⟨_, SqL.of elf, rfl⟩, iteT ⟨fun σ' H' => ∃ m', m' < (s0 :: rest).length ∧ ∃ (j : Nat) (par : Nat → Option Nat) (ls : List Nat) (lf : Addr) (x4 x5 x6 x7 : Option V), σ' = [some (.ref w), some (.int (kk : Int)), some (.ref pa), some (.ref lf), x4, x5, x6, x7] ∧ H' pa = some (.lst (pVs M par)) ∧ H' lf = some (.lst (ls.map nI)) ∧ GrS L M kk j par ls ∧ Same H H' ∧ lf ≠ pa ∧ m' = ls.length, fun _ _ z => z, ?_⟩⟩
      have hs : s0 ∈ s0 :: rest := List.mem_cons_self
      have sM : s0 < M := I.sub s0 hs
      have hG : ∀ a b, GB L (s0 :: rest) a b → b < M := fun a b g => I.sub b g.2.2
      -- beside, steps, ball
      refine ⟨_, rfl, _, rfl, w, dw, q, r, lf, M, L, bs, nb, s0 :: rest, rfl, wi.same s4, elf, I.sub, m40, nbl, fun Db bs2 H5 s5 hDb new2 rw1 => ?_⟩
      have hng := gb_nb (nbg_of TT hn) (s0 :: rest)
      have hl2 : ∀ h, h < M → (nbL nb (s0 :: rest) (s0 :: rest).length h).length ≤ 1000 := fun h hM => Nat.le_trans nbL_len (nbl h hM)
      generalize nbL nb (s0 :: rest) (s0 :: rest).length = nb2 at hng hl2 rw1
      refine ⟨_, rfl, _, rfl, lf, _, 0, _, rfl, rfl, SqL.of (s5 _ _ elf), atI_nat (xs := (s0 :: rest).map nI) (j := 0) rfl, ?_⟩
      refine ⟨Db, bs2, nb2, M, GB L (s0 :: rest), s0, rfl, rw1, m40, sM, hng, hG, fun sp cs H6 hsp0 hsp cells s6 => ?_⟩
      obtain ⟨st0, rfl, hst0⟩ := cells.pVs
      obtain ⟨sto, est⟩ := StOf.of_lt sM hG hst0
      rw [← est] at hsp
      generalize (fun v => if v < M then st0 v else none) = st at sto hsp
      have hst : ∀ v, v < M → ∀ d, st v = some d ↔ Dist (GB L (s0 :: rest)) s0 v d := fun v _ d => sto v d
      have e0 : st s0 = some 0 := (sto s0 0).mpr Dist.zero
      refine ⟨_, rfl, _, rfl, _, rfl, sp, M, kk, st, rfl, hsp, m40, k2, k8, ⟨s0, sM, e0⟩, fun rc H7 rch s7 => ?_⟩
      have hsp7 := s7 _ _ hsp
      refine ⟨sp, M, st, (rc : Int), rfl, hsp7, m40, fun ba H8 s8 hba eba => ?_⟩
      have s58 := sT s5 (sT s6 (sT s7 s8))
      have s08 := sT s4 s58
      have epa8 := s58 _ _ epa
      have elf8 := s58 _ _ elf
      have hsp8 := s8 _ _ hsp7
      have s68 := sT s6 (sT s7 s8)
      have nDb : Db ≠ pa := (ne_of_none epa hDb).symm
      have nRow : ∀ a ∈ bs2, a ≠ pa := fun a m => (ne_of_none epa (new2 a m)).symm
      have nsp : sp ≠ pa := (ne_of_none (s5 _ _ epa) hsp0).symm
      have nba : ba ≠ pa := (ne_of_none (s7 _ _ (s6 _ _ (s5 _ _ epa))) hba).symm
      have rw8 : RowsI H8 Db bs2 nb2 M := ⟨s68 _ _ rw1.at_, rw1.len, fun i a h => s68 _ _ (rw1.row i a h)⟩
      have ball : ∀ v, v ∈ ballN M st (rc : Int) ↔ inB st (rc : Int) v = true := fun v => by
        rw [ballN_mem]
        refine ⟨fun h => h.2, fun h => ⟨?_, h⟩⟩
        obtain ⟨d, e, _⟩ := inB_some h
        exact I.sub v (gb_mem hs ((sto v d).mp e).1)
      have bl : (ballN M st (rc : Int)).length ≤ M := bsz_le M st rc
      refine ⟨_, rfl, ba, rfl, ⟨_, SqL.of eba⟩, for_list (K := K) (a := ba) (xs := (ballN M st (rc : Int)).map nI) (fun i σ H' => ∃ (par1 : Nat → Option Nat) (x7 : Option V), σ = [some (.ref w), some (.int (kk : Int)), some (.ref pa), some (.ref lf), some (.ref Db), some (.ref sp), some (.ref ba), x7] ∧ H' pa = some (.lst (pVs M par1)) ∧ (∀ v, v ∈ (ballN M st (rc : Int)).take i → HungOf (GB L (s0 :: rest)) s0 v (par1 v)) ∧ (∀ v, v ∉ (ballN M st (rc : Int)).take i → par1 v = par v) ∧ Ext pa H8 H') ?_ ?_ ?_ ?_⟩
      · exact ⟨par, _, rfl, epa8, fun v h => absurd h (by simp), fun v _ => rfl, Ext.rfl'⟩
      · rintro i σ H9 hi ⟨_, _, _, _, _, _, x9⟩
        exact SqL.of (x9 _ _ eba nba)
      · rintro i v σ H9 hv ⟨par1, x7, rfl, e9, hin, hout, x9⟩
        obtain ⟨h, hh, rfl⟩ := map_inv hv
        have hb := List.mem_of_getElem? hh
        have hM := (ballN_mem.mp hb).1
        obtain ⟨d, hd, _⟩ := inB_some ((ball h).mp hb)
        refine ⟨_, rfl, _, rfl, _, rfl, Db, sp, M, h, d, bs2, nb2, st, rfl, ⟨x9 _ _ rw8.at_ nDb, rw8.len, fun i a hi => x9 _ _ (rw8.row i a hi) (nRow a (List.mem_of_getElem? hi))⟩, x9 _ _ hsp8 nsp, hM, m40, hd, hl2 h hM, fun o ho => ?_, fun rr H10 nr s10 => ?_⟩
        · obtain ⟨v, rfl, g⟩ := (hng h hM o).mp ho
          have vM := hG _ _ g
          have dh := (sto h d).mp hd
          obtain ⟨e, _, he⟩ := (Rch.succ dh.1 g).dist
          exact ⟨by omega, by omega, e, by rw [Int.toNat_natCast]; exact (sto v e).mpr he⟩
        · refine ⟨_, rfl, _, rfl, pa, _, (h : Int), h, rfl, rfl, s10 _ _ e9, ixN_of (by rw [pVs_len]; exact hM), ?_⟩
          rw [pVs_set]
          refine ⟨_, _, rfl, upd_same, fun v hv => ?_, fun v hv => ?_, fun b o e ne => ?_⟩
          · show HungOf _ _ v (if v = h then rr else par1 v)
            by_cases c : v = h
            · subst c
              rw [if_pos rfl]
              exact near_hung hst hng hG (fun a b h => h.sym) hM hd nr
            · rw [if_neg c]
              rw [take_snoc hh] at hv
              rcases List.mem_append.mp hv with hv | hv
              · exact hin v hv
              · exact absurd (List.mem_singleton.mp hv) c
          · show (if v = h then rr else par1 v) = par v
            rw [take_snoc hh] at hv
            rw [if_neg (fun z => hv (List.mem_append_right _ (List.mem_singleton.mpr z)))]
            exact hout v fun z => hv (List.mem_append_left _ z)
          · rw [upd_ne ne]
            exact s10 _ _ (x9 b o e ne)
      · rintro σ H9 ⟨par1, x7, rfl, e9, hin, hout, x9⟩
        rw [List.length_map, List.take_length] at hin hout
        have els : (ballN M st (rc : Int)).map nI = ((ballN M st (rc : Int)).map fun i : Nat => (i : Int)).map V.int := by
          rw [List.map_map]
          rfl
        have s09 : Same H H9 := fun b o e => x9 _ _ (s08 _ _ e) (ne_of_none e hpa0)
        refine ⟨_, rfl, lf, rfl, ⟨_, SqL.of (x9 _ _ elf8 nlf)⟩, fun D2 hD2 => lc_list (K := K) (a := lf) (xs := (s0 :: rest).map nI) (fun i H' => H' D2 = some (.lst ((((s0 :: rest).take i).filter (fun v => !inB st (rc : Int) v)).map nI)) ∧ Same H9 H') ?_ ?_ ?_ ?_⟩
        · exact ⟨upd_same, sN hD2⟩
        · rintro i H10 hi ⟨_, s10⟩
          exact SqL.of (s10 _ _ (x9 _ _ elf8 nlf))
        · rintro i v H10 hv ⟨eD, s10⟩
          obtain ⟨h, hh, rfl⟩ := map_inv hv
          have hi : i < (s0 :: rest).length := (List.getElem?_eq_some_iff.mp hh).1
          have ll : (((s0 :: rest).take i).filter (fun v => !inB st (rc : Int) v)).length ≤ i := by
            refine Nat.le_trans (List.length_filter_le _ _) ?_
            rw [List.length_take]
            omega
          have lM : (s0 :: rest).length ≤ M := by
            have z := nd_len (s0 :: rest) (List.range M) I.nd fun x hx => List.mem_range.mpr (I.sub x hx)
            rw [List.length_range] at z
            exact z
          refine ⟨rfl, _, rfl, _, rfl, ba, _, rfl, .inl (SqL.of (by rw [← els]; exact s10 _ _ (x9 _ _ eba nba))), rfl, flat_int _, _, rfl, ?_⟩
          have dd : decide ((h : Int) ∈ (ballN M st (rc : Int)).map fun i : Nat => (i : Int)) = inB st (rc : Int) h := by
            cases c : inB st (rc : Int) h with
            | true => exact decide_eq_true (List.mem_map.mpr ⟨h, (ball h).mpr c, rfl⟩)
            | false =>
              refine decide_eq_false fun z => ?_
              obtain ⟨w', hw, e⟩ := List.mem_map.mp z
              have ew : w' = h := Int.ofNat.inj e
              have := (ball h).mp (ew ▸ hw)
              rw [c] at this
              cases this
          have dd2 : inV (nI h) (((ballN M st (rc : Int)).map fun i : Nat => (i : Int)).map V.int) = inB st (rc : Int) h := by
            show inV (V.int (h : Int)) _ = _
            rw [inV_int]
            exact dd
          rw [if_pos rfl, dd2]
          refine ite2 (fun c => ?_) (fun c => ?_)
          · refine ⟨_, rfl, _, eD, ?_, ?_, sNew s10 hD2⟩
            · rw [List.length_map]
              exact Nat.lt_of_lt_of_le (show _ < 64 by omega) (by decide)
            · rw [upd_same, take_snoc hh, List.filter_append, List.filter_cons_of_pos (by exact c), List.map_append]
              rfl
          · refine ⟨?_, s10⟩
            rw [take_snoc hh, List.filter_append, List.filter_cons_of_neg (by exact c)]
            show H10 D2 = some (.lst ((_ ++ []).map nI))
            rw [List.append_nil]
            exact eD
        · rintro H10 ⟨eD, s10⟩
          rw [List.length_map, List.take_length] at eD
          refine ⟨_, ?_, j + 1, par1, _, D2, _, _, _, _, rfl, s10 _ _ e9, eD, .step gr sto rch (fun v c => hin v ((ball v).mpr c)) (fun v c => hout v fun z => ?_), sT s09 s10, (ne_of_none e9 hD2).symm, rfl⟩
          · have c : inB st rc s0 = true := inB_of e0 (Nat.zero_le _)
            rw [List.filter_cons_of_neg (by rw [c]; exact Bool.false_ne_true)]
            exact Nat.lt_succ_of_le (List.length_filter_le _ _)
          · rw [(ball v).mp z] at c
            cases c
end
end Q

namespace Q
open PySem L2 QM
abbrev sGrown : Stmt := top 90
/-- the law's distances as ours -/
def stF (M : Nat) (f : Nat → Int) (v : Nat) : Option Nat := if v < M ∧ 0 ≤ f v then some (f v).toNat else none
theorem stF_of {L : List (Addr × List Int)} {M s : Nat} {ls : List Nat} {f : Nat → Int} (hs : s ∈ ls) (sub : ∀ v ∈ ls, v < M) (h : OffOk (GLl L (ls.map fun i : Nat => (i : Int))) s M f) : StOf (GB L ls) s (stF M f) := fun v d => by
  unfold stF
  by_cases c : v < M
  · rcases h v c with ⟨e, no⟩ | ⟨d0, e, x, _⟩
    · rw [if_neg (by omega)]
      exact ⟨fun z => (by cases z), fun z => absurd ((dist_gl hs).mpr z) (no d)⟩
    · rw [if_pos ⟨c, by omega⟩, e, Int.toNat_natCast]
      constructor
      · intro z
        cases z
        exact (dist_gl hs).mp x
      · intro z
        rw [x.uniq ((dist_gl hs).mpr z)]
  · rw [if_neg (fun z => c z.1)]
    exact ⟨fun z => (by cases z), fun z => absurd (sub v (gb_mem hs z.1)) c⟩
theorem stF_at {M : Nat} {f : Nat → Int} {v d : Nat} (h : stF M f v = some d) : v < M ∧ f v = (d : Int) := by
  unfold stF at h
  by_cases c : v < M ∧ 0 ≤ f v
  · rw [if_pos c] at h
    have e := Option.some.inj h
    exact ⟨c.1, by omega⟩
  · rw [if_neg c] at h
    cases h
theorem inB_F {M : Nat} {f : Nat → Int} {r v : Nat} (hv : v < M) : inB (stF M f) (r : Int) v = (decide (0 ≤ f v) && decide (f v ≤ (r : Int))) := by
  unfold inB stF
  by_cases c : 0 ≤ f v
  · rw [if_pos ⟨hv, c⟩, decide_eq_true c, Bool.true_and]
    show decide (((f v).toNat : Int) ≤ (r : Int)) = _
    rw [Int.toNat_of_nonneg c]
  · rw [if_neg (fun z => c z.2), decide_eq_false c]
    rfl
theorem bsz_F {L : List (Addr × List Int)} {M s : Nat} {ls : List Nat} {f : Nat → Int} (hs : s ∈ ls) (sub : ∀ v ∈ ls, v < M) (nd : ls.Nodup) (h : StOf (GB L ls) s (stF M f)) (r : Nat) : (ls.filter (inB (stF M f) (r : Int))).length = bsz M (stF M f) r := by
  unfold bsz
  refine Nat.le_antisymm (nd_len _ _ (nd.filter _) fun x hx => ?_) (nd_len _ _ (List.nodup_range.filter _) fun x hx => ?_)
  · obtain ⟨m, c⟩ := List.mem_filter.mp hx
    exact ballN_mem.mpr ⟨sub x m, c⟩
  · obtain ⟨m, c⟩ := ballN_mem.mp hx
    obtain ⟨d, e, _⟩ := inB_some c
    exact List.mem_filter.mpr ⟨gb_mem hs ((h x d).mp e).1, c⟩
theorem rch_ex {M k i : Nat} {st : Nat → Option Nat} (k2 : 2 ≤ k) (hi : i < M) (e : st i = some 0) : ∃ r, r ≤ M ∧ RchOf M st k r := by
  by_cases c : ∃ r, bsz M st (r + 1) < k * bsz M st r ∧ r ≤ M
  · obtain ⟨r0, c1, c2⟩ := c
    obtain ⟨r, c, least⟩ := least_ex (p := fun r => bsz M st (r + 1) < k * bsz M st r) c1
    exact ⟨r, Nat.le_trans (least r0 c1) c2, fun j hj => Nat.not_lt.mp fun z => absurd (least j z) (by omega), c⟩
  · exfalso
    have step : ∀ r, r ≤ M → r + 1 ≤ bsz M st r → r + 2 ≤ bsz M st (r + 1) := fun r hr h => by
      have z : k * bsz M st r ≤ bsz M st (r + 1) := Nat.not_lt.mp fun z => c ⟨r, z, hr⟩
      have z2 : 2 * bsz M st r ≤ k * bsz M st r := Nat.mul_le_mul_right _ k2
      omega
    have all : ∀ r, r ≤ M + 1 → r + 1 ≤ bsz M st r := by
      intro r
      induction r with
      | zero => exact fun _ => bsz_pos hi e 0
      | succ r ih => exact fun h => step r (by omega) (ih (by omega))
    have := all (M + 1) (Nat.le_refl _)
    have := bsz_le M st (M + 1)
    omega
/-- the first of a range with a flag -/
theorem filt_head {p : Nat → Bool} {r n : Nat} (hr : r < n) (c : p r = true) (no : ∀ j, j < r → p j = false) : ∃ t, (List.range n).filter p = r :: t := by
  obtain ⟨m, rfl⟩ : ∃ m, n = r + (m + 1) := ⟨n - r - 1, by omega⟩
  rw [List.range_add, List.filter_append]
  have e : (List.range r).filter p = [] := List.filter_eq_nil_iff.mpr fun j hj => by
    rw [no j (List.mem_range.mp hj)]
    exact Bool.false_ne_true
  rw [e, List.nil_append, List.range_succ_eq_map, List.map_cons, List.filter_cons_of_pos (by rw [Nat.add_zero]; exact c), Nat.add_zero]
  exact ⟨_, rfl⟩
theorem fil_yes {p : Nat → Bool} {ls : List Nat} {i h : Nat} (hh : ls[i]? = some h) (c : p h = true) : (ls.take (i + 1)).filter p = (ls.take i).filter p ++ [h] := by
  rw [take_snoc hh, List.filter_append, List.filter_cons_of_pos c]
  rfl
theorem fil_no {p : Nat → Bool} {ls : List Nat} {i h : Nat} (hh : ls[i]? = some h) (c : p h = false) : (ls.take (i + 1)).filter p = (ls.take i).filter p := by
  rw [take_snoc hh, List.filter_append, List.filter_cons_of_neg (by rw [c]; exact Bool.false_ne_true)]
  show _ ++ [] = _
  rw [List.append_nil]
theorem rgf_yes {p : Nat → Bool} {i : Nat} (c : p i = true) : (List.range (i + 1)).filter p = (List.range i).filter p ++ [i] := by
  rw [List.range_succ, List.filter_append, List.filter_cons_of_pos c]
  rfl
theorem rgf_no {p : Nat → Bool} {i : Nat} (c : p i = false) : (List.range (i + 1)).filter p = (List.range i).filter p := by
  rw [List.range_succ, List.filter_append, List.filter_cons_of_neg (by rw [c]; exact Bool.false_ne_true)]
  show _ ++ [] = _
  rw [List.append_nil]
def rLenS (K : PySem.W.Frag) : List V → Hp → VK → Prop := fun xs H Q => ∃ (p : Addr) (ys : List V), xs = [.ref p] ∧ (SqL K H p ys ∨ SqT K H p ys) ∧ Q (.int ys.length) H
def spGrown : Sp := fun vs H Q _ => ∃ (W q : Addr) (M kk : Nat) (L : List (Addr × List Int)), vs = [.ref W, .int (kk : Int)] ∧ LWeb H W q (M : Int) L ∧ 1 ≤ M ∧ M ≤ 40 ∧ 2 ≤ kk ∧ kk ≤ 8 ∧
  ∀ pa par j H', Same H H' → H' pa = some (.tup (pVs M par)) → GrS L M kk j par [] → Q (.ref pa) H'
section
variable {P : Program} {w : World} {K : PySem.W.Frag} {mg : Str → Option Value} {base : Heap}
theorem scGrown : FnScope ["web", "factor", "parents", "left", "turn", "leader", "off", "reach", "house", "sizes", "ball", "r"] ["web", "factor"] (defScope sGrown) := ⟨rfl, rfl, rfl, by decide +kernel, rfl, by decide +kernel, by decide +kernel⟩
theorem ok_grown {f fO fH fB : Addr} {fd dO dH dB : FuncData} (F : Fun K "_law_grown" "_law_grown" sGrown f fd) (B : Bts mg) (DO : Df K mg "_law_off" sOff ["web", "house", "left"] fO dO) (DH : Df K mg "_law_hung" sHung ["web", "off", "house", "lot"] fH dH) (DB : Df K mg "_law_beside" sLBes ["web", "house"] fB dB) :
    FnOk P w K mg base CX0 3 f fd ["web", "factor"] spGrown := by
  have GO : FnOk P w K mg base CX0 1 fO dO ["web", "house", "left"] (spOff K) := ok_off DO.F B
  have GH : FnOk P w K mg base CX0 2 fH dH ["web", "off", "house", "lot"] spHung := ok_hung DH.F B DB
  refine F.ok scGrown (fun vs H Q E h => ?_) (fun cdv A outer s H vs Q E hr h => ?_)
  · obtain ⟨W, q, M, kk, L, rfl, _⟩ := h
    rfl
  · obtain ⟨W, q, M, kk, L, rfl, lw, m1, m40, k2, k8, k⟩ := h
    have nd := scGrown.nd
    have hr1 : Room 1 _ := hr.mono (by decide)
    refine ⟨_, pss_cons (ps_set (i := 2) nd rfl (.inl rfl) (pe_op op_rep (pe_lst (pa_cons pe_non pa_nil)) (pe_ix ix_tup (pv 0) pe_int (fun _ _ => rfl))))
      (pss_cons (ps_set (i := 3) nd rfl (.inr rfl) (pe_listRg rfl (by rfl) B.list (prg_1 (by rfl) B.range (pe_ix ix_tup (pv 0) pe_int (fun _ _ => rfl)))))
      (pss_cons (ps_for PassesOwn.never rfl (pi_range1 rfl B.range (pa_cons (pe_ix ix_tup (pv 0) pe_int (fun _ _ => rfl)) pa_nil)) (pg_name (i := 4) nd rfl (.inl rfl))
        (pss_one (ps_if (pt_cmpR op_gt (pe_callB call_len_seq (by rfl) B.len PySem.boot_len (pa_cons (pv 3) pa_nil)) pe_int (nomark _))
          (pss_cons (ps_set (i := 5) nd rfl (.inl rfl) (pe_ix ix_list (pv 3) pe_int (fun _ _ => rfl)))
          (pss_cons (ps_set (i := 6) nd rfl (.inr rfl) (pe_call GO hr1 rfl DO.m DO.k DO.b .nil pass0 (pa_cons (pv 0) (pa_cons (pv 5) (pa_cons (pv 3) pa_nil)))))
          (pss_cons (ps_set (i := 9) nd rfl (.inr rfl) (pe_lc (own := [("reach", 7)]) (g := gName 7) (tt := tYes) rfl nd (pi_range1 rfl B.range (pa_cons (pe_op op_add (pe_ix ix_tup (pv 0) pe_int (fun _ _ => rfl)) pe_int) pa_nil))
            (blkOk_by (by rfl)) (fun _ _ _ _ _ => pg_name (i := 7) nd rfl (.inr rfl)) (fun _ _ _ _ _ => pts_nil)
            (fun _ _ _ _ _ => pe_callB (r := rLenS K) call_len_seq (by rfl) B.len PySem.boot_len (pa_cons (pe_lc (own := [("house", 8)]) (g := gName 8) rfl nd (wi := iList K (tVar 3)) (pi_list (pv 3)) (blkOk_by (by rfl)) (fun _ _ _ _ _ => pg_name (i := 8) nd rfl (.inl rfl))
              (fun _ _ _ _ _ => pts_one (pt_chain op_le op_le pe_int (pe_ix (r := rIxL K) ix_list (pv 6) (pv 8) (fun _ _ => rfl)) (pv 7))) (fun _ _ _ _ _ => pv 8)) pa_nil))))
          (pss_cons (ps_set (i := 7) nd rfl (.inr rfl) (pe_ix ix_list (pe_lc (own := [("r", 11)]) (g := gName 11) rfl nd (pi_range1 rfl B.range (pa_cons (pe_op op_add (pe_ix ix_tup (pv 0) pe_int (fun _ _ => rfl)) pe_int) pa_nil))
            (blkOk_by (N := ["web", "factor", "parents", "left", "turn", "leader", "off", "reach", "house", "sizes", "ball", "r"]) (sc := defScope sGrown) (by decide +kernel)) (fun _ _ _ _ _ => pg_name (i := 11) nd rfl (.inl rfl))
            (fun _ _ _ _ _ => pts_one (pt_cmpR op_lt (pe_ix (r := rIxL K) ix_list (pv 9) (pe_op op_add (pv 11) pe_int) (fun _ _ => rfl)) (pe_op op_mul (pv 1) (pe_ix (r := rIxL K) ix_list (pv 9) (pv 11) (fun _ _ => rfl))) (nomark _))) (fun _ _ _ _ _ => pv 11)) pe_int (fun _ _ => rfl)))
          (pss_cons (ps_set (i := 10) nd rfl (.inr rfl) (pe_lc (own := [("house", 8)]) (g := gName 8) rfl nd (pi_list (pv 3))
            (blkOk_by (N := ["web", "factor", "parents", "left", "turn", "leader", "off", "reach", "house", "sizes", "ball", "r"]) (sc := defScope sGrown) (by decide +kernel)) (fun _ _ _ _ _ => pg_name (i := 8) nd rfl (.inl rfl))
            (fun _ _ _ _ _ => pts_one (pt_chain op_le op_le pe_int (pe_ix (r := rIxL K) ix_list (pv 6) (pv 8) (fun _ _ => rfl)) (pv 7))) (fun _ _ _ _ _ => pv 8)))
          (pss_cons (ps_for PassesOwn.never rfl (pi_list (pv 10)) (pg_name (i := 8) nd rfl (.inl rfl))
            (pss_one (ps_if (pt_cmpR op_ne (pv 8) (pv 5) (nomark _))
              (pss_one (ps_asg (pe_call GH hr rfl DH.m DH.k DH.b .nil pass0 (pa_cons (pv 0) (pa_cons (pv 6) (pa_cons (pv 8) (pa_cons (pv 10) pa_nil))))) (pg_sub (pv 2) (pv 8) set_list))) pss_nil)))
          (pss_one (ps_set (i := 3) nd rfl (.inr rfl) (pe_lc (own := [("house", 8)]) (g := gName 8) rfl nd (pi_list (pv 3))
            (blkOk_by (N := ["web", "factor", "parents", "left", "turn", "leader", "off", "reach", "house", "sizes", "ball", "r"]) (sc := defScope sGrown) (by decide +kernel)) (fun _ _ _ _ _ => pg_name (i := 8) nd rfl (.inl rfl))
            (fun _ _ _ _ _ => pts_one (pt_cmpR (r := rIn K true) op_notIn_seq (pv 8) (pv 10) rfl)) (fun _ _ _ _ _ => pv 8))))))))))
          pss_nil)))
      (pss_one (ps_ret (pe_callTy call_tuple_of (by rfl) B.tuple PyProof.Rows.boot_tuple (pa_cons (pv 2) pa_nil)))))), ?_⟩
    have eM : ((M : Int)).toNat = M := Int.toNat_natCast M
    have TT : TL (M : Int) L := ⟨lw.2.ok, lw.2.conn, by omega, by omega⟩
    refine ⟨(by show 1 ≤ sizeLine; decide), fun l hl => ?_⟩
    have s1 := sN (o := .lst [.non]) hl
    refine ⟨_, rfl, W, _, 0, _, rfl, rfl, SqT.of (s1 _ _ lw.1), rfl, l, _, _, rfl, rfl, upd_same, ?_, ?_, ?_, fun pa hpa => ?_⟩
    · omega
    · omega
    · exact size_le (by show 1 * (M : Int).toNat ≤ 64; omega)
    have hpa0 : H pa = none := sNo s1 hpa
    have s2 := sT s1 (sN (o := .lst (List.replicate ((M : Int)).toNat [V.non]).flatten) hpa)
    have epa : (upd (upd H l (.lst [.non])) pa (.lst (List.replicate ((M : Int)).toNat [V.non]).flatten)) pa = some (.lst (pVs M noPar)) := by
      rw [upd_same, eM, pVs_rep]
    revert s2 epa
    generalize (upd (upd H l (.lst [.non])) pa (.lst (List.replicate ((M : Int)).toNat [V.non]).flatten)) = H2
    intro s2 epa
    refine ⟨_, rfl, W, _, 0, _, rfl, rfl, SqT.of (s2 _ _ lw.1), rfl, (M : Int), rfl, RgOk.of_le (by omega) (by omega) (by omega) (by omega), fun lf hlf => ?_⟩
    have s3 := sN (o := .lst (rgV 0 (M : Int))) hlf
    have nlf0 : lf ≠ pa := (ne_of_none epa hlf).symm
    have elf : (upd H2 lf (.lst (rgV 0 (M : Int)))) lf = some (.lst ((List.range M).map nI)) := by
      rw [upd_same, rgV0]
    have epa3 := s3 _ _ epa
    have s03 := sT s2 s3
    revert s3 elf epa3 s03
    generalize (upd H2 lf (.lst (rgV 0 (M : Int)))) = H3
    intro s3 elf epa3 s03
    refine ⟨_, rfl, W, _, 0, _, rfl, rfl, SqT.of (s03 _ _ lw.1), rfl, (M : Int), rfl, by omega, by omega, for_range (lo := 0) (n := (M : Int).toNat) (fun i σ H' => ∃ (j : Nat) (par : Nat → Option Nat) (ls : List Nat) (lf : Addr) (x4 x5 x6 x7 x8 x9 x10 : Option V), σ = [some (.ref W), some (.int (kk : Int)), some (.ref pa), some (.ref lf), x4, x5, x6, x7, x8, x9, x10, none] ∧ H' pa = some (.lst (pVs M par)) ∧ H' lf = some (.lst (ls.map nI)) ∧ GrS L M kk j par ls ∧ (ls = [] ∨ j = i) ∧ Same H H' ∧ lf ≠ pa) ?_ ?_ ?_⟩
    · exact ⟨0, noPar, List.range M, lf, none, none, none, none, none, none, none, rfl, epa3, elf, .zero, .inr rfl, s03, nlf0⟩
    · clear s1 s2 s3 epa elf epa3 s03 hlf hl hpa
      rintro i σ H4 hi ⟨j, par, ls, lf, x4, x5, x6, x7, x8, x9, x10, rfl, epa, elf, gr, ji, s4, nlf⟩
      obtain ⟨rk, I⟩ := gr.inv TT
      refine ⟨_, rfl, lf, _, rfl, .inl (SqL.of elf), _, _, rfl, rfl, _, rfl, ?_⟩
      cases ls with
      | nil =>
        refine ite2 (fun c => absurd (of_decide_eq_true c) (by simp)) (fun _ => ?_)
        exact ⟨j, par, [], lf, _, _, _, _, _, _, _, rfl, epa, elf, gr, .inl rfl, s4, nlf⟩
      | cons s0 rest =>
        refine ite2 (fun _ => ?_) (fun c => absurd (decide_eq_true (by simp only [List.map_cons, List.length_cons]; omega)) c)
        obtain rfl : j = i := by
          rcases ji with z | z
          · cases z
          · exact z
        have hs : s0 ∈ s0 :: rest := List.mem_cons_self
        have sM : s0 < M := I.sub s0 hs
        have hG : ∀ a b, GB L (s0 :: rest) a b → b < M := fun a b g => I.sub b g.2.2
        have els : (s0 :: rest).map nI = ((s0 :: rest).map fun i : Nat => (i : Int)).map V.int := by
          rw [List.map_map]
          rfl
        have lM : (s0 :: rest).length ≤ M := by
          have z := nd_len (s0 :: rest) (List.range M) I.nd fun x hx => List.mem_range.mpr (I.sub x hx)
          rw [List.length_range] at z
          exact z
        have lsz : ∀ {p : Nat → Bool} {i h : Nat}, (s0 :: rest)[i]? = some h → ((((s0 :: rest).take i).filter p).map nI).length < sizeLine := fun {p i h} hh => by
          have hi : i < (s0 :: rest).length := (List.getElem?_eq_some_iff.mp hh).1
          have ll : (((s0 :: rest).take i).filter p).length ≤ i := by
            refine Nat.le_trans (List.length_filter_le _ _) ?_
            rw [List.length_take]
            omega
          rw [List.length_map]
          exact Nat.lt_of_lt_of_le (show _ < 64 by omega) (by decide)
        refine ⟨_, rfl, lf, _, 0, _, rfl, rfl, SqL.of elf, atI_nat (xs := (s0 :: rest).map nI) (j := 0) rfl, ?_⟩
        refine ⟨_, rfl, _, rfl, _, rfl, W, q, lf, M, s0, L, (s0 :: rest).map (fun i : Nat => (i : Int)), rfl, ⟨s4 _ _ lw.1, lw.2.same s4⟩, SqL.of (by rw [← els]; exact elf), sM, m40, fun Do fo H5 s5 hDo eDo ok => ?_⟩
        have sto := stF_of hs I.sub ok
        have e0 : stF M fo s0 = some 0 := (sto s0 0).mpr Dist.zero
        have lw5 := sT s4 s5
        have elf5 := s5 _ _ elf
        refine ⟨_, rfl, W, _, 0, _, rfl, rfl, SqT.of (lw5 _ _ lw.1), rfl, _, _, rfl, rfl, (M : Int) + 2, rfl, by omega, by omega, fun Ds hDs => lc_range (lo := 0) (n := ((M : Int) + 2).toNat) (fun i H' => H' Ds = some (.lst (flN i fun r => (bsz M (stF M fo) r : Int))) ∧ Same H5 H') ?_ ?_ ?_⟩
        · exact ⟨upd_same, sN hDs⟩
        · rintro i H6 hi ⟨eDs, s6⟩
          rw [Int.zero_add]
          refine ⟨rfl, _, rfl, lf, rfl, ⟨_, SqL.of (s6 _ _ elf5)⟩, fun D2 hD2 => lc_list (K := K) (a := lf) (xs := (s0 :: rest).map nI) (fun i' H' => H' D2 = some (.lst ((((s0 :: rest).take i').filter (inB (stF M fo) (i : Int))).map nI)) ∧ Same H6 H') ?_ ?_ ?_ ?_⟩
          · exact ⟨upd_same, sN hD2⟩
          · rintro i' H7 hi' ⟨_, s7⟩
            exact SqL.of (s7 _ _ (s6 _ _ elf5))
          · rintro i' v H7 hv ⟨eD2, s7⟩
            obtain ⟨h, hh, rfl⟩ := map_inv hv
            have hM := I.sub h (List.mem_of_getElem? hh)
            refine ⟨rfl, _, rfl, _, rfl, Do, _, (h : Int), _, rfl, rfl, SqL.of (s7 _ _ (s6 _ _ eDo)), flN_ix fo hM, _, _, rfl, rfl, _, rfl, ite2 (fun c1 => ?_) (fun c1 => ?_)⟩
            · refine ⟨_, rfl, _, _, rfl, rfl, _, rfl, ite2 (fun c2 => ?_) (fun c2 => ?_)⟩
              · exact ⟨_, rfl, _, eD2, lsz hh, by rw [upd_same, fil_yes hh (by rw [inB_F hM, c1, c2]; rfl), List.map_append]; rfl, sNew s7 hD2⟩
              · refine ⟨?_, s7⟩
                rw [fil_no hh (by rw [inB_F hM, Bool.eq_false_iff.mpr c2, Bool.and_false])]
                exact eD2
            · refine ⟨false, rfl, iteF ⟨?_, s7⟩⟩
              rw [fil_no hh (by rw [inB_F hM, Bool.eq_false_iff.mpr c1, Bool.false_and])]
              exact eD2
          · rintro H7 ⟨eD2, s7⟩
            rw [List.length_map, List.take_length] at eD2
            refine ⟨D2, _, rfl, .inl (SqL.of eD2), _, s7 _ _ eDs, ?_, ?_, sNew (sT s6 s7) hDs⟩
            · rw [flN_len]
              exact Nat.lt_of_lt_of_le (show i < 64 by omega) (by decide)
            · rw [upd_same, List.length_map, bsz_F hs I.sub I.nd sto]
              unfold flN
              rw [List.range_succ, List.map_append]
              rfl
        · rintro H6 ⟨eDs, s6⟩
          rw [show ((M : Int) + 2).toNat = M + 2 by omega] at eDs
          have s56 := sT lw5 s6
          -- reach
          refine ⟨_, rfl, W, _, 0, _, rfl, rfl, SqT.of (s56 _ _ lw.1), rfl, _, _, rfl, rfl, (M : Int) + 1, rfl, by omega, by omega, fun Dr hDr => lc_range (lo := 0) (n := ((M : Int) + 1).toNat) (fun i H' => H' Dr = some (.lst (((List.range i).filter (fun r => decide (bsz M (stF M fo) (r + 1) < kk * bsz M (stF M fo) r))).map nI)) ∧ Same H6 H') ?_ ?_ ?_⟩
          · exact ⟨upd_same, sN hDr⟩
          · rintro i H7 hi ⟨eDr, s7⟩
            rw [Int.zero_add]
            have iM : i < M + 1 := by omega
            have lr : ((List.range i).filter (fun r => decide (bsz M (stF M fo) (r + 1) < kk * bsz M (stF M fo) r))).length ≤ i := by
              refine Nat.le_trans (List.length_filter_le _ _) ?_
              rw [List.length_range]
              exact Nat.le_refl _
            have i1 : atI (flN (M + 2) fun r => (bsz M (stF M fo) r : Int)) ((i : Int) + 1) = some (V.int (bsz M (stF M fo) (i + 1) : Int)) := flN_ix (M := M + 2) (i := i + 1) (fun r => (bsz M (stF M fo) r : Int)) (by omega)
            have i2 : atI (flN (M + 2) fun r => (bsz M (stF M fo) r : Int)) (i : Int) = some (V.int (bsz M (stF M fo) i : Int)) := flN_ix (M := M + 2) (i := i) (fun r => (bsz M (stF M fo) r : Int)) (by omega)
            have lz := bsz_le M (stF M fo) i
            refine ⟨rfl, _, rfl, _, rfl, _, _, rfl, rfl, Ds, _, (i : Int) + 1, _, rfl, rfl, SqL.of (s7 _ _ eDs), i1, _, rfl, _, rfl, _, rfl, Ds, _, (i : Int), _, rfl, rfl, SqL.of (s7 _ _ eDs), i2, _, _, rfl, rfl, .inl ⟨by omega, by omega⟩, _, _, rfl, rfl, _, rfl, ?_⟩
            have dd : decide ((bsz M (stF M fo) (i + 1) : Int) < (kk : Int) * (bsz M (stF M fo) i : Int)) = decide (bsz M (stF M fo) (i + 1) < kk * bsz M (stF M fo) i) := by
              rw [← Int.natCast_mul]
              by_cases c : bsz M (stF M fo) (i + 1) < kk * bsz M (stF M fo) i
              · rw [decide_eq_true c, decide_eq_true (Int.ofNat_lt.mpr c)]
              · rw [decide_eq_false c, decide_eq_false fun z => c (Int.ofNat_lt.mp z)]
            rw [dd]
            refine ite2 (fun c => ?_) (fun c => ?_)
            · refine ⟨_, rfl, _, eDr, ?_, ?_, sNew s7 hDr⟩
              · rw [List.length_map]
                exact Nat.lt_of_lt_of_le (show _ < 64 by omega) (by decide)
              · rw [upd_same, rgf_yes (p := fun r => decide (bsz M (stF M fo) (r + 1) < kk * bsz M (stF M fo) r)) c, List.map_append]
                rfl
            · refine ⟨?_, s7⟩
              rw [rgf_no (p := fun r => decide (bsz M (stF M fo) (r + 1) < kk * bsz M (stF M fo) r)) (Bool.eq_false_iff.mpr c)]
              exact eDr
          · rintro H7 ⟨eDr, s7⟩
            rw [show ((M : Int) + 1).toNat = M + 1 by omega] at eDr
            obtain ⟨rc, rM, rch⟩ := rch_ex (M := M) (k := kk) (st := stF M fo) k2 sM e0
            obtain ⟨tl, et⟩ := filt_head (p := fun r => decide (bsz M (stF M fo) (r + 1) < kk * bsz M (stF M fo) r)) (r := rc) (n := M + 1) (by omega) (decide_eq_true rch.2) (fun j hj => decide_eq_false (Nat.not_lt.mpr (rch.1 j hj)))
            rw [et] at eDr
            refine ⟨Dr, _, 0, _, rfl, rfl, SqL.of eDr, atI_nat (xs := (rc :: tl).map nI) (j := 0) rfl, ?_⟩
            have elf7 := s7 _ _ (s6 _ _ elf5)
            have s47 := sT s56 s7
            have eDo7 := s7 _ _ (s6 _ _ eDo)
            have epa7 := s7 _ _ (s6 _ _ (s5 _ _ epa))
            -- ball
            refine ⟨_, rfl, lf, rfl, ⟨_, SqL.of elf7⟩, fun Db hDb => lc_list (K := K) (a := lf) (xs := (s0 :: rest).map nI) (fun i' H' => H' Db = some (.lst ((((s0 :: rest).take i').filter (inB (stF M fo) (rc : Int))).map nI)) ∧ Same H7 H') ?_ ?_ ?_ ?_⟩
            · exact ⟨upd_same, sN hDb⟩
            · rintro i' H8 hi' ⟨_, s8⟩
              exact SqL.of (s8 _ _ elf7)
            · rintro i' v H8 hv ⟨eDb, s8⟩
              obtain ⟨h, hh, rfl⟩ := map_inv hv
              have hM := I.sub h (List.mem_of_getElem? hh)
              refine ⟨rfl, _, rfl, _, rfl, Do, _, (h : Int), _, rfl, rfl, SqL.of (s8 _ _ eDo7), flN_ix fo hM, _, _, rfl, rfl, _, rfl, ite2 (fun c1 => ?_) (fun c1 => ?_)⟩
              · refine ⟨_, rfl, _, _, rfl, rfl, _, rfl, ite2 (fun c2 => ?_) (fun c2 => ?_)⟩
                · exact ⟨_, rfl, _, eDb, lsz hh, by rw [upd_same, fil_yes hh (by rw [inB_F hM, c1, c2]; rfl), List.map_append]; rfl, sNew s8 hDb⟩
                · refine ⟨?_, s8⟩
                  rw [fil_no hh (by rw [inB_F hM, Bool.eq_false_iff.mpr c2, Bool.and_false])]
                  exact eDb
              · refine ⟨false, rfl, iteF ⟨?_, s8⟩⟩
                rw [fil_no hh (by rw [inB_F hM, Bool.eq_false_iff.mpr c1, Bool.false_and])]
                exact eDb
            · rintro H8 ⟨eDb, s8⟩
              rw [List.length_map, List.take_length] at eDb
              have s48 := sT s47 s8
              have eDo8 := s8 _ _ eDo7
              have epa8 := s8 _ _ epa7
              have elf8 := s8 _ _ elf7
              have nDo : Do ≠ pa := (ne_of_none epa hDo).symm
              have nDb : Db ≠ pa := (ne_of_none epa7 hDb).symm
              have ball : ∀ v, v ∈ (s0 :: rest).filter (inB (stF M fo) (rc : Int)) ↔ inB (stF M fo) (rc : Int) v = true := fun v => by
                rw [List.mem_filter]
                refine ⟨fun h => h.2, fun h => ⟨?_, h⟩⟩
                obtain ⟨d, e, _⟩ := inB_some h
                exact gb_mem hs ((sto v d).mp e).1
              generalize eB : (s0 :: rest).filter (inB (stF M fo) (rc : Int)) = bls at eDb ball
              have elsB : bls.map nI = (bls.map fun i : Nat => (i : Int)).map V.int := by
                rw [List.map_map]
                rfl
              refine ⟨_, rfl, Db, rfl, ⟨_, SqL.of eDb⟩, for_list (K := K) (a := Db) (xs := bls.map nI) (fun i σ H' => ∃ (par1 : Nat → Option Nat) (x8 : Option V), σ = [some (.ref W), some (.int (kk : Int)), some (.ref pa), some (.ref lf), some (.int (0 + (j : Int))), some (nI s0), some (.ref Do), some (nI rc), x8, some (.ref Ds), some (.ref Db), none] ∧ H' pa = some (.lst (pVs M par1)) ∧ (∀ v, v ∈ bls.take i → HungOf (GB L (s0 :: rest)) s0 v (par1 v)) ∧ (∀ v, v ∉ bls.take i → par1 v = par v) ∧ Ext pa H8 H') ?_ ?_ ?_ ?_⟩
              · exact ⟨par, _, rfl, epa8, fun v h => absurd h (by simp), fun v _ => rfl, Ext.rfl'⟩
              · rintro i σ H9 hi ⟨_, _, _, _, _, _, x9⟩
                exact SqL.of (x9 _ _ eDb nDb)
              · rintro i v σ H9 hv ⟨par1, x8, rfl, e9, hin, hout, x9⟩
                obtain ⟨h, hh, rfl⟩ := map_inv hv
                have hb := (ball h).mp (List.mem_of_getElem? hh)
                obtain ⟨d, hd, dr⟩ := inB_some hb
                have hM := (stF_at hd).1
                have dh := (sto h d).mp hd
                have s09 : Same H H9 := fun b o e => x9 _ _ (s48 _ _ e) (ne_of_none e hpa0)
                refine ⟨_, rfl, _, rfl, rfl, _, rfl, ?_⟩
                show (if (!decide (V.int (h : Int) = V.int (s0 : Int))) = true then _ else _)
                rw [dec_i]
                refine ite2 (fun c => ?_) (fun c => ?_)
                · have ne : h ≠ s0 := fun e => by
                    rw [decide_eq_true (by rw [e])] at c
                    cases c
                  obtain ⟨d, rfl⟩ : ∃ e, d = e + 1 := by
                    cases d with
                    | zero => exact absurd dh.of_zero ne
                    | succ e => exact ⟨e, rfl⟩
                  obtain ⟨u0, du0, g0⟩ := dh.pred
                  obtain ⟨u, ⟨gu, du⟩, least⟩ := least_ex (p := fun u => GB L (s0 :: rest) h u ∧ Dist (GB L (s0 :: rest)) s0 u d) (n := u0) ⟨g0.sym, du0⟩
                  have eh : fo h = ((d + 1 : Nat) : Int) := (stF_at hd).2
                  have eu : fo u = (d : Int) := (stF_at ((sto u d).mpr du)).2
                  refine ⟨_, rfl, _, rfl, _, rfl, _, rfl, W, q, Do, Db, M, h, u, L, fo, bls, rfl, ⟨s09 _ _ lw.1, lw.2.same s09⟩, x9 _ _ eDo8 nDo, x9 _ _ eDb nDb, hM, m40, ⟨gu.1, (ball u).mpr (inB_of ((sto u d).mpr du) (by omega)), by omega⟩, fun o go mo eo => ?_, fun H10 s10 => ?_⟩
                  · obtain ⟨d2, e2, _⟩ := inB_some ((ball o).mp mo)
                    have z := (stF_at e2).2
                    have ed : d2 = d := by omega
                    subst ed
                    exact least o ⟨⟨go, gb_mem hs dh.1, gb_mem hs ((sto o d2).mp e2).1⟩, (sto o d2).mp e2⟩
                  · refine ⟨_, rfl, _, rfl, pa, _, (h : Int), h, rfl, rfl, s10 _ _ e9, ixN_of (by rw [pVs_len]; exact hM), ?_⟩
                    have es : (pVs M par1).set h (nI u) = pVs M (fun i => if i = h then some u else par1 i) := pVs_set par1 (some u)
                    rw [es]
                    refine ⟨_, _, rfl, upd_same, fun v hv => ?_, fun v hv => ?_, fun b o e ne => ?_⟩
                    · show HungOf _ _ v (if v = h then some u else par1 v)
                      by_cases c : v = h
                      · subst c
                        rw [if_pos rfl]
                        exact .inr ⟨u, d, rfl, dh, du, gu, fun o go dd => least o ⟨go, dd⟩⟩
                      · rw [if_neg c]
                        rw [take_snoc hh] at hv
                        rcases List.mem_append.mp hv with hv | hv
                        · exact hin v hv
                        · exact absurd (List.mem_singleton.mp hv) c
                    · show (if v = h then some u else par1 v) = par v
                      rw [take_snoc hh] at hv
                      rw [if_neg (fun z => hv (List.mem_append_right _ (List.mem_singleton.mpr z)))]
                      exact hout v fun z => hv (List.mem_append_left _ z)
                    · rw [upd_ne ne]
                      exact s10 _ _ (x9 b o e ne)
                · have e : h = s0 := by
                    by_cases z : h = s0
                    · exact z
                    · exact absurd (by rw [decide_eq_false (show ¬ ((h : Int) = (s0 : Int)) from fun e => z (by omega))]; rfl) c
                  subst e
                  refine ⟨par1, _, rfl, e9, fun v hv => ?_, fun v hv => ?_, x9⟩
                  · rw [take_snoc hh] at hv
                    rcases List.mem_append.mp hv with hv | hv
                    · exact hin v hv
                    · rw [List.mem_singleton.mp hv]
                      by_cases m : h ∈ bls.take i
                      · exact hin h m
                      · rw [hout h m, I.non h hs]
                        exact .inl ⟨rfl, rfl⟩
                  · rw [take_snoc hh] at hv
                    exact hout v fun z => hv (List.mem_append_left _ z)
              · rintro σ H9 ⟨par1, x8, rfl, e9, hin, hout, x9⟩
                rw [List.length_map, List.take_length] at hin hout
                have s09 : Same H H9 := fun b o e => x9 _ _ (s48 _ _ e) (ne_of_none e hpa0)
                refine ⟨_, rfl, lf, rfl, ⟨_, SqL.of (x9 _ _ elf8 nlf)⟩, fun D2 hD2 => lc_list (K := K) (a := lf) (xs := (s0 :: rest).map nI) (fun i H' => H' D2 = some (.lst ((((s0 :: rest).take i).filter (fun v => !inB (stF M fo) (rc : Int) v)).map nI)) ∧ Same H9 H') ?_ ?_ ?_ ?_⟩
                · exact ⟨upd_same, sN hD2⟩
                · rintro i H10 hi ⟨_, s10⟩
                  exact SqL.of (s10 _ _ (x9 _ _ elf8 nlf))
                · rintro i v H10 hv ⟨eD, s10⟩
                  obtain ⟨h, hh, rfl⟩ := map_inv hv
                  have dd : decide ((h : Int) ∈ bls.map fun i : Nat => (i : Int)) = inB (stF M fo) (rc : Int) h := by
                    cases c : inB (stF M fo) (rc : Int) h with
                    | true => exact decide_eq_true (List.mem_map.mpr ⟨h, (ball h).mpr c, rfl⟩)
                    | false =>
                      refine decide_eq_false fun z => ?_
                      obtain ⟨w', hw, e⟩ := List.mem_map.mp z
                      have ew : w' = h := Int.ofNat.inj e
                      have := (ball h).mp (ew ▸ hw)
                      rw [c] at this
                      cases this
                  have dd2 : inV (nI h) ((bls.map fun i : Nat => (i : Int)).map V.int) = inB (stF M fo) (rc : Int) h := by
                    show inV (V.int (h : Int)) _ = _
                    rw [inV_int]
                    exact dd
                  refine ⟨rfl, _, rfl, _, rfl, Db, _, rfl, .inl (SqL.of (by rw [← elsB]; exact s10 _ _ (x9 _ _ eDb nDb))), rfl, flat_int _, _, rfl, ?_⟩
                  rw [if_pos rfl, dd2]
                  refine ite2 (fun c => ?_) (fun c => ?_)
                  · exact ⟨_, rfl, _, eD, lsz hh, by rw [upd_same, fil_yes hh c, List.map_append]; rfl, sNew s10 hD2⟩
                  · refine ⟨?_, s10⟩
                    rw [fil_no hh (Bool.eq_false_iff.mpr c)]
                    exact eD
                · rintro H10 ⟨eD, s10⟩
                  rw [List.length_map, List.take_length] at eD
                  exact ⟨j + 1, par1, _, D2, _, _, _, _, _, _, _, rfl, s10 _ _ e9, eD, .step gr sto rch (fun v c => hin v ((ball v).mpr c)) (fun v c => hout v fun z => by rw [(ball v).mp z] at c; cases c), .inr rfl, sT s09 s10, (ne_of_none e9 hD2).symm⟩
    · rintro σ H4 ⟨j, par, ls, lf, x4, x5, x6, x7, x8, x9, x10, rfl, epa, elf, gr, ji, s4, nlf⟩
      rw [eM] at ji
      obtain rfl : ls = [] := by
        rcases ji with z | rfl
        · exact z
        · rcases gr.less with z | z
          · exact z
          · exact List.length_eq_zero_iff.mp (by omega)
      refine ⟨_, rfl, pa, _, rfl, .inl ⟨SqL.of epa, fun ta hta => ?_⟩⟩
      exact k ta par j _ (sT s4 (sN hta)) upd_same gr
end
end Q

/-! list(d.keys()), d a dict whose keys are tuples -/
namespace Q
open PySem PySem.Spec PyProof.Rows L2
section
variable {prog : Program} {w : World} {es : Array DictEntry} {ep : Nat} {r d : Addr}
theorem src_keys : PySem.W.KdlSrc prog w "dict_keys" r d es.size (fun i v => ∃ hi : i < es.size, v = es[i].key) (fun h => PySem.W.KdlKeysView h r d ∧ h.DictRaw d es ep) where
  type := fun _ hm => hm.1.typeIs
  there := fun _ hm => by
    obtain ⟨⟨o, ho, _⟩, ⟨o2, ho2, _⟩⟩ := hm
    exact ⟨Heap.lt_size ho, Heap.lt_size ho2⟩
  keep := fun _ _ hm hk => by
    obtain ⟨⟨o, ho, x⟩, hm2⟩ := hm
    exact ⟨⟨o, hk r (.inl rfl) o ho, x⟩, hm2.at fun o e => hk d (.inr rfl) o e⟩
  notList := by decide
  notTuple := by decide
  hint := fun _ _ _ _ hm hq => PySem.W.kdl_hint_keys hm.1.typeIs hq
  iter := fun _ _ hh hm => by
    have ne : d ≠ _ := fun z => by
      obtain ⟨_, ⟨o2, ho2, _⟩⟩ := hm
      exact absurd (Heap.lt_size ho2) (by rw [z]; exact Nat.lt_irrefl _)
    exact ⟨_, _, (fun _ _ hq => wpAny_pyIter_keys_raw hm.1 hm.2 hq), Walks.rawKeys hh _ d ne es ep, ⟨⟨_, Heap.get?_push_size _ rfl, rfl, rfl⟩, hm.2.at fun o e => Heap.get?_push_of_some _ e⟩⟩
end
def rKeysT : V → List V → Hp → VK → Prop := fun x xs H Q => ∃ (a : Addr) (kvs : List (List L2.Key × V)), x = .ref a ∧ xs = [] ∧ H a = some (.dT kvs) ∧ ∀ p, H p = none → Q (.ref p) (upd H p (viewO "dict_keys" p a))
section
variable {X : Cx}
theorem mt_keysT : MtR X "dict.keys" rKeysT := by
  intro pins s σ H x xs v us Q I rx rxs h
  obtain ⟨a, kvs, rfl, rfl, ha, q⟩ := h
  cases rx
  cases rxs
  obtain ⟨z, hd, xs', rel, o, es, ep, ho, hx, hdat, _⟩ := dt_of I.hok ha
  have hm : s.heap.DictRaw a es ep := ⟨o, ho, hx, hdat⟩
  have hf : H s.heap.objs.size = none := I.hok.fresh (Nat.le_refl _)
  refine call_meetsIn PySem.F.slot_dict_keys hm.typeIs PySem.F.entry_dict_keys (PySem.F.args_dict_keys_1 _) (meets_dict_keys_raw a hd) ⟨⟨es, ep, hm⟩, ?_⟩
  exact ⟨.ref s.heap.objs.size, upd H s.heap.objs.size (viewO "dict_keys" s.heap.objs.size a), I.laid (t' := s.toks) (fun b u e => Heap.get?_push_of_some _ e) (Nat.le_refl _) (viewO_ok (Heap.get?_push_size _ rfl)), rfl, q _ hf⟩
theorem call_list_keysT (hc : X.calm = true) : CallR X (.type "list") (fun xs H Q => ∃ (p d : Addr) (kvs : List (List L2.Key × V)), xs = [V.ref p] ∧ H p = some (viewO "dict_keys" p d) ∧ H d = some (.dT kvs) ∧ ∀ l bs, H l = none → IsKeys H kvs bs → Q (.ref l) (upd H l (.lst (bs.map V.ref)))) := by
  intro pins s σ H xs us Q I r h
  obtain ⟨p, d, kvs, rfl, hp, hd, q⟩ := h
  obtain ⟨u, rfl, rx⟩ := r.one
  cases rx
  obtain ⟨z, hs, ks, pr, o, es, ep, ho, hx, hdt, he, hn⟩ := (show ObjOk X.prog X.w H s.heap d (.dT kvs) from I.hok d _ hd)
  have hv : s.heap.get? p = some (DSub.viewOb "dict_keys" d) := (show ObjOk X.prog X.w H s.heap p (viewO "dict_keys" p d) from I.hok p _ hp).1
  have l1 : es.size = ks.length := size_of_entries he
  have l2 : kvs.length = ks.length := Paired.length pr
  refine PySem.W.kdl_call (src_keys (r := p) (d := d) (es := es) (ep := ep)) (I.ok.hd hc) ⟨⟨_, hv, rfl, rfl⟩, ⟨o, ho, hx, hdt⟩⟩ (by omega) fun h' tk acc' c' kp e it => ?_
  have ea : acc'.toList = ks.map fun x => Value.ref x.2.1 := by
    have hl : acc'.toList.length = ks.length := by rw [Array.length_toList, it.1]; exact l1
    apply List.ext_getElem?
    intro j
    rw [List.getElem?_map]
    by_cases hj : j < ks.length
    · have hja : j < acc'.toList.length := by rw [hl]; exact hj
      have hje : j < es.size := by rw [l1]; exact hj
      obtain ⟨_, e3⟩ := it.2 j (acc'.toList[j]) (by rw [← Array.getElem?_toList]; exact List.getElem?_eq_getElem hja)
      have qe := entry_at he j
      rw [Array.getElem?_eq_getElem hje, List.getElem?_eq_getElem hj] at qe
      have e4 : es[j] = entryOfKey (tupleKind (mixKind X.prog X.w)) ks[j] := Option.some.inj qe
      rw [List.getElem?_eq_getElem hja, e3, e4, List.getElem?_eq_getElem hj]
      rfl
    · rw [List.getElem?_eq_none (by omega), List.getElem?_eq_none (by omega)]
      rfl
  have eb : acc'.toList = (ks.map fun x => x.2.1).map Value.ref := by rw [ea, List.map_map]; rfl
  have rv : Vals ((ks.map fun x => x.2.1).map V.ref) acc'.toList := by rw [eb]; exact vals_refs _
  have hz : ((ks.map fun x => x.2.1).map V.ref).length ≤ sizeLine := by rw [List.length_map, List.length_map]; omega
  refine ⟨.ref s.heap.objs.size, _, I.laid (t' := tk) (o := .lst ((ks.map fun x => x.2.1).map V.ref)) kp (Nat.le_refl _) ?_, rfl, q _ _ (I.hok.fresh (Nat.le_refl _)) (isKeys_of pr)⟩
  exact ⟨hz, acc'.toList, c', rv, by rw [Array.toArray_toList]; exact e⟩
end
end Q

namespace Q
open PySem L2 QM
abbrev sLAreC : Stmt := top 9999
/-- x in ys: a tuple of ints, a list of such -/
def rInPL : R2 := fun x y H Q => ∃ (T q : Addr) (l : List Int) (L : List (Addr × List Int)), x = .ref T ∧ y = .ref q ∧ H T = some (.tup (l.map V.int)) ∧ H q = some (.lst (L.map fun p => V.ref p.1)) ∧ (∀ p ∈ L, H p.1 = some (.tup (p.2.map V.int))) ∧ Q (.bl (decide (l ∈ L.map (·.2)))) H
theorem op_inPL {X : Cx} (hu : X.A.units + 64 < cLine) : OpR X (compareOp .In) rInPL := by
  intro pins s σ H x y v u Q I rx ry h
  obtain ⟨T, q, l, L, rfl, rfl, hT, hq, hp, k⟩ := h
  obtain ⟨as, r1⟩ := Dp.reads I (pT l) _ v (.tup (SqT.of hT) (dp_ints l)) rx
  obtain ⟨bs, r2⟩ := Dp.reads I (.list (L.map fun p => pT p.2)) _ u (.lst (SqL.of hq) (dp_all L hp)) ry
  refine SeqAt.in_list_reads r2 r1 (lay_all L) (lay_pT l) ?_ ?_
  · rw [depth_pT]
    have z := Nat.min_le_right (PyData.depthAll (L.map fun p => pT p.2)) 1
    omega
  · rw [any_pT]
    exact ⟨.bl _, H, I, rfl, k⟩
/-- x not in ys: a tuple of ints, a tuple of such -/
def rNotInP : R2 := fun x y H Q => ∃ (T q : Addr) (l : List Int) (L : List (Addr × List Int)), x = .ref T ∧ y = .ref q ∧ H T = some (.tup (l.map V.int)) ∧ H q = some (.tup (L.map fun p => V.ref p.1)) ∧ (∀ p ∈ L, H p.1 = some (.tup (p.2.map V.int))) ∧ Q (.bl (!decide (l ∈ L.map (·.2)))) H
theorem op_notInP {X : Cx} (hu : X.A.units + 64 < cLine) : OpR X (compareOp .NotIn) rNotInP := by
  intro pins s σ H x y v u Q I rx ry h
  obtain ⟨T, q, l, L, rfl, rfl, hT, hq, hp, k⟩ := h
  obtain ⟨as, r1⟩ := Dp.reads I (pT l) _ v (.tup (SqT.of hT) (dp_ints l)) rx
  obtain ⟨bs, r2⟩ := Dp.reads I (.tuple (L.map fun p => pT p.2)) _ u (.tup (SqT.of hq) (dp_all L hp)) ry
  refine SeqAt.notIn_tuple_reads r2 r1 (lay_all L) (lay_pT l) ?_ ?_
  · rw [depth_pT]
    have z := Nat.min_le_right (PyData.depthAll (L.map fun p => pT p.2)) 1
    omega
  · rw [any_pT]
    exact ⟨.bl _, H, I, rfl, k⟩
/-- the keys, as they stand -/
theorem keys_of {H : Hp} : ∀ {E : List Grp} {bs : List Addr}, IsKeys H (kG E) bs → ∃ Bs : List (Addr × List Int), bs.map V.ref = Bs.map (fun p => V.ref p.1) ∧ Bs.map (·.2) = E.map (·.1) ∧ ∀ p ∈ Bs, H p.1 = some (.tup (p.2.map V.int))
  | [], [], _ => ⟨[], rfl, rfl, fun p h => absurd h List.not_mem_nil⟩
  | [], _ :: _, h => by cases h
  | _ :: _, [], h => by cases h
  | e :: E, b :: bs, h => by
    cases h with
    | cons h1 h2 =>
      obtain ⟨Bs, e1, e2, e3⟩ := keys_of h2
      refine ⟨(b, e.1) :: Bs, by rw [List.map_cons, e1]; rfl, by rw [List.map_cons, e2]; rfl, fun p hp => ?_⟩
      rcases List.mem_cons.mp hp with z | z
      · rw [z]
        have h1' : H b = some (.tup ((e.1.map Sum.inl).map kV)) := h1
        rw [h1', List.map_map]
        rfl
      · exact e3 p z
/-- of its key alone -/
theorem one_key {E : List Grp} (nd : (E.map (·.1)).Nodup) {l : List Int} (h : ∃ e ∈ E, e.1 = l) : (E.filter fun e => decide (e.1 = l)).map (·.1) = [l] := by
  induction E with
  | nil => exact absurd h (fun ⟨_, m, _⟩ => absurd m List.not_mem_nil)
  | cons a r ih =>
    rw [List.map_cons] at nd
    obtain ⟨n1, n2⟩ := List.nodup_cons.mp nd
    by_cases c : a.1 = l
    · rw [List.filter_cons_of_pos (p := fun e : Grp => decide (e.1 = l)) (decide_eq_true c), List.map_cons, c]
      have e : r.filter (fun e => decide (e.1 = l)) = [] := List.filter_eq_nil_iff.mpr fun x hx z => n1 (by
        rw [c, ← of_decide_eq_true z]
        exact List.mem_map.mpr ⟨x, hx, rfl⟩)
      rw [e]
      rfl
    · rw [List.filter_cons_of_neg (p := fun e : Grp => decide (e.1 = l)) (fun z => c (of_decide_eq_true z))]
      refine ih n2 ?_
      obtain ⟨e, m, z⟩ := h
      rcases List.mem_cons.mp m with m | m
      · exact absurd (m ▸ z) c
      · exact ⟨e, m, z⟩
theorem GI.has {g : Nat → Int} {L : List (Addr × List Int)} {E : List Grp} (I : GI g L L.length E) {e : Grp} (he : e ∈ E) (l : List Int) (hl : ∃ r ∈ L, r.2 = l) : l ∈ e.2.2.map (·.2) ↔ e.1 = crL g l := by
  rw [I.grp e he, List.take_length, List.mem_map]
  constructor
  · rintro ⟨p, hp, rfl⟩
    exact (of_decide_eq_true (List.mem_filter.mp hp).2).symm
  · intro c
    obtain ⟨r, hr, rfl⟩ := hl
    exact ⟨r, List.mem_filter.mpr ⟨hr, decide_eq_true c.symm⟩, rfl⟩
def spLAreC : Sp := fun vs H Q _ => ∃ (W q pa t : Addr) (M : Nat) (L T : List (Addr × List Int)) (par : Nat → Option Nat) (rk : Nat → Nat), vs = [.ref W, .ref pa, .ref t] ∧ LWeb H W q (M : Int) L ∧ H pa = some (.tup (pVs M par)) ∧ ParOk M par rk ∧ M ≤ 40 ∧ ChoAt (fun i => (LD par M i : Int)) L (M : Int) H t T ∧
  ∀ H', Same H H' → Q (.bl true) H'
section
variable {P : Program} {w : World} {K : PySem.W.Frag} {mg : Str → Option Value} {base : Heap}
end
end Q

namespace Q
open PySem L2 QM
abbrev sEqW : Stmt := inClass (top 15) 1
abbrev sEqK : Stmt := inClass (top 47) 1
section
variable {X : Cx}
/-- a == b by the own __eq__ of a's class -/
def rEqI (C : Addr) (sp : Sp) : R2 := fun x y H Q => ∃ (a dx : Addr) (fs : List (Str × V)), x = .ref a ∧ H a = some (.ins C dx fs) ∧ ((∃ b dy gs, y = .ref b ∧ H b = some (.ins C dy gs)) ∨ (∃ b ys, y = .ref b ∧ H b = some (.tup ys))) ∧ sp [x, y] H (fun v H' => (∃ c, v = .bl c) ∧ Q v H') (fun _ _ _ => False)
theorem op_eqI {CX : CXT} {n : Nat} {C f : Addr} {fd : FuncData} {ps : List Str} {sp : Sp} (F : FnOk X.prog X.w X.K X.mg X.base CX n f fd ps sp) (hs : PySem.W.findIn X.K (.ref C) "__eq__" = some (some (.ref f))) (hf : PySem.W.isFn X.K (.ref f) = true)
    (nf : PySem.W.notFirst X.K C (.type "tuple") = true) (hb : Binds X.K fd ps []) (hx : Passes CX X (fun _ _ _ => False)) (hr : Room n X.A) : OpR X (compareOp .Eq) (rEqI C sp) := by
  intro pins s σ H x y v u Q I rx ry h
  obtain ⟨a, dx, fs, rfl, ha, hy, hsp⟩ := h
  cases rx
  obtain ⟨mA, J, _⟩ := ins_get I.hok ha
  obtain ⟨od, J, _⟩ := J.look
  obtain ⟨m, hF⟩ := I.fr
  obtain ⟨b, rfl⟩ : ∃ b, y = .ref b := by
    rcases hy with ⟨b, _, _, e, _⟩ | ⟨b, _, e, _⟩ <;> exact ⟨b, e⟩
  cases ry
  have hl := F.len _ _ _ _ hsp
  have r2 : Vals [V.ref a, V.ref b] [Value.ref a, Value.ref b] := .cons rfl (.cons rfl .nil)
  have call : wpAny (model X.prog X.w) X.A (call (.ref f) [.ref a, .ref b]) (PySem.W.CmpBack (EP X pins σ Q)) X.xe s := by
    refine wpAny_call (codeAny_mono (F.run X.A X.stack s H ⟨[.ref a, .ref b], []⟩ [.ref a, .ref b] [.ref a, .ref b] _ _ hr I.env0 (by
      have := hb s [.ref a, .ref b] I.kIn (by simpa using hl)
      simpa using this) r2 hsp) fun r s' hq => ?_)
    cases r with
    | error e => exact hx pins σ H s e s' I hq
    | ok fl =>
      cases fl with
      | ret w =>
        obtain ⟨z, H', I', rz, ⟨c, ez⟩, q⟩ := I.after hq
        subst ez
        cases rz
        exact ⟨.bl c, H', I', rfl, q⟩
      | next => exact False.elim hq
      | brk => exact False.elim hq
      | cont => exact False.elim hq
  show wpAny (model X.prog X.w) X.A (richCompare .Eq (.ref a) (.ref b)) (EP X pins σ Q) X.xe s
  rcases hy with ⟨b', dy, gs, e, hb'⟩ | ⟨b', ys, e, hb'⟩
  · cases e
    obtain ⟨mB, J', _⟩ := ins_get I.hok hb'
    obtain ⟨od', J', _⟩ := J'.look
    exact PySem.W.cmp_K (op := .Eq) (tb := .ref C) hr.units0 hF I.ok.mod.kin J J'.type (by simp [PySem.W.notFirst]) hs hf call
  · cases e
    obtain ⟨_, its, rv, o, h1, h2, n', h3⟩ := (show ObjOk X.prog X.w H s.heap b (.tup ys) from I.hok b _ hb')
    have ty : PySem.W.Looks (model X.prog X.w) s.heap (typeOf (.ref b)) (.type "tuple") := fun A Q E s k q => wpAny_typeOf_ref (k _ _ h1) (by rw [h2]; exact q)
    exact PySem.W.cmp_K (op := .Eq) (tb := .type "tuple") hr.units0 hF I.ok.mod.kin J ty nf hs hf call
end

/-- an own __eq__, and what isinstance asks -/
structure EqC (K : PySem.W.Frag) (nm : Str) (st : Stmt) (C f : Addr) (fd : FuncData) : Prop where
  find : PySem.W.findIn K (.ref C) "__eq__" = some (some (.ref f))
  fn : PySem.W.isFn K (.ref f) = true
  F : Fun K "__eq__" nm st f fd
  b : Binds K fd ["self", "other"] []
  ha : PySem.W.findIn K (.ref C) "__class__" = some (some (.builtin "object.__class__"))
  hn : PySem.W.specialIn K (.builtin "object.__class__") "__get__" = some (some (.builtin "getset_descriptor.__get__"))
  htk : PySem.W.takesIn K (.builtin "object.__class__") = some true
  hm : PySem.W.mroIn K C (.type "object") = some true
  isC : PySem.W.isClsIn K C = true
  tyC : PySem.W.typeIn K (.ref C) = some (.type "type")
  nf : PySem.W.notFirst K C (.type "tuple") = true
theorem kit_me {K : PySem.W.Frag} {C : Addr} : PySem.W.kitOne K (.ref C) (.ref C) = some true := by
  show (if (Value.ref C == Value.ref C) = true then some true else _) = some true
  rw [if_pos (by simp)]
theorem shaped_pTt (L : List (Addr × List Int)) : SeqAt.shaped (.tuple (L.map fun p => pT p.2)) = true := by
  unfold SeqAt.shaped
  have h := depth_pTs L
  refine Bool.and_eq_true_iff.mpr ⟨?_, decide_eq_true ?_⟩
  · simp only [PyData.canLay0, lay_all]
  · simp only [PyData.depth]
    omega
theorem eqv_pTt {L L' : List (Addr × List Int)} (e : L.map (·.2) = L'.map (·.2)) : PyData.eqv (.tuple (L.map fun p => pT p.2)) (.tuple (L'.map fun p => pT p.2)) = true := by
  simp only [PyData.eqv]
  exact eqv_pTs e
def pD : Option Nat → PyData
  | none => .none
  | some u => .int (u : Int)
theorem dp_pD {K : PySem.W.Frag} {H : Hp} (par : Nat → Option Nat) : ∀ l : List Nat, DpAll K H (l.map fun i => oV (par i)) (l.map fun i => pD (par i))
  | [] => .nil
  | i :: r => by
    refine .cons ?_ (dp_pD par r)
    show Dp K H (oV (par i)) (pD (par i))
    cases par i with
    | none => exact .non
    | some u => exact .int (u : Int)
theorem lay_pD (par : Nat → Option Nat) : ∀ l : List Nat, PyData.canLayAll0 (l.map fun i => pD (par i)) = true
  | [] => by simp [PyData.canLayAll0]
  | i :: r => by
    have ih := lay_pD par r
    have e : PyData.canLay0 (pD (par i)) = true := by
      cases par i <;> simp [pD, PyData.canLay0]
    rw [List.map_cons]
    simp only [PyData.canLayAll0, e, ih, Bool.and_self]
theorem depth_pD (par : Nat → Option Nat) : ∀ l : List Nat, PyData.depthAll (l.map fun i => pD (par i)) = 0
  | [] => by simp [PyData.depthAll]
  | i :: r => by
    have ih := depth_pD par r
    have e : PyData.depth (pD (par i)) = 0 := by
      cases par i <;> simp [pD, PyData.depth]
    rw [List.map_cons]
    simp only [PyData.depthAll, e, ih, Nat.max_self]
theorem eqv_pD (par : Nat → Option Nat) : ∀ l : List Nat, PyData.eqvAll (l.map fun i => pD (par i)) (l.map fun i => pD (par i)) = true
  | [] => by simp [PyData.eqvAll]
  | i :: r => by
    have ih := eqv_pD par r
    have e : PyData.eqv (pD (par i)) (pD (par i)) = true := by
      cases par i <;> simp [pD, PyData.eqv]
    rw [List.map_cons]
    simp only [PyData.eqvAll, e, ih, Bool.and_self]
theorem shaped_pD (par : Nat → Option Nat) (l : List Nat) : SeqAt.shaped (.tuple (l.map fun i => pD (par i))) = true := by
  unfold SeqAt.shaped
  refine Bool.and_eq_true_iff.mpr ⟨?_, decide_eq_true ?_⟩
  · simp only [PyData.canLay0, lay_pD]
  · simp only [PyData.depth, depth_pD]
    omega
def spEqWs (C : Addr) : Sp := fun vs H Q _ => ∃ (w q : Addr) (M : Nat) (L : List (Addr × List Int)), vs = [.ref w, .ref w] ∧ WebQ C M H w q L ∧ Q (.bl true) H
def spEqK (C CK : Addr) : Sp := fun vs H Q _ => ∃ (x dx y dy w q pa pa2 t t2 : Addr) (M : Nat) (L T T2 : List (Addr × List Int)) (par : Nat → Option Nat) (la ch ac la2 ch2 ac2 : V), vs = [.ref x, .ref y] ∧ H x = some (.ins CK dx (kf (.ref w) (.ref pa) (.ref t) la ch ac)) ∧ H y = some (.ins CK dy (kf (.ref w) (.ref pa2) (.ref t2) la2 ch2 ac2)) ∧
  WebQ C M H w q L ∧ H pa = some (.tup (pVs M par)) ∧ H pa2 = some (.tup (pVs M par)) ∧ H t = some (.tup (T.map fun p => V.ref p.1)) ∧ (∀ p ∈ T, H p.1 = some (.tup (p.2.map V.int))) ∧ H t2 = some (.tup (T2.map fun p => V.ref p.1)) ∧ (∀ p ∈ T2, H p.1 = some (.tup (p.2.map V.int))) ∧ T.map (·.2) = T2.map (·.2) ∧ Q (.bl true) H
section
variable {P : Program} {w : World} {K : PySem.W.Frag} {mg : Str → Option Value} {base : Heap}
theorem scEqW : FnScope ["self", "other"] ["self", "other"] (defScope sEqW) := ⟨rfl, rfl, rfl, by decide +kernel, rfl, by decide +kernel, by decide +kernel⟩
theorem ok_eqws {C f : Addr} {fd : FuncData} (B : Bts mg) (T : WTxt K mg C) (E1 : EqC K "Web.__eq__" sEqW C f fd) : FnOk P w K mg base CX0 1 f fd ["self", "other"] (spEqWs C) := by
  refine E1.F.ok scEqW (fun vs H Q E h => ?_) (fun cdv A outer s H vs Q E hr h => ?_)
  · obtain ⟨_, _, _, _, rfl, _⟩ := h
    rfl
  · obtain ⟨w, q, M, L, rfl, ⟨dx, r, bs, nb, x, tt⟩, k⟩ := h
    have hu := hr.units
    refine ⟨_, pss_one (ps_ret (pe_and (pe_callB call_isi (by rfl) B.isinstance PyProof.Rows.boot_isinstance (pa_cons (pv 1) (pa_cons (pe_glob (v := .ref C) rfl T.mgC rfl) pa_nil)))
      (pe_and (pe_cmpR op_eq (pe_fld (pv 0) rfl) (pe_fld (pv 1) rfl) (nomark _)) (pe_one (pe_cmpR (op_eqD hu) (pe_fld (pv 0) rfl) (pe_fld (pv 1) rfl) (nomark _)))))), ?_⟩
    refine ⟨_, rfl, .ref w, .ref C, .ref C, .ref C, true, rfl, .own C, .base (.ins x.at_ T.cl E1.ha E1.hn E1.htk E1.hm), kit_me, _, rfl, iteT ?_⟩
    refine ⟨_, rfl, w, C, dx, _, _, rfl, x.at_, T.cl, T.nM, wf_many _ _ _, _, rfl, w, C, dx, _, _, rfl, x.at_, T.cl, T.nM, wf_many _ _ _, rfl, _, rfl, ?_⟩
    rw [decide_eq_true rfl]
    refine iteT ⟨_, rfl, w, C, dx, _, _, rfl, x.at_, T.cl, T.nT, wf_ties _ _ _, _, rfl, w, C, dx, _, _, rfl, x.at_, T.cl, T.nT, wf_ties _ _ _, _, _, .tup (SqT.of tt.at_) (dp_all L tt.tup), .tup (SqT.of tt.at_) (dp_all L tt.tup), shaped_pTt _, shaped_pTt _, ?_⟩
    rw [eqv_pTt rfl]
    exact k
theorem scEqK : FnScope ["self", "other"] ["self", "other"] (defScope sEqK) := ⟨rfl, rfl, rfl, by decide +kernel, rfl, by decide +kernel, by decide +kernel⟩
theorem ok_eqk {C CK f fW : Addr} {fd dW : FuncData} (B : Bts mg) (T : WTxt K mg C) (TK : KTxt K mg CK) (E1 : EqC K "Web.__eq__" sEqW C fW dW) (E2 : EqC K "Keeper.__eq__" sEqK CK f fd) : FnOk P w K mg base CX0 2 f fd ["self", "other"] (spEqK C CK) := by
  have GW : FnOk P w K mg base CX0 1 fW dW ["self", "other"] (spEqWs C) := ok_eqws B T E1
  refine E2.F.ok scEqK (fun vs H Q E h => ?_) (fun cdv A outer s H vs Q E hr h => ?_)
  · obtain ⟨_, _, _, _, _, _, _, _, _, _, _, _, _, _, _, _, _, _, _, _, _, rfl, _⟩ := h
    rfl
  · obtain ⟨x, dx, y, dy, w, q, pa, pa2, t, t2, M, L, T1, T2, par, la, ch, ac, la2, ch2, ac2, rfl, hx, hy, hw, hpa, hpa2, ht, tp, ht2, tp2, ee, k⟩ := h
    have hu := hr.units
    have hr1 : Room 1 _ := hr.mono (by decide)
    refine ⟨_, pss_one (ps_ret (pe_and (pe_callB call_isi (by rfl) B.isinstance PyProof.Rows.boot_isinstance (pa_cons (pv 1) (pa_cons (pe_glob (v := .ref CK) rfl TK.mgC rfl) pa_nil)))
      (pe_and (pe_cmpR (op_eqI GW E1.find E1.fn E1.nf E1.b pass0 hr1) (pe_fld (pv 0) rfl) (pe_fld (pv 1) rfl) (nomark _)) (pe_and (pe_cmpR (op_eqD hu) (pe_fld (pv 0) rfl) (pe_fld (pv 1) rfl) (nomark _)) (pe_one (pe_cmpR (op_eqD hu) (pe_fld (pv 0) rfl) (pe_fld (pv 1) rfl) (nomark _))))))), ?_⟩
    refine ⟨_, rfl, .ref y, .ref CK, .ref CK, .ref CK, true, rfl, .own CK, .base (.ins hy TK.cl E2.ha E2.hn E2.htk E2.hm), kit_me, _, rfl, iteT ?_⟩
    have hw2 := hw
    obtain ⟨dw, r, bs, nb, wi, tt⟩ := hw2
    refine ⟨_, rfl, x, CK, dx, _, _, rfl, hx, TK.cl, TK.nW, kf_web _ _ _ _ _ _, _, rfl, y, CK, dy, _, _, rfl, hy, TK.cl, TK.nW, kf_web _ _ _ _ _ _, w, dw, _, rfl, wi.at_, .inl ⟨w, dw, _, rfl, wi.at_⟩, w, q, M, L, rfl, hw, ⟨true, rfl⟩, _, rfl, iteT ?_⟩
    refine ⟨_, rfl, x, CK, dx, _, _, rfl, hx, TK.cl, TK.nP, kf_parents _ _ _ _ _ _, _, rfl, y, CK, dy, _, _, rfl, hy, TK.cl, TK.nP, kf_parents _ _ _ _ _ _, .tuple ((List.range M).map fun i => pD (par i)), .tuple ((List.range M).map fun i => pD (par i)), .tup (SqT.of hpa) (dp_pD par _), .tup (SqT.of hpa2) (dp_pD par _), shaped_pD _ _, shaped_pD _ _, _, rfl, ?_⟩
    have e1 : PyData.eqv (.tuple ((List.range M).map fun i => pD (par i))) (.tuple ((List.range M).map fun i => pD (par i))) = true := by
      simp only [PyData.eqv]
      exact eqv_pD par _
    rw [e1]
    refine iteT ⟨_, rfl, x, CK, dx, _, _, rfl, hx, TK.cl, TK.nC, kf_chosen _ _ _ _ _ _, _, rfl, y, CK, dy, _, _, rfl, hy, TK.cl, TK.nC, kf_chosen _ _ _ _ _ _, _, _, .tup (SqT.of ht) (dp_all T1 tp), .tup (SqT.of ht2) (dp_all T2 tp2), shaped_pTt _, shaped_pTt _, ?_⟩
    rw [eqv_pTt ee]
    exact k
end
end Q

namespace Q
open PySem L2 QM
/-- a sum of tuples, the whole or a new one -/
def rCatS : R2 := fun x y H Q => ∃ a b xs ys, x = .ref a ∧ y = .ref b ∧ H a = some (.tup xs) ∧ H b = some (.tup ys) ∧ xs.length + ys.length ≤ sizeLine ∧ ∀ z H', Same H H' → H' z = some (.tup (xs ++ ys)) → Q (.ref z) H'
theorem op_catS {X : Cx} : OpR X (binaryOp .Add) rCatS := by
  intro pins s σ H x y v u Q I rx ry h
  obtain ⟨a, b, xs, ys, rfl, rfl, ha, hb, hz, k⟩ := h
  refine op_catA pins s σ H _ _ v u Q I rx ry ⟨a, b, xs, ys, rfl, rfl, SqT.of ha, SqT.of hb, hz, fun e => ?_, fun _ e => ?_, fun _ _ p hp => k p _ (sN hp) upd_same⟩
  · exact k b H (fun _ _ e => e) (by rw [hb, e]; rfl)
  · exact k a H (fun _ _ e => e) (by rw [ha, e, List.append_nil])
end Q

namespace Q
open PySem L2 QM
abbrev sLKeep : Stmt := top 91
theorem LWeb.ext {m : Int} {H H' : Hp} {W q p l : Addr} {L : List (Addr × List Int)} (h : LWeb H W q m L) (g : HandAt H p l) (s : Ext p H H') : LWeb H' W q m L := by
  obtain ⟨xs, e⟩ := g.hp
  have t := h.2
  exact ⟨s _ _ h.1 (ne_of h.1 e (fun z => by cases z)), ⟨s _ _ t.at_ (ne_of t.at_ e (fun z => by cases z)), fun u hu => s _ _ (t.tup u hu) (ne_of (t.tup u hu) e (fun z => by cases z)), t.ok, t.asc, t.few, t.conn⟩⟩
theorem But.ext {p : Addr} {H H' : Hp} (h : But p H H') : Ext p H H' := fun b o e n => by rw [h b n]; exact e
theorem Ext.of {p : Addr} {H H' : Hp} (h : Same H H') : Ext p H H' := fun b o e _ => h b o e
theorem hung_ex {G : Nat → Nat → Prop} {s v : Nat} {st : Nat → Option Nat} (sym : ∀ a b, G a b → G b a) (h : StOf G s st) (ex : ∃ d, st v = some d) : ∃ r, HungOf G s v r := by
  obtain ⟨d, hd⟩ := ex
  have x := (h v d).mp hd
  cases d with
  | zero => exact ⟨none, .inl ⟨rfl, x.of_zero⟩⟩
  | succ e =>
    obtain ⟨u0, du, g⟩ := x.pred
    obtain ⟨u, ⟨gu, du⟩, least⟩ := least_ex (p := fun u => G v u ∧ Dist G s u e) (n := u0) ⟨sym _ _ g, du⟩
    exact ⟨some u, .inr ⟨u, e, rfl, x, du, gu, fun o go dd => least o ⟨go, dd⟩⟩⟩
def spLKeep : Sp := fun vs H Q _ => ∃ (p l W q : Addr) (M : Nat) (L : List (Addr × List Int)), vs = [.ref p, .ref W] ∧ HandAt H p l ∧ LWeb H W q (M : Int) L ∧ 1 ≤ M ∧ M ≤ 40 ∧
  ∀ (r pa t : Addr) (T : List (Addr × List Int)) (par : Nat → Option Nat) (rk : Nat → Nat) (H' : Hp), HandAt H' p l → Ext p H H' → H' r = some (.tup [.ref pa, .ref t]) → H' pa = some (.tup (pVs M par)) → ParG M par rk L → ChoAt (fun i => (LD par M i : Int)) L (M : Int) H' t T → Q (.ref r) H'
section
variable {P : Program} {w : World} {K : PySem.W.Frag} {mg : Str → Option Value} {base : Heap}
/-- what draws a keeper -/
structure NDefs (K : PySem.W.Frag) (mg : Str → Option Value) where
  fD : Addr
  dD : FuncData
  DD : Df K mg "_law_draw" sDraw ["hand", "many"] fD dD
  fO : Addr
  dO : FuncData
  DO : Df K mg "_law_off" sOff ["web", "house", "left"] fO dO
  fU : Addr
  dU : FuncData
  DU : Df K mg "_law_hung" sHung ["web", "off", "house", "lot"] fU dU
  fG : Addr
  dG : FuncData
  DG : Df K mg "_law_grown" sGrown ["web", "factor"] fG dG
  fB : Addr
  dB : FuncData
  DB : Df K mg "_law_beside" sLBes ["web", "house"] fB dB
  fW : Addr
  dW : FuncData
  DW : Df K mg "_law_between" sBtw ["web", "parents"] fW dW
  fL : Addr
  dL : FuncData
  DL : Df K mg "_law_leader" sLLd ["parents", "house"] fL dL
  fT : Addr
  dT : FuncData
  DT : Df K mg "_law_least_ties" sLLt ["web", "parents"] fT dT
theorem scLKeep : FnScope ["hand", "web", "kind", "every", "parents", "off", "house", "found", "some", "between", "pair", "other"] ["hand", "web"] (defScope sLKeep) := ⟨rfl, rfl, rfl, by decide +kernel, rfl, by decide +kernel, by decide +kernel⟩
theorem ok_lkeep {f : Addr} {fd : FuncData} (F : Fun K "_law_keeper" "_law_keeper" sLKeep f fd) (B : Bts mg) (E : NDefs K mg) : FnOk P w K mg base CX0 4 f fd ["hand", "web"] spLKeep := by
  have GD : FnOk P w K mg base CX0 1 E.fD E.dD ["hand", "many"] spDraw := ok_draw E.DD.F B
  have GO : FnOk P w K mg base CX0 1 E.fO E.dO ["web", "house", "left"] (spOff K) := ok_off E.DO.F B
  have GU : FnOk P w K mg base CX0 2 E.fU E.dU ["web", "off", "house", "lot"] spHung := ok_hung E.DU.F B E.DB
  have GG : FnOk P w K mg base CX0 3 E.fG E.dG ["web", "factor"] spGrown := ok_grown E.DG.F B E.DO E.DU E.DB
  have GB : FnOk P w K mg base CX0 1 E.fB E.dB ["web", "house"] spLBes := ok_lbes E.DB.F B
  have GW : FnOk P w K mg base CX0 2 E.fW E.dW ["web", "parents"] spBtw := ok_btw E.DW.F B E.DL
  have GT : FnOk P w K mg base CX0 3 E.fT E.dT ["web", "parents"] spLLt := ok_llt E.DT.F B E.DL E.DW
  refine F.ok scLKeep (fun vs H Q E h => ?_) (fun cdv A outer s H vs Q E' hr h => ?_)
  · obtain ⟨p, l, W, q, M, L, rfl, _⟩ := h
    rfl
  · obtain ⟨p, l, W, q, M, L, rfl, g0, lw, m1, m40, k⟩ := h
    have nd := scLKeep.nd
    have hr1 : Room 1 _ := hr.mono (by decide)
    have hr2 : Room 2 _ := hr.mono (by decide)
    refine ⟨_, pss_cons (ps_set (i := 2) nd rfl (.inl rfl) (pe_call GD hr1 rfl E.DD.m E.DD.k E.DD.b .nil pass0 (pa_cons (pv 0) (pa_cons pe_int pa_nil))))
      (pss_cons (ps_set (i := 3) nd rfl (.inr rfl) (pe_listRg rfl (by rfl) B.list (prg_1 (by rfl) B.range (pe_ix ix_tup (pv 1) pe_int (fun _ _ => rfl)))))
      (C8.pss_cut (ps_if (pt_cmpR op_eq (pv 2) pe_int (nomark _))
        (pss_one (ps_set (i := 4) nd rfl (.inl rfl) (pe_op QT.op_repA (pe_tup (pa_cons pe_non pa_nil)) (pe_ix ix_tup (pv 1) pe_int (fun _ _ => rfl)))))
        (pss_one (ps_if (pt_cmpR op_eq (pv 2) pe_int (nomark _))
          (pss_cons (ps_set (i := 5) nd rfl (.inr rfl) (pe_call GO hr1 rfl E.DO.m E.DO.k E.DO.b .nil pass0 (pa_cons (pv 1) (pa_cons pe_int (pa_cons (pv 3) pa_nil)))))
          (pss_one (ps_set (i := 4) nd rfl (.inl rfl) (pe_op op_catS (pe_tup (pa_cons pe_non pa_nil)) (pe_callTy call_tuple_of (by rfl) B.tuple PyProof.Rows.boot_tuple (pa_cons (pe_lc (own := [("house", 6)]) (g := gName 6) (tt := tYes) rfl nd (pi_list (pe_slice sl_list (pv 3) (po_some pe_int) po_none))
            (blkOk_by (N := ["hand", "web", "kind", "every", "parents", "off", "house", "found", "some", "between", "pair", "other"]) (sc := defScope sLKeep) (by decide +kernel)) (fun _ _ _ _ _ => pg_name (i := 6) nd rfl (.inl rfl)) (fun _ _ _ _ _ => pts_nil)
            (fun _ _ _ _ _ => pe_call GU hr2 rfl E.DU.m E.DU.k E.DU.b .nil pass0 (pa_cons (pv 1) (pa_cons (pv 5) (pa_cons (pv 6) (pa_cons (pv 3) pa_nil)))))) pa_nil))))))
          (pss_one (ps_if (pt_cmpR op_eq (pv 2) pe_int (nomark _))
            (pss_one (ps_set (i := 4) nd rfl (.inl rfl) (pe_call GG hr rfl E.DG.m E.DG.k E.DG.b .nil pass0 (pa_cons (pv 1) (pa_cons (pe_op op_add pe_int (pe_call GD hr1 rfl E.DD.m E.DD.k E.DD.b .nil pass0 (pa_cons (pv 0) (pa_cons pe_int pa_nil)))) pa_nil)))))
            (pss_cons (ps_set (i := 5) nd rfl (.inr rfl) (pe_call GO hr1 rfl E.DO.m E.DO.k E.DO.b .nil pass0 (pa_cons (pv 1) (pa_cons (pe_call GD hr1 rfl E.DD.m E.DD.k E.DD.b .nil pass0 (pa_cons (pv 0) (pa_cons (pe_ix ix_tup (pv 1) pe_int (fun _ _ => rfl)) pa_nil))) (pa_cons (pv 3) pa_nil)))))
            (pss_cons (ps_set (i := 7) nd rfl (.inl rfl) (pe_lst pa_nil))
            (pss_cons (ps_for PassesOwn.never rfl (pi_list (pv 3)) (pg_name (i := 6) nd rfl (.inr rfl))
              (pss_cons (ps_set (i := 8) nd rfl (.inl rfl) (pe_op op_cat (pe_lc (own := [("other", 11)]) (g := gName 11) rfl nd (pi_list (pe_call GB hr1 rfl E.DB.m E.DB.k E.DB.b .nil pass0 (pa_cons (pv 1) (pa_cons (pv 6) pa_nil))))
                (blkOk_by (N := ["hand", "web", "kind", "every", "parents", "off", "house", "found", "some", "between", "pair", "other"]) (sc := defScope sLKeep) (by decide +kernel)) (fun _ _ _ _ _ => pg_name (i := 11) nd rfl (.inl rfl))
                (fun _ _ _ _ _ => pts_one (pt_cmpR op_lt (pe_ix (r := rIxL K) ix_list (pv 5) (pv 11) (fun _ _ => rfl)) (pe_ix (r := rIxL K) ix_list (pv 5) (pv 6) (fun _ _ => rfl)) (nomark _))) (fun _ _ _ _ _ => pv 11)) (pe_lst (pa_cons pe_non pa_nil))))
              (pss_one (ps_expr (pe_bm PySem.F.plainAttrs_list PySem.F.slot_list_append PySem.F.type_list_append mt_append (pv 7) (pa_cons (pe_ix ix_list (pv 8) (pe_call GD hr1 rfl E.DD.m E.DD.k E.DD.b .nil pass0 (pa_cons (pv 0) (pa_cons (pe_callB call_len_seq (by rfl) B.len PySem.boot_len (pa_cons (pv 8) pa_nil)) pa_nil))) (fun _ _ => rfl)) pa_nil))))))
            (pss_one (ps_set (i := 4) nd rfl (.inl rfl) (pe_callTy call_tuple_of (by rfl) B.tuple PyProof.Rows.boot_tuple (pa_cons (pv 7) pa_nil))))))))))))
      (pss_cons (ps_set (i := 9) nd rfl (.inl rfl) (pe_call GW hr2 rfl E.DW.m E.DW.k E.DW.b .nil pass0 (pa_cons (pv 1) (pa_cons (pv 4) pa_nil))))
      (pss_cons (ps_if (pt_cmpR op_lt (pv 2) pe_int (nomark _)) (pss_one (ps_ret (pe_tup (pa_cons (pv 4) (pa_cons (pe_call GT hr rfl E.DT.m E.DT.k E.DT.b .nil pass0 (pa_cons (pv 1) (pa_cons (pv 4) pa_nil))) pa_nil))))) pss_nil)
      (pss_cons (ps_set (i := 7) nd rfl (.inl rfl) (pe_lst pa_nil))
      (pss_cons (ps_for PassesOwn.never rfl (pi_list (pe_callB cr_sortedPO (by rfl) B.sorted PyProof.Rows.boot_sorted (pa_cons (pe_callTy (call_list_keysT rfl) (by rfl) B.list PyProof.Rows.boot_list (pa_cons (pe_bm0 PySem.F.plainAttrs_dict PySem.F.slot_dict_keys PySem.F.type_dict_keys mt_keysT (pv 9)) pa_nil)) pa_nil))) (pg_name (i := 10) nd rfl (.inl rfl))
        (pss_one (ps_expr (pe_bm PySem.F.plainAttrs_list PySem.F.slot_list_append PySem.F.type_list_append mt_append (pv 7) (pa_cons (pe_ix ix_list (pe_dget (hu_of hr) (pv 9) (pv 10) (by intro _ _; rfl)) (pe_call GD hr1 rfl E.DD.m E.DD.k E.DD.b .nil pass0 (pa_cons (pv 0) (pa_cons (pe_callB call_len_seq (by rfl) B.len PySem.boot_len (pa_cons (pe_dget (hu_of hr) (pv 9) (pv 10) (by intro _ _; rfl)) pa_nil)) pa_nil))) (fun _ _ => rfl)) pa_nil)))))
      (pss_one (ps_ret (pe_tup (pa_cons (pv 4) (pa_cons (pe_callTy call_tuple_of (by rfl) B.tuple PyProof.Rows.boot_tuple (pa_cons (pe_callB cr_sortedPO (by rfl) B.sorted PyProof.Rows.boot_sorted (pa_cons (pv 7) pa_nil)) pa_nil)) pa_nil))))))))))), ?_⟩
    have eM : ((M : Int)).toNat = M := Int.toNat_natCast M
    have TT : TL (M : Int) L := ⟨lw.2.ok, lw.2.conn, by omega, by omega⟩
    refine ⟨_, rfl, p, l, 6, rfl, g0, by decide, by decide, fun kd H1 kd0 kd6 g1 b1 => ?_⟩
    have x1 := b1.ext
    have lw1 := lw.ext g0 x1
    refine ⟨_, rfl, W, _, 0, _, rfl, rfl, SqT.of lw1.1, rfl, (M : Int), rfl, RgOk.of_le (by omega) (by omega) (by omega) (by omega), fun ev hev => ?_⟩
    have s2 := sN (o := .lst (rgV 0 (M : Int))) hev
    have eev : (upd H1 ev (.lst (rgV 0 (M : Int)))) ev = some (.lst ((List.range M).map nI)) := by
      rw [upd_same, rgV0]
    have nev := (g1.ne hev).1
    have g2 := g1.same s2
    have lw2 := lw1.same s2
    have x2 : Ext p H (upd H1 ev (.lst (rgV 0 (M : Int)))) := x1.same s2
    revert eev g2 lw2 x2
    clear s2
    generalize (upd H1 ev (.lst (rgV 0 (M : Int)))) = H2
    intro eev g2 lw2 x2
    clear hev g1 b1 x1 lw1
    have elsE : (List.range M).map nI = ((List.range M).map fun i : Nat => (i : Int)).map V.int := by
      rw [List.map_map]
      rfl
    refine ⟨fun σ H' => ∃ (pa : Addr) (par : Nat → Option Nat) (rk : Nat → Nat) (x5 x6 x7 x8 : Option V), σ = [some (.ref p), some (.ref W), some (.int kd), some (.ref ev), some (.ref pa), x5, x6, x7, x8, none, none, none] ∧ HandAt H' p l ∧ Ext p H H' ∧ H' pa = some (.tup (pVs M par)) ∧ ParG M par rk L, ?_, ?_⟩
    · refine ⟨_, rfl, rfl, _, rfl, ?_⟩
      rw [dec_i]
      refine ite2 (fun _ => ?_) (fun _ => ?_)
      · -- each by itself
        refine ⟨(by show 1 ≤ sizeLine; decide), fun z hz2 => ?_⟩
        have s3 := sN (o := .tup [.non]) hz2
        refine ⟨_, rfl, W, _, 0, _, rfl, rfl, SqT.of (s3 _ _ lw2.1), rfl, z, (M : Int), [.non], rfl, rfl, upd_same, by simp, by omega, by omega, (by show 1 ≤ 1000; decide), fun pp H8 s8 epp => ?_⟩
        have epp' : H8 pp = some (.tup (pVs M noPar)) := by
          rw [epp, Int.toNat_natCast, pVs_no, List.flatten_replicate_singleton]
        exact ⟨pp, noPar, fun _ => 0, _, _, _, _, rfl, g2.same (sT s3 s8), x2.same (sT s3 s8), epp', ⟨fun v u _ e => (nomatch e), fun v h => by omega⟩, fun v u _ e => (nomatch e)⟩
      refine ⟨_, rfl, rfl, _, rfl, ?_⟩
      rw [dec_i]
      refine ite2 (fun _ => ?_) (fun _ => ?_)
      · -- one tree
        refine ⟨_, rfl, _, rfl, W, q, ev, M, 0, L, (List.range M).map (fun i : Nat => (i : Int)), rfl, lw2, SqL.of (by rw [← elsE]; exact eev), by omega, m40, fun Do fo H10 s10 hDo eDo ok => ?_⟩
        have sto0 := stF_of (List.mem_range.mpr (show 0 < M by omega)) (fun v hv => List.mem_range.mp hv) ok
        rw [gb_all TT] at sto0
        have ex : ∀ v, v < M → ∃ d, stF M fo v = some d := fun v hv => by
          obtain ⟨d, h⟩ := TT.dist (s := 0) (v := v) (by omega) (by omega)
          exact ⟨d, (sto0 v d).mpr h⟩
        obtain ⟨par, hung⟩ : ∃ par : Nat → Option Nat, BetaOf L M par := by
          refine ⟨fun v => if h : v < M then Classical.choose (hung_ex (fun a b h => TL.sym a b h) sto0 (ex v h)) else none, fun v hv => ?_⟩
          show HungOf (GL L) 0 v (if h : v < M then Classical.choose (hung_ex (fun a b h => TL.sym a b h) sto0 (ex v h)) else none)
          rw [dif_pos hv]
          exact Classical.choose_spec (hung_ex (fun a b h => TL.sym a b h) sto0 (ex v hv))
        have p0 : par 0 = none := by
          rcases hung 0 (by omega) with ⟨e, _⟩ | ⟨u, d, e, x, _⟩
          · exact e
          · exact absurd (x.uniq Dist.zero) (by omega)
        have pg : ParG M par (fun v => (stF M fo v).getD 0) L := by
          refine ⟨⟨fun v u hv e => ?_, fun v hv => ?_⟩, fun v u hv e => ?_⟩
          · rcases hung v hv with ⟨z, _⟩ | ⟨u', d, z, x, xu, g, _⟩
            · rw [e] at z
              cases z
            · rw [e] at z
              cases z
              have hu := (sto0 _ _).mpr xu
              refine ⟨(stF_at hu).1, ?_⟩
              show (stF M fo u).getD 0 < (stF M fo v).getD 0
              rw [hu, (sto0 _ _).mpr x]
              exact Nat.lt_succ_self d
          · obtain ⟨d, h⟩ := ex v hv
            show (stF M fo v).getD 0 < M
            rw [h]
            exact ((sto0 v d).mp h).lt (by omega) (fun a b h => by have := (TT.in2 h).2; omega)
          · rcases hung v hv with ⟨z, _⟩ | ⟨u', d, z, x, xu, g, _⟩
            · rw [e] at z
              cases z
            · rw [e] at z
              cases z
              exact g
        have hp1 : ∀ v, v + 1 < M → ∃ u, par (v + 1) = some u ∧ u < M ∧ (GL L (v + 1) u ∧ u ∈ List.range M ∧ fo u = fo (v + 1) - 1) ∧ ∀ o : Nat, GL L (v + 1) o → o ∈ List.range M → fo o = fo (v + 1) - 1 → u ≤ o := fun v hv => by
          rcases hung (v + 1) hv with ⟨_, e⟩ | ⟨u, d, e, x, xu, g, least⟩
          · omega
          · have e1 := (stF_at ((sto0 _ _).mpr x)).2
            obtain ⟨uM, e2⟩ := stF_at ((sto0 _ _).mpr xu)
            refine ⟨u, e, uM, ⟨g, List.mem_range.mpr uM, by omega⟩, fun o go mo eo => least o go ?_⟩
            obtain ⟨d2, h2⟩ := ex o (List.mem_range.mp mo)
            have e3 := (stF_at h2).2
            have ed : d2 = d := by omega
            subst ed
            exact (sto0 _ _).mp h2
        refine ⟨(by show 1 ≤ sizeLine; decide), fun z hz3 => ?_⟩
        have s11 := sN (o := .tup [.non]) hz3
        have ez : (upd H10 z (.tup [.non])) z = some (.tup [.non]) := upd_same
        revert s11 ez
        generalize (upd H10 z (.tup [.non])) = H11
        intro s11 ez
        obtain ⟨M', rfl⟩ : ∃ M', M = M' + 1 := ⟨M - 1, by omega⟩
        have ecut : cutV ((List.range (M' + 1)).map nI) (some 1) none = (List.range M').map (fun v => nI (v + 1)) := by
          rw [cut_tl, List.range_succ_eq_map, List.map_cons, List.tail_cons, List.map_map]
          rfl
        refine ⟨_, rfl, 1, rfl, ev, _, rfl, SqL.of (s11 _ _ (s10 _ _ eev)), fun sl hsl => ?_⟩
        rw [ecut]
        have s12 := sN (o := .lst ((List.range M').map (fun v => nI (v + 1)))) hsl
        have esl : (upd H11 sl (.lst ((List.range M').map (fun v => nI (v + 1))))) sl = some (.lst ((List.range M').map (fun v => nI (v + 1)))) := upd_same
        revert s12 esl
        generalize (upd H11 sl (.lst ((List.range M').map (fun v => nI (v + 1))))) = H12
        intro s12 esl
        have s5c := sT s10 (sT s11 s12)
        refine ⟨sl, rfl, ⟨_, SqL.of esl⟩, fun D2 hD2 => lc_list (K := K) (a := sl) (xs := (List.range M').map (fun v => nI (v + 1))) (fun i H' => H' D2 = some (.lst ((List.range i).map fun v => oV (par (v + 1)))) ∧ Same H12 H') ?_ ?_ ?_ ?_⟩
        · exact ⟨upd_same, sN hD2⟩
        · rintro i H13 hi ⟨_, s13⟩
          exact SqL.of (s13 _ _ esl)
        · rintro i v H13 hv ⟨eD, s13⟩
          obtain ⟨j, hj, rfl⟩ := map_inv hv
          have hi : i < M' := by
            have z := (List.getElem?_eq_some_iff.mp hj).1
            rwa [List.length_range] at z
          rw [List.getElem?_range hi] at hj
          obtain rfl := Option.some.inj hj
          obtain ⟨u, eu, uM, c1, c2⟩ := hp1 i (by omega)
          have s5d := sT s5c s13
          refine ⟨rfl, _, rfl, _, rfl, _, rfl, _, rfl, W, q, Do, ev, M' + 1, i + 1, u, L, fo, List.range (M' + 1), rfl, lw2.same s5d, s13 _ _ (s12 _ _ (s11 _ _ eDo)), s5d _ _ eev, by omega, m40, c1, c2, fun H14 s14 => ⟨_, s14 _ _ eD, ?_, ?_, sNew (sT s13 s14) hD2⟩⟩
          · rw [List.length_map, List.length_range]
            exact Nat.lt_of_lt_of_le (show i < 64 by omega) (by decide)
          · rw [upd_same, List.range_succ, List.map_append, List.map_cons, eu]
            rfl
        rintro H13 ⟨eD2, s13⟩
        rw [List.length_map, List.length_range] at eD2
        refine ⟨D2, _, rfl, .inl ⟨SqL.of eD2, fun t2 ht2 => ?_⟩⟩
        have s14 := sN (o := .tup ((List.range M').map fun v => oV (par (v + 1)))) ht2
        refine ⟨z, t2, [.non], _, rfl, rfl, s14 _ _ (s13 _ _ (s12 _ _ ez)), upd_same, ?_, fun pb H15 s15 epb => ?_⟩
        · rw [List.length_map, List.length_range]
          exact Nat.le_trans (show 1 + M' ≤ 64 by omega) (by decide)
        have epb' : H15 pb = some (.tup (pVs (M' + 1) par)) := by
          rw [epb]
          unfold pVs
          rw [List.range_succ_eq_map, List.map_cons, List.map_map, p0]
          rfl
        have s5e := sT s5c (sT s13 (sT s14 s15))
        exact ⟨pb, par, _, _, _, _, _, rfl, g2.same s5e, x2.same s5e, epb', pg⟩
      refine ⟨_, rfl, rfl, _, rfl, ?_⟩
      rw [dec_i]
      refine ite2 (fun _ => ?_) (fun _ => ?_)
      · -- balls
        refine ⟨_, rfl, _, rfl, p, l, 3, rfl, g2, by decide, by decide, fun d H3 d0 d1 g3 b3 => ?_⟩
        have lw3 := lw2.ext g2 b3.ext
        refine ⟨_, _, rfl, rfl, W, q, M, (2 + d).toNat, L, ?_, lw3, m1, m40, by omega, by omega, fun pb par j H4 s4 epb gr => ?_⟩
        · rw [Int.toNat_of_nonneg (by omega)]
          rfl
        · obtain ⟨rk, pg⟩ := gr.parG TT
          exact ⟨pb, par, rk, _, _, _, _, rfl, g3.same s4, (x2.trans b3.ext).same s4, epb, pg⟩
      · -- drawn
        refine ⟨_, rfl, _, rfl, _, rfl, W, _, 0, _, rfl, rfl, SqT.of lw2.1, rfl, p, l, (M : Int), rfl, g2, by omega, by omega, fun d0 H3 d00 d01 g3 b3 => ?_⟩
        obtain ⟨s0, rfl⟩ : ∃ s0 : Nat, d0 = (s0 : Int) := ⟨d0.toNat, by omega⟩
        have sM : s0 < M := by omega
        have lw3 := lw2.ext g2 b3.ext
        have eev3 : H3 ev = some (.lst ((List.range M).map nI)) := by rw [b3 ev nev]; exact eev
        have x3 := x2.trans b3.ext
        refine ⟨_, rfl, W, q, ev, M, s0, L, (List.range M).map (fun i : Nat => (i : Int)), rfl, lw3, SqL.of (by rw [← elsE]; exact eev3), sM, m40, fun Do fo H4 s4 hDo eDo ok => ?_⟩
        have sto0 := stF_of (List.mem_range.mpr sM) (fun v hv => List.mem_range.mp hv) ok
        rw [gb_all TT] at sto0
        have ex : ∀ v, v < M → ∃ d : Nat, fo v = (d : Int) ∧ d < M := fun v hv => by
          obtain ⟨d, h⟩ := TT.dist (s := s0) (v := v) (by omega) (by omega)
          exact ⟨d, (stF_at ((sto0 v d).mpr h)).2, h.lt sM (fun a b h => by have := (TT.in2 h).2; omega)⟩
        have g4 := g3.same s4
        have lw4 := lw3.same s4
        have x4 := x3.same s4
        refine ⟨Nat.zero_le _, fun fn hfn => ?_⟩
        have nfn := (g4.ne hfn).1
        have s5 := sN (o := .lst []) hfn
        have efn : (upd H4 fn (.lst [])) fn = some (.lst []) := upd_same
        have hfnH : ∀ b o, H b = some o → b ≠ p → b ≠ fn := fun b o e nb z => by
          have y := x4 b o e nb
          rw [z, hfn] at y
          cases y
        have nDo : Do ≠ fn := fun z => by rw [← z, eDo] at hfn; cases hfn
        have nDp : Do ≠ p := (g3.ne hDo).1
        have nef : ev ≠ fn := fun z => by
          have y := s4 _ _ eev3
          rw [z, hfn] at y
          cases y
        have eDo5 := s5 _ _ eDo
        have eev5 := s5 _ _ (s4 _ _ eev3)
        have g5 := g4.same s5
        have lw5 := lw4.same s5
        have x5 := x4.same s5
        revert s5 efn eDo5 eev5 g5 lw5 x5
        generalize (upd H4 fn (.lst [])) = H5
        intro s5 efn eDo5 eev5 g5 lw5 x5
        have nW : ∀ {b : Addr} {zs : List V} {H' : Hp}, H5 b = some (.tup zs) → b ≠ p ∧ b ≠ fn := fun e => by
          obtain ⟨xs, y⟩ := g5.hp
          exact ⟨ne_of e y (fun z => by cases z), ne_of e efn (fun z => by cases z)⟩
        have lwO : ∀ {H' : Hp}, (∀ b o, H5 b = some o → b ≠ p → b ≠ fn → H' b = some o) → LWeb H' W q (M : Int) L := fun {H'} fr => by
          have t := lw5.2
          have f1 : ∀ {b : Addr} {zs : List V}, H5 b = some (.tup zs) → H' b = some (.tup zs) := fun e => fr _ _ e (nW (H' := H') e).1 (nW (H' := H') e).2
          exact ⟨f1 lw5.1, ⟨f1 t.at_, fun u hu => f1 (t.tup u hu), t.ok, t.asc, t.few, t.conn⟩⟩
        refine ⟨_, rfl, ev, rfl, ⟨_, SqL.of eev5⟩, for_list (K := K) (a := ev) (xs := (List.range M).map nI) (fun i σ H' => ∃ (par : Nat → Option Nat) (x6 x8 : Option V), σ = [some (.ref p), some (.ref W), some (.int kd), some (.ref ev), none, some (.ref Do), x6, some (.ref fn), x8, none, none, none] ∧ HandAt H' p l ∧ H' fn = some (.lst (pVs i par)) ∧ (∀ v u, v < i → par v = some u → GL L v u ∧ fo u < fo v) ∧ (∀ b o, H5 b = some o → b ≠ p → b ≠ fn → H' b = some o)) ?_ ?_ ?_ ?_⟩
        · exact ⟨fun _ => none, none, none, rfl, g5, efn, fun v u h _ => absurd h (Nat.not_lt_zero v), fun _ _ e _ _ => e⟩
        · rintro i σ H6 hi ⟨_, _, _, _, _, _, _, fr⟩
          exact SqL.of (fr _ _ eev5 nev nef)
        · rintro i v σ H6 hv ⟨par, x6, x8, rfl, g6, efn6, pp6, fr⟩
          obtain ⟨h, hh, rfl⟩ := map_inv hv
          have hi : i < M := by
            have z := (List.getElem?_eq_some_iff.mp hh).1
            rwa [List.length_range] at z
          rw [List.getElem?_range hi] at hh
          obtain rfl := Option.some.inj hh
          have eDo6 := fr _ _ eDo5 nDp nDo
          refine ⟨_, rfl, _, rfl, W, q, (M : Int), (i : Int), L, rfl, lwO fr, fun pb ns H7 s7 hpb epb asc mem => ⟨pb, rfl, ⟨_, SqL.of epb⟩, fun D hD => lc_list (K := K) (a := pb) (xs := ns.map V.int) (fun j H' => ∃ as : List Int, H' D = some (.lst (as.map V.int)) ∧ (∀ z ∈ as, Edge L (i : Int) z ∧ fo z.toNat < fo i) ∧ as.length ≤ j ∧ Same H7 H') ?_ ?_ ?_ ?_⟩⟩
          · exact ⟨[], upd_same, fun z h => absurd h List.not_mem_nil, Nat.le_refl _, sN hD⟩
          · rintro j H8 hj ⟨_, _, _, _, s8⟩
            exact SqL.of (s8 _ _ epb)
          · rintro j y H8 hy ⟨as, eD, pa8, la, s8⟩
            obtain ⟨o, ho, rfl⟩ := map_inv hy
            have om := (mem o).mp (List.mem_of_getElem? ho)
            have oz := TT.in2 om
            obtain ⟨o', rfl⟩ : ∃ o' : Nat, o = (o' : Int) := ⟨o.toNat, by omega⟩
            have oM : o' < M := by omega
            have eDo8 := s8 _ _ (s7 _ _ eDo6)
            have hj : j < ns.length := (List.getElem?_eq_some_iff.mp ho).1
            have nl : ns.length ≤ M := by
              have z := nd_len (ns.map Int.toNat) (List.range M) ?_ ?_
              · rw [List.length_map, List.length_range] at z
                exact z
              · refine List.pairwise_map.mpr ?_
                refine List.Pairwise.imp_of_mem (R := (· < ·)) (fun {a b} ma mb lt e => ?_) asc
                have za := TT.in2 ((mem a).mp ma)
                have zb := TT.in2 ((mem b).mp mb)
                omega
              · intro x hx
                obtain ⟨a, ma, rfl⟩ := List.mem_map.mp hx
                have za := TT.in2 ((mem a).mp ma)
                exact List.mem_range.mpr (by omega)
            refine ⟨rfl, _, rfl, _, rfl, Do, _, (o' : Int), _, rfl, rfl, SqL.of eDo8, flN_ix fo oM, _, rfl, _, rfl, Do, _, (i : Int), _, rfl, rfl, SqL.of eDo8, flN_ix fo hi, _, _, rfl, rfl, _, rfl, ite2 (fun c => ?_) (fun c => ?_)⟩
            · refine ⟨_, rfl, _, eD, ?_, as ++ [(o' : Int)], ?_, fun z hz => ?_, ?_, sNew s8 hD⟩
              · rw [List.length_map]
                exact Nat.lt_of_lt_of_le (show as.length < 64 by omega) (by decide)
              · rw [upd_same, List.map_append]
                rfl
              · rcases List.mem_append.mp hz with hz | hz
                · exact pa8 z hz
                · rw [List.mem_singleton.mp hz]
                  exact ⟨om, by rw [Int.toNat_natCast]; exact of_decide_eq_true c⟩
              · rw [List.length_append]
                exact Nat.succ_le_succ la
            · exact ⟨as, eD, pa8, Nat.le_succ_of_le la, s8⟩
          rintro H8 ⟨as, eD, pa8, la, s8⟩
          rw [List.length_map] at la
          have nl : ns.length ≤ M := by
            have z := nd_len (ns.map Int.toNat) (List.range M) ?_ ?_
            · rw [List.length_map, List.length_range] at z
              exact z
            · refine List.pairwise_map.mpr ?_
              refine List.Pairwise.imp_of_mem (R := (· < ·)) (fun {a b} ma mb lt e => ?_) asc
              have za := TT.in2 ((mem a).mp ma)
              have zb := TT.in2 ((mem b).mp mb)
              omega
            · intro x hx
              obtain ⟨a, ma, rfl⟩ := List.mem_map.mp hx
              have za := TT.in2 ((mem a).mp ma)
              exact List.mem_range.mpr (by omega)
          refine ⟨(by show 1 ≤ sizeLine; decide), fun l2 hl2 => ?_⟩
          have s9 := sN (o := .lst [.non]) hl2
          refine ⟨D, l2, _, _, rfl, rfl, s9 _ _ eD, upd_same, ?_, fun sm hsm => ?_⟩
          · rw [List.length_map]
            exact Nat.le_trans (show as.length + 1 ≤ 64 by omega) (by decide)
          have s10 := sT s9 (sN (o := .lst (as.map V.int ++ [.non])) hsm)
          have esm : (upd (upd H8 l2 (.lst [.non])) sm (.lst (as.map V.int ++ [.non]))) sm = some (.lst (as.map V.int ++ [.non])) := upd_same
          have s610 := sT s7 (sT s8 s10)
          show gName 8 (V.ref sm) _ (upd (upd H8 l2 (.lst [.non])) sm (.lst (as.map V.int ++ [.non]))) _
          revert s10 esm s610
          generalize (upd (upd H8 l2 (.lst [.non])) sm (.lst (as.map V.int ++ [.non]))) = H10
          intro s10 esm s610
          have g10 := g6.same s610
          have hsm6 : H6 sm = none := sNo (sT s7 (sT s8 s9)) hsm
          have nsm := (g6.ne hsm6).1
          have nsf : sm ≠ fn := (ne_of_none efn6 hsm6).symm
          have efn10 := s610 _ _ efn6
          have lsm : (as.map V.int ++ [V.non]).length = as.length + 1 := by rw [List.length_append, List.length_map]; rfl
          refine ⟨_, rfl, .inl ⟨rfl, _, SqL.of efn10⟩, _, rfl, _, rfl, _, rfl, sm, _, rfl, .inl (SqL.of esm), p, l, _, rfl, g10, ?_, ?_, fun d H11 dd0 dd1 g11 b11 => ?_⟩
          · rw [lsm]
            omega
          · rw [lsm]
            omega
          rw [lsm] at dd1
          obtain ⟨d', rfl⟩ : ∃ d' : Nat, d = (d' : Int) := ⟨d.toNat, by omega⟩
          obtain ⟨r, er, hr2⟩ : ∃ r : Option Nat, (as.map V.int ++ [V.non])[d']? = some (oV r) ∧ ∀ u, r = some u → GL L i u ∧ fo u < fo i := by
            by_cases c : d' < as.length
            · have em : as[d'] ∈ as := List.getElem_mem c
              obtain ⟨e1, e2⟩ := pa8 _ em
              have z := TT.in2 e1
              obtain ⟨u, eu⟩ : ∃ u : Nat, as[d'] = (u : Int) := ⟨as[d'].toNat, by omega⟩
              rw [eu] at e1 e2
              rw [Int.toNat_natCast] at e2
              refine ⟨some u, ?_, fun u' e => ?_⟩
              · rw [List.getElem?_append_left (by rw [List.length_map]; exact c), List.getElem?_map, List.getElem?_eq_getElem c, eu]
                rfl
              · cases e
                exact ⟨e1, e2⟩
            · refine ⟨none, ?_, fun u e => (nomatch e)⟩
              have : d' = as.length := by omega
              rw [List.getElem?_append_right (by rw [List.length_map]; omega), List.length_map, this, Nat.sub_self]
              rfl
          have esm11 : H11 sm = some (.lst (as.map V.int ++ [.non])) := by rw [b11 sm nsm]; exact esm
          have efn11 : H11 fn = some (.lst (pVs i par)) := by rw [b11 fn nfn]; exact efn10
          refine ⟨sm, _, (d' : Int), _, rfl, rfl, SqL.of esm11, atI_nat er, fn, _, _, rfl, rfl, efn11, ?_, ?_⟩
          · rw [pVs_len]
            exact Nat.lt_of_lt_of_le (show i < 64 by omega) (by decide)
          · refine ⟨fun v => if v = i then r else par v, _, _, rfl, ?_, ?_, fun v u hv e => ?_, fun b o e n1 n2 => ?_⟩
            · obtain ⟨ns', hl', nlp⟩ := g11.hl
              have nlf : fn ≠ l := (g4.ne hfn).2
              exact g11.stay nfn nlf
            · rw [upd_same, pVs_snoc (par := par) (i := i) (r := r) (fun v hv => by show (if v = i then r else par v) = _; rw [if_neg (by omega)]) (by show (if i = i then r else par i) = _; rw [if_pos rfl])]
            · have e' : (if v = i then r else par v) = some u := e
              by_cases c : v = i
              · rw [if_pos c] at e'
                rw [c]
                exact hr2 u e'
              · rw [if_neg c] at e'
                exact pp6 v u (by omega) e'
            · rw [upd_ne n2, b11 b n1]
              exact s610 _ _ (fr b o e n1 n2)
        · rintro σ H6 ⟨par, x6, x8, rfl, g6, efn6, pp6, fr⟩
          rw [List.length_map, List.length_range] at efn6 pp6
          refine ⟨_, rfl, fn, _, rfl, .inl ⟨SqL.of efn6, fun pt hpt => ?_⟩⟩
          have s7 := sN (o := .tup (pVs M par)) hpt
          refine ⟨pt, par, fun v => (fo v).toNat, _, _, _, _, rfl, g6.same s7, fun b o e nb => ?_, upd_same, ⟨fun v u hv e => ?_, fun v hv => ?_⟩, fun v u hv e => (pp6 v u hv e).1⟩
          · exact s7 _ _ (fr b o (x5 b o e nb) nb (hfnH b o e nb))
          · obtain ⟨g, lt⟩ := pp6 v u hv e
            have uz := TT.in2 g
            have uM : u < M := by omega
            obtain ⟨d1, e1, _⟩ := ex u uM
            refine ⟨uM, ?_⟩
            show (fo u).toNat < (fo v).toNat
            omega
          · obtain ⟨d1, e1, lt⟩ := ex v hv
            show (fo v).toNat < M
            omega
    · rintro σ H3 ⟨pa, par, rk, y5, y6, y7, y8, rfl, g3, x3, epa, pg⟩
      have lw3 := lw.ext g0 x3
      have few := lw.2.few
      have gM : ∀ i, i < M → 0 ≤ (LD par M i : Int) ∧ (LD par M i : Int) < (M : Int) := fun i hi => by
        have := pg.1.lt hi
        omega
      refine ⟨_, rfl, _, rfl, W, q, pa, M, L, par, rk, rfl, lw3, epa, pg.1, m40, fun D Eg H4 s4 hD eD I ga => ?_⟩
      have g4 := g3.same s4
      have x4 := x3.same s4
      have lw4 := lw3.same s4
      have epa4 := s4 _ _ epa
      refine ⟨_, rfl, _, _, rfl, rfl, _, rfl, ite2 (fun _ => ?_) (fun _ => ?_)⟩
      · refine ⟨_, rfl, _, rfl, _, rfl, W, q, pa, M, L, par, rk, rfl, lw4, epa4, pg.1, m40, fun t T H5 s5 _ lst => ?_⟩
        refine ⟨(by show 2 ≤ sizeLine; decide), fun r hr2 => ?_⟩
        have s6 := sN (o := .tup [.ref pa, .ref t]) hr2
        exact k r pa t T par rk _ (g4.same (sT s5 s6)) (x4.same (sT s5 s6)) upd_same (s6 _ _ (s5 _ _ epa4)) pg ((lst.same s6).cho lw.2.asc)
      · -- one tie of each group, drawn
        refine ⟨Nat.zero_le _, fun fn hfn => ?_⟩
        have nfn := (g4.ne hfn).1
        have nfl := (g4.ne hfn).2
        have s5 := sN (o := .lst []) hfn
        have efn : (upd H4 fn (.lst [])) fn = some (.lst []) := upd_same
        have hfnH : ∀ b o, H b = some o → b ≠ p → b ≠ fn := fun b o e nb z => by
          have y := x4 b o e nb
          rw [z, hfn] at y
          cases y
        have eD5 := s5 _ _ eD
        have ga5 := ga.same s5
        have g5 := g4.same s5
        have lw5 := lw4.same s5
        have x5 := x4.same s5
        have epa5 := s5 _ _ epa4
        have nDp : D ≠ p := (g3.ne hD).1
        revert s5 efn eD5 ga5 g5 lw5 x5 epa5
        generalize (upd H4 fn (.lst [])) = H5
        intro s5 efn eD5 ga5 g5 lw5 x5 epa5
        have nG : ∀ e ∈ Eg, e.2.1 ≠ p ∧ e.2.1 ≠ fn := fun e he => by
          have y4 := ga.at_ e he
          refine ⟨?_, ne_of_none y4 hfn⟩
          obtain ⟨xs, z⟩ := g4.hp
          intro zz
          rw [zz, z] at y4
          have y := HO.lst.inj (Option.some.inj y4)
          cases c : e.2.2 with
          | nil => exact absurd c (I.ne e he)
          | cons a r =>
            rw [c, List.map_cons] at y
            have y1 := (List.cons.inj y).1
            have e1 : l = a.1 := V.ref.inj y1
            obtain ⟨ns, h1, _⟩ := g4.hl
            have h2 := ga.tup e he a (by rw [c]; exact List.mem_cons_self)
            rw [← e1, h1] at h2
            cases h2
        have nDf : D ≠ fn := ne_of eD5 efn (fun z => by cases z)
        -- the keys
        refine ⟨_, rfl, .inr (.inr (.inl ⟨rfl, .inr ⟨_, eD5⟩⟩)), D, _, rfl, rfl, eD5, fun vw hvw => ?_⟩
        have s6 := sN (o := viewO "dict_keys" vw D) hvw
        refine ⟨vw, D, _, rfl, upd_same, s6 _ _ eD5, fun l1 bs hl1 hb => ?_⟩
        obtain ⟨Bs, eb1, eb2, eb3⟩ := keys_of hb
        rw [eb1]
        have s7 := sT s6 (sN (o := .lst (Bs.map fun p => V.ref p.1)) hl1)
        have el : (upd (upd H5 vw (viewO "dict_keys" vw D)) l1 (.lst (Bs.map fun p => V.ref p.1))) l1 = some (.lst (Bs.map fun p => V.ref p.1)) := upd_same
        have tb : ∀ p ∈ Bs, (upd (upd H5 vw (viewO "dict_keys" vw D)) l1 (.lst (Bs.map fun p => V.ref p.1))) p.1 = some (.tup (p.2.map V.int)) := fun p hp => sN hl1 _ _ (eb3 p hp)
        revert s7 el tb
        generalize (upd (upd H5 vw (viewO "dict_keys" vw D)) l1 (.lst (Bs.map fun p => V.ref p.1))) = H7
        intro s7 el tb
        have okB : ∀ c ∈ Bs, ∃ u v : Int, c.2 = [u, v] ∧ 0 ≤ u ∧ u < v ∧ v < (M : Int) := fun c hc => by
          have z : c.2 ∈ Eg.map (·.1) := by
            rw [← eb2]
            exact List.mem_map.mpr ⟨c, hc, rfl⟩
          obtain ⟨e, he, ee⟩ := List.mem_map.mp z
          obtain ⟨h1, ⟨r', hr', er⟩, _⟩ := I.head lw.2.asc he
          obtain ⟨x1, y1, e1, ne⟩ := I.crs e he
          obtain ⟨a, b, e2, a0, ab, bm⟩ := lw.2.ok r' hr'
          have ecr : crL (fun i => (LD par M i : Int)) r'.2 = cx (LD par M a.toNat : Int) (LD par M b.toNat : Int) := by rw [e2]; rfl
          obtain ⟨u, v, e4, h⟩ := cx_ok (gM a.toNat (by omega)) (gM b.toNat (by omega)) ⟨x1, y1, by rw [← ecr, er, h1, e1], ne⟩
          exact ⟨u, v, by rw [← ee, ← h1, ← er, ecr, e4], h⟩
        have pr2 : Pairs (M : Int) H7 l1 Bs := ⟨el, tb, okB⟩
        have kx : ∀ {H' : Hp} {Da : Addr} {Cs : List (Addr × List Int)}, Pairs (M : Int) H' Da Cs → ∀ y ∈ Cs.map (fun p => V.ref p.1), ∃ t, y = V.ref t ∧ H' t = some (.tup [.int (kH H' y).1, .int (kH H' y).2]) := fun {H' Da Cs} pr y hy => by
          obtain ⟨p, hp, rfl⟩ := List.mem_map.mp hy
          obtain ⟨a, b, e, _⟩ := pr.ok p hp
          have t := pr.tup p hp
          rw [e] at t
          refine ⟨p.1, rfl, ?_⟩
          rw [kH_at t]
          exact t
        refine ⟨l1, _, kH H7, rfl, SqL.of pr2.at_, kx pr2, fun ys2 sp2 sr2 sb2 hsp2 => ?_⟩
        obtain ⟨R, rfl, perm, _⟩ := sorted_nd pr2 (by rw [eb2]; exact I.nd) sb2.perm sr2
        have s8 := sT s7 (sN (o := .lst (R.map fun p => V.ref p.1)) hsp2)
        have esp : (upd H7 sp2 (.lst (R.map fun p => V.ref p.1))) sp2 = some (.lst (R.map fun p => V.ref p.1)) := upd_same
        have tR : ∀ r ∈ R, (upd H7 sp2 (.lst (R.map fun p => V.ref p.1))) r.1 = some (.tup (r.2.map V.int)) := fun r hr2 => sN hsp2 _ _ (pr2.tup r (perm.mem_iff.mp hr2))
        have hsp5 : H5 sp2 = none := sNo s7 hsp2
        have nsp := (g5.ne hsp5).1
        have nspf : sp2 ≠ fn := (ne_of_none efn hsp5).symm
        have efn8 : (upd H7 sp2 (.lst (R.map fun p => V.ref p.1))) fn = some (.lst []) := s8 _ _ efn
        have g8 := g5.same s8
        revert s8 esp tR efn8 g8
        generalize (upd H7 sp2 (.lst (R.map fun p => V.ref p.1))) = H8
        intro s8 esp tR efn8 g8
        have keyR : ∀ r ∈ R, ∃ e ∈ Eg, e.1 = r.2 := fun r hr2 => by
          have z : r.2 ∈ Eg.map (·.1) := by
            rw [← eb2]
            exact List.mem_map.mpr ⟨r, perm.mem_iff.mp hr2, rfl⟩
          obtain ⟨e, he, ee⟩ := List.mem_map.mp z
          exact ⟨e, he, ee⟩
        have lenR : R.length = Eg.length := by
          rw [perm.length_eq]
          have z := congrArg List.length eb2
          rwa [List.length_map, List.length_map] at z
        have lenE := I.len
        have nTup : ∀ {b : Addr} {zs : List V}, H8 b = some (.tup zs) → b ≠ p ∧ b ≠ fn := fun e => by
          obtain ⟨xs, y⟩ := g8.hp
          exact ⟨ne_of e y (fun z => by cases z), ne_of e efn8 (fun z => by cases z)⟩
        refine ⟨sp2, rfl, ⟨_, SqL.of esp⟩, for_list (K := K) (a := sp2) (xs := R.map fun p => V.ref p.1) (fun i σ H' => ∃ (Fs : List (Addr × List Int)) (x10 : Option V), σ = [some (.ref p), some (.ref W), some (.int kd), some (.ref ev), some (.ref pa), y5, y6, some (.ref fn), y8, some (.ref D), x10, none] ∧ HandAt H' p l ∧ H' fn = some (.lst (Fs.map fun q => V.ref q.1)) ∧ Fs.map (fun q => crL (fun i => (LD par M i : Int)) q.2) = (R.take i).map (·.2) ∧ (∀ q ∈ Fs, H8 q.1 = some (.tup (q.2.map V.int)) ∧ ∃ r ∈ L, r.2 = q.2) ∧ (∀ b o, H8 b = some o → b ≠ p → b ≠ fn → H' b = some o)) ?_ ?_ ?_ ?_⟩
        · exact ⟨[], _, rfl, g8, efn8, rfl, fun q h => absurd h List.not_mem_nil, fun _ _ e _ _ => e⟩
        · rintro i σ H9 hi ⟨_, _, _, _, _, _, _, fr⟩
          exact SqL.of (fr _ _ esp nsp nspf)
        · rintro i v σ H9 hv ⟨Fs, x10, rfl, g9, efn9, ev9, tF, fr⟩
          obtain ⟨r, hr2, rfl⟩ := map_inv hv
          have hi : i < R.length := (List.getElem?_eq_some_iff.mp hr2).1
          have hm := List.mem_of_getElem? hr2
          obtain ⟨e, he, ee⟩ := keyR r hm
          have eD9 := fr _ _ (s8 _ _ eD5) nDp nDf
          have nt := nTup (tR r hm)
          have er9 : H9 r.1 = some (.tup ((e.1.map Sum.inl).map kV)) := by
            rw [fr _ _ (tR r hm) nt.1 nt.2, ← ee, List.map_map]
            rfl
          have gt : valV (kG Eg) (e.1.map Sum.inl) = some (.ref e.2.1) := kG_at I.nd he
          have el9 := fr _ _ (s8 _ _ (ga5.at_ e he)) (nG e he).1 (nG e he).2
          have ne2 := I.ne e he
          have lpos : 0 < e.2.2.length := List.length_pos_iff.mpr ne2
          have le2 : e.2.2.length ≤ L.length := by
            have z := congrArg List.length (I.grp e he)
            rw [List.length_map, List.length_map, List.take_length] at z
            rw [z]
            exact List.length_filter_le _ _
          have lF : Fs.length = i := by
            have z := congrArg List.length ev9
            rw [List.length_map, List.length_map, List.length_take] at z
            omega
          refine ⟨_, rfl, .inl ⟨rfl, _, SqL.of efn9⟩, _, rfl, _, rfl, D, V.ref e.2.1, rfl, by rw [← gt]; exact DGet.t eD9 er9, ?_⟩
          refine ⟨_, rfl, _, rfl, _, rfl, D, V.ref e.2.1, rfl, by rw [← gt]; exact DGet.t eD9 er9, e.2.1, _, rfl, .inl (SqL.of el9), p, l, _, rfl, g9, ?_, ?_, fun d H10 d0 d1 g10 b10 => ?_⟩
          · rw [List.length_map]
            omega
          · rw [List.length_map]
            omega
          rw [List.length_map] at d1
          obtain ⟨d', rfl⟩ : ∃ d' : Nat, d = (d' : Int) := ⟨d.toNat, by omega⟩
          have dl : d' < e.2.2.length := by omega
          have em : e.2.2[d'] ∈ e.2.2 := List.getElem_mem dl
          have el10 : H10 e.2.1 = some (.lst (e.2.2.map fun p => V.ref p.1)) := by rw [b10 _ (nG e he).1]; exact el9
          have efn10 : H10 fn = some (.lst (Fs.map fun q => V.ref q.1)) := by rw [b10 fn nfn]; exact efn9
          have mg : (e.2.2[d']).2 ∈ ((L.take L.length).filter fun p => decide (crL (fun i => (LD par M i : Int)) p.2 = e.1)).map (·.2) := by
            rw [← I.grp e he]
            exact List.mem_map.mpr ⟨_, em, rfl⟩
          obtain ⟨r0, hr0, er0⟩ := List.mem_map.mp mg
          obtain ⟨mr0, cr0⟩ := List.mem_filter.mp hr0
          rw [List.take_length] at mr0
          have cr0' := of_decide_eq_true cr0
          refine ⟨e.2.1, _, (d' : Int), _, rfl, rfl, SqL.of el10, atI_nat (by rw [List.getElem?_map, List.getElem?_eq_getElem dl]; rfl), fn, _, _, rfl, rfl, efn10, ?_, ?_⟩
          · rw [List.length_map]
            exact Nat.lt_of_lt_of_le (show Fs.length < 1001 by omega) (by decide)
          · refine ⟨Fs ++ [e.2.2[d']], _, rfl, ?_, ?_, ?_, fun q hq => ?_, fun b o eb n1 n2 => ?_⟩
            · exact g10.stay nfn nfl
            · rw [upd_same, List.map_append]
              rfl
            · rw [List.map_append, ev9, take_snoc hr2, List.map_append, List.map_cons, ← er0, cr0', ee]
              rfl
            · rcases List.mem_append.mp hq with hq | hq
              · exact tF q hq
              · rw [List.mem_singleton.mp hq]
                exact ⟨s8 _ _ (ga5.tup e he _ em), r0, mr0, er0⟩
            · rw [upd_ne n2, b10 b n1]
              exact fr b o eb n1 n2
        rintro σ H9 ⟨Fs, x10, rfl, g9, efn9, ev9, tF, fr⟩
        rw [List.length_map, List.take_length] at ev9
        have lF : Fs.length = Eg.length := by
          have z := congrArg List.length ev9
          rw [List.length_map, List.length_map] at z
          omega
        have ndC : (Fs.map fun q => crL (fun i => (LD par M i : Int)) q.2).Nodup := by
          rw [ev9]
          exact ((perm.map (·.2)).nodup_iff).mpr (by rw [eb2]; exact I.nd)
        have ndF : (Fs.map (·.2)).Nodup := by
          have z := ndC
          rw [show (Fs.map fun q => crL (fun i => (LD par M i : Int)) q.2) = (Fs.map (·.2)).map (crL fun i => (LD par M i : Int)) by rw [List.map_map]; rfl] at z
          exact (List.pairwise_map.mp z).imp fun {a b} h e => h (by rw [e])
        have tF9 : ∀ q ∈ Fs, H9 q.1 = some (.tup (q.2.map V.int)) := fun q hq => fr _ _ (tF q hq).1 (nTup (tF q hq).1).1 (nTup (tF q hq).1).2
        have pr : Pairs (M : Int) H9 fn Fs := ⟨efn9, tF9, fun q hq => by
          obtain ⟨r, hr2, e⟩ := (tF q hq).2
          rw [← e]
          exact lw.2.ok r hr2⟩
        have epa9 := fr _ _ (s8 _ _ epa5) (nTup (s8 _ _ epa5)).1 (nTup (s8 _ _ epa5)).2
        refine ⟨_, rfl, _, rfl, fn, _, kH H9, rfl, SqL.of efn9, kx pr, fun ys sp sr sb hsp => ?_⟩
        obtain ⟨Ts, rfl, permT, asc⟩ := sorted_nd pr ndF sb.perm sr
        have s10 := sN (o := .lst (Ts.map fun p => V.ref p.1)) hsp
        refine ⟨sp, _, rfl, .inl ⟨SqL.of upd_same, fun t ht => ?_⟩⟩
        have s11 := sT s10 (sN (o := .tup (Ts.map fun p => V.ref p.1)) ht)
        have et : (upd (upd H9 sp (.lst (Ts.map fun p => V.ref p.1))) t (.tup (Ts.map fun p => V.ref p.1))) t = some (.tup (Ts.map fun p => V.ref p.1)) := upd_same
        revert s11 et
        generalize (upd (upd H9 sp (.lst (Ts.map fun p => V.ref p.1))) t (.tup (Ts.map fun p => V.ref p.1))) = H11
        intro s11 et
        refine ⟨(by show 2 ≤ sizeLine; decide), fun r hr2 => ?_⟩
        have s12 := sN (o := .tup [.ref pa, .ref t]) hr2
        have x9 : Ext p H H9 := fun b o e nb => fr b o (s8 _ _ (x5 b o e nb)) nb (hfnH b o e nb)
        have cho : ChoAt (fun i => (LD par M i : Int)) L (M : Int) H11 t Ts := by
          refine ⟨et, fun q hq => s11 _ _ (tF9 q (permT.mem_iff.mp hq)), fun q hq => pr.ok q (permT.mem_iff.mp hq), asc, by rw [permT.length_eq, lF]; exact lenE, fun q hq => (tF q (permT.mem_iff.mp hq)).2, fun q hq => ?_, fun r hr2 c => ?_, ?_⟩
          · have z : crL (fun i => (LD par M i : Int)) q.2 ∈ R.map (·.2) := by
              rw [← ev9]
              exact List.mem_map.mpr ⟨q, permT.mem_iff.mp hq, rfl⟩
            obtain ⟨r, hr2, er⟩ := List.mem_map.mp z
            obtain ⟨e, he, ee⟩ := keyR r hr2
            obtain ⟨x1, y1, e1, ne⟩ := I.crs e he
            exact ⟨x1, y1, by rw [← er, ← ee, e1], ne⟩
          · obtain ⟨e, he, ee⟩ := I.all r (by rw [List.take_length]; exact hr2) c
            have z : e.1 ∈ Fs.map fun q => crL (fun i => (LD par M i : Int)) q.2 := by
              rw [ev9]
              refine (perm.map (·.2)).mem_iff.mpr ?_
              rw [eb2]
              exact List.mem_map.mpr ⟨e, he, rfl⟩
            obtain ⟨q, hq, eq⟩ := List.mem_map.mp z
            exact ⟨q, permT.mem_iff.mpr hq, by rw [eq, ee]⟩
          · exact ((permT.map fun q => crL (fun i => (LD par M i : Int)) q.2).nodup_iff).mpr ndC
        exact k r pa t Ts par rk _ ((g9.same s11).same s12) ((x9.same s11).same s12) upd_same (s12 _ _ (s11 _ _ epa9)) pg (cho.same s12)
end
end Q

namespace Q
open PySem L2
theorem NoInt.int {K : PySem.W.Frag} {H : Hp} {i : Int} (n : NoInt K H (.int i)) : False := by
  obtain ⟨t, b, c, ty, k1, k2, e⟩ := n
  cases ty with
  | base ty =>
    cases ty
    have z1 : some b = some true := k1.symm.trans kInt_int
    have z2 : some c = some false := k2.symm.trans kBool_int
    cases z1
    cases z2
    cases e
/-- a thing whose kind is known -/
inductive Kd (H : Hp) : V → Prop
  | int (i : Int) : Kd H (.int i)
  | non : Kd H .non
  | bl (b : Bool) : Kd H (.bl b)
  | str (z : Str) : Kd H (.str z)
  | tup {a : Addr} {xs : List V} (e : H a = some (.tup xs)) : Kd H (.ref a)
  | lst {a : Addr} {xs : List V} (e : H a = some (.lst xs)) : Kd H (.ref a)
  | dk {a : Addr} {kvs : List (Key × V)} (e : H a = some (.dK kvs)) : Kd H (.ref a)
theorem Kd.same {H H' : Hp} {v : V} (h : Kd H v) (s : Same H H') : Kd H' v := by
  cases h with
  | int i => exact .int i
  | non => exact .non
  | bl b => exact .bl b
  | str z => exact .str z
  | tup e => exact .tup (s _ _ e)
  | lst e => exact .lst (s _ _ e)
  | dk e => exact .dk (s _ _ e)
theorem Kd.ext {H H' : Hp} {v : V} {p l : Addr} (h : Kd H v) (g : HandAt H p l) (g' : HandAt H' p l) (x : Ext p H H') : Kd H' v := by
  obtain ⟨xs0, e0⟩ := g.hp
  obtain ⟨xs1, e1⟩ := g'.hp
  cases h with
  | int i => exact .int i
  | non => exact .non
  | bl b => exact .bl b
  | str z => exact .str z
  | tup e => exact .tup (x _ _ e (ne_of e e0 (fun z => by cases z)))
  | @lst a xs e =>
    by_cases c : a = p
    · rw [c]
      exact .lst e1
    · exact .lst (x _ _ e c)
  | dk e => exact .dk (x _ _ e (ne_of e e0 (fun z => by cases z)))
theorem Kd.cl {K : PySem.W.Frag} {H : Hp} {v : V} (h : Kd H v) : (∃ i : Int, v = .int i) ∨ NoInt K H v := by
  cases h with
  | int i => exact .inl ⟨i, rfl⟩
  | non => exact .inr ⟨_, false, false, .base .non, kit_ty (by decide +kernel), kit_ty (by decide +kernel), rfl⟩
  | bl b => exact .inr ⟨_, true, true, .base (.bl b), kit_ty (by decide +kernel), kit_ty (by decide +kernel), rfl⟩
  | str z => exact .inr ⟨_, false, false, .base (.str z), kit_ty (by decide +kernel), kit_ty (by decide +kernel), rfl⟩
  | tup e => exact .inr ⟨_, false, false, .base (.tup e), kit_ty (by decide +kernel), kit_ty (by decide +kernel), rfl⟩
  | lst e => exact .inr ⟨_, false, false, .base (.lst e), kit_ty (by decide +kernel), kit_ty (by decide +kernel), rfl⟩
  | dk e => exact .inr ⟨_, false, false, .base (.dK e), kit_ty (by decide +kernel), kit_ty (by decide +kernel), rfl⟩
theorem Kd.tyT {K : PySem.W.Frag} {H : Hp} {v : V} (h : Kd H v) : ∃ (t : Value) (b : Bool), TyX K H v t ∧ PySem.W.kitOne K t (.type "tuple") = some b ∧ ((b = true ∧ ∃ a xs, v = .ref a ∧ H a = some (.tup xs)) ∨ (b = false ∧ ∀ a xs, v = .ref a → H a = some (.tup xs) → False)) := by
  cases h with
  | int i => exact ⟨_, false, .base (.int _), kit_ty (by decide +kernel), .inr ⟨rfl, fun a xs e => nomatch e⟩⟩
  | non => exact ⟨_, false, .base .non, kit_ty (by decide +kernel), .inr ⟨rfl, fun a xs e => nomatch e⟩⟩
  | bl b => exact ⟨_, false, .base (.bl b), kit_ty (by decide +kernel), .inr ⟨rfl, fun a xs e => nomatch e⟩⟩
  | str z => exact ⟨_, false, .base (.str z), kit_ty (by decide +kernel), .inr ⟨rfl, fun a xs e => nomatch e⟩⟩
  | tup e => exact ⟨_, true, .base (.tup e), kit_ty (by decide +kernel), .inl ⟨rfl, _, _, rfl, e⟩⟩
  | lst e => exact ⟨_, false, .base (.lst e), kit_ty (by decide +kernel), .inr ⟨rfl, fun a xs e1 e2 => by
      cases e1
      rw [e] at e2
      cases e2⟩⟩
  | dk e => exact ⟨_, false, .base (.dK e), kit_ty (by decide +kernel), .inr ⟨rfl, fun a xs e1 e2 => by
      cases e1
      rw [e] at e2
      cases e2⟩⟩
theorem Kd.at_ {H : Hp} {a : Addr} (h : Kd H (.ref a)) : ∃ o, H a = some o := by
  cases h with
  | tup e => exact ⟨_, e⟩
  | lst e => exact ⟨_, e⟩
  | dk e => exact ⟨_, e⟩
end Q

/-! things of known kinds; what parents are -/
namespace Q
open PySem L2 QM
/-- of known kinds, to nesting n -/
def KtA (H : Hp) : Nat → V → Prop
  | 0 => fun _ => True
  | n + 1 => fun v => Kd H v ∧ ∀ a xs, v = .ref a → H a = some (.tup xs) → xs.length ≤ 4000 ∧ ∀ x ∈ xs, KtA H n x
def Wk (H : Hp) (v : V) : Prop := ∀ n, KtA H n v
theorem Wk.kd {H : Hp} {v : V} (h : Wk H v) : Kd H v := (h 1).1
theorem Wk.items {H : Hp} {a : Addr} {xs : List V} (h : Wk H (.ref a)) (e : H a = some (.tup xs)) : xs.length ≤ 4000 ∧ ∀ x ∈ xs, Wk H x :=
  ⟨((h 1).2 a xs rfl e).1, fun x hx n => ((h (n + 1)).2 a xs rfl e).2 x hx⟩
theorem Wk.tup {H : Hp} {a : Addr} {xs : List V} (e : H a = some (.tup xs)) (hl : xs.length ≤ 4000) (h : ∀ x ∈ xs, Wk H x) : Wk H (.ref a)
  | 0 => trivial
  | n + 1 => ⟨.tup e, fun a' ys e1 e2 => by
    cases e1
    rw [e] at e2
    cases e2
    exact ⟨hl, fun x hx => h x hx n⟩⟩
theorem Wk.nt {H : Hp} {v : V} (k : Kd H v) (no : ∀ a xs, v = .ref a → H a = some (.tup xs) → False) : Wk H v
  | 0 => trivial
  | n + 1 => ⟨k, fun a xs e1 e2 => (no a xs e1 e2).elim⟩
theorem Wk.int {H : Hp} (i : Int) : Wk H (.int i) := .nt (.int i) fun _ _ e => nomatch e
theorem Wk.non {H : Hp} : Wk H .non := .nt .non fun _ _ e => nomatch e
theorem Wk.bl {H : Hp} (b : Bool) : Wk H (.bl b) := .nt (.bl b) fun _ _ e => nomatch e
theorem Wk.str {H : Hp} (z : Str) : Wk H (.str z) := .nt (.str z) fun _ _ e => nomatch e
theorem Wk.lst {H : Hp} {a : Addr} {xs : List V} (e : H a = some (.lst xs)) : Wk H (.ref a) := .nt (.lst e) fun a' _ e1 e2 => by
  cases e1
  rw [e] at e2
  cases e2
theorem Wk.dk {H : Hp} {a : Addr} {xs : List (Key × V)} (e : H a = some (.dK xs)) : Wk H (.ref a) := .nt (.dk e) fun a' _ e1 e2 => by
  cases e1
  rw [e] at e2
  cases e2
theorem KtA.ext {H H' : Hp} {p l : Addr} (g : HandAt H p l) (g' : HandAt H' p l) (s : Ext p H H') : ∀ {n : Nat} {v : V}, KtA H n v → KtA H' n v
  | 0, _, _ => trivial
  | n + 1, v, h => ⟨h.1.ext g g' s, fun a xs e1 e2 => by
    subst e1
    obtain ⟨o, eo⟩ := h.1.at_
    obtain ⟨zs, ez⟩ := g'.hp
    have ne : a ≠ p := ne_of e2 ez (fun z => by cases z)
    rw [s _ _ eo ne] at e2
    cases e2
    obtain ⟨h1, h2⟩ := h.2 a xs rfl eo
    exact ⟨h1, fun x hx => (h2 x hx).ext g g' s⟩⟩
theorem Wk.ext {H H' : Hp} {p l : Addr} {v : V} (h : Wk H v) (g : HandAt H p l) (g' : HandAt H' p l) (s : Ext p H H') : Wk H' v := fun n => (h n).ext g g' s
theorem KtA.same {H H' : Hp} (s : Same H H') : ∀ {n : Nat} {v : V}, KtA H n v → KtA H' n v
  | 0, _, _ => trivial
  | n + 1, v, h => ⟨h.1.same s, fun a xs e1 e2 => by
    subst e1
    obtain ⟨o, eo⟩ := h.1.at_
    rw [s _ _ eo] at e2
    cases e2
    obtain ⟨h1, h2⟩ := h.2 a xs rfl eo
    exact ⟨h1, fun x hx => (h2 x hx).same s⟩⟩
theorem Wk.same {H H' : Hp} {v : V} (h : Wk H v) (s : Same H H') : Wk H' v := fun n => (h n).same s
theorem Kd.tupBack {H H' : Hp} {a : Addr} {xs : List V} (k : Kd H (.ref a)) (s : Same H H') (e : H' a = some (.tup xs)) : H a = some (.tup xs) := by
  obtain ⟨o, eo⟩ := k.at_
  rw [s _ _ eo] at e
  rw [eo, e]
/-! ### parents, or not -/
/-- up, at most so often -/
theorem ldr_stop {par : Nat → Option Nat} {v : Nat} (e : par v = none) : ∀ n, ldr par n v = v
  | 0 => rfl
  | n + 1 => by
    show (match par v with | none => v | some u => ldr par n u) = v
    rw [e]
theorem ldr_step {par : Nat → Option Nat} {v u : Nat} (e : par v = some u) (n : Nat) : ldr par (n + 1) v = ldr par n u := by
  show (match par v with | none => v | some u => ldr par n u) = _
  rw [e]
theorem ldr_lt {M : Nat} {par : Nat → Option Nat} (up : ∀ v u, v < M → par v = some u → u < M) : ∀ (n v : Nat), v < M → ldr par n v < M
  | 0, _, h => h
  | n + 1, v, h => by
    cases e : par v with
    | none =>
      rw [ldr_stop e]
      exact h
    | some u =>
      rw [ldr_step e]
      exact ldr_lt up n u (up v u h e)
/-- how far below its leader -/
def cnt (par : Nat → Option Nat) : Nat → Nat → Nat
  | 0, _ => 0
  | n + 1, v => match par v with
    | none => 0
    | some u => cnt par n u + 1
inductive HgtA (par : Nat → Option Nat) (M : Nat) : Nat → Nat → List Nat → Prop
  | zero {v : Nat} : par v = none → v < M → HgtA par M v 0 [v]
  | succ {v u n : Nat} {ws : List Nat} : par v = some u → v < M → HgtA par M u n ws → HgtA par M v (n + 1) (v :: ws)
theorem HgtA.uniq {par : Nat → Option Nat} {M v m n : Nat} {ws zs : List Nat} (h : HgtA par M v m ws) (g : HgtA par M v n zs) : m = n := by
  induction h generalizing n zs with
  | zero e =>
    cases g with
    | zero _ => rfl
    | succ e2 _ => rw [e] at e2; cases e2
  | succ e _ _ ih =>
    cases g with
    | zero e2 => rw [e] at e2; cases e2
    | succ e2 _ g =>
      rw [e] at e2
      cases e2
      rw [ih g]
theorem HgtA.mem {par : Nat → Option Nat} {M v m : Nat} {ws : List Nat} (h : HgtA par M v m ws) : ws.length = m + 1 ∧ ∀ x ∈ ws, x < M ∧ ∃ e zs, e ≤ m ∧ HgtA par M x e zs := by
  induction h with
  | @zero v e lt =>
    refine ⟨rfl, fun x hx => ?_⟩
    obtain rfl := List.mem_singleton.mp hx
    exact ⟨lt, 0, _, Nat.le_refl _, .zero e lt⟩
  | @succ v u n ws e lt g ih =>
    refine ⟨by rw [List.length_cons, ih.1], fun x hx => ?_⟩
    rcases List.mem_cons.mp hx with rfl | hx
    · exact ⟨lt, n + 1, _, Nat.le_refl _, .succ e lt g⟩
    · obtain ⟨h1, e2, zs, h2, h3⟩ := ih.2 x hx
      exact ⟨h1, e2, zs, by omega, h3⟩
theorem HgtA.nodup {par : Nat → Option Nat} {M v m : Nat} {ws : List Nat} (h : HgtA par M v m ws) : ws.Nodup := by
  induction h with
  | zero e lt => exact List.nodup_cons.mpr ⟨List.not_mem_nil, List.nodup_nil⟩
  | @succ v u n ws e lt g ih =>
    refine List.nodup_cons.mpr ⟨fun hm => ?_, ih⟩
    obtain ⟨_, e2, zs, le, h3⟩ := g.mem.2 v hm
    have := h3.uniq (.succ e lt g)
    omega
theorem nd_lenA : ∀ (a b : List Nat), a.Nodup → (∀ x ∈ a, x ∈ b) → a.length ≤ b.length
  | [], _, _, _ => Nat.zero_le _
  | x :: a, b, h, k => by
    obtain ⟨h1, h2⟩ := List.nodup_cons.mp h
    have m := k x List.mem_cons_self
    have z := nd_lenA a (b.erase x) h2 fun y hy => (List.mem_erase_of_ne (fun (e : y = x) => h1 (e ▸ hy))).mpr (k y (List.mem_cons_of_mem _ hy))
    rw [List.length_erase_of_mem m] at z
    have := List.length_pos_of_mem m
    rw [List.length_cons]
    omega
theorem HgtA.lt {par : Nat → Option Nat} {M v m : Nat} {ws : List Nat} (h : HgtA par M v m ws) : m < M := by
  have z := nd_lenA ws (List.range M) h.nodup fun x hx => List.mem_range.mpr (h.mem.2 x hx).1
  rw [h.mem.1, List.length_range] at z
  omega
theorem hgt_ofA {M : Nat} {par : Nat → Option Nat} (up : ∀ v u, v < M → par v = some u → u < M) : ∀ (n v : Nat), v < M → par (ldr par n v) = none → ∃ m ws, HgtA par M v m ws
  | 0, v, h, e => ⟨0, _, .zero e h⟩
  | n + 1, v, h, e => by
    cases c : par v with
    | none => exact ⟨0, _, .zero c h⟩
    | some u =>
      rw [ldr_step c] at e
      obtain ⟨m, ws, g⟩ := hgt_ofA up n u (up v u h c) e
      exact ⟨m + 1, _, .succ c h g⟩
/-- no circles: these are parents -/
theorem ParOk.of_stop {M : Nat} {par : Nat → Option Nat} (up : ∀ v u, v < M → par v = some u → u < M) (st : ∀ v, v < M → par (ldr par M v) = none) : ∃ rk, ParOk M par rk := by
  have key : ∀ v, ∃ m, v < M → ∃ ws, HgtA par M v m ws := fun v => by
    by_cases h : v < M
    · obtain ⟨m, ws, g⟩ := hgt_ofA up M v h (st v h)
      exact ⟨m, fun _ => ⟨ws, g⟩⟩
    · exact ⟨0, fun z => absurd z h⟩
  refine ⟨fun v => Classical.choose (key v), ⟨fun v u hv e => ?_, fun v hv => ?_⟩⟩
  · have hu := up v u hv e
    refine ⟨hu, ?_⟩
    obtain ⟨ws, g⟩ := Classical.choose_spec (key v) hv
    obtain ⟨zs, g2⟩ := Classical.choose_spec (key u) hu
    have := g.uniq (.succ e hv g2)
    show Classical.choose (key u) < Classical.choose (key v)
    omega
  · obtain ⟨ws, g⟩ := Classical.choose_spec (key v) hv
    exact g.lt
theorem ParOk.stop {M : Nat} {par : Nat → Option Nat} {rk : Nat → Nat} (p : ParOk M par rk) {v : Nat} (hv : v < M) : par (ldr par M v) = none := (p.root hv).top
/-- the thing is parents of this web -/
def GoodP (L : List (Addr × List Int)) (M : Nat) (H : Hp) (v : V) : Prop := ∃ pa par rk, v = .ref pa ∧ H pa = some (.tup (pVs M par)) ∧ ParG M par rk L
theorem GoodP.same {L : List (Addr × List Int)} {M : Nat} {H H' : Hp} {v : V} (h : GoodP L M H v) (s : Same H H') : GoodP L M H' v := by
  obtain ⟨pa, par, rk, e, e2, g⟩ := h
  exact ⟨pa, par, rk, e, s _ _ e2, g⟩
theorem GoodP.iff {L : List (Addr × List Int)} {M : Nat} {H H' : Hp} {v : V} (k : Kd H v) (s : Same H H') : GoodP L M H v ↔ GoodP L M H' v :=
  ⟨fun h => h.same s, fun ⟨pa, par, rk, e, e2, g⟩ => by
    subst e
    exact ⟨pa, par, rk, rfl, k.tupBack s e2, g⟩⟩
theorem oV_inj {a b : Option Nat} (h : oV a = oV b) : a = b := by
  cases a with
  | none =>
    cases b with
    | none => rfl
    | some u => cases h
  | some u =>
    cases b with
    | none => cases h
    | some w =>
      have := V.int.inj h
      rw [Int.ofNat.inj this]
theorem pVs_of {M : Nat} {xs : List V} (len : xs.length = M) (h : ∀ i, i < M → ∃ o : Option Nat, xs[i]? = some (oV o)) : ∃ par, xs = pVs M par := by
  have key : ∀ i, ∃ o : Option Nat, i < M → xs[i]? = some (oV o) := fun i => by
    by_cases c : i < M
    · obtain ⟨o, e⟩ := h i c
      exact ⟨o, fun _ => e⟩
    · exact ⟨none, fun z => absurd z c⟩
  refine ⟨fun i => Classical.choose (key i), List.ext_getElem? fun i => ?_⟩
  by_cases c : i < M
  · rw [Classical.choose_spec (key i) c, pVs_get _ c]
  · rw [List.getElem?_eq_none (by omega), List.getElem?_eq_none (by rw [pVs_len]; omega)]
end Q

/-! a deep thing -/
namespace Q
open PySem L2 QM
abbrev sDeep : Stmt := top 81
def spDeep : Sp := fun vs H Q _ => ∃ (p l : Addr), vs = [.ref p] ∧ HandAt H p l ∧ ∀ (v : V) (H' : Hp), Wk H' v → HandAt H' p l → Ext p H H' → Q v H'
theorem pick_in {xs : List V} {i : Int} (h0 : 0 ≤ i) (h : i < xs.length) : ∃ v ∈ xs, atI xs i = some v := by
  obtain ⟨n, rfl⟩ : ∃ n : Nat, i = (n : Int) := ⟨i.toNat, by omega⟩
  have hn : n < xs.length := by omega
  exact ⟨xs[n], List.getElem_mem hn, atI_nat (List.getElem?_eq_getElem hn)⟩
theorem cut_mem {xs : List V} {a b : Option Int} {v : V} (h : v ∈ cutV xs a b) : v ∈ xs := List.mem_of_mem_drop (List.mem_of_mem_take h)
theorem cut_len (xs : List V) (a b : Option Int) : (cutV xs a b).length ≤ xs.length := by
  unfold cutV
  rw [List.length_take, List.length_drop]
  omega
theorem Ext.one {p : Addr} {H H1 H2 : Hp} (h : Ext p H H1) (b : But p H1 H2) : Ext p H H2 := fun c o e n => by
  rw [b c n]
  exact h c o e n
section
variable {P : Program} {w : World} {K : PySem.W.Frag} {mg : Str → Option Value} {base : Heap}
theorem scDeep : FnScope ["hand", "found", "turn"] ["hand"] (defScope sDeep) := ⟨rfl, rfl, rfl, by decide +kernel, rfl, by decide +kernel, by decide +kernel⟩
theorem ok_deep {f fD : Addr} {fd dD : FuncData} (F : Fun K "_law_deep" "_law_deep" sDeep f fd) (B : Bts mg) (DD : Df K mg "_law_draw" sDraw ["hand", "many"] fD dD) : FnOk P w K mg base CX0 2 f fd ["hand"] spDeep := by
  have GD : FnOk P w K mg base CX0 1 fD dD ["hand", "many"] spDraw := ok_draw DD.F B
  refine F.ok scDeep (fun vs H Q E h => ?_) (fun cdv A outer s H vs Q E hr h => ?_)
  · obtain ⟨p, l, rfl, _⟩ := h
    rfl
  · obtain ⟨p, l, rfl, g0, k⟩ := h
    have nd := scDeep.nd
    refine ⟨_, pss_cons (ps_set (i := 1) nd rfl (.inl rfl) (pe_ix ix_list (pe_lst (pa_cons pe_non (pa_cons pe_str (pa_cons (pe_un un_neg pe_int) (pa_cons pe_dnewK pa_nil))))) (pe_call GD hr rfl DD.m DD.k DD.b .nil pass0 (pa_cons (pv 0) (pa_cons pe_int pa_nil))) (fun _ _ => rfl)))
      (pss_cons (ps_for PassesOwn.never rfl (pi_range1 rfl B.range (pa_cons (pe_op op_add pe_int (pe_call GD hr rfl DD.m DD.k DD.b .nil pass0 (pa_cons (pv 0) (pa_cons pe_int pa_nil)))) pa_nil)) (pg_name (i := 2) nd rfl (.inl rfl))
        (pss_one (ps_set (i := 1) nd rfl (.inl rfl) (pe_ix ix_list (pe_lst (pa_cons (pe_tup (pa_cons (pv 1) pa_nil)) (pa_cons (pe_lst (pa_cons (pv 1) pa_nil)) (pa_cons (pe_slice sl_C (pe_tup (pa_cons (pv 1) (pa_cons (pv 1) pa_nil))) po_none (po_some pe_int)) (pa_cons (pe_disp (pps_cons pe_int (pv 1) pps_nil) rfl rfl (fun z => nomatch z) (by decide)) pa_nil)))))
          (pe_call GD hr rfl DD.m DD.k DD.b .nil pass0 (pa_cons (pv 0) (pa_cons pe_int pa_nil))) (fun _ _ => rfl)))))
      (pss_one (ps_ret (pv 1)))), ?_⟩
    refine ⟨_, rfl, fun a1 n1 => ⟨(by show 4 ≤ sizeLine; decide), fun t ht => ?_⟩⟩
    have s1 := sT (sN (o := .dK []) n1) (sN (o := .lst [.non, .str "a", .int (-1), .ref a1]) ht)
    have et : (upd (upd H a1 (.dK [])) t (.lst [.non, .str "a", .int (-1), .ref a1])) t = some (.lst [.non, .str "a", .int (-1), .ref a1]) := upd_same
    have ea : (upd (upd H a1 (.dK [])) t (.lst [.non, .str "a", .int (-1), .ref a1])) a1 = some (.dK []) := sN ht _ _ upd_same
    have np : t ≠ p := fun e => by
      obtain ⟨xs, z⟩ := g0.hp
      have z2 := sN n1 (o := .dK []) _ _ z
      rw [← e, ht] at z2
      cases z2
    have x1 : Ext p H (upd (upd H a1 (.dK [])) t (.lst [.non, .str "a", .int (-1), .ref a1])) := fun b o e n => s1 _ _ e
    have g1 := g0.same s1
    refine ⟨_, rfl, p, l, 4, rfl, g1, by decide, by decide, fun d H1 d0 d1 g2 b1 => ?_⟩
    have x2 := x1.one b1
    have et2 : H1 t = _ := (b1 t np).trans et
    obtain ⟨v, hv, e⟩ := pick_in (xs := [V.non, V.str "a", V.int (-1), V.ref a1]) d0 (by show d < 4; exact d1)
    have na : a1 ≠ p := fun z => by
      obtain ⟨xs, y⟩ := g0.hp
      rw [z] at n1
      rw [n1] at y
      cases y
    have wv : Wk H1 v := by
      simp only [List.mem_cons, List.not_mem_nil, or_false] at hv
      rcases hv with rfl | rfl | rfl | rfl
      · exact .non
      · exact .str _
      · exact .int _
      · exact .dk ((b1 a1 na).trans ea)
    refine ⟨t, _, d, v, rfl, rfl, SqL.of et2, e, ?_⟩
    refine ⟨_, rfl, p, l, 30, rfl, g2, by decide, by decide, fun d2 H2 d20 d21 g3 b2 => ?_⟩
    have wv2 := wv.ext g2 g3 b2.ext
    have x3 := x2.one b2
    refine ⟨_, _, rfl, rfl, 1 + d2, rfl, by omega, by omega, for_range (lo := 0) (n := (1 + d2).toNat) (fun i σ H' => ∃ (v : V) (x2 : Option V), σ = [some (.ref p), some v, x2] ∧ Wk H' v ∧ HandAt H' p l ∧ Ext p H H') ?_ ?_ ?_⟩
    · exact ⟨v, none, rfl, wv2, g3, x3⟩
    · rintro i σ H4 hi ⟨v, y2, rfl, wv, g4, x4⟩
      refine ⟨_, rfl, (by show 1 ≤ sizeLine; decide), fun q1 n1 => ?_⟩
      refine ⟨_, rfl, (by show 1 ≤ sizeLine; decide), fun q2 n2 => ?_⟩
      refine ⟨_, rfl, _, rfl, (by show 2 ≤ sizeLine; decide), fun q3 n3 => ?_⟩
      refine ⟨1, rfl, q3, _, rfl, upd_same, fun q4 H5 s5 e4 => ?_⟩
      refine fun q5 n5 => ⟨_, rfl, upd_same, [(Sum.inl 0, v)], rfl, (by show 1 ≤ 15; decide), (by show 4 ≤ sizeLine; decide), fun t n6 => ?_⟩
      have sA := sN (o := .tup [v]) n1
      have sB := sN (o := .lst [v]) n2
      have sC := sN (o := .tup [v, v]) n3
      have c1 := s5 _ _ (sC _ _ (sB _ _ (upd_same (H := H4) (a := q1) (o := .tup [v]))))
      have c2 := s5 _ _ (sC _ _ (upd_same (H := upd H4 q1 (.tup [v])) (a := q2) (o := .lst [v])))
      have s4 : Same H4 H5 := sT sA (sT sB (sT sC s5))
      have sD : Same H5 (upd (upd H5 q5 (.dK [])) q5 (.dK (mergeK [] [(Sum.inl 0, v)]))) := by
        rw [upd_upd]
        exact sN n5
      have c5 : (upd (upd H5 q5 (.dK [])) q5 (.dK (mergeK [] [(Sum.inl 0, v)]))) q5 = some (.dK (mergeK [] [(Sum.inl 0, v)])) := upd_same
      revert sD c5 n6
      generalize (upd (upd H5 q5 (.dK [])) q5 (.dK (mergeK [] [(Sum.inl 0, v)]))) = H6
      intro n6 sD c5
      have sF := sN (o := .lst [.ref q1, .ref q2, .ref q4, .ref q5]) n6
      have et : (upd H6 t (.lst [.ref q1, .ref q2, .ref q4, .ref q5])) t = some (.lst [.ref q1, .ref q2, .ref q4, .ref q5]) := upd_same
      have s7 := sT s4 (sT sD sF)
      have s57 := sT sD sF
      have c5' := sF _ _ c5
      revert s7 et s57 c5'
      generalize (upd H6 t (.lst [.ref q1, .ref q2, .ref q4, .ref q5])) = H7
      intro et s7 s57 c5'
      have g7 := g4.same s7
      have x7 : Ext p H H7 := fun b o e n => s7 _ _ (x4 b o e n)
      refine ⟨_, rfl, p, l, 4, rfl, g7, by decide, by decide, fun d H8 d0 d1 g8 b8 => ?_⟩
      have nn : ∀ {b : Addr} {o : HO}, H7 b = some o → (∀ xs, o ≠ .lst xs) → b ≠ p := fun {b o} e no z => by
        obtain ⟨xs, y⟩ := g7.hp
        rw [z, y] at e
        exact no _ (Option.some.inj e).symm
      have wv7 := wv.same s7
      have w1 : Wk H7 (.ref q1) := .tup (s57 _ _ c1) (by show 1 ≤ 4000; decide) fun x hx => by
        rw [List.mem_singleton.mp hx]
        exact wv7
      have w2 : Wk H7 (.ref q2) := .lst (s57 _ _ c2)
      have w4 : Wk H7 (.ref q4) := .tup (s57 _ _ e4) (Nat.le_trans (cut_len _ _ _) (by show 2 ≤ 4000; decide)) fun x hx => by
        have z := cut_mem hx
        simp only [List.mem_cons, List.not_mem_nil, or_false, or_self] at z
        rw [z]
        exact wv7
      have w5 : Wk H7 (.ref q5) := .dk c5'
      obtain ⟨u, hu, e⟩ := pick_in (xs := [V.ref q1, V.ref q2, V.ref q4, V.ref q5]) d0 (by show d < 4; exact d1)
      have wu : Wk H7 u := by
        simp only [List.mem_cons, List.not_mem_nil, or_false] at hu
        rcases hu with rfl | rfl | rfl | rfl
        · exact w1
        · exact w2
        · exact w4
        · exact w5
      have npt : t ≠ p := fun z => by
        obtain ⟨xs, y⟩ := g4.hp
        have y2 := (sT s4 sD) _ _ y
        rw [← z, n6] at y2
        cases y2
      exact ⟨t, _, d, u, rfl, rfl, SqL.of ((b8 t npt).trans et), e, u, _, rfl, wu.ext g7 g8 b8.ext, g8, x7.one b8⟩
    · rintro σ H4 ⟨v, y2, rfl, wv, g4, x4⟩
      exact ⟨_, rfl, k v H4 wv g4 x4⟩
end
end Q

namespace Q
open PySem L2
theorem hand_no {H : Hp} {p l : Addr} (g : HandAt H p l) : ∀ xs, H p ≠ some (.tup xs) := fun xs e => by
  obtain ⟨zs, z⟩ := g.hp
  rw [z] at e
  cases e
/-- the texts that are drawn -/
def txtL : List Str := ["me", "many", "ties", "round", "other", "heard", "sum", "least", "most", "add", "sub", "mul", "min", "max", "less", "same", "and", "or", "rest", "if", "number", "cell", "Add", "0", ""]
def TxtOk (v : V) : Prop := ∀ z, v = .str z → z ∈ txtL
/-- of known kinds, to nesting n -/
def Kt (H : Hp) : Nat → V → Prop
  | 0 => fun _ => True
  | n + 1 => fun v => (Kd H v ∧ TxtOk v) ∧ ∀ a xs, v = .ref a → H a = some (.tup xs) → xs.length ≤ 200 ∧ ∀ x ∈ xs, Kt H n x
def Wh (H : Hp) (v : V) : Prop := ∀ n, Kt H n v
theorem Wh.kd {H : Hp} {v : V} (h : Wh H v) : Kd H v := (h 1).1.1
theorem Wh.txt {H : Hp} {z : Str} (h : Wh H (.str z)) : z ∈ txtL := (h 1).1.2 z rfl
theorem Wh.items {H : Hp} {a : Addr} {xs : List V} (h : Wh H (.ref a)) (e : H a = some (.tup xs)) : xs.length ≤ 200 ∧ ∀ x ∈ xs, Wh H x :=
  ⟨((h 1).2 a xs rfl e).1, fun x hx n => ((h (n + 1)).2 a xs rfl e).2 x hx⟩
theorem Wh.tup {H : Hp} {a : Addr} {xs : List V} (e : H a = some (.tup xs)) (hl : xs.length ≤ 200) (h : ∀ x ∈ xs, Wh H x) : Wh H (.ref a)
  | 0 => trivial
  | n + 1 => ⟨⟨.tup e, fun z e => nomatch e⟩, fun a' ys e1 e2 => by
    cases e1
    rw [e] at e2
    cases e2
    exact ⟨hl, fun x hx => h x hx n⟩⟩
theorem Wh.nt {H : Hp} {v : V} (k : Kd H v) (tx : TxtOk v) (no : ∀ a xs, v = .ref a → H a = some (.tup xs) → False) : Wh H v
  | 0 => trivial
  | n + 1 => ⟨⟨k, tx⟩, fun a xs e1 e2 => (no a xs e1 e2).elim⟩
theorem Wh.int {H : Hp} (i : Int) : Wh H (.int i) := .nt (.int i) (fun _ e => nomatch e) fun _ _ e => nomatch e
theorem Wh.non {H : Hp} : Wh H .non := .nt .non (fun _ e => nomatch e) fun _ _ e => nomatch e
theorem Wh.bl {H : Hp} (b : Bool) : Wh H (.bl b) := .nt (.bl b) (fun _ e => nomatch e) fun _ _ e => nomatch e
theorem Wh.str {H : Hp} {z : Str} (h : z ∈ txtL) : Wh H (.str z) := .nt (.str z) (fun y e => by cases e; exact h) fun _ _ e => nomatch e
theorem Wh.lst {H : Hp} {a : Addr} {xs : List V} (e : H a = some (.lst xs)) : Wh H (.ref a) := .nt (.lst e) (fun _ e => nomatch e) fun a' _ e1 e2 => by
  cases e1
  rw [e] at e2
  cases e2
theorem Wh.dk {H : Hp} {a : Addr} {xs : List (Key × V)} (e : H a = some (.dK xs)) : Wh H (.ref a) := .nt (.dk e) (fun _ e => nomatch e) fun a' _ e1 e2 => by
  cases e1
  rw [e] at e2
  cases e2
theorem Kt.ext {H H' : Hp} {p l : Addr} (g : HandAt H p l) (g' : HandAt H' p l) (s : Ext p H H') : ∀ {n : Nat} {v : V}, Kt H n v → Kt H' n v
  | 0, _, _ => trivial
  | n + 1, v, h => ⟨⟨h.1.1.ext g g' s, h.1.2⟩, fun a xs e1 e2 => by
    subst e1
    obtain ⟨o, eo⟩ := h.1.1.at_
    obtain ⟨zs, ez⟩ := g'.hp
    have ne : a ≠ p := ne_of e2 ez (fun z => by cases z)
    rw [s _ _ eo ne] at e2
    cases e2
    obtain ⟨h1, h2⟩ := h.2 a xs rfl eo
    exact ⟨h1, fun x hx => (h2 x hx).ext g g' s⟩⟩
theorem Wh.ext {H H' : Hp} {p l : Addr} {v : V} (h : Wh H v) (g : HandAt H p l) (g' : HandAt H' p l) (s : Ext p H H') : Wh H' v := fun n => (h n).ext g g' s
theorem Kt.same {H H' : Hp} (s : Same H H') : ∀ {n : Nat} {v : V}, Kt H n v → Kt H' n v
  | 0, _, _ => trivial
  | n + 1, v, h => ⟨⟨h.1.1.same s, h.1.2⟩, fun a xs e1 e2 => by
    subst e1
    obtain ⟨o, eo⟩ := h.1.1.at_
    rw [s _ _ eo] at e2
    cases e2
    obtain ⟨h1, h2⟩ := h.2 a xs rfl eo
    exact ⟨h1, fun x hx => (h2 x hx).same s⟩⟩
theorem Wh.same {H H' : Hp} {v : V} (h : Wh H v) (s : Same H H') : Wh H' v := fun n => (h n).same s
theorem wh_nil {H : Hp} : ∀ x ∈ ([] : List V), Wh H x := fun _ h => absurd h List.not_mem_nil
theorem wh_cons {H : Hp} {v : V} {xs : List V} (h : Wh H v) (k : ∀ x ∈ xs, Wh H x) : ∀ x ∈ v :: xs, Wh H x := fun x hx => (List.mem_cons.mp hx).elim (fun e => by rw [e]; exact h) (k x)
theorem wh_same {H H' : Hp} {xs : List V} (h : ∀ x ∈ xs, Wh H x) (s : Same H H') : ∀ x ∈ xs, Wh H' x := fun x hx => (h x hx).same s
theorem wh_ext {H H' : Hp} {p l : Addr} {xs : List V} (h : ∀ x ∈ xs, Wh H x) (g : HandAt H p l) (g' : HandAt H' p l) (s : Ext p H H') : ∀ x ∈ xs, Wh H' x := fun x hx => (h x hx).ext g g' s
theorem wh_app {H : Hp} {xs ys : List V} (h : ∀ x ∈ xs, Wh H x) (k : ∀ x ∈ ys, Wh H x) : ∀ x ∈ xs ++ ys, Wh H x := fun x hx => (List.mem_append.mp hx).elim (h x) (k x)
theorem wh_sub {H : Hp} {xs ys : List V} (h : ∀ x ∈ xs, Wh H x) (s : ∀ x ∈ ys, x ∈ xs) : ∀ x ∈ ys, Wh H x := fun x hx => h x (s x hx)
/-! ### what an expression is -/
def opsL : List Str := ["add", "sub", "mul", "min", "max", "less", "same", "and", "or", "rest"]
/-- the head at v is well; ks: the expressions behind its word -/
def Node (H : Hp) (W : List Str) (c : Int) (v : V) (ks : List V) : Prop := ∃ (a : Addr) (s : Str) (r : List V), v = .ref a ∧ H a = some (.tup (.str s :: r)) ∧
  ((s = "number" ∧ ks = [] ∧ ∃ i : Int, r = [.int i] ∧ -2147483648 ≤ i ∧ i ≤ 2147483647) ∨ (s = "cell" ∧ ks = [] ∧ ∃ i : Int, r = [.int i] ∧ 0 ≤ i ∧ i < c) ∨ (s ∈ W ∧ r = [] ∧ ks = []) ∨ (s = "if" ∧ r.length = 3 ∧ ks = r) ∨ (s ∈ opsL ∧ r.length = 2 ∧ ks = r))
/-- words that stand alone -/
structure Alone (W : List Str) : Prop where
  number : ¬ ("number" : Str) ∈ W
  cell : ¬ ("cell" : Str) ∈ W
  iff : ¬ ("if" : Str) ∈ W
  ops : ∀ s ∈ opsL, ¬ s ∈ W
theorem ops_number : ¬ ("number" : Str) ∈ opsL := by decide +kernel
theorem ops_cell : ¬ ("cell" : Str) ∈ opsL := by decide +kernel
theorem ops_if : ¬ ("if" : Str) ∈ opsL := by decide +kernel
theorem ne_nc : ("number" : Str) ≠ "cell" := by decide +kernel
theorem ne_ni : ("number" : Str) ≠ "if" := by decide +kernel
theorem ne_ci : ("cell" : Str) ≠ "if" := by decide +kernel
theorem Node.uniq {H : Hp} {W : List Str} {c : Int} {v : V} {ks ks' : List V} (h : Node H W c v ks) (g : Node H W c v ks') : ks = ks' := by
  obtain ⟨a, s, r, rfl, e, h⟩ := h
  obtain ⟨a', s', r', e1, e', g⟩ := g
  cases e1
  rw [e] at e'
  simp only [Option.some.injEq, HO.tup.injEq, List.cons.injEq, V.str.injEq] at e'
  obtain ⟨rfl, rfl⟩ := e'
  have key : ∀ {k : List V}, ((s = "number" ∧ k = [] ∧ ∃ i : Int, r = [.int i] ∧ -2147483648 ≤ i ∧ i ≤ 2147483647) ∨ (s = "cell" ∧ k = [] ∧ ∃ i : Int, r = [.int i] ∧ 0 ≤ i ∧ i < c) ∨ (s ∈ W ∧ r = [] ∧ k = []) ∨ (s = "if" ∧ r.length = 3 ∧ k = r) ∨ (s ∈ opsL ∧ r.length = 2 ∧ k = r)) → k = if r.length ≤ 1 then [] else r := fun h => by
    rcases h with ⟨_, rfl, i, rfl, _⟩ | ⟨_, rfl, i, rfl, _⟩ | ⟨_, rfl, rfl⟩ | ⟨_, hl, rfl⟩ | ⟨_, hl, rfl⟩
    · rfl
    · rfl
    · rfl
    · rw [if_neg (by omega)]
    · rw [if_neg (by omega)]
  exact (key h).trans (key g).symm
/-- right to nesting n, of k expressions -/
def TS (H : Hp) (W : List Str) (c : Int) : Nat → V → Nat → Prop
  | 0 => fun _ _ => False
  | n + 1 => fun v k => ∃ ks, Node H W c v ks ∧ ∃ szs : List Nat, Paired (TS H W c n) ks szs ∧ k = 1 + szs.sum
theorem paired_uniq {R : V → Nat → Prop} (u : ∀ x k k', R x k → R x k' → k = k') : ∀ {xs : List V} {as bs : List Nat}, Paired R xs as → Paired R xs bs → as = bs
  | _, _, _, .nil, .nil => rfl
  | _, _, _, .cons h t, .cons g s => by
    have e1 := u _ _ _ h g
    have e2 := paired_uniq u t s
    subst e1
    subst e2
    rfl
theorem TS.uniq {H : Hp} {W : List Str} {c : Int} : ∀ {n : Nat} {v : V} {k k' : Nat}, TS H W c n v k → TS H W c n v k' → k = k'
  | 0, _, _, _, h, _ => h.elim
  | n + 1, v, k, k', ⟨ks, a, szs, p, e⟩, ⟨ks', a', szs', p', e'⟩ => by
    obtain rfl := a.uniq a'
    have z := paired_uniq (R := TS H W c n) (fun x k k' h g => TS.uniq h g) p p'
    rw [e, e', z]
def Right (H : Hp) (W : List Str) (c : Int) (v : V) : Prop := ∃ k, TS H W c 12 v k ∧ k ≤ 60
theorem Node.same {H H' : Hp} {W : List Str} {c : Int} {v : V} {ks : List V} (h : Node H W c v ks) (s : Same H H') : Node H' W c v ks := by
  obtain ⟨a, z, r, e1, e2, h⟩ := h
  exact ⟨a, z, r, e1, s _ _ e2, h⟩
theorem Node.ext {H H' : Hp} {W : List Str} {c : Int} {v : V} {ks : List V} {p l : Addr} (h : Node H W c v ks) (g : HandAt H p l) (s : Ext p H H') : Node H' W c v ks := by
  obtain ⟨a, z, r, e1, e2, h⟩ := h
  exact ⟨a, z, r, e1, s _ _ e2 (fun e => hand_no g _ (by rw [← e]; exact e2)), h⟩
theorem Node.back {H H' : Hp} {W : List Str} {c : Int} {v : V} {ks : List V} (w : Kd H v) (h : Node H' W c v ks) (s : Same H H') : Node H W c v ks := by
  obtain ⟨a, z, r, rfl, e2, h⟩ := h
  obtain ⟨o, eo⟩ := w.at_
  have y := s _ _ eo
  rw [e2] at y
  cases y
  exact ⟨a, z, r, rfl, eo, h⟩
theorem paired_mono {R R' : V → Nat → Prop} {xs : List V} {as : List Nat} (h : ∀ x k, x ∈ xs → R x k → R' x k) (p : Paired R xs as) : Paired R' xs as := by
  induction p with
  | nil => exact .nil
  | cons a _ ih => exact .cons (h _ _ List.mem_cons_self a) (ih fun x k hx => h x k (List.mem_cons_of_mem _ hx))
theorem TS.same {H H' : Hp} {W : List Str} {c : Int} (s : Same H H') : ∀ {n : Nat} {v : V} {k : Nat}, TS H W c n v k → TS H' W c n v k
  | 0, _, _, h => h.elim
  | n + 1, v, k, ⟨ks, a, szs, p, e⟩ => ⟨ks, a.same s, szs, paired_mono (fun x k _ h => h.same s) p, e⟩
theorem TS.ext {H H' : Hp} {W : List Str} {c : Int} {p l : Addr} (g : HandAt H p l) (s : Ext p H H') : ∀ {n : Nat} {v : V} {k : Nat}, TS H W c n v k → TS H' W c n v k
  | 0, _, _, h => h.elim
  | n + 1, v, k, ⟨ks, a, szs, q, e⟩ => ⟨ks, a.ext g s, szs, paired_mono (fun x k _ h => h.ext g s) q, e⟩
theorem Node.kids {H : Hp} {W : List Str} {c : Int} {v : V} {ks : List V} (w : Wh H v) (h : Node H W c v ks) : ∀ x ∈ ks, Wh H x := by
  obtain ⟨a, z, r, rfl, e2, h⟩ := h
  have it := (w.items e2).2
  have hr : ∀ x ∈ r, Wh H x := fun x hx => it x (List.mem_cons_of_mem _ hx)
  rcases h with ⟨_, rfl, _⟩ | ⟨_, rfl, _⟩ | ⟨_, _, rfl⟩ | ⟨_, _, rfl⟩ | ⟨_, _, rfl⟩
  · exact wh_nil
  · exact wh_nil
  · exact wh_nil
  · exact hr
  · exact hr
theorem TS.back {H H' : Hp} {W : List Str} {c : Int} (s : Same H H') : ∀ {n : Nat} {v : V} {k : Nat}, Wh H v → TS H' W c n v k → TS H W c n v k
  | 0, _, _, _, h => h.elim
  | n + 1, v, k, w, ⟨ks, a, szs, q, e⟩ => by
    have a' := a.back w.kd s
    exact ⟨ks, a', szs, paired_mono (fun x k hx h => h.back s (a'.kids w x hx)) q, e⟩
theorem right_iff {H H' : Hp} {W : List Str} {c : Int} {v : V} (w : Wh H v) (s : Same H H') : Right H W c v ↔ Right H' W c v :=
  ⟨fun ⟨k, h, l⟩ => ⟨k, h.same s, l⟩, fun ⟨k, h, l⟩ => ⟨k, h.back s w, l⟩⟩
theorem TS.mono {H : Hp} {W : List Str} {c : Int} : ∀ {n m : Nat} {v : V} {k : Nat}, n ≤ m → TS H W c n v k → TS H W c m v k
  | 0, _, _, _, _, h => h.elim
  | n + 1, 0, _, _, l, _ => absurd l (by omega)
  | n + 1, m + 1, v, k, l, ⟨ks, a, szs, q, e⟩ => ⟨ks, a, szs, paired_mono (fun x k _ h => h.mono (by omega)) q, e⟩
theorem TS.pos {H : Hp} {W : List Str} {c : Int} {n : Nat} {v : V} {k : Nat} (h : TS H W c n v k) : 1 ≤ k := by
  cases n with
  | zero => exact h.elim
  | succ n =>
    obtain ⟨ks, _, szs, _, e⟩ := h
    omega
end Q

namespace Q
open PySem L2
abbrev sSmall : Stmt := top 11
abbrev sBegins : Stmt := top 75
abbrev sInner : Stmt := top 76
def zeroL : List Str := ["me", "many", "ties", "round", "other", "heard", "sum", "least", "most"]
def noneL : List Str := ["Add", "0", ""]
/-- a tuple of texts in the written part -/
def KTup (K : PySem.W.Frag) (a : Addr) (xs : List V) : Prop := ∃ (o : Obj) (its : Array Value) (n : Nat), K.lookup a = some o ∧ o.cls = .type "tuple" ∧ o.data = .seq its n ∧ its.size ≤ sizeLine ∧ Vals xs its.toList
theorem KTup.sq {K : PySem.W.Frag} {a : Addr} {xs : List V} (h : KTup K a xs) (H : Hp) : SqT K H a xs := .inr h
/-- what is barred, and what is let -/
structure BarOk (bs W : List Str) (cells cw : Int) : Prop where
  al : Alone W
  sub : ∀ s ∈ W, s ∈ zeroL
  zero : ∀ s ∈ zeroL, (s ∈ W ↔ ¬ s ∈ bs)
  num : ¬ ("number" : Str) ∈ bs
  iff : ¬ ("if" : Str) ∈ bs
  ops : ∀ s ∈ opsL, ¬ s ∈ bs
  cell : (("cell" : Str) ∈ bs ∧ cw ≤ 0) ∨ (¬ ("cell" : Str) ∈ bs ∧ cw = cells)
/-- the words and how much stands behind each -/
structure Parts (K : PySem.W.Frag) (w : World) (mg : Str → Option Value) : Prop where
  ex : ∃ (d : Addr) (es : Array DictEntry) (n : Nat), KDict K w d es n ∧ mg "PARTS" = some (.ref d) ∧ (∀ s ∈ zeroL, ∃ t, PySem.W.nsIn K d s = some (some (.int 0 t))) ∧ (∀ s ∈ opsL, ∃ t, PySem.W.nsIn K d s = some (some (.int 2 t))) ∧
    (∃ t, PySem.W.nsIn K d "if" = some (some (.int 3 t))) ∧ (∀ s ∈ noneL, PySem.W.nsIn K d s = some none)
theorem Kd.tyS {K : PySem.W.Frag} {H : Hp} {v : V} (h : Kd H v) : ∃ (t : Value) (b : Bool), TyX K H v t ∧ PySem.W.kitOne K t (.type "str") = some b ∧ ((b = true ∧ ∃ z, v = .str z) ∨ (b = false ∧ ∀ z, v ≠ .str z)) := by
  cases h with
  | int i => exact ⟨_, false, .base (.int _), kit_ty (by decide +kernel), .inr ⟨rfl, fun z e => nomatch e⟩⟩
  | non => exact ⟨_, false, .base .non, kit_ty (by decide +kernel), .inr ⟨rfl, fun z e => nomatch e⟩⟩
  | bl b => exact ⟨_, false, .base (.bl b), kit_ty (by decide +kernel), .inr ⟨rfl, fun z e => nomatch e⟩⟩
  | str z => exact ⟨_, true, .base (.str z), kit_ty (by decide +kernel), .inl ⟨rfl, z, rfl⟩⟩
  | tup e => exact ⟨_, false, .base (.tup e), kit_ty (by decide +kernel), .inr ⟨rfl, fun z e => nomatch e⟩⟩
  | lst e => exact ⟨_, false, .base (.lst e), kit_ty (by decide +kernel), .inr ⟨rfl, fun z e => nomatch e⟩⟩
  | dk e => exact ⟨_, false, .base (.dK e), kit_ty (by decide +kernel), .inr ⟨rfl, fun z e => nomatch e⟩⟩
theorem inV_str (s : Str) : ∀ bs : List Str, inV (.str s) (bs.map V.str) = decide (s ∈ bs)
  | [] => by simp [inV]
  | b :: r => by
    have ih := inV_str s r
    unfold inV at ih ⊢
    rw [List.map_cons, List.any_cons, ih]
    have e : eqV (.str b) (.str s) = decide (s = b) := by
      show (b == s) = decide (s = b)
      by_cases c : s = b
      · rw [c, decide_eq_true rfl]
        simp
      · rw [decide_eq_false c]
        exact beq_eq_false_iff_ne.mpr fun z => c z.symm
    rw [e]
    by_cases c : s = b
    · simp [c]
    · simp [c]
theorem flat_str : ∀ bs : List Str, (bs.map V.str).all flatV = true
  | [] => rfl
  | b :: r => by
    rw [List.map_cons, List.all_cons, flat_str r]
    rfl
def spSmall : Sp := fun vs H Q _ => ∃ v : V, vs = [v] ∧ Kd H v ∧ ∀ b : Bool, (b = true ↔ ∃ i : Int, v = .int i ∧ -2147483648 ≤ i ∧ i ≤ 2147483647) → Q (.bl b) H
def spBegins (K : PySem.W.Frag) : Sp := fun vs H Q _ => ∃ (bA : Addr) (bs W : List Str) (cells cw : Int) (v : V), vs = [.ref bA, .int cells, v] ∧ KTup K bA (bs.map V.str) ∧ BarOk bs W cells cw ∧ Wh H v ∧ ∀ b : Bool, (b = true ↔ ∃ ks, Node H W cw v ks) → Q (.bl b) H
def spInner : Sp := fun vs H Q _ => ∃ (W : List Str) (cw : Int) (v : V) (ks : List V), vs = [v] ∧ Alone W ∧ Node H W cw v ks ∧ Wh H v ∧ ∀ t H', Same H H' → H' t = some (.tup ks) → Q (.ref t) H'
section
variable {P : Program} {w : World} {K : PySem.W.Frag} {mg : Str → Option Value} {base : Heap}
theorem scSmall : FnScope ["thing"] ["thing"] (defScope sSmall) := ⟨rfl, rfl, rfl, by decide +kernel, rfl, by decide +kernel, by decide +kernel⟩
theorem ok_small {f fP : Addr} {fd fdP : FuncData} (F : Fun K "is_small" "is_small" sSmall f fd) (B : Bts mg) (DP : Df K mg "is_plain_int" sPlain ["thing"] fP fdP) : FnOk P w K mg base CX0 2 f fd ["thing"] spSmall := by
  have GP : FnOk P w K mg base CX0 1 fP fdP ["thing"] (spPlain K) := ok_plain (x := "") (st := sPlain) DP.F B
  refine F.ok scSmall (fun vs H Q E h => ?_) (fun cdv A outer s H vs Q E hr h => ?_)
  · obtain ⟨v, rfl, _⟩ := h
    rfl
  · obtain ⟨v, rfl, kd, k⟩ := h
    refine ⟨_, pss_one (ps_ret (pe_and (pe_call GP hr rfl DP.m DP.k DP.b .nil pass0 (pa_cons (pv 0) pa_nil)) (pe_one (pe_chain op_le op_lt (pe_un un_neg (pe_op op_pow pe_int pe_int)) (pv 0) (pe_op op_pow pe_int pe_int))))), ?_⟩
    rcases kd.cl (K := K) with ⟨i, rfl⟩ | n
    · refine ⟨_, rfl, .int i, .type "int", true, false, rfl, .base (.int _), kInt_int, kBool_int, _, rfl, iteT ?_⟩
      refine ⟨_, _, rfl, rfl, ⟨by decide, by decide, by decide⟩, _, rfl, _, rfl, _, _, rfl, rfl, _, rfl, ?_⟩
      have e1 : (-(2 : Int) ^ (31 : Int).toNat) = -2147483648 := by decide
      have e2 : ((2 : Int) ^ (31 : Int).toNat) = 2147483648 := by decide
      refine ite2 (fun c => ?_) (fun c => ?_)
      · refine ⟨_, _, rfl, rfl, ⟨by decide, by decide, by decide⟩, _, _, rfl, rfl, ?_⟩
        refine k _ ⟨fun z => ⟨i, rfl, ?_, ?_⟩, fun ⟨j, e, a, b⟩ => ?_⟩
        · have := of_decide_eq_true c
          omega
        · have := of_decide_eq_true z
          omega
        · cases e
          exact decide_eq_true (by omega)
      · refine k false ⟨fun z => (nomatch z), fun ⟨j, e, a, b⟩ => (c ?_).elim⟩
        cases e
        exact decide_eq_true (by omega)
    · obtain ⟨t, b, c, ty, kb, kc, e0⟩ := id n
      refine ⟨_, rfl, v, t, b, c, rfl, ty, kb, kc, _, rfl, ?_⟩
      rw [e0]
      refine iteF (k false ⟨fun z => (nomatch z), fun ⟨j, e, _⟩ => ?_⟩)
      subst e
      exact n.int.elim
end
end Q

namespace Q
open PySem L2
theorem zero_not {s : Str} (h : s ∈ zeroL) : s ≠ "number" ∧ s ≠ "cell" ∧ s ≠ "if" ∧ ¬ s ∈ opsL := by
  have key : ∀ s ∈ zeroL, s ≠ "number" ∧ s ≠ "cell" ∧ s ≠ "if" ∧ ¬ s ∈ opsL := by decide +kernel
  exact key s h
theorem ops_not {s : Str} (h : s ∈ opsL) : s ≠ "number" ∧ s ≠ "cell" ∧ s ≠ "if" ∧ ¬ s ∈ zeroL := by
  have key : ∀ s ∈ opsL, s ≠ "number" ∧ s ≠ "cell" ∧ s ≠ "if" ∧ ¬ s ∈ zeroL := by decide +kernel
  exact key s h
theorem none_not {s : Str} (h : s ∈ noneL) : s ≠ "number" ∧ s ≠ "cell" ∧ s ≠ "if" ∧ ¬ s ∈ zeroL ∧ ¬ s ∈ opsL := by
  have key : ∀ s ∈ noneL, s ≠ "number" ∧ s ≠ "cell" ∧ s ≠ "if" ∧ ¬ s ∈ zeroL ∧ ¬ s ∈ opsL := by decide +kernel
  exact key s h
theorem txt_cases {s : Str} (h : s ∈ txtL) : s = "number" ∨ s = "cell" ∨ s = "if" ∨ s ∈ zeroL ∨ s ∈ opsL ∨ s ∈ noneL := by
  have key : ∀ s ∈ txtL, s = "number" ∨ s = "cell" ∨ s = "if" ∨ s ∈ zeroL ∨ s ∈ opsL ∨ s ∈ noneL := by decide +kernel
  exact key s h
/-- the head of a node, split -/
theorem node_iff {H : Hp} {W : List Str} {c : Int} {a : Addr} {s : Str} {r : List V} (e : H a = some (.tup (.str s :: r))) (ks : List V) : Node H W c (.ref a) ks ↔
    ((s = "number" ∧ ks = [] ∧ ∃ i : Int, r = [.int i] ∧ -2147483648 ≤ i ∧ i ≤ 2147483647) ∨ (s = "cell" ∧ ks = [] ∧ ∃ i : Int, r = [.int i] ∧ 0 ≤ i ∧ i < c) ∨ (s ∈ W ∧ r = [] ∧ ks = []) ∨ (s = "if" ∧ r.length = 3 ∧ ks = r) ∨ (s ∈ opsL ∧ r.length = 2 ∧ ks = r)) := by
  constructor
  · rintro ⟨a', s', r', e1, e2, h⟩
    cases e1
    rw [e] at e2
    simp only [Option.some.injEq, HO.tup.injEq, List.cons.injEq, V.str.injEq] at e2
    obtain ⟨rfl, rfl⟩ := e2
    exact h
  · exact fun h => ⟨a, s, r, rfl, e, h⟩
theorem at0 (x : V) (r : List V) : atI (x :: r) 0 = some x := atI_nat (xs := x :: r) (j := 0) rfl
theorem at1 (x y : V) (r : List V) : atI (x :: y :: r) 1 = some y := atI_nat (xs := x :: y :: r) (j := 1) rfl
theorem len_dec (n k : Nat) : decide (V.int ((n : Nat) : Int) = V.int ((k : Nat) : Int)) = decide (n = k) := by
  by_cases c : n = k
  · rw [c, decide_eq_true rfl, decide_eq_true rfl]
  · rw [decide_eq_false c, decide_eq_false fun z => c (by
      have z2 := V.int.inj z
      omega)]
section
variable {P : Program} {w : World} {K : PySem.W.Frag} {mg : Str → Option Value} {base : Heap}
theorem scBegins : FnScope ["barred", "cells", "thing", "word"] ["barred", "cells", "thing"] (defScope sBegins) := ⟨rfl, rfl, rfl, by decide +kernel, rfl, by decide +kernel, by decide +kernel⟩
theorem ok_begins {f fP fN fS : Addr} {fd fdP fdN fdS : FuncData} (F : Fun K "begins_well" "begins_well" sBegins f fd) (B : Bts mg) (hs : mg "str" = none) (T : Parts K w mg) (DP : Df K mg "is_plain_int" sPlain ["thing"] fP fdP) (DN : Df K mg "is_number_below" sNum ["limit", "thing"] fN fdN) (DS : Df K mg "is_small" sSmall ["thing"] fS fdS) :
    FnOk P w K mg base CX0 3 f fd ["barred", "cells", "thing"] (spBegins K) := by
  have GN : FnOk P w K mg base CX0 2 fN fdN ["limit", "thing"] (spNum K) := ok_num DN.F B DP
  have GS : FnOk P w K mg base CX0 2 fS fdS ["thing"] spSmall := ok_small DS.F B DP
  obtain ⟨d, es, n, KD, hm, z0, z2, ⟨t3, z3⟩, zn⟩ := T.ex
  refine F.ok scBegins (fun vs H Q E h => ?_) (fun cdv A outer s H vs Q E hr h => ?_)
  · obtain ⟨bA, bs, W, cells, cw, v, rfl, _⟩ := h
    rfl
  · obtain ⟨bA, bs, W, cells, cw, v, rfl, kt, bo, wh, k⟩ := h
    have nd := scBegins.nd
    refine ⟨_, pss_cons (ps_if (PW.pt (pw_or (pt_not (pt_val (pe_callB call_isi (by rfl) B.isinstance PyProof.Rows.boot_isinstance (pa_cons (pv 2) (pa_cons (pe_bltn (v := .ty "tuple") rfl B.tuple PyProof.Rows.boot_tuple rfl) pa_nil)))))
        (pw_or (pt_not (pt_truth (pv 2) (fun _ => rfl))) (pw_or1 (pt_not (pt_val (pe_callB call_isi (by rfl) B.isinstance PyProof.Rows.boot_isinstance (pa_cons (pe_ix ix_tup (pv 2) pe_int (fun _ _ => rfl)) (pa_cons (pe_bltn (v := .ty "str") rfl hs PyProof.Rows.boot_str rfl) pa_nil))))))))) (pss_one (ps_ret pe_bl)) pss_nil)
      (pss_cons (ps_set (i := 3) nd rfl (.inl rfl) (pe_ix ix_tup (pv 2) pe_int (fun _ _ => rfl)))
      (pss_cons (ps_if (pt_cmpR op_in_seq (pv 3) (pv 0) rfl) (pss_one (ps_ret pe_bl)) pss_nil)
      (pss_cons (ps_if (pt_cmpR op_eq (pv 3) pe_str (nomark _)) (pss_one (ps_ret (pe_and (pe_cmpR op_eq (pe_callB call_len_seq (by rfl) B.len PySem.boot_len (pa_cons (pv 2) pa_nil)) pe_int (nomark _)) (pe_one (pe_call GS hr rfl DS.m DS.k DS.b .nil pass0 (pa_cons (pe_ix ix_tup (pv 2) pe_int (fun _ _ => rfl)) pa_nil)))))) pss_nil)
      (pss_cons (ps_if (pt_cmpR op_eq (pv 3) pe_str (nomark _)) (pss_one (ps_ret (pe_and (pe_cmpR op_eq (pe_callB call_len_seq (by rfl) B.len PySem.boot_len (pa_cons (pv 2) pa_nil)) pe_int (nomark _)) (pe_one (pe_call GN hr rfl DN.m DN.k DN.b .nil pass0 (pa_cons (pv 1) (pa_cons (pe_ix ix_tup (pv 2) pe_int (fun _ _ => rfl)) pa_nil))))))) pss_nil)
      (pss_one (ps_ret (pe_and (pe_cmpR (op_in_kd KD) (pv 3) (pe_glob (v := .ref d) rfl hm rfl) rfl) (pe_one (pe_cmpR op_eq (pe_callB call_len_seq (by rfl) B.len PySem.boot_len (pa_cons (pv 2) pa_nil)) (pe_op op_add (pe_ix ix_kdict (pe_glob (v := .ref d) rfl hm rfl) (pv 3) (fun _ _ => rfl)) pe_int) (nomark _)))))))))), ?_⟩
    obtain ⟨t, bt, ty, kt0, h⟩ := wh.kd.tyT (K := K)
    refine ⟨_, rfl, v, .ty "tuple", t, .type "tuple", bt, rfl, .ty _, ty, kt0, _, rfl, ?_⟩
    rcases h with ⟨rfl, a, xs, rfl, ht⟩ | ⟨rfl, no⟩
    rotate_left
    · exact iteT (k false ⟨fun z => (nomatch z), fun ⟨ks, a, s, r, e1, e2, _⟩ => (no a _ e1 e2).elim⟩)
    obtain ⟨hl, its⟩ := wh.items ht
    refine iteF ⟨_, rfl, !xs.isEmpty, .inr (.inl ⟨xs, SqT.of ht, rfl⟩), ?_⟩
    cases xs with
    | nil =>
      refine iteT (k false ⟨fun z => (nomatch z), fun ⟨ks, a', s, r, e1, e2, _⟩ => ?_⟩)
      cases e1
      rw [ht] at e2
      cases e2
    | cons x r =>
      refine iteF ⟨_, rfl, a, x :: r, 0, x, rfl, rfl, SqT.of ht, at0 _ _, ?_⟩
      obtain ⟨tx, bx, tyx, ktx, hx⟩ := (its x List.mem_cons_self).kd.tyS (K := K)
      refine ⟨x, .ty "str", tx, .type "str", bx, rfl, .ty _, tyx, ktx, _, rfl, ?_⟩
      rcases hx with ⟨rfl, s, rfl⟩ | ⟨rfl, no⟩
      rotate_left
      · refine iteT (k false ⟨fun z => (nomatch z), fun ⟨ks, a', s, r', e1, e2, _⟩ => ?_⟩)
        cases e1
        rw [ht] at e2
        simp only [Option.some.injEq, HO.tup.injEq, List.cons.injEq] at e2
        exact (no s e2.1).elim
      have hst : s ∈ txtL := (its _ List.mem_cons_self).txt
      refine iteF ⟨_, rfl, a, _, 0, .str s, rfl, rfl, SqT.of ht, at0 _ _, ?_⟩
      refine ⟨_, rfl, _, rfl, bA, _, rfl, .inr (kt.sq _), rfl, flat_str bs, _, rfl, ?_⟩
      have en : (if false = true then !inV (V.str s) (bs.map V.str) else inV (V.str s) (bs.map V.str)) = decide (s ∈ bs) := inV_str s bs
      rw [en]
      refine ite2 (fun c => ?_) (fun c => ?_)
      · have hb : s ∈ bs := of_decide_eq_true c
        refine k false ⟨fun z => (nomatch z), fun ⟨ks, g⟩ => ?_⟩
        rcases (node_iff ht ks).mp g with ⟨rfl, _⟩ | ⟨rfl, _, i, _, h0, h1⟩ | ⟨hw, _⟩ | ⟨rfl, _⟩ | ⟨ho, _⟩
        · exact (bo.num hb).elim
        · rcases bo.cell with ⟨_, z⟩ | ⟨z, _⟩
          · omega
          · exact (z hb).elim
        · exact ((bo.zero s (bo.sub s hw)).mp hw hb).elim
        · exact (bo.iff hb).elim
        · exact (bo.ops s ho hb).elim
      · have hb : ¬ s ∈ bs := fun z => c (decide_eq_true z)
        refine ⟨_, rfl, rfl, _, rfl, ite2 (fun c1 => ?_) (fun c1 => ?_)⟩
        · have es : s = "number" := V.str.inj (of_decide_eq_true c1)
          subst es
          refine ⟨_, rfl, a, _, rfl, .inr (SqT.of ht), rfl, _, rfl, ?_⟩
          rw [show decide (V.int (((V.str "number" :: r).length : Nat) : Int) = V.int 2) = decide ((V.str "number" :: r).length = 2) from len_dec _ 2]
          cases r with
          | nil =>
            refine iteF (k false ⟨fun z => (nomatch z), fun ⟨ks, g⟩ => ?_⟩)
            rcases (node_iff ht ks).mp g with ⟨_, _, i, e, _⟩ | ⟨e, _⟩ | ⟨hw, _⟩ | ⟨e, _⟩ | ⟨ho, _⟩
            · cases e
            · exact (ne_nc e).elim
            · exact (bo.al.number hw).elim
            · exact (ne_ni e).elim
            · exact (ops_number ho).elim
          | cons y r2 =>
            cases r2 with
            | cons y2 r3 =>
              refine ite2 (fun c2 => absurd (of_decide_eq_true c2) (by simp)) (fun _ => k false ⟨fun z => (nomatch z), fun ⟨ks, g⟩ => ?_⟩)
              rcases (node_iff ht ks).mp g with ⟨_, _, i, e, _⟩ | ⟨e, _⟩ | ⟨hw, _⟩ | ⟨e, _⟩ | ⟨ho, _⟩
              · cases e
              · exact (ne_nc e).elim
              · exact (bo.al.number hw).elim
              · exact (ne_ni e).elim
              · exact (ops_number ho).elim
            | nil =>
              refine iteT ⟨_, rfl, a, _, 1, y, rfl, rfl, SqT.of ht, at1 _ _ _, y, rfl, (its y (by simp)).kd, fun b hb' => k b (hb'.trans ⟨fun ⟨i, e, h0, h1⟩ => ⟨[], (node_iff ht []).mpr (.inl ⟨rfl, rfl, i, by rw [e], h0, h1⟩)⟩, fun ⟨ks, g⟩ => ?_⟩)⟩
              rcases (node_iff ht ks).mp g with ⟨_, _, i, e, h0, h1⟩ | ⟨e, _⟩ | ⟨hw, _⟩ | ⟨e, _⟩ | ⟨ho, _⟩
              · cases e
                exact ⟨i, rfl, h0, h1⟩
              · exact (ne_nc e).elim
              · exact (bo.al.number hw).elim
              · exact (ne_ni e).elim
              · exact (ops_number ho).elim
        · have n1 : s ≠ "number" := fun z => c1 (by rw [z]; exact decide_eq_true rfl)
          refine ⟨_, rfl, rfl, _, rfl, ite2 (fun c2 => ?_) (fun c2 => ?_)⟩
          · have es : s = "cell" := V.str.inj (of_decide_eq_true c2)
            subst es
            have ecw : cw = cells := by
              rcases bo.cell with ⟨z, _⟩ | ⟨_, z⟩
              · exact (hb z).elim
              · exact z
            have out : ∀ {ks : List V}, Node H W cw (.ref a) ks → ∃ i : Int, r = [.int i] ∧ 0 ≤ i ∧ i < cw := fun {ks} g => by
              rcases (node_iff ht ks).mp g with ⟨e, _⟩ | ⟨_, _, z⟩ | ⟨hw, _⟩ | ⟨e, _⟩ | ⟨ho, _⟩
              · exact (n1 e).elim
              · exact z
              · exact (bo.al.cell hw).elim
              · exact (ne_ci e).elim
              · exact (ops_cell ho).elim
            refine ⟨_, rfl, a, _, rfl, .inr (SqT.of ht), rfl, _, rfl, ?_⟩
            rw [show decide (V.int (((V.str "cell" :: r).length : Nat) : Int) = V.int 2) = decide ((V.str "cell" :: r).length = 2) from len_dec _ 2]
            by_cases hl2 : r.length = 1
            · obtain ⟨y, rfl⟩ : ∃ y, r = [y] := by
                match r, hl2 with
                | [y], _ => exact ⟨y, rfl⟩
              refine iteT ⟨_, rfl, _, rfl, a, _, 1, y, rfl, rfl, SqT.of ht, at1 _ _ _, cells, y, rfl, ?_⟩
              rcases (its y (by simp)).kd.cl (K := K) with ⟨i, rfl⟩ | ny
              · refine .inl ⟨i, rfl, k _ ⟨fun z => ?_, fun ⟨ks, g⟩ => ?_⟩⟩
                · rw [Bool.and_eq_true] at z
                  exact ⟨[], (node_iff ht []).mpr (.inr (.inl ⟨rfl, rfl, i, rfl, of_decide_eq_true z.1, by rw [ecw]; exact of_decide_eq_true z.2⟩))⟩
                · obtain ⟨j, e, h0, h1⟩ := out g
                  cases e
                  rw [Bool.and_eq_true]
                  exact ⟨decide_eq_true h0, decide_eq_true (by rw [← ecw]; exact h1)⟩
              · refine .inr ⟨ny, k false ⟨fun z => (nomatch z), fun ⟨ks, g⟩ => ?_⟩⟩
                obtain ⟨j, e, _⟩ := out g
                cases e
                exact ny.int.elim
            · refine ite2 (fun c3 => absurd (of_decide_eq_true c3) (by simp; omega)) (fun _ => k false ⟨fun z => (nomatch z), fun ⟨ks, g⟩ => ?_⟩)
              obtain ⟨j, e, _⟩ := out g
              rw [e] at hl2
              exact absurd rfl hl2
          · have n2 : s ≠ "cell" := fun z => c2 (by rw [z]; exact decide_eq_true rfl)
            have out : ∀ {ks : List V}, Node H W cw (.ref a) ks → (s ∈ W ∧ r = [] ∧ ks = []) ∨ (s = "if" ∧ r.length = 3 ∧ ks = r) ∨ (s ∈ opsL ∧ r.length = 2 ∧ ks = r) := fun {ks} g => by
              rcases (node_iff ht ks).mp g with ⟨e, _⟩ | ⟨e, _⟩ | z
              · exact (n1 e).elim
              · exact (n2 e).elim
              · exact z
            have len3 : ∀ (q : Nat), (V.str s :: r).length = q + 1 ↔ r.length = q := fun q => by
              rw [List.length_cons]
              omega
            rcases txt_cases hst with e | e | e | hz | ho | hn
            · exact (n1 e).elim
            · exact (n2 e).elim
            · subst e
              refine ⟨_, rfl, _, _, rfl, rfl, z3, _, rfl, iteT ?_⟩
              refine ⟨_, rfl, a, _, rfl, .inr (SqT.of ht), _, rfl, d, _, .int 3, rfl, rfl, ⟨es, n, _, KD.at_, KD.lit, z3, ⟨_, rfl⟩⟩, _, _, rfl, rfl, rfl, ?_⟩
              rw [show decide (V.int (((V.str "if" :: r).length : Nat) : Int) = V.int (3 + 1)) = decide ((V.str "if" :: r).length = 4) from len_dec _ 4]
              refine k _ ⟨fun z => ⟨r, (node_iff ht r).mpr (.inr (.inr (.inr (.inl ⟨rfl, (len3 3).mp (of_decide_eq_true z), rfl⟩))))⟩, fun ⟨ks, g⟩ => ?_⟩
              rcases out g with ⟨hw, _⟩ | ⟨_, z, _⟩ | ⟨ho, _⟩
              · exact (bo.al.iff hw).elim
              · exact decide_eq_true ((len3 3).mpr z)
              · exact (ops_if ho).elim
            · obtain ⟨t0, hq⟩ := z0 s hz
              have hw : s ∈ W := (bo.zero s hz).mpr hb
              refine ⟨_, rfl, _, _, rfl, rfl, hq, _, rfl, iteT ?_⟩
              refine ⟨_, rfl, a, _, rfl, .inr (SqT.of ht), _, rfl, d, _, .int 0, rfl, rfl, ⟨es, n, _, KD.at_, KD.lit, hq, ⟨_, rfl⟩⟩, _, _, rfl, rfl, rfl, ?_⟩
              rw [show decide (V.int (((V.str s :: r).length : Nat) : Int) = V.int (0 + 1)) = decide ((V.str s :: r).length = 1) from len_dec _ 1]
              refine k _ ⟨fun z => ⟨[], (node_iff ht []).mpr (.inr (.inr (.inl ⟨hw, List.length_eq_zero_iff.mp ((len3 0).mp (of_decide_eq_true z)), rfl⟩)))⟩, fun ⟨ks, g⟩ => ?_⟩
              rcases out g with ⟨_, z, _⟩ | ⟨e, _⟩ | ⟨ho, _⟩
              · exact decide_eq_true ((len3 0).mpr (by rw [z]; rfl))
              · exact ((zero_not hz).2.2.1 e).elim
              · exact ((zero_not hz).2.2.2 ho).elim
            · obtain ⟨t2, hq⟩ := z2 s ho
              refine ⟨_, rfl, _, _, rfl, rfl, hq, _, rfl, iteT ?_⟩
              refine ⟨_, rfl, a, _, rfl, .inr (SqT.of ht), _, rfl, d, _, .int 2, rfl, rfl, ⟨es, n, _, KD.at_, KD.lit, hq, ⟨_, rfl⟩⟩, _, _, rfl, rfl, rfl, ?_⟩
              rw [show decide (V.int (((V.str s :: r).length : Nat) : Int) = V.int (2 + 1)) = decide ((V.str s :: r).length = 3) from len_dec _ 3]
              refine k _ ⟨fun z => ⟨r, (node_iff ht r).mpr (.inr (.inr (.inr (.inr ⟨ho, (len3 2).mp (of_decide_eq_true z), rfl⟩))))⟩, fun ⟨ks, g⟩ => ?_⟩
              rcases out g with ⟨hw, _⟩ | ⟨e, _⟩ | ⟨_, z, _⟩
              · exact (bo.al.ops s ho hw).elim
              · exact ((ops_not ho).2.2.1 e).elim
              · exact decide_eq_true ((len3 2).mpr z)
            · refine ⟨_, rfl, _, _, rfl, rfl, zn s hn, _, rfl, iteF ?_⟩
              refine k false ⟨fun z => (nomatch z), fun ⟨ks, g⟩ => ?_⟩
              rcases out g with ⟨hw, _⟩ | ⟨e, _⟩ | ⟨ho, _⟩
              · exact ((none_not hn).2.2.2.1 (bo.sub s hw)).elim
              · exact ((none_not hn).2.2.1 e).elim
              · exact ((none_not hn).2.2.2.2 ho).elim
end
end Q

namespace Q
open PySem L2
abbrev sIsEx : Stmt := top 74
/-! ### the walk -/
abbrev Pt := Addr × V × Nat
def Good (H : Hp) (W : List Str) (c : Int) (ps : List Pt) (m : Nat) : Prop := ∃ szs : List Nat, Paired (fun (p : Pt) k => TS H W c (13 - p.2.2) p.2.1 k) ps szs ∧ m + szs.sum ≤ 60
theorem paired_app {α β : Type} {R : α → β → Prop} : ∀ {xs ys : List α} {as : List β}, Paired R (xs ++ ys) as → ∃ a1 a2, as = a1 ++ a2 ∧ Paired R xs a1 ∧ Paired R ys a2
  | [], _, as, h => ⟨[], as, rfl, .nil, h⟩
  | x :: xs, _, _, .cons h t => by
    obtain ⟨a1, a2, rfl, p1, p2⟩ := paired_app t
    exact ⟨_ :: a1, a2, rfl, .cons h p1, p2⟩
theorem app_paired {α β : Type} {R : α → β → Prop} {xs ys : List α} {a1 a2 : List β} (p1 : Paired R xs a1) (p2 : Paired R ys a2) : Paired R (xs ++ ys) (a1 ++ a2) := by
  induction p1 with
  | nil => exact p2
  | cons h _ ih => exact .cons h ih
theorem paired_kids {H : Hp} {W : List Str} {c : Int} {d : Nat} : ∀ {zs : List Pt} {ks : List V} {szs : List Nat}, zs.map (fun p => p.2) = ks.map (fun x => (x, d + 1)) → (Paired (fun (p : Pt) k => TS H W c (13 - p.2.2) p.2.1 k) zs szs ↔ Paired (TS H W c (12 - d)) ks szs)
  | [], [], szs, _ => ⟨fun h => by cases h; exact .nil, fun h => by cases h; exact .nil⟩
  | [], _ :: _, _, e => by simp at e
  | _ :: _, [], _, e => by simp at e
  | p :: zs, x :: ks, szs, e => by
    simp only [List.map_cons, List.cons.injEq] at e
    obtain ⟨e1, e2⟩ := e
    have ep : 13 - p.2.2 = 12 - d := by rw [e1]; show 13 - (d + 1) = 12 - d; omega
    have ev : p.2.1 = x := by rw [e1]
    constructor
    · intro h
      cases h with
      | cons a t =>
        rw [ep, ev] at a
        exact .cons a ((paired_kids e2).mp t)
    · intro h
      cases h with
      | cons a t =>
        refine .cons ?_ ((paired_kids e2).mpr t)
        rw [ep, ev]
        exact a
theorem Good.one {H : Hp} {W : List Str} {c : Int} {a : Addr} {v : V} : Good H W c [(a, v, 1)] 0 ↔ Right H W c v := by
  constructor
  · rintro ⟨szs, p, l⟩
    cases p with
    | cons h t =>
      cases t
      exact ⟨_, h, by simpa using l⟩
  · rintro ⟨k, h, l⟩
    exact ⟨[k], .cons h .nil, by simpa using l⟩
theorem Good.step {H : Hp} {W : List Str} {c : Int} {qs zs : List Pt} {p : Pt} {ks : List V} {m : Nat} (n : Node H W c p.2.1 ks) (hd : p.2.2 ≤ 12) (hz : zs.map (fun p => p.2) = ks.map (fun x => (x, p.2.2 + 1))) : Good H W c (qs ++ [p]) m ↔ Good H W c (qs ++ zs) (m + 1) := by
  have ef : 13 - p.2.2 = (12 - p.2.2) + 1 := by omega
  constructor
  · rintro ⟨szs, pp, l⟩
    obtain ⟨a1, a2, rfl, p1, p2⟩ := paired_app pp
    cases p2 with
    | cons h t =>
      cases t
      rw [ef] at h
      obtain ⟨ks', n', s2, q, e⟩ := h
      obtain rfl := n.uniq n'
      refine ⟨a1 ++ s2, app_paired p1 ((paired_kids hz).mpr q), ?_⟩
      simp only [List.sum_append, List.sum_cons, List.sum_nil] at l ⊢
      omega
  · rintro ⟨szs, pp, l⟩
    obtain ⟨a1, a2, rfl, p1, p2⟩ := paired_app pp
    refine ⟨a1 ++ [1 + a2.sum], app_paired p1 (.cons ?_ .nil), ?_⟩
    · show TS H W c (13 - p.2.2) p.2.1 (1 + a2.sum)
      rw [ef]
      exact ⟨ks, n, a2, (paired_kids hz).mp p2, rfl⟩
    · simp only [List.sum_append, List.sum_cons, List.sum_nil] at l ⊢
      omega
theorem Good.bad {H : Hp} {W : List Str} {c : Int} {qs : List Pt} {p : Pt} {m : Nat} (h : m + 1 > 60 ∨ p.2.2 > 12 ∨ ¬ ∃ ks, Node H W c p.2.1 ks) : ¬ Good H W c (qs ++ [p]) m := by
  rintro ⟨szs, pp, l⟩
  obtain ⟨a1, a2, rfl, p1, p2⟩ := paired_app pp
  cases p2 with
  | cons g t =>
    cases t
    have pos := g.pos
    simp only [List.sum_append, List.sum_cons, List.sum_nil] at l
    rcases h with h | h | h
    · omega
    · rw [show 13 - p.2.2 = 0 by omega] at g
      exact g
    · cases e : 13 - p.2.2 with
      | zero =>
        rw [e] at g
        exact g
      | succ n =>
        rw [e] at g
        obtain ⟨ks, n', _⟩ := g
        exact h ⟨ks, n'⟩
def spIsEx (K : PySem.W.Frag) : Sp := fun vs H Q _ => ∃ (bA : Addr) (bs W : List Str) (cells cw : Int) (v : V), vs = [.ref bA, .int cells, v] ∧ KTup K bA (bs.map V.str) ∧ BarOk bs W cells cw ∧ Wh H v ∧ ∀ (b : Bool) H', Same H H' → (b = true ↔ Right H W cw v) → Q (.bl b) H'
structure Lim (mg : Str → Option Value) : Prop where
  one : ∃ t, mg "MOST_IN_ONE" = some (.int 60 t)
  deep : ∃ t, mg "MOST_DEEP" = some (.int 12 t)
  starts : ∃ t, mg "MOST_STARTS" = some (.int 4 t)
section
variable {P : Program} {w : World} {K : PySem.W.Frag} {mg : Str → Option Value} {base : Heap}
theorem scInner : FnScope ["expression"] ["expression"] (defScope sInner) := ⟨rfl, rfl, rfl, by decide +kernel, rfl, by decide +kernel, by decide +kernel⟩
theorem ok_inner {f : Addr} {fd : FuncData} (F : Fun K "inner_parts" "inner_parts" sInner f fd) (B : Bts mg) : FnOk P w K mg base CX0 1 f fd ["expression"] spInner := by
  refine F.ok scInner (fun vs H Q E h => ?_) (fun cdv A outer s H vs Q E hr h => ?_)
  · obtain ⟨W, cw, v, ks, rfl, _⟩ := h
    rfl
  · obtain ⟨W, cw, v, ks, rfl, al, ⟨a, s, r, rfl, e, h⟩, wh, k⟩ := h
    refine ⟨_, pss_cons (ps_if (pt_cmpR op_in_seq (pe_ix ix_tup (pv 0) pe_int (fun _ _ => rfl)) (pe_tup (pa_cons pe_str (pa_cons pe_str pa_nil))) rfl) (pss_one (ps_ret (pe_tup pa_nil))) pss_nil)
      (pss_one (ps_ret (pe_slice sl_C (pv 0) (po_some pe_int) po_none))), ?_⟩
    refine ⟨_, rfl, a, _, 0, .str s, rfl, rfl, SqT.of e, at0 _ _, (by show 2 ≤ sizeLine; decide), fun t ht => ?_⟩
    have s1 := sN (o := .tup [.str "number", .str "cell"]) ht
    refine ⟨t, _, rfl, .inr (SqT.of upd_same), rfl, flat_str ["number", "cell"], _, rfl, ?_⟩
    have en : (if false = true then !inV (V.str s) [.str "number", .str "cell"] else inV (V.str s) [.str "number", .str "cell"]) = decide (s ∈ (["number", "cell"] : List Str)) := inV_str s ["number", "cell"]
    rw [en]
    refine ite2 (fun c => ?_) (fun c => ?_)
    · have hs : s = "number" ∨ s = "cell" := by simpa using of_decide_eq_true c
      have ek : ks = [] := by
        rcases h with ⟨_, z, _⟩ | ⟨_, z, _⟩ | ⟨_, _, z⟩ | ⟨e1, _⟩ | ⟨ho, _⟩
        · exact z
        · exact z
        · exact z
        · rcases hs with rfl | rfl
          · exact (ne_ni e1).elim
          · exact (ne_ci e1).elim
        · rcases hs with rfl | rfl
          · exact (ops_number ho).elim
          · exact (ops_cell ho).elim
      refine ⟨Nat.zero_le _, fun t2 ht2 => k t2 _ (sT s1 (sN ht2)) ?_⟩
      rw [upd_same, ek]
    · have hs : s ≠ "number" ∧ s ≠ "cell" := ⟨fun z => c (decide_eq_true (by rw [z]; simp)), fun z => c (decide_eq_true (by rw [z]; simp))⟩
      have ek : ks = r := by
        rcases h with ⟨z, _⟩ | ⟨z, _⟩ | ⟨_, z1, z2⟩ | ⟨_, _, z⟩ | ⟨_, _, z⟩
        · exact (hs.1 z).elim
        · exact (hs.2 z).elim
        · rw [z1, z2]
        · exact z
        · exact z
      refine ⟨_, rfl, _, rfl, a, _, rfl, s1 _ _ e, fun z H2 s2 e2 => k z H2 (sT s1 s2) ?_⟩
      rw [e2, ek]
      exact congrArg (fun l => some (HO.tup l)) (cut_tail _ _)
end
end Q

namespace Q
open PySem L2
section
variable {P : Program} {w : World} {K : PySem.W.Frag} {mg : Str → Option Value} {base : Heap}
theorem scIsEx : FnScope ["barred", "cells", "thing", "many", "waiting", "part", "deep", "inner"] ["barred", "cells", "thing"] (defScope sIsEx) := ⟨rfl, rfl, rfl, by decide +kernel, rfl, by decide +kernel, by decide +kernel⟩
theorem ok_isex {f fP fN fS fB fI : Addr} {fd fdP fdN fdS fdB fdI : FuncData} (F : Fun K "is_expression" "is_expression" sIsEx f fd) (B : Bts mg) (hs : mg "str" = none) (T : Parts K w mg) (LM : Lim mg) (DP : Df K mg "is_plain_int" sPlain ["thing"] fP fdP) (DN : Df K mg "is_number_below" sNum ["limit", "thing"] fN fdN) (DS : Df K mg "is_small" sSmall ["thing"] fS fdS)
    (DB : Df K mg "begins_well" sBegins ["barred", "cells", "thing"] fB fdB) (DI : Df K mg "inner_parts" sInner ["expression"] fI fdI) :
    FnOk P w K mg base CX0 4 f fd ["barred", "cells", "thing"] (spIsEx K) := by
  have GB : FnOk P w K mg base CX0 3 fB fdB ["barred", "cells", "thing"] (spBegins K) := ok_begins DB.F B hs T DP DN DS
  have GI : FnOk P w K mg base CX0 1 fI fdI ["expression"] spInner := ok_inner DI.F B
  obtain ⟨t1, hone⟩ := LM.one
  obtain ⟨t2, hdeep⟩ := LM.deep
  refine F.ok scIsEx (fun vs H Q E h => ?_) (fun cdv A outer s H vs Q E hr h => ?_)
  · obtain ⟨bA, bs, W, cells, cw, v, rfl, _⟩ := h
    rfl
  · obtain ⟨bA, bs, W, cells, cw, v, rfl, kt, bo, wh, k⟩ := h
    have nd := scIsEx.nd
    have hr1 : Room 1 _ := hr.mono (by decide)
    refine ⟨_, pss_cons (ps_set (i := 3) nd rfl (.inl rfl) pe_int)
      (pss_cons (ps_set (i := 4) nd rfl (.inl rfl) (pe_lst (pa_cons (pe_tup (pa_cons (pv 2) (pa_cons pe_int pa_nil))) pa_nil)))
      (pss_cons (ps_while PassesOwn.never (pt_truth (pv 4) (fun _ => rfl))
        (pss_cons (ps_asg (pe_bm0 PySem.F.plainAttrs_list PySem.F.slot_list_pop PySem.F.type_list_pop mt_pop (pv 4)) (pg_tup rfl (pgs_cons (pg_name (i := 5) nd rfl (.inl rfl)) (pgs_cons (pg_name (i := 6) nd rfl (.inr rfl)) pgs_nil))))
        (pss_cons (ps_aug (i := 3) nd rfl (.inl rfl) pe_int ip_add)
        (pss_cons (ps_if (PW.pt (pw_or (pt_cmpR op_gt (pv 3) (pe_glob (v := .int 60) rfl hone ⟨_, rfl⟩) (nomark _)) (pw_or (pt_cmpR op_gt (pv 6) (pe_glob (v := .int 12) rfl hdeep ⟨_, rfl⟩) (nomark _))
          (pw_or1 (pt_not (pt_val (pe_call GB hr rfl DB.m DB.k DB.b .nil pass0 (pa_cons (pv 0) (pa_cons (pv 1) (pa_cons (pv 5) pa_nil)))))))))) (pss_one (ps_ret pe_bl)) pss_nil)
        (pss_one (ps_expr (pe_bm PySem.F.plainAttrs_list PySem.F.slot_list_extend PySem.F.type_list_extend mt_extend (pv 4) (pa_cons (pe_lc (own := [("inner", 7)]) (g := gName 7) (tt := tYes) rfl nd (pi_tup (pe_call GI hr1 rfl DI.m DI.k DI.b .nil pass0 (pa_cons (pv 5) pa_nil)))
          (blkOk_by (N := ["barred", "cells", "thing", "many", "waiting", "part", "deep", "inner"]) (sc := defScope sIsEx) (by decide +kernel)) (fun _ _ _ _ _ => pg_name (i := 7) nd rfl (.inl rfl)) (fun _ _ _ _ _ => pts_nil)
          (fun _ _ _ _ _ => pe_tup (pa_cons (pv 7) (pa_cons (pe_op op_add (pv 6) pe_int) pa_nil)))) pa_nil))))))))
      (pss_one (ps_ret pe_bl)))), ?_⟩
    refine ⟨_, rfl, (by show 2 ≤ sizeLine; decide), fun t0 n0 => ?_⟩
    refine ⟨(by show 1 ≤ sizeLine; decide), fun wl nwl => ?_⟩
    have s0 := sN (o := .tup [v, .int 1]) n0
    have nwl0 : H wl = none := by
      by_cases e : wl = t0
      · rw [e, upd_same] at nwl
        cases nwl
      · rw [upd_ne e] at nwl
        exact nwl
    refine ⟨fun n σ H' => ∃ (many : Nat) (ps : List Pt) (x5 x6 : Option V), n = 61 - many ∧ σ = [some (.ref bA), some (.int cells), some v, some (.int (many : Int)), some (.ref wl), x5, x6, none] ∧ H' wl = some (.lst (ps.map fun p => V.ref p.1)) ∧
      (∀ p ∈ ps, H' p.1 = some (.tup [p.2.1, .int (p.2.2 : Int)]) ∧ Wh H p.2.1) ∧ ps.length ≤ 1 + 2 * many ∧ many ≤ 60 ∧ Same H H' ∧ (Good H W cw ps many ↔ Right H W cw v), ⟨61, 0, [(t0, v, 1)], none, none, rfl, rfl, upd_same, ?_, (by show 1 ≤ 1; decide), by decide, sT s0 (sN nwl), Good.one⟩, ?_⟩
    · intro p hp
      rw [List.mem_singleton.mp hp]
      refine ⟨?_, wh⟩
      rw [upd_ne (fun e => by rw [← e, upd_same] at nwl; cases nwl), upd_same]
      rfl
    · rintro n σ H1 ⟨many, ps, x5, x6, rfl, rfl, ewl, hps, hlen, hm, s1, iff⟩
      by_cases hemp : ps = []
      · subst hemp
        refine ⟨_, rfl, false, .inl ⟨_, SqL.of ewl, rfl⟩, iteF ?_⟩
        exact k true H1 s1 ⟨fun _ => iff.mp ⟨[], .nil, by simpa using hm⟩, fun _ => rfl⟩
      · obtain ⟨qs, p, rfl⟩ : ∃ qs p, ps = qs ++ [p] := ⟨ps.dropLast, ps.getLast hemp, (List.dropLast_concat_getLast hemp).symm⟩
        have hne : (!((qs ++ [p]).map fun p : Pt => V.ref p.1).isEmpty) = true := by simp
        refine ⟨_, rfl, true, .inl ⟨_, SqL.of ewl, hne.symm⟩, iteT ⟨fun σ' H' => ∃ m', m' < 61 - many ∧ ∃ (many : Nat) (ps : List Pt) (x5 x6 : Option V), m' = 61 - many ∧ σ' = [some (.ref bA), some (.int cells), some v, some (.int (many : Int)), some (.ref wl), x5, x6, none] ∧ H' wl = some (.lst (ps.map fun p => V.ref p.1)) ∧
          (∀ p ∈ ps, H' p.1 = some (.tup [p.2.1, .int (p.2.2 : Int)]) ∧ Wh H p.2.1) ∧ ps.length ≤ 1 + 2 * many ∧ many ≤ 60 ∧ Same H H' ∧ (Good H W cw ps many ↔ Right H W cw v), fun σ' H' ⟨m', a, b⟩ => ⟨m', a, b⟩, ?_⟩⟩
        obtain ⟨ep, wp⟩ := hps p (by simp)
        have npw : p.1 ≠ wl := ne_of ep ewl (fun z => by cases z)
        have elast : ((qs ++ [p]).map fun p : Pt => V.ref p.1)[((qs ++ [p]).map fun p : Pt => V.ref p.1).length - 1]? = some (.ref p.1) := by simp
        have edrop : ((qs ++ [p]).map fun p : Pt => V.ref p.1).dropLast = qs.map fun p : Pt => V.ref p.1 := by simp
        refine ⟨_, rfl, .inl ⟨rfl, _, SqL.of ewl⟩, wl, _, .ref p.1, rfl, rfl, ewl, elast, ?_⟩
        rw [edrop]
        have s2 : Same H (upd H1 wl (.lst (qs.map fun p : Pt => V.ref p.1))) := sNew s1 nwl0
        have keep : ∀ z : Pt, z ∈ qs → upd H1 wl (.lst (qs.map fun p : Pt => V.ref p.1)) z.1 = some (.tup [z.2.1, .int (z.2.2 : Int)]) ∧ Wh H z.2.1 := fun z hz => by
          obtain ⟨a, b⟩ := hps z (List.mem_append_left _ hz)
          exact ⟨by rw [upd_ne (ne_of a ewl (fun z => by cases z))]; exact a, b⟩
        refine ⟨p.1, _, rfl, SqT.of (by rw [upd_ne npw]; exact ep), rfl, _, _, rfl, _, _, rfl, rfl, ?_⟩
        refine ⟨_, rfl, _, _, rfl, rfl, ?_⟩
        have stop : (many + 1 > 60 ∨ p.2.2 > 12 ∨ ¬ ∃ ks, Node H W cw p.2.1 ks) → Q (.bl false) (upd H1 wl (.lst (qs.map fun p : Pt => V.ref p.1))) := fun h => k false _ s2 ⟨fun z => (nomatch z), fun z => (Good.bad h (iff.mpr z)).elim⟩
        refine ⟨_, rfl, _, _, rfl, rfl, _, rfl, ite2 (fun c => ?_) (fun c1 => ?_)⟩
        · exact stop (.inl (by
            have z : (60 : Int) < (many : Int) + 1 := of_decide_eq_true c
            omega))
        have h60 : many + 1 ≤ 60 := by
          by_cases z : many + 1 ≤ 60
          · exact z
          · exact absurd (decide_eq_true (show (60 : Int) < (many : Int) + 1 by omega)) c1
        refine ⟨_, rfl, _, _, rfl, rfl, _, rfl, ite2 (fun c => ?_) (fun c2 => ?_)⟩
        · exact stop (.inr (.inl (by
            have z : (12 : Int) < (p.2.2 : Int) := of_decide_eq_true c
            omega)))
        have h12 : p.2.2 ≤ 12 := by
          by_cases z : p.2.2 ≤ 12
          · exact z
          · exact absurd (decide_eq_true (show (12 : Int) < (p.2.2 : Int) by omega)) c2
        refine ⟨_, rfl, _, rfl, _, rfl, bA, bs, W, cells, cw, p.2.1, rfl, kt, bo, wp.same s2, fun b hb => ⟨_, rfl, ?_⟩⟩
        cases b with
        | false => exact iteT (stop (.inr (.inr fun ⟨ks, g⟩ => absurd (hb.mpr ⟨ks, g.same s2⟩) Bool.false_ne_true)))
        | true =>
          obtain ⟨ks, g2⟩ := hb.mp rfl
          have g := g2.back wp.kd s2
          have hk3 : ks.length ≤ 3 := by
            obtain ⟨_, _, r, _, _, h⟩ := g
            rcases h with ⟨_, e, _⟩ | ⟨_, e, _⟩ | ⟨_, _, e⟩ | ⟨_, l, e⟩ | ⟨_, l, e⟩
            · rw [e]; decide
            · rw [e]; decide
            · rw [e]; decide
            · rw [e]; omega
            · rw [e]; omega
          refine iteF ⟨_, rfl, .inl ⟨rfl, _, SqL.of upd_same⟩, _, rfl, W, cw, p.2.1, ks, rfl, bo.al, g2, wp.same s2, fun tt H2 s3 ett => ?_⟩
          have e2 : H2 wl = some (.lst (qs.map fun p : Pt => V.ref p.1)) := s3 _ _ upd_same
          refine ⟨tt, rfl, ⟨_, SqT.of ett⟩, fun D hD => lc_tup (K := K) (a := tt) (xs := ks) (fun i H' => ∃ zs : List Pt, H' D = some (.lst (zs.map fun p => V.ref p.1)) ∧ zs.map (fun p => p.2) = (ks.take i).map (fun x => (x, p.2.2 + 1)) ∧ (∀ z ∈ zs, H' z.1 = some (.tup [z.2.1, .int (z.2.2 : Int)])) ∧ Same H2 H') ?_ ?_ ?_ ?_⟩
          · exact ⟨[], upd_same, rfl, fun z hz => absurd hz List.not_mem_nil, sN hD⟩
          · rintro i H3 hi ⟨zs, _, _, _, s4⟩
            exact SqT.of (s4 _ _ ett)
          · rintro i x H3 hx ⟨zs, eD, emap, hz, s4⟩
            have hik : i < ks.length := (List.getElem?_eq_some_iff.mp hx).1
            have hlz : zs.length = i := by
              have z := congrArg List.length emap
              simp only [List.length_map, List.length_take] at z
              omega
            refine ⟨rfl, ?_⟩
            refine ⟨_, rfl, _, rfl, _, _, rfl, rfl, (by show 2 ≤ sizeLine; decide), fun z nz => ?_⟩
            have nDz : D ≠ z := ne_of_none eD nz
            refine ⟨zs.map (fun p => V.ref p.1), by rw [upd_ne nDz]; exact eD, ?_, zs ++ [(z, x, p.2.2 + 1)], ?_, ?_, ?_, ?_⟩
            · rw [List.length_map, hlz]
              exact Nat.lt_of_lt_of_le (show i < 64 by omega) (by decide)
            · rw [upd_same, List.map_append]
              rfl
            · rw [List.map_append, emap, List.take_add_one, hx, List.map_append]
              rfl
            · intro y hy
              rcases List.mem_append.mp hy with hy | hy
              · have ey := hz y hy
                rw [upd_ne (ne_of ey eD (fun z => by cases z)), upd_ne (ne_of_none ey nz)]
                exact ey
              · rw [List.mem_singleton.mp hy]
                rw [upd_ne nDz.symm, upd_same]
                rfl
            · intro b o e
              have e3 := s4 _ _ e
              rw [upd_ne (ne_of_none e hD), upd_ne (ne_of_none e3 nz)]
              exact e3
          · rintro H3 ⟨zs, eD, emap, hz, s4⟩
            rw [List.take_length] at emap
            have hlz : zs.length = ks.length := by
              have z := congrArg List.length emap
              simpa using z
            have nwD : D ≠ wl := fun e => by
              rw [e, e2] at hD
              cases hD
            refine ⟨wl, D, _, _, rfl, rfl, s4 _ _ e2, eD, ?_, ?_⟩
            · rw [List.length_map, List.length_map, hlz]
              rw [List.length_append, List.length_singleton] at hlen
              exact Nat.le_trans (show qs.length + ks.length ≤ 200 by omega) (by decide)
            · refine ⟨61 - (many + 1), by omega, many + 1, qs ++ zs, _, _, rfl, rfl, ?_, ?_, ?_, h60, ?_, ?_⟩
              · rw [upd_same, List.map_append]
              · intro y hy
                rcases List.mem_append.mp hy with hy | hy
                · obtain ⟨a, b⟩ := keep y hy
                  have a3 := s4 _ _ (s3 _ _ a)
                  exact ⟨by rw [upd_ne (ne_of a3 (s4 _ _ e2) (fun z => by cases z))]; exact a3, b⟩
                · have a3 := hz y hy
                  refine ⟨by rw [upd_ne (ne_of a3 (s4 _ _ e2) (fun z => by cases z))]; exact a3, ?_⟩
                  have hmem : y.2 ∈ ks.map (fun x => (x, p.2.2 + 1)) := by
                    rw [← emap]
                    exact List.mem_map_of_mem (f := fun p : Pt => p.2) hy
                  obtain ⟨x, hx, e⟩ := List.mem_map.mp hmem
                  rw [← e]
                  exact g.kids wp x hx
              · rw [List.length_append, hlz]
                rw [List.length_append, List.length_singleton] at hlen
                omega
              · exact sNew (sT s2 (sT s3 s4)) nwl0
              · exact (Good.step g h12 emap).symm.trans iff
end
end Q

namespace Q
open PySem L2
abbrev sPart : Stmt := inClass (top 4) 0
abbrev sAre : Stmt := top 73
def xdP (y : V) : HO := .xd [("part", y)]
def spPart (CB : Addr) : Sp := fun vs H Q _ => ∃ (a : Addr) (y : V), vs = [.ref a, y] ∧ H a = some (exo a CB none) ∧ ∀ d, H d = none → d ≠ a → Q .non (upd (upd H d (exd d [("part", y)])) a (exo a CB (some d)))
/-- what the top says of BadProgram -/
structure BTxt (K : PySem.W.Frag) (mg : Str → Option Value) (CB fI : Addr) (fd : FuncData) : Prop where
  ox : OexC K CB
  iC : PySem.W.findIn K (.ref CB) "__init__" = some (some (.ref fI))
  tI : PySem.W.typeIn K (.ref fI) = some (.type "function")
  F : Fun K "__init__" "BadProgram.__init__" sPart fI fd
  b : Binds K fd ["self", "part"] []
  no : PySem.W.findIn K (.ref CB) "part" = some none
  g : mg "BadProgram" = some (.ref CB)
  ex : PySem.W.exmOne K (.ref CB) (.ref CB) = some true
  xf : XfC K CB
section
variable {P : Program} {w : World} {K : PySem.W.Frag} {mg : Str → Option Value} {base : Heap}
theorem scPart : FnScope ["self", "part"] ["self", "part"] (defScope sPart) := ⟨rfl, rfl, rfl, by decide +kernel, rfl, by decide +kernel, by decide +kernel⟩
theorem ok_part {CB fI : Addr} {fd : FuncData} (T : BTxt K mg CB fI fd) (B : Bts mg) : FnOk P w K mg base CX0 1 fI fd ["self", "part"] (spPart CB) := by
  refine T.F.ok scPart (fun vs H Q E h => ?_) (fun cdv A outer s H vs Q E hr h => ?_)
  · obtain ⟨a, y, rfl, _⟩ := h
    rfl
  · obtain ⟨a, y, rfl, e, k⟩ := h
    refine ⟨_, pss_one (ps_ost (pv 0) (pv 1)), ?_⟩
    exact ⟨_, rfl, _, rfl, a, CB, rfl, T.ox, T.no, .inl ⟨e, fun d n ne => k d n ne⟩⟩
/-- raise BadProgram(y) -/
theorem bad_raise {CB : Addr} {H H1 : Hp} {y : V} {E : XK} (s : Same H H1) (k : ∀ d H', H' d = some (xdP y) → Same H H' → E (.ref CB) (some d) H') :
    [y].length ≤ 1000 ∧ ∀ a, H1 a = none → spPart CB (.ref a :: ([y] ++ [])) (upd H1 a (exo a CB none)) (fun v H2 => v = .non ∧ ∃ (d : Addr) (fs : List (Str × V)), H2 a = some (exo a CB (some d)) ∧ H2 d = some (exd d fs) ∧ H1 d = none ∧ E (.ref CB) (some d) (upd (del H2 a) d (.xd fs))) (fun _ _ _ => False) := by
  refine ⟨(by show 1 ≤ 1000; decide), fun a ha => ⟨a, y, rfl, upd_same, fun d hd hda => ⟨rfl, d, _, upd_same, ?_, ?_, k d _ upd_same fun b o e => ?_⟩⟩⟩
  · rw [upd_ne hda, upd_same]
  · rw [upd_ne hda] at hd
    exact hd
  · have hb := s _ _ e
    have nba : b ≠ a := ne_of_none hb ha
    rw [upd_ne hda] at hd
    have nbd : b ≠ d := ne_of_none hb hd
    rw [upd_ne nbd, del_ne nba, upd_ne nba, upd_ne nbd, upd_ne nba]
    exact hb
end
section
variable {X : Cx} {CX : CXT} {k : Nat} {f C : Addr} {fd : FuncData} {ps : List Str} {sp : Sp} {E : St → XK} {x : Str} {p pos : Pos} {e : Expr} {es : List Expr} {t : TA}
def tMakeS (C : Addr) (sp : Sp) (E : St → XK) (t : TA) : TE := fun σ H Q => t σ H fun vs H1 => ∀ x dx, H1 x = none → H1 dx = none → dx ≠ x → sp (.ref x :: vs) (upd (upd H1 dx (.own x)) x (.ins C dx [])) (fun v H2 => v = .non ∧ Q (.ref x) H2) (E σ)
theorem run_makeS {pins : List (Addr × Obj)} {σ : St} {H : Hp} {s : Shared} {Q : VK} {us : List Value} {vs : List V} (M : Mk X.K C f) (F : FnOk X.prog X.w X.K X.mg X.base CX k f fd ps sp) (hr : Room (k + 1) X.A) (hb : Binds X.K fd ps [])
    (hx : PassesAt CX X σ (E σ)) (I : Inv X pins σ H s) (r : Vals vs us)
    (h : ∀ x dx, H x = none → H dx = none → dx ≠ x → sp (.ref x :: vs) (upd (upd H dx (.own x)) x (.ins C dx [])) (fun v H2 => v = .non ∧ Q (.ref x) H2) (E σ)) :
    wpAny (model X.prog X.w) X.A (call (.ref C) us) (EP X pins σ Q) X.xe s := by
  have hq := h (s.heap.objs.size + 1) s.heap.objs.size (I.hok.fresh (Nat.le_succ _)) (I.hok.fresh (Nat.le_refl _)) (Nat.ne_of_lt (Nat.lt_succ_self _))
  have I2 := Inv.made (C := C) I
  have r2 : Vals (V.ref (s.heap.objs.size + 1) :: vs) (Value.ref (s.heap.objs.size + 1) :: us) := .cons rfl r
  have hl : (Value.ref (s.heap.objs.size + 1) :: us).length = ps.length := by
    have e := r2.length
    rw [F.len _ _ _ _ hq] at e
    exact e.symm
  have bb := hb { heap := _, gens := _, drawn := _, toks := _, os := _ } (Value.ref (s.heap.objs.size + 1) :: us) I2.kIn (by rw [List.append_nil]; exact hl)
  rw [List.append_nil] at bb
  refine wpAny_call (make_map (f := f) I.kIn M.makes M.init (beq_iff_eq.mp M.fn) (codeAny_mono (F.run _ X.stack _ _ ⟨Value.ref (s.heap.objs.size + 1) :: us, []⟩ (Value.ref (s.heap.objs.size + 1) :: us) _ _ (E σ) (hr.make C us [])
    (I2.env0.make C us []) bb r2 hq) fun r s' hq' => ?_))
  cases r with
  | error e => exact hx pins _ _ e s' I2 hq'
  | ok fl =>
    cases fl with
    | ret u =>
      obtain ⟨v, H', I3, rv, ev, q3⟩ := I2.after hq'
      subst ev
      exact ⟨rv, ⟨V.ref (s.heap.objs.size + 1), H', I3, rfl, q3⟩⟩
    | next => exact False.elim hq'
    | brk => exact False.elim hq'
    | cont => exact False.elim hq'
theorem pe_makeS (M : Mk X.K C f) (F : FnOk X.prog X.w X.K X.mg X.base CX k f fd ps sp) (hr : Room (k + 1) X.A) (hg : Gl X x) (hm : X.mg x = some (.ref C)) (hb : Binds X.K fd ps []) (hx : ∀ σ, PassesAt CX X σ (E σ))
    (ha : PA X (e :: es) t) (hdb : (x == ("__debug__" : Str)) = false := by decide) (he : starEach (e :: es) X.env = (false, eval e X.env) :: starEach es X.env := by rfl) (hpl : (backTo pos (starEach es X.env)).any (·.1) = false := by rfl) :
    PE X (.Call (.Name x p) (e :: es) [] pos) (tMakeS C sp E t) := by
  refine ⟨fun pins s σ H Q I h => ?_⟩
  refine wpAny_Call_Name_kw (ld_glob I hg hm ?_ hdb)
  refine PySem.W.callWith_K (h₀ := X.base) I.ok.mod.kin M.kp (thn (ha.run pos pins s σ H _ I h) fun us s1 ⟨vs, H1, I1, r, q⟩ => ⟨I1.kIn, ?_⟩) he hpl
  exact run_makeS M F hr hb (hx σ) I1 r q
end
def spAre (K : PySem.W.Frag) : Sp := fun vs H Q _ => ∃ (bA : Addr) (bs W : List Str) (cells cw : Int) (q : Addr) (xs : List V), vs = [.ref bA, .int cells, .ref q] ∧ KTup K bA (bs.map V.str) ∧ BarOk bs W cells cw ∧ H q = some (.tup xs) ∧ xs.length ≤ 200 ∧ (∀ x ∈ xs, Wh H x) ∧ ∀ (b : Bool) H', Same H H' → (b = true ↔ ∀ x ∈ xs, Right H W cw x) → Q (.bl b) H'
section
variable {P : Program} {w : World} {K : PySem.W.Frag} {mg : Str → Option Value} {base : Heap}
theorem scAre : FnScope ["barred", "cells", "things", "thing"] ["barred", "cells", "things"] (defScope sAre) := ⟨rfl, rfl, rfl, by decide +kernel, rfl, by decide +kernel, by decide +kernel⟩
theorem ok_are {f fE : Addr} {fd fdE : FuncData} (F : Fun K "are_expressions" "are_expressions" sAre f fd) (hall : mg "all" = none) (DE : Df K mg "is_expression" sIsEx ["barred", "cells", "thing"] fE fdE)
    (GE : FnOk P w K mg base CX0 4 fE fdE ["barred", "cells", "thing"] (spIsEx K)) : FnOk P w K mg base CX0 5 f fd ["barred", "cells", "things"] (spAre K) := by
  refine F.ok scAre (fun vs H Q E h => ?_) (fun cdv A outer s H vs Q E hr h => ?_)
  · obtain ⟨bA, bs, W, cells, cw, q, xs, rfl, _⟩ := h
    rfl
  · obtain ⟨bA, bs, W, cells, cw, q, xs, rfl, kt, bo, hq, hl, wh, k⟩ := h
    have nd := scAre.nd
    refine ⟨_, pss_one (ps_ret (pe_callB (cr_all rfl) (by rfl) hall PyProof.Rows.boot_all (pa_cons (pe_lc (own := [("thing", 3)]) (g := gName 3) (tt := tYes) rfl nd (pi_tup (pv 2))
          (blkOk_by (N := ["barred", "cells", "things", "thing"]) (sc := defScope sAre) (by decide +kernel)) (fun _ _ _ _ _ => pg_name (i := 3) nd rfl (.inl rfl)) (fun _ _ _ _ _ => pts_nil)
          (fun _ _ _ _ _ => pe_call GE hr rfl DE.m DE.k DE.b .nil pass0 (pa_cons (pv 0) (pa_cons (pv 1) (pa_cons (pv 3) pa_nil))))) pa_nil))), ?_⟩
    refine ⟨_, rfl, q, rfl, ⟨_, SqT.of hq⟩, fun D hD => lc_tup (K := K) (a := q) (xs := xs) (fun i H' => ∃ bs : List Bool, H' D = some (.lst (bs.map V.bl)) ∧ bs.length = i ∧ (bs.all id = true ↔ ∀ x ∈ xs.take i, Right H W cw x) ∧ Same H H') ?_ ?_ ?_ ?_⟩
    · exact ⟨[], upd_same, rfl, ⟨fun _ x hx => absurd hx (by simp), fun _ => rfl⟩, sN hD⟩
    · rintro i H1 hi ⟨bs, _, _, _, s1⟩
      exact SqT.of (s1 _ _ hq)
    · rintro i x H1 hx ⟨bs', eD, hlb, iff, s1⟩
      have hix : i < xs.length := (List.getElem?_eq_some_iff.mp hx).1
      have hm := List.mem_of_getElem? hx
      refine ⟨rfl, ?_⟩
      refine ⟨_, rfl, _, rfl, _, rfl, bA, bs, W, cells, cw, x, rfl, kt, bo, (wh x hm).same s1, fun b H2 s2 hb => ?_⟩
      refine ⟨_, s2 _ _ eD, ?_, bs' ++ [b], ?_, ?_, ?_, ?_⟩
      · rw [List.length_map, hlb]
        exact Nat.lt_of_lt_of_le (show i < 200 by omega) (by decide)
      · rw [upd_same, List.map_append]
        rfl
      · rw [List.length_append, hlb]
        rfl
      · rw [List.all_append, Bool.and_eq_true, iff, List.take_add_one, hx]
        have e : ([b].all id = true) ↔ b = true := by simp
        rw [e, hb, ← right_iff (wh x hm) s1]
        constructor
        · rintro ⟨h1, h2⟩ y hy
          rcases List.mem_append.mp hy with hy | hy
          · exact h1 y hy
          · have ey : y = x := by simpa using hy
            rw [ey]
            exact h2
        · intro h
          exact ⟨fun y hy => h y (List.mem_append_left _ hy), h x (List.mem_append_right _ (by simp))⟩
      · exact sNew (sT s1 s2) hD
    · rintro H1 ⟨bs', eD, hlb, iff, s1⟩
      refine ⟨D, bs', rfl, SqL.of eD, k _ _ s1 ?_⟩
      rw [List.take_length] at iff
      exact iff
end
end Q

namespace Q
open PySem L2
abbrev sProg : Stmt := inClass (top 72) 0
def bS : List Str := ["cell", "round", "other", "heard", "sum", "least", "most"]
def bT : List Str := ["heard", "sum", "least", "most"]
def bN : List Str := ["other"]
def wS : List Str := ["me", "many", "ties"]
def wT : List Str := ["me", "many", "ties", "round", "other"]
def wN : List Str := ["me", "many", "ties", "round", "heard", "sum", "least", "most"]
theorem alS : Alone wS := ⟨by decide +kernel, by decide +kernel, by decide +kernel, by decide +kernel⟩
theorem alT : Alone wT := ⟨by decide +kernel, by decide +kernel, by decide +kernel, by decide +kernel⟩
theorem alN : Alone wN := ⟨by decide +kernel, by decide +kernel, by decide +kernel, by decide +kernel⟩
theorem boS (c : Int) : BarOk bS wS c 0 := ⟨alS, by decide +kernel, by decide +kernel, by decide +kernel, by decide +kernel, by decide +kernel, .inl ⟨by decide +kernel, by decide⟩⟩
theorem boT (c : Int) : BarOk bT wT c c := ⟨alT, by decide +kernel, by decide +kernel, by decide +kernel, by decide +kernel, by decide +kernel, .inr ⟨by decide +kernel, rfl⟩⟩
theorem boN (c : Int) : BarOk bN wN c c := ⟨alN, by decide +kernel, by decide +kernel, by decide +kernel, by decide +kernel, by decide +kernel, .inr ⟨by decide +kernel, rfl⟩⟩
/-- the starts are right -/
structure St (H : Hp) (s : V) (q : Addr) (xs : List V) : Prop where
  es : s = .ref q
  hq : H q = some (.tup xs)
  l1 : 1 ≤ xs.length
  l4 : xs.length ≤ 4
  rs : ∀ x ∈ xs, Right H wS 0 x
inductive BadP (H : Hp) (s t y n : V) : V → Prop
  | starts (no : ∀ q xs, ¬ St H s q xs) : BadP H s t y n (.str "starts")
  | to (q : Addr) (xs : List V) (st : St H s q xs) (no : ¬ Right H wT xs.length t) : BadP H s t y n (.str "to")
  | say (q : Addr) (xs : List V) (st : St H s q xs) (rt : Right H wT xs.length t) (no : ¬ Right H wT xs.length y) : BadP H s t y n (.str "say")
  | nexts (q : Addr) (xs : List V) (st : St H s q xs) (rt : Right H wT xs.length t) (ry : Right H wT xs.length y) (no : ∀ q' ns, n = .ref q' → H q' = some (.tup ns) → ns.length = xs.length → (∀ x ∈ ns, Right H wN xs.length x) → False) : BadP H s t y n (.str "nexts")
structure FineP (H : Hp) (s t y n : V) : Prop where
  ex : ∃ (q : Addr) (xs : List V) (q' : Addr) (ns : List V), St H s q xs ∧ Right H wT xs.length t ∧ Right H wT xs.length y ∧ n = .ref q' ∧ H q' = some (.tup ns) ∧ ns.length = xs.length ∧ ∀ x ∈ ns, Right H wN xs.length x
theorem St.uniq {H : Hp} {s : V} {q q' : Addr} {xs xs' : List V} (h : St H s q xs) (g : St H s q' xs') : xs = xs' := by
  have e := h.es.symm.trans g.es
  cases e
  have z := h.hq.symm.trans g.hq
  simpa using z
theorem BadP.uniq {H : Hp} {s t y n r r' : V} (h : BadP H s t y n r) (g : BadP H s t y n r') : r = r' := by
  cases h with
  | starts no => cases g with
    | starts => rfl
    | to q xs st => exact (no _ _ st).elim
    | say q xs st => exact (no _ _ st).elim
    | nexts q xs st => exact (no _ _ st).elim
  | to q xs st no => cases g with
    | starts no' => exact (no' _ _ st).elim
    | to => rfl
    | say q' xs' st' rt => cases st.uniq st'; exact (no rt).elim
    | nexts q' xs' st' rt => cases st.uniq st'; exact (no rt).elim
  | say q xs st rt no => cases g with
    | starts no' => exact (no' _ _ st).elim
    | to q' xs' st' no' => cases st.uniq st'; exact (no' rt).elim
    | say => rfl
    | nexts q' xs' st' rt' ry => cases st.uniq st'; exact (no ry).elim
  | nexts q xs st rt ry no => cases g with
    | starts no' => exact (no' _ _ st).elim
    | to q' xs' st' no' => cases st.uniq st'; exact (no' rt).elim
    | say q' xs' st' _ no' => cases st.uniq st'; exact (no' ry).elim
    | nexts => rfl
theorem FineP.not_bad {H : Hp} {s t y n r : V} (h : FineP H s t y n) (g : BadP H s t y n r) : False := by
  obtain ⟨q, xs, q', ns, st, rt, ry, en, hn, ln, rn⟩ := h.ex
  cases g with
  | starts no => exact no _ _ st
  | to q' xs' st' no => cases st.uniq st'; exact no rt
  | say q' xs' st' _ no => cases st.uniq st'; exact no ry
  | nexts q2 xs' st' _ _ no => cases st.uniq st'; exact no _ _ en hn ln rn
structure PreP (H : Hp) (s t y n : V) : Prop where
  s : Wh H s
  t : Wh H t
  y : Wh H y
  n : Wh H n
theorem PreP.same {H H' : Hp} {s t y n : V} (h : PreP H s t y n) (z : Same H H') : PreP H' s t y n := ⟨h.s.same z, h.t.same z, h.y.same z, h.n.same z⟩
theorem tup_back {H H' : Hp} {u : V} (k : Kd H u) (s : Same H H') {q : Addr} (e : u = .ref q) {ys : List V} (h : H' q = some (.tup ys)) : H q = some (.tup ys) := by
  rw [e] at k
  obtain ⟨o, eo⟩ := k.at_
  have z := s _ _ eo
  rw [h] at z
  rw [eo, z]
theorem st_iff {H H' : Hp} {s : V} {q : Addr} {xs : List V} (w : Wh H s) (z : Same H H') : St H s q xs ↔ St H' s q xs := by
  constructor
  · intro h
    have e := h.es
    subst e
    have it := (w.items h.hq).2
    exact ⟨rfl, z _ _ h.hq, h.l1, h.l4, fun x hx => (right_iff (it x hx) z).mp (h.rs x hx)⟩
  · intro h
    have hq := tup_back w.kd z h.es h.hq
    have e := h.es
    subst e
    have it := (w.items hq).2
    exact ⟨rfl, hq, h.l1, h.l4, fun x hx => (right_iff (it x hx) z).mpr (h.rs x hx)⟩
theorem BadP.back {H H' : Hp} {s t y n r : V} (p : PreP H s t y n) (z : Same H H') (h : BadP H' s t y n r) : BadP H s t y n r := by
  cases h with
  | starts no => exact .starts fun q xs st => no q xs ((st_iff p.s z).mp st)
  | to q xs st no => exact .to q xs ((st_iff p.s z).mpr st) fun h => no ((right_iff p.t z).mp h)
  | say q xs st rt no => exact .say q xs ((st_iff p.s z).mpr st) ((right_iff p.t z).mpr rt) fun h => no ((right_iff p.y z).mp h)
  | nexts q xs st rt ry no => exact .nexts q xs ((st_iff p.s z).mpr st) ((right_iff p.t z).mpr rt) ((right_iff p.y z).mpr ry) fun q' ns e hn hl hr => no q' ns e (z _ _ hn) hl fun x hx => (right_iff (((show Wh H (.ref q') from e ▸ p.n).items hn).2 x hx) z).mp (hr x hx)
theorem FineP.back {H H' : Hp} {s t y n : V} (p : PreP H s t y n) (z : Same H H') (h : FineP H' s t y n) : FineP H s t y n := by
  obtain ⟨q, xs, q', ns, st, rt, ry, en, hn, ln, rn⟩ := h.ex
  have hn' := tup_back p.n.kd z en hn
  have w := p.n
  rw [en] at w
  exact ⟨q, xs, q', ns, (st_iff p.s z).mpr st, (right_iff p.t z).mpr rt, (right_iff p.y z).mpr ry, en, hn', ln, fun x hx => (right_iff ((w.items hn').2 x hx) z).mpr (rn x hx)⟩
theorem FineP.same {H H' : Hp} {s t y n : V} (p : PreP H s t y n) (z : Same H H') (h : FineP H s t y n) : FineP H' s t y n := by
  obtain ⟨q, xs, q', ns, st, rt, ry, en, hn, ln, rn⟩ := h.ex
  have w := p.n
  rw [en] at w
  exact ⟨q, xs, q', ns, (st_iff p.s z).mp st, (right_iff p.t z).mp rt, (right_iff p.y z).mp ry, en, z _ _ hn, ln, fun x hx => (right_iff ((w.items hn).2 x hx) z).mp (rn x hx)⟩
/-! ### a program's attributes -/
def pf (s t y n : V) : List (Str × V) := putF "nexts" n (putF "say" y (putF "to" t (putF "starts" s [])))
theorem pf_starts (s t y n : V) : (pf s t y n).lookup ("starts" : Str) = some s := by
  unfold pf
  rw [lookup_putF, if_neg (by decide +kernel), lookup_putF, if_neg (by decide +kernel), lookup_putF, if_neg (by decide +kernel), lookup_putF, if_pos rfl]
theorem pf_to (s t y n : V) : (pf s t y n).lookup ("to" : Str) = some t := by
  unfold pf
  rw [lookup_putF, if_neg (by decide +kernel), lookup_putF, if_neg (by decide +kernel), lookup_putF, if_pos rfl]
theorem pf_say (s t y n : V) : (pf s t y n).lookup ("say" : Str) = some y := by
  unfold pf
  rw [lookup_putF, if_neg (by decide +kernel), lookup_putF, if_pos rfl]
theorem pf_nexts (s t y n : V) : (pf s t y n).lookup ("nexts" : Str) = some n := by
  unfold pf
  rw [lookup_putF, if_pos rfl]
end Q

namespace Q
open PySem L2
/-- what the top says of Program -/
structure PTxt (K : PySem.W.Frag) (mg : Str → Option Value) (C : Addr) : Prop where
  cl : Cls K C
  nS : NoAttr K C "starts"
  nT : NoAttr K C "to"
  nY : NoAttr K C "say"
  nN : NoAttr K C "nexts"
  mgC : mg "Program" = some (.ref C)
  kS : ∃ a, mg "NOT_IN_STARTS" = some (.ref a) ∧ KTup K a (bS.map V.str)
  kT : ∃ a, mg "NOT_IN_SAYINGS" = some (.ref a) ∧ KTup K a (bT.map V.str)
  kN : ∃ a, mg "NOT_IN_NEXTS" = some (.ref a) ∧ KTup K a (bN.map V.str)
/-- the defs that a program leans on -/
structure PDefs (K : PySem.W.Frag) (mg : Str → Option Value) where
  fP : Addr
  dP : FuncData
  DP : Df K mg "is_plain_int" sPlain ["thing"] fP dP
  fN : Addr
  dN : FuncData
  DN : Df K mg "is_number_below" sNum ["limit", "thing"] fN dN
  fS : Addr
  dS : FuncData
  DS : Df K mg "is_small" sSmall ["thing"] fS dS
  fB : Addr
  dB : FuncData
  DB : Df K mg "begins_well" sBegins ["barred", "cells", "thing"] fB dB
  fI : Addr
  dI : FuncData
  DI : Df K mg "inner_parts" sInner ["expression"] fI dI
  fE : Addr
  dE : FuncData
  DE : Df K mg "is_expression" sIsEx ["barred", "cells", "thing"] fE dE
  fA : Addr
  dA : FuncData
  DA : Df K mg "are_expressions" sAre ["barred", "cells", "things"] fA dA
/-- the names that stand for built-ins, and the limits -/
structure Oth (K : PySem.W.Frag) (w : World) (mg : Str → Option Value) : Prop where
  str : mg "str" = none
  all : mg "all" = none
  zip : mg "zip" = none
  parts : Parts K w mg
  lim : Lim mg
def spProgX (C CB : Addr) : Sp := fun vs H Q E => ∃ (p dx : Addr) (s t y n : V), vs = [.ref p, s, t, y, n] ∧ H p = some (.ins C dx []) ∧ PreP H s t y n ∧
  (∀ r d H', BadP H s t y n r → H' d = some (xdP r) → Same H H' → E (.ref CB) (some d) H') ∧ (FineP H s t y n → ∀ H', H' p = some (.ins C dx (pf s t y n)) → Ext p H H' → Q .non H')
theorem passF {X : Cx} : Passes (L2.CX X.prog X.w) X (fun _ _ _ => False) := fun _ _ _ _ _ _ _ h => by
  obtain ⟨_, _, _, _, _, _, _, _, _, _, _, _, _, _, z⟩ := h
section
variable {P : Program} {w : World} {K : PySem.W.Frag} {mg : Str → Option Value} {base : Heap}
theorem scProg : FnScope ["self", "starts", "to", "say", "nexts", "cells"] ["self", "starts", "to", "say", "nexts"] (defScope sProg) := ⟨rfl, rfl, rfl, by decide +kernel, rfl, by decide +kernel, by decide +kernel⟩
theorem ok_progX {f C CB fI : Addr} {fd fdI : FuncData} (F : Fun K "__init__" "Program.__init__" sProg f fd) (B : Bts mg) (O : Oth K w mg) (T : PTxt K mg C) (D : PDefs K mg) (BT : BTxt K mg CB fI fdI) : FnOk P w K mg base (L2.CX P w) 6 f fd ["self", "starts", "to", "say", "nexts"] (spProgX C CB) := by
  have GE : FnOk P w K mg base CX0 4 D.fE D.dE ["barred", "cells", "thing"] (spIsEx K) := ok_isex D.DE.F B O.str O.parts O.lim D.DP D.DN D.DS D.DB D.DI
  have GA : FnOk P w K mg base CX0 5 D.fA D.dA ["barred", "cells", "things"] (spAre K) := ok_are D.DA.F O.all D.DE GE
  have GI : FnOk P w K mg base CX0 1 fI fdI ["self", "part"] (spPart CB) := ok_part BT B
  obtain ⟨aS, gS, kS⟩ := T.kS
  obtain ⟨aT, gT, kT⟩ := T.kT
  obtain ⟨aN, gN, kN⟩ := T.kN
  obtain ⟨tm, hmost⟩ := O.lim.starts
  refine F.okX scProg (fun vs H Q E h => ?_) (fun cdv A outer s0 H vs Q E hr h => ?_)
  · obtain ⟨p, dx, s, t, y, n, rfl, _⟩ := h
    rfl
  · obtain ⟨p, dx, s, t, y, n, rfl, hp, pre, kE, k⟩ := h
    have nd := scProg.nd
    have hr2 : Room 2 _ := hr.mono (by decide)
    have hr4 : Room 4 _ := hr.mono (by decide)
    refine ⟨_, pss_cons (ps_if (PW.pt (pw_or (pt_not (pt_val (pe_callB call_isi (by rfl) B.isinstance PyProof.Rows.boot_isinstance (pa_cons (pv 1) (pa_cons (pe_bltn (v := .ty "tuple") rfl B.tuple PyProof.Rows.boot_tuple rfl) pa_nil)))))
        (pw_or1 (pt_not (pt_chain op_le op_le pe_int (pe_callB call_len_seq (by rfl) B.len PySem.boot_len (pa_cons (pv 1) pa_nil)) (pe_glob (v := .int 4) rfl hmost ⟨_, rfl⟩)))))) (pss_one (ps_raise rfl (takes_of rfl rfl rfl rfl) (pmk_oex BT.ox BT.iC BT.tI GI hr2 BT.b .nil pass0 rfl BT.g (pa_cons pe_str pa_nil)))) pss_nil)
      (pss_cons (ps_set (i := 5) nd rfl (.inl rfl) (pe_callB call_len_seq (by rfl) B.len PySem.boot_len (pa_cons (pv 1) pa_nil)))
      (pss_cons (ps_if (pt_not (pt_val (pe_call GA hr rfl D.DA.m D.DA.k D.DA.b .nil pass0 (pa_cons (pe_glob (v := .ref aS) rfl gS rfl) (pa_cons (pv 5) (pa_cons (pv 1) pa_nil)))))) (pss_one (ps_raise rfl (takes_of rfl rfl rfl rfl) (pmk_oex BT.ox BT.iC BT.tI GI hr2 BT.b .nil pass0 rfl BT.g (pa_cons pe_str pa_nil)))) pss_nil)
      (pss_cons (ps_if (pt_not (pt_val (pe_call GE hr4 rfl D.DE.m D.DE.k D.DE.b .nil pass0 (pa_cons (pe_glob (v := .ref aT) rfl gT rfl) (pa_cons (pv 5) (pa_cons (pv 2) pa_nil)))))) (pss_one (ps_raise rfl (takes_of rfl rfl rfl rfl) (pmk_oex BT.ox BT.iC BT.tI GI hr2 BT.b .nil pass0 rfl BT.g (pa_cons pe_str pa_nil)))) pss_nil)
      (pss_cons (ps_if (pt_not (pt_val (pe_call GE hr4 rfl D.DE.m D.DE.k D.DE.b .nil pass0 (pa_cons (pe_glob (v := .ref aT) rfl gT rfl) (pa_cons (pv 5) (pa_cons (pv 3) pa_nil)))))) (pss_one (ps_raise rfl (takes_of rfl rfl rfl rfl) (pmk_oex BT.ox BT.iC BT.tI GI hr2 BT.b .nil pass0 rfl BT.g (pa_cons pe_str pa_nil)))) pss_nil)
      (pss_cons (ps_if (PW.pt (pw_or (pt_not (pt_val (pe_callB call_isi (by rfl) B.isinstance PyProof.Rows.boot_isinstance (pa_cons (pv 4) (pa_cons (pe_bltn (v := .ty "tuple") rfl B.tuple PyProof.Rows.boot_tuple rfl) pa_nil)))))
        (pw_or1 (pt_cmpR op_ne (pe_callB call_len_seq (by rfl) B.len PySem.boot_len (pa_cons (pv 4) pa_nil)) (pv 5) (nomark _))))) (pss_one (ps_raise rfl (takes_of rfl rfl rfl rfl) (pmk_oex BT.ox BT.iC BT.tI GI hr2 BT.b .nil pass0 rfl BT.g (pa_cons pe_str pa_nil)))) pss_nil)
      (pss_cons (ps_if (pt_not (pt_val (pe_call GA hr rfl D.DA.m D.DA.k D.DA.b .nil pass0 (pa_cons (pe_glob (v := .ref aN) rfl gN rfl) (pa_cons (pv 5) (pa_cons (pv 4) pa_nil)))))) (pss_one (ps_raise rfl (takes_of rfl rfl rfl rfl) (pmk_oex BT.ox BT.iC BT.tI GI hr2 BT.b .nil pass0 rfl BT.g (pa_cons pe_str pa_nil)))) pss_nil)
      (pss_cons (ps_fld (pv 0) (pv 1) rfl)
      (pss_cons (ps_fld (pv 0) (pv 2) rfl)
      (pss_cons (ps_fld (pv 0) (pv 3) rfl)
      (pss_one (ps_fld (pv 0) (pv 4) rfl))))))))))), ?_⟩
    have rs : Same H H := fun _ _ e => e
    obtain ⟨ts, bs0, tys, kts, hs⟩ := pre.s.kd.tyT (K := K)
    refine ⟨_, rfl, s, .ty "tuple", ts, .type "tuple", bs0, rfl, .ty _, tys, kts, _, rfl, ?_⟩
    rcases hs with ⟨rfl, q, xs, rfl, hq⟩ | ⟨rfl, no⟩
    rotate_left
    · refine iteT ?_
      exact bad_raise rs fun d H' e s1 => kE _ d H' (.starts fun q xs st => no q xs st.es st.hq) e s1
    have its := (pre.s.items hq)
    refine iteF ⟨_, rfl, q, xs, rfl, .inr (SqT.of hq), _, _, rfl, rfl, _, rfl, ite2 (fun c1 => ?_) (fun c1 => ?_)⟩
    rotate_left
    · refine ⟨_, rfl, iteT ?_⟩
      exact bad_raise rs fun d H' e s1 => kE _ d H' (.starts fun q' xs' st => c1 (decide_eq_true (by
        have e1 := st.es
        cases e1
        have z := st.hq
        rw [hq] at z
        cases z
        have := st.l1
        omega))) e s1
    have l1 : 1 ≤ xs.length := by
      have := of_decide_eq_true c1
      omega
    refine ⟨_, _, rfl, rfl, _, rfl, ite2 (fun c2 => ?_) (fun c2 => ?_)⟩
    · have no4 : ¬ xs.length ≤ 4 := fun z => by
        rw [decide_eq_true (show ((xs.length : Nat) : Int) ≤ 4 by omega)] at c2
        exact absurd c2 (by decide)
      exact bad_raise rs fun d H' e s1 => kE _ d H' (.starts fun q' xs' st => by
        have e1 := st.es
        cases e1
        have z := st.hq
        rw [hq] at z
        cases z
        exact no4 st.l4) e s1
    have l4 : xs.length ≤ 4 := by
      by_cases z : ((xs.length : Nat) : Int) ≤ 4
      · omega
      · rw [decide_eq_false z] at c2
        exact absurd rfl c2
    refine ⟨_, rfl, q, xs, rfl, .inr (SqT.of hq), ?_⟩
    refine ⟨_, rfl, _, rfl, aS, bS, wS, _, 0, q, xs, rfl, kS, boS _, hq, its.1, its.2, fun b H1 s1 hb => ⟨_, rfl, ?_⟩⟩
    cases b with
    | false =>
      refine iteT ?_
      exact bad_raise s1 fun d H' e s2 => kE _ d H' (.starts fun q' xs' st => by
        have e1 := st.es
        cases e1
        have z := st.hq
        rw [hq] at z
        cases z
        exact Bool.false_ne_true (hb.mpr st.rs)) e s2
    | true =>
    have st : St H (.ref q) q xs := ⟨rfl, hq, l1, l4, hb.mp rfl⟩
    refine iteF ⟨_, rfl, _, rfl, aT, bT, wT, _, _, t, rfl, kT, boT _, pre.t.same s1, fun b H2 s2 hb2 => ⟨_, rfl, ?_⟩⟩
    rw [← right_iff pre.t s1] at hb2
    cases b with
    | false =>
      refine iteT ?_
      exact bad_raise (sT s1 s2) fun d H' e s3 => kE _ d H' (.to q xs st fun z => Bool.false_ne_true (hb2.mpr z)) e s3
    | true =>
    have rt := hb2.mp rfl
    refine iteF ⟨_, rfl, _, rfl, aT, bT, wT, _, _, y, rfl, kT, boT _, pre.y.same (sT s1 s2), fun b H3 s3 hb3 => ⟨_, rfl, ?_⟩⟩
    rw [← right_iff pre.y (sT s1 s2)] at hb3
    have s03 := sT (sT s1 s2) s3
    cases b with
    | false =>
      refine iteT ?_
      exact bad_raise s03 fun d H' e s4 => kE _ d H' (.say q xs st rt fun z => Bool.false_ne_true (hb3.mpr z)) e s4
    | true =>
    have ry := hb3.mp rfl
    obtain ⟨tn, bn0, tyn, ktn, hn⟩ := (pre.n.same s03).kd.tyT (K := K)
    refine iteF ⟨_, rfl, n, .ty "tuple", tn, .type "tuple", bn0, rfl, .ty _, tyn, ktn, _, rfl, ?_⟩
    rcases hn with ⟨rfl, q', ns, rfl, hq'⟩ | ⟨rfl, no⟩
    rotate_left
    · refine iteT ?_
      exact bad_raise s03 fun d H' e s4 => kE _ d H' (.nexts q xs st rt ry fun q' ns e hn _ _ => no q' ns e (s03 _ _ hn)) e s4
    have hq0 := tup_back pre.n.kd s03 rfl hq'
    have itn := pre.n.items hq0
    refine iteF ⟨_, rfl, q', ns, rfl, .inr (SqT.of hq'), _, rfl, rfl, _, rfl, ite2 (fun c => ?_) (fun c => ?_)⟩
    · exact bad_raise s03 fun d H' e s4 => kE _ d H' (.nexts q xs st rt ry fun q2 ns2 e hn hl _ => by
        cases e
        rw [hq0] at hn
        cases hn
        rw [hl, decide_eq_true rfl] at c
        exact absurd c (by decide)) e s4
    have ln : ns.length = xs.length := by
      by_cases z : ns.length = xs.length
      · exact z
      · rw [decide_eq_false (fun e => z (by
          have z2 := V.int.inj e
          omega))] at c
        exact absurd rfl c
    refine ⟨_, rfl, _, rfl, aN, bN, wN, _, _, q', ns, rfl, kN, boN _, hq', itn.1, wh_same itn.2 s03, fun b H4 s4 hb4 => ⟨_, rfl, ?_⟩⟩
    have s04 := sT s03 s4
    have iff4 : b = true ↔ ∀ x ∈ ns, Right H wN xs.length x := hb4.trans ⟨fun h x hx => (right_iff (itn.2 x hx) s03).mpr (h x hx), fun h x hx => (right_iff (itn.2 x hx) s03).mp (h x hx)⟩
    cases b with
    | false =>
      refine iteT ?_
      exact bad_raise s04 fun d H' e s5 => kE _ d H' (.nexts q xs st rt ry fun q2 ns2 e hn _ hr => by
        cases e
        rw [hq0] at hn
        cases hn
        exact Bool.false_ne_true (iff4.mpr hr)) e s5
    | true =>
    have rn := iff4.mp rfl
    refine iteF ⟨_, rfl, _, rfl, p, C, dx, _, rfl, s04 _ _ hp, T.cl, T.nS, (by show 0 < 1000; decide), ?_⟩
    refine ⟨_, rfl, _, rfl, p, C, dx, _, rfl, upd_same, T.cl, T.nT, (by show 1 < 1000; decide), ?_⟩
    refine ⟨_, rfl, _, rfl, p, C, dx, _, rfl, upd_same, T.cl, T.nY, (by show 2 < 1000; decide), ?_⟩
    refine ⟨_, rfl, _, rfl, p, C, dx, _, rfl, upd_same, T.cl, T.nN, (by show 3 < 1000; decide), ?_⟩
    refine k ⟨q, xs, q', ns, st, rt, ry, rfl, hq0, ln, rn⟩ _ upd_same fun b o e nb => ?_
    rw [upd_ne nb, upd_ne nb, upd_ne nb, upd_ne nb]
    exact s04 _ _ e
end
end Q

namespace Q
open PySem L2
abbrev sInt : Stmt := top 9999
abbrev sWords : Stmt := top 9999
def spWords : Sp := fun vs H Q _ => ∃ (z : Str) (W : List Str), vs = [.str z] ∧ ((z = "starts" ∧ W = wS) ∨ (z = "nexts" ∧ W = wN) ∨ ((z = "to" ∨ z = "say") ∧ W = wT)) ∧ ∀ l H', Same H H' → H l = none → H' l = some (.lst (W.map V.str)) → Q (.ref l) H'
theorem paired_of {R : V → Nat → Prop} : ∀ {xs : List V}, (∀ x ∈ xs, ∃ k, R x k) → ∃ as, Paired R xs as
  | [], _ => ⟨[], .nil⟩
  | x :: r, h => by
    obtain ⟨k, hk⟩ := h x List.mem_cons_self
    obtain ⟨as, p⟩ := paired_of (xs := r) fun y hy => h y (List.mem_cons_of_mem _ hy)
    exact ⟨k :: as, .cons hk p⟩
theorem pw_nev {X : Cx} {e : Expr} : PW X e (fun _ _ _ => False) := ⟨fun _ _ _ _ _ _ _ h => h.elim⟩
theorem paired_left {R : V → Nat → Prop} {xs : List V} {as : List Nat} (p : Paired R xs as) : ∀ x ∈ xs, ∃ k, R x k := by
  induction p with
  | nil => exact fun x hx => absurd hx List.not_mem_nil
  | cons h _ ih => exact fun x hx => (List.mem_cons.mp hx).elim (fun e => by subst e; exact ⟨_, h⟩) (ih x)
theorem pe_fldO {X : Cx} {e : Expr} {f : Str} {pos : Pos} {ta : TE} {K0 : PySem.W.Frag} (hK : X.K = K0) (he : PE X e ta) (hb : attributeBase e f X.env (eval e X.env) = eval e X.env) : PE X (.Attribute e f pos) (tFld K0 ta f) := by
  subst hK
  exact pe_fld he hb
section
variable {P : Program} {w : World} {K : PySem.W.Frag} {mg : Str → Option Value} {base : Heap}
end
end Q

namespace Q
open PySem L2
abbrev sLeaf : Stmt := top 9999
abbrev sExpr : Stmt := top 93
/-- what stood stands; lists may have become others -/
def Grow (H H' : Hp) : Prop := ∀ a o, H a = some o → H' a = some o ∨ ∃ xs ys, o = .lst xs ∧ H' a = some (.lst ys)
theorem Grow.of_same {H H' : Hp} (s : Same H H') : Grow H H' := fun a o e => .inl (s a o e)
theorem Grow.of_ext {H H' : Hp} {p l : Addr} (g : HandAt H p l) (g' : HandAt H' p l) (s : Ext p H H') : Grow H H' := fun a o e => by
  by_cases c : a = p
  · obtain ⟨xs, e1⟩ := g.hp
    obtain ⟨ys, e2⟩ := g'.hp
    rw [c] at e ⊢
    rw [e1] at e
    exact .inr ⟨_, _, (Option.some.inj e).symm, e2⟩
  · exact .inl (s a o e c)
theorem Grow.trans {H H1 H2 : Hp} (a : Grow H H1) (b : Grow H1 H2) : Grow H H2 := fun c o e => by
  rcases a c o e with e1 | ⟨xs, ys, rfl, e1⟩
  · exact b c o e1
  · rcases b c _ e1 with e2 | ⟨xs', ys', e', e2⟩
    · exact .inr ⟨xs, ys, rfl, e2⟩
    · exact .inr ⟨xs, ys', rfl, e2⟩
theorem Grow.upd {H : Hp} {D : Addr} {xs ys : List V} (e : H D = some (.lst xs)) : Grow H (L2.upd H D (.lst ys)) := fun a o e' => by
  by_cases c : a = D
  · rw [c] at e' ⊢
    rw [e] at e'
    exact .inr ⟨xs, ys, (Option.some.inj e').symm, upd_same⟩
  · exact .inl (by rw [upd_ne c]; exact e')
theorem Grow.tup {H H' : Hp} (g : Grow H H') {a : Addr} {xs : List V} (e : H a = some (.tup xs)) : H' a = some (.tup xs) := by
  rcases g a _ e with e1 | ⟨_, _, z, _⟩
  · exact e1
  · cases z
theorem Kd.grow {H H' : Hp} {v : V} (h : Kd H v) (g : Grow H H') : Kd H' v := by
  cases h with
  | int i => exact .int i
  | non => exact .non
  | bl b => exact .bl b
  | str z => exact .str z
  | tup e => exact .tup (g.tup e)
  | lst e =>
    rcases g _ _ e with e1 | ⟨_, _, _, e1⟩
    · exact .lst e1
    · exact .lst e1
  | dk e =>
    rcases g _ _ e with e1 | ⟨_, _, z, _⟩
    · exact .dk e1
    · cases z
theorem Kt.grow {H H' : Hp} (g : Grow H H') : ∀ {n : Nat} {v : V}, Kt H n v → Kt H' n v
  | 0, _, _ => trivial
  | n + 1, v, h => ⟨⟨h.1.1.grow g, h.1.2⟩, fun a xs e1 e2 => by
    subst e1
    obtain ⟨o, eo⟩ := h.1.1.at_
    rcases g a o eo with e3 | ⟨_, _, _, e3⟩
    · rw [e2] at e3
      cases e3
      obtain ⟨h1, h2⟩ := h.2 a xs rfl eo
      exact ⟨h1, fun x hx => (h2 x hx).grow g⟩
    · rw [e2] at e3
      cases e3⟩
theorem Wh.grow {H H' : Hp} {v : V} (h : Wh H v) (g : Grow H H') : Wh H' v := fun n => (h n).grow g
theorem TS.grow {H H' : Hp} {W : List Str} {c : Int} (g : Grow H H') : ∀ {n : Nat} {v : V} {k : Nat}, TS H W c n v k → TS H' W c n v k
  | 0, _, _, h => h.elim
  | n + 1, v, k, ⟨ks, ⟨a, s, r, e1, e2, h⟩, szs, p, e⟩ => ⟨ks, ⟨a, s, r, e1, g.tup e2, h⟩, szs, paired_mono (fun x k _ h => h.grow g) p, e⟩
/-- words that are drawn from -/
structure WOk (W : List Str) : Prop where
  al : Alone W
  ne : 0 < W.length
  few : W.length < 100
  txt : ∀ s ∈ W, s ∈ txtL
def PreE (H : Hp) (p l wl : Addr) (W : List Str) (c : Int) : Prop := HandAt H p l ∧ H wl = some (.lst (W.map V.str)) ∧ wl ≠ p ∧ WOk W ∧ 0 ≤ c ∧ c ≤ 4
def spLeaf : Sp := fun vs H Q _ => ∃ (p l wl : Addr) (W : List Str) (c : Int), vs = [.ref p, .ref wl, .int c] ∧ PreE H p l wl W c ∧ ∀ v H', HandAt H' p l → Ext p H H' → Wh H' v → TS H' W c 1 v 1 → Q v H'
def bnd : Nat → Nat
  | 0 => 0
  | n + 1 => 1 + 3 * bnd n
def spExpr (d : Nat) : Sp := fun vs H Q _ => ∃ (p l wl : Addr) (W : List Str) (c : Int), vs = [.ref p, .ref wl, .int c, .int (d : Int)] ∧ PreE H p l wl W c ∧ ∀ v H' k, HandAt H' p l → Ext p H H' → Wh H' v → TS H' W c d v k → k ≤ bnd d → Q v H'
section
variable {P : Program} {w : World} {K : PySem.W.Frag} {mg : Str → Option Value} {base : Heap}
end
end Q

namespace Q
open PySem L2
theorem Right.grow {H H' : Hp} {W : List Str} {c : Int} {v : V} (h : Right H W c v) (g : Grow H H') : Right H' W c v := let ⟨k, h, l⟩ := h; ⟨k, h.grow g, l⟩
end Q

namespace Q
open PySem L2
/-! ### min, max with default=, sum: of tuples and lists of ints -/
theorem maxOf_int : ∀ (ys : List Int) (y : Int), PySem.W.maxOf y ys ∈ y :: ys ∧ ∀ x ∈ y :: ys, x ≤ PySem.W.maxOf y ys
  | [], y => ⟨List.mem_singleton.mpr rfl, fun x hx => by rw [List.mem_singleton.mp hx]; exact Int.le_refl _⟩
  | z :: ys, y => by
    have e : PySem.W.maxOf y (z :: ys) = PySem.W.maxOf (if decide (y < z) = true then z else y) ys := rfl
    obtain ⟨h1, h2⟩ := maxOf_int ys (if decide (y < z) = true then z else y)
    rw [e]
    by_cases c : y < z
    · rw [decide_eq_true c, if_pos rfl] at h1 h2 ⊢
      refine ⟨List.mem_cons_of_mem _ h1, fun x hx => ?_⟩
      rcases List.mem_cons.mp hx with rfl | hx
      · have := h2 z List.mem_cons_self
        omega
      · exact h2 x hx
    · rw [decide_eq_false c, if_neg Bool.false_ne_true] at h1 h2 ⊢
      refine ⟨?_, fun x hx => ?_⟩
      · rcases List.mem_cons.mp h1 with h | h
        · rw [h]; exact List.mem_cons_self
        · exact List.mem_cons_of_mem _ (List.mem_cons_of_mem _ h)
      · rcases List.mem_cons.mp hx with rfl | hx
        · exact h2 _ List.mem_cons_self
        · rcases List.mem_cons.mp hx with rfl | hx
          · have := h2 y List.mem_cons_self
            omega
          · exact h2 x (List.mem_cons_of_mem _ hx)
/-- the least, d if there is none -/
def IsLeast (d : Int) (ns : List Int) (m : Int) : Prop := (ns = [] ∧ m = d) ∨ (m ∈ ns ∧ ∀ y ∈ ns, m ≤ y)
def IsMost (d : Int) (ns : List Int) (m : Int) : Prop := (ns = [] ∧ m = d) ∨ (m ∈ ns ∧ ∀ y ∈ ns, y ≤ m)
theorem IsLeast.uniq {d : Int} {ns : List Int} {m k : Int} (h : IsLeast d ns m) (g : IsLeast d ns k) : m = k := by
  rcases h with ⟨e, rfl⟩ | ⟨h1, h2⟩
  · rcases g with ⟨_, rfl⟩ | ⟨g1, _⟩
    · rfl
    · rw [e] at g1; exact absurd g1 List.not_mem_nil
  · rcases g with ⟨e, _⟩ | ⟨g1, g2⟩
    · rw [e] at h1; exact absurd h1 List.not_mem_nil
    · have := h2 k g1
      have := g2 m h1
      omega
theorem IsMost.uniq {d : Int} {ns : List Int} {m k : Int} (h : IsMost d ns m) (g : IsMost d ns k) : m = k := by
  rcases h with ⟨e, rfl⟩ | ⟨h1, h2⟩
  · rcases g with ⟨_, rfl⟩ | ⟨g1, _⟩
    · rfl
    · rw [e] at g1; exact absurd g1 List.not_mem_nil
  · rcases g with ⟨e, _⟩ | ⟨g1, g2⟩
    · rw [e] at h1; exact absurd h1 List.not_mem_nil
    · have := h2 k g1
      have := g2 m h1
      omega
def SqO (K : PySem.W.Frag) (H : Hp) (a : Addr) (xs : List V) : Prop := SqL K H a xs ∨ SqT K H a xs
def rMinD (K : PySem.W.Frag) : List V → List V → Hp → VK → Prop := fun vs zs H Q => ∃ (a : Addr) (ns : List Int) (d : Int), vs = [.ref a] ∧ zs = [.int d] ∧ SqO K H a (ns.map V.int) ∧ ∀ m, IsLeast d ns m → Q (.int m) H
def rMaxD (K : PySem.W.Frag) : List V → List V → Hp → VK → Prop := fun vs zs H Q => ∃ (a : Addr) (ns : List Int) (d : Int), vs = [.ref a] ∧ zs = [.int d] ∧ SqO K H a (ns.map V.int) ∧ ∀ m, IsMost d ns m → Q (.int m) H
def rSumO (K : PySem.W.Frag) : List V → Hp → VK → Prop := fun vs H Q => ∃ (a : Addr) (ns : List Int), vs = [.ref a] ∧ SqO K H a (ns.map V.int) ∧ Q (.int ns.sum) H
section
variable {X : Cx}
theorem least_of {d : Int} {ns : List Int} {y : Int} {ys : List Int} (e : ns = y :: ys) : IsLeast d ns (PySem.W.minOf y ys) := by
  subst e
  exact .inr (minOf_int ys y)
theorem most_of {d : Int} {ns : List Int} {y : Int} {ys : List Int} (e : ns = y :: ys) : IsMost d ns (PySem.W.maxOf y ys) := by
  subst e
  exact .inr (maxOf_int ys y)
theorem cr_minD (hc : X.calm = true) (hu : X.A.units + 64 < cLine) : CallRK X (.builtin "min") [Str.ofString "default"] (rMinD X.K) := by
  intro pins s σ H vs zs us ws Q I r rz h
  obtain ⟨a, ns, d, rfl, rfl, hs, q⟩ := h
  obtain rfl := Vals.ref1 r
  obtain ⟨w1, rfl, e1⟩ := vals1 rz
  obtain ⟨t, rfl⟩ : ∃ t, w1 = Value.int d t := e1
  have hd : X.A.units + 1 + PySem.W.Datum.depth Int < cLine := by
    have : PySem.W.Datum.depth Int ≤ 60 := by decide
    omega
  rcases hs with hs | hs
  · obtain ⟨its, rv, hl, hz⟩ := I.list hs
    refine PySem.W.min_list_datum_default (α := Int) (xs := ns) (I.ok.hd hc) hl.isList (PySem.W.HoldAll.of_ints (by simpa using rv.ints)) hd (fun e h' tk hk => ⟨.int d, H, I.kept hk, ⟨t, rfl⟩, q d (.inl ⟨e, rfl⟩)⟩) fun y ys i v h' tk e hi hv hk => ?_
    obtain ⟨t', rfl⟩ := PySem.W.int_of_holds hv
    exact ⟨.int _, H, I.kept hk, ⟨t', rfl⟩, q _ (least_of e)⟩
  · obtain ⟨its, rv, hl, hz⟩ := I.tuple hs
    refine PySem.W.min_tuple_datum_default (α := Int) (xs := ns) (I.ok.hd hc) hl (PySem.W.HoldAll.of_ints (by simpa using rv.ints)) hd (fun e h' tk hk => ⟨.int d, H, I.kept hk, ⟨t, rfl⟩, q d (.inl ⟨e, rfl⟩)⟩) fun y ys i v h' tk e hi hv hk => ?_
    obtain ⟨t', rfl⟩ := PySem.W.int_of_holds hv
    exact ⟨.int _, H, I.kept hk, ⟨t', rfl⟩, q _ (least_of e)⟩
theorem cr_maxD (hc : X.calm = true) (hu : X.A.units + 64 < cLine) : CallRK X (.builtin "max") [Str.ofString "default"] (rMaxD X.K) := by
  intro pins s σ H vs zs us ws Q I r rz h
  obtain ⟨a, ns, d, rfl, rfl, hs, q⟩ := h
  obtain rfl := Vals.ref1 r
  obtain ⟨w1, rfl, e1⟩ := vals1 rz
  obtain ⟨t, rfl⟩ : ∃ t, w1 = Value.int d t := e1
  have hd : X.A.units + 1 + PySem.W.Datum.depth Int < cLine := by
    have : PySem.W.Datum.depth Int ≤ 60 := by decide
    omega
  rcases hs with hs | hs
  · obtain ⟨its, rv, hl, hz⟩ := I.list hs
    refine PySem.W.max_list_datum_default (α := Int) (xs := ns) (I.ok.hd hc) hl.isList (PySem.W.HoldAll.of_ints (by simpa using rv.ints)) hd (fun e h' tk hk => ⟨.int d, H, I.kept hk, ⟨t, rfl⟩, q d (.inl ⟨e, rfl⟩)⟩) fun y ys i v h' tk e hi hv hk => ?_
    obtain ⟨t', rfl⟩ := PySem.W.int_of_holds hv
    exact ⟨.int _, H, I.kept hk, ⟨t', rfl⟩, q _ (most_of e)⟩
  · obtain ⟨its, rv, hl, hz⟩ := I.tuple hs
    refine PySem.W.max_tuple_datum_default (α := Int) (xs := ns) (I.ok.hd hc) hl (PySem.W.HoldAll.of_ints (by simpa using rv.ints)) hd (fun e h' tk hk => ⟨.int d, H, I.kept hk, ⟨t, rfl⟩, q d (.inl ⟨e, rfl⟩)⟩) fun y ys i v h' tk e hi hv hk => ?_
    obtain ⟨t', rfl⟩ := PySem.W.int_of_holds hv
    exact ⟨.int _, H, I.kept hk, ⟨t', rfl⟩, q _ (most_of e)⟩
theorem cr_sumO (hc : X.calm = true) : CallR X (.builtin "sum") (rSumO X.K) := by
  intro pins s σ H vs us Q I r h
  obtain ⟨a, ns, rfl, hs, q⟩ := h
  rcases hs with hs | hs
  · exact cr_sum hc pins s σ H _ us Q I r ⟨a, ns, rfl, hs, q⟩
  · obtain ⟨its, rv, hl, _⟩ := I.tuple hs
    rw [Vals.ref1 r]
    obtain ⟨xs, hx⟩ := rv.ints.allInts.items
    have hn : numsOf its.toArray.toList = ns := by rw [show its.toArray.toList = its by simp, rv.ints.numsOf]
    rw [hx] at hn
    rw [nums_intItems] at hn
    rw [hx] at hl
    refine PySem.W.ktm_sumG (I.ok.hd hc) hl fun h' tk t' hk => ?_
    rw [preSum_eq, List.take_of_length_le (by simp), hn]
    exact ⟨.int _, H, I.kept hk, ⟨_, rfl⟩, q⟩
end
end Q

namespace Q
open PySem L2
/-! ### small numbers, and the words of two expressions -/
def Sm (z : Int) : Prop := -2147483648 ≤ z ∧ z ≤ 2147483647
def bb (n : Int) : Int := (n + 2147483648) % 4294967296 - 2147483648
theorem bb_sm (n : Int) : Sm (bb n) := by
  have h0 : 0 ≤ (n + 2147483648) % 4294967296 := Int.emod_nonneg _ (by decide)
  have h1 : (n + 2147483648) % 4294967296 < 4294967296 := Int.emod_lt_of_pos _ (by decide)
  unfold Sm bb
  omega
theorem bb_div (n : Int) : n - 4294967296 * ((n + 2147483648) / 4294967296) = bb n := by
  have h := Int.emod_add_mul_ediv (n + 2147483648) 4294967296
  unfold bb
  omega
def opV (s : Str) (a b : Int) : Int :=
  if s = "add" then bb (a + b) else if s = "sub" then bb (a - b) else if s = "mul" then bb (a * b)
  else if s = "min" then (if b < a then b else a) else if s = "max" then (if b > a then b else a)
  else if s = "less" then (if a < b then 1 else 0) else if s = "same" then (if a = b then 1 else 0)
  else if s = "and" then (if a ≠ 0 ∧ b ≠ 0 then 1 else 0) else if s = "or" then (if a ≠ 0 ∨ b ≠ 0 then 1 else 0)
  else (if b > 0 then a % b else 0)
theorem opV_add (a b : Int) : opV "add" a b = bb (a + b) := if_pos rfl
theorem opV_sub (a b : Int) : opV "sub" a b = bb (a - b) := by unfold opV; rw [if_neg (by decide +kernel), if_pos rfl]
theorem opV_mul (a b : Int) : opV "mul" a b = bb (a * b) := by unfold opV; rw [if_neg (by decide +kernel), if_neg (by decide +kernel), if_pos rfl]
theorem opV_min (a b : Int) : opV "min" a b = (if b < a then b else a) := by unfold opV; rw [if_neg (by decide +kernel), if_neg (by decide +kernel), if_neg (by decide +kernel), if_pos rfl]
theorem opV_max (a b : Int) : opV "max" a b = (if b > a then b else a) := by unfold opV; rw [if_neg (by decide +kernel), if_neg (by decide +kernel), if_neg (by decide +kernel), if_neg (by decide +kernel), if_pos rfl]
theorem opV_less (a b : Int) : opV "less" a b = (if a < b then 1 else 0) := by unfold opV; rw [if_neg (by decide +kernel), if_neg (by decide +kernel), if_neg (by decide +kernel), if_neg (by decide +kernel), if_neg (by decide +kernel), if_pos rfl]
theorem opV_same (a b : Int) : opV "same" a b = (if a = b then 1 else 0) := by unfold opV; rw [if_neg (by decide +kernel), if_neg (by decide +kernel), if_neg (by decide +kernel), if_neg (by decide +kernel), if_neg (by decide +kernel), if_neg (by decide +kernel), if_pos rfl]
theorem opV_and (a b : Int) : opV "and" a b = (if a ≠ 0 ∧ b ≠ 0 then 1 else 0) := by unfold opV; rw [if_neg (by decide +kernel), if_neg (by decide +kernel), if_neg (by decide +kernel), if_neg (by decide +kernel), if_neg (by decide +kernel), if_neg (by decide +kernel), if_neg (by decide +kernel), if_pos rfl]
theorem opV_or (a b : Int) : opV "or" a b = (if a ≠ 0 ∨ b ≠ 0 then 1 else 0) := by unfold opV; rw [if_neg (by decide +kernel), if_neg (by decide +kernel), if_neg (by decide +kernel), if_neg (by decide +kernel), if_neg (by decide +kernel), if_neg (by decide +kernel), if_neg (by decide +kernel), if_neg (by decide +kernel), if_pos rfl]
theorem opV_rest (a b : Int) : opV "rest" a b = (if b > 0 then a % b else 0) := by unfold opV; rw [if_neg (by decide +kernel), if_neg (by decide +kernel), if_neg (by decide +kernel), if_neg (by decide +kernel), if_neg (by decide +kernel), if_neg (by decide +kernel), if_neg (by decide +kernel), if_neg (by decide +kernel), if_neg (by decide +kernel)]
theorem ops_cases {s : Str} (h : s ∈ opsL) : s = "add" ∨ s = "sub" ∨ s = "mul" ∨ s = "min" ∨ s = "max" ∨ s = "less" ∨ s = "same" ∨ s = "and" ∨ s = "or" ∨ s = "rest" := by
  simpa [opsL] using h
theorem opV_sm {s : Str} (h : s ∈ opsL) {a b : Int} (ha : Sm a) (hb : Sm b) : Sm (opV s a b) := by
  rcases ops_cases h with rfl | rfl | rfl | rfl | rfl | rfl | rfl | rfl | rfl | rfl
  · rw [opV_add]; exact bb_sm _
  · rw [opV_sub]; exact bb_sm _
  · rw [opV_mul]; exact bb_sm _
  · rw [opV_min]; split <;> assumption
  · rw [opV_max]; split <;> assumption
  · rw [opV_less]; split <;> (unfold Sm; omega)
  · rw [opV_same]; split <;> (unfold Sm; omega)
  · rw [opV_and]; split <;> (unfold Sm; omega)
  · rw [opV_or]; split <;> (unfold Sm; omega)
  · rw [opV_rest]
    split
    · rename_i c
      have h0 : 0 ≤ a % b := Int.emod_nonneg _ (by omega)
      have h1 : a % b < b := Int.emod_lt_of_pos _ (by omega)
      unfold Sm at hb ⊢
      omega
    · unfold Sm; omega
abbrev sBB : Stmt := top 23
abbrev sO1 : Stmt := top 24
abbrev sO2 : Stmt := top 25
abbrev sO3 : Stmt := top 26
abbrev sO4 : Stmt := top 27
abbrev sO5 : Stmt := top 28
abbrev sO6 : Stmt := top 29
abbrev sO7 : Stmt := top 30
abbrev sO8 : Stmt := top 31
abbrev sO9 : Stmt := top 32
abbrev sO10 : Stmt := top 33
def spBB : Sp := fun vs H Q _ => ∃ n : Int, vs = [.int n] ∧ Q (.int (bb n)) H
def spOp (s : Str) : Sp := fun vs H Q _ => ∃ a b : Int, vs = [.int a, .int b] ∧ Sm a ∧ Sm b ∧ Q (.int (opV s a b)) H
section
variable {P : Program} {w : World} {K : PySem.W.Frag} {mg : Str → Option Value} {base : Heap}
theorem dec_int' (a b : Int) : decide (V.int a = V.int b) = decide (a = b) := by
  by_cases c : a = b
  · rw [c, decide_eq_true rfl, decide_eq_true rfl]
  · rw [decide_eq_false c, decide_eq_false fun z => c (V.int.inj z)]
theorem scBB : FnScope ["number"] ["number"] (defScope sBB) := ⟨rfl, rfl, rfl, by decide +kernel, rfl, by decide +kernel, by decide +kernel⟩
theorem ok_bb {f : Addr} {fd : FuncData} (F : Fun K "brought_back" "brought_back" sBB f fd) : FnOk P w K mg base CX0 1 f fd ["number"] spBB := by
  refine F.ok scBB (fun vs H Q E h => ?_) (fun cdv A outer s H vs Q E hr h => ?_)
  · obtain ⟨n, rfl, _⟩ := h
    rfl
  · obtain ⟨n, rfl, k⟩ := h
    refine ⟨_, pss_one (ps_ret (pe_op op_sub (pe_op op_mod (pe_op op_add (pv 0) (pe_op op_pow pe_int pe_int)) (pe_op op_pow pe_int pe_int)) (pe_op op_pow pe_int pe_int))), ?_⟩
    refine ⟨_, rfl, _, _, rfl, rfl, ⟨by decide, by decide, by decide⟩, _, _, rfl, rfl, _, _, rfl, rfl, ⟨by decide, by decide, by decide⟩, _, _, rfl, rfl, (by show (0 : Int) < 2 ^ Int.toNat 32; decide), _, _, rfl, rfl, ⟨by decide, by decide, by decide⟩, _, _, rfl, rfl, ?_⟩
    have e1 : ((2 : Int) ^ (31 : Int).toNat) = 2147483648 := by decide
    have e2 : ((2 : Int) ^ (32 : Int).toNat) = 4294967296 := by decide
    rw [e1, e2]
    exact k
theorem scO1 : FnScope ["one", "other"] ["one", "other"] (defScope sO1) := ⟨rfl, rfl, rfl, by decide +kernel, rfl, by decide +kernel, by decide +kernel⟩
theorem scO2 : FnScope ["one", "other"] ["one", "other"] (defScope sO2) := ⟨rfl, rfl, rfl, by decide +kernel, rfl, by decide +kernel, by decide +kernel⟩
theorem scO3 : FnScope ["one", "other"] ["one", "other"] (defScope sO3) := ⟨rfl, rfl, rfl, by decide +kernel, rfl, by decide +kernel, by decide +kernel⟩
theorem scO4 : FnScope ["one", "other"] ["one", "other"] (defScope sO4) := ⟨rfl, rfl, rfl, by decide +kernel, rfl, by decide +kernel, by decide +kernel⟩
theorem scO5 : FnScope ["one", "other"] ["one", "other"] (defScope sO5) := ⟨rfl, rfl, rfl, by decide +kernel, rfl, by decide +kernel, by decide +kernel⟩
theorem scO6 : FnScope ["one", "other"] ["one", "other"] (defScope sO6) := ⟨rfl, rfl, rfl, by decide +kernel, rfl, by decide +kernel, by decide +kernel⟩
theorem scO7 : FnScope ["one", "other"] ["one", "other"] (defScope sO7) := ⟨rfl, rfl, rfl, by decide +kernel, rfl, by decide +kernel, by decide +kernel⟩
theorem scO8 : FnScope ["one", "other"] ["one", "other"] (defScope sO8) := ⟨rfl, rfl, rfl, by decide +kernel, rfl, by decide +kernel, by decide +kernel⟩
theorem scO9 : FnScope ["one", "other"] ["one", "other"] (defScope sO9) := ⟨rfl, rfl, rfl, by decide +kernel, rfl, by decide +kernel, by decide +kernel⟩
theorem scO10 : FnScope ["one", "other"] ["one", "other"] (defScope sO10) := ⟨rfl, rfl, rfl, by decide +kernel, rfl, by decide +kernel, by decide +kernel⟩
theorem ok_o1 {f fB : Addr} {fd dB : FuncData} (F : Fun K "sum_of" "sum_of" sO1 f fd) (DB : Df K mg "brought_back" sBB ["number"] fB dB) : FnOk P w K mg base CX0 2 f fd ["one", "other"] (spOp "add") := by
  have GB : FnOk P w K mg base CX0 1 fB dB ["number"] spBB := ok_bb DB.F
  refine F.ok scO1 (fun vs H Q E h => ?_) (fun cdv A outer s H vs Q E hr h => ?_)
  · obtain ⟨a, b, rfl, _⟩ := h
    rfl
  · obtain ⟨a, b, rfl, ha, hb, k⟩ := h
    refine ⟨_, pss_one (ps_ret (pe_call GB hr rfl DB.m DB.k DB.b .nil pass0 (pa_cons (pe_op op_add (pv 0) (pv 1)) pa_nil))), ?_⟩
    rw [opV_add] at k
    exact ⟨_, rfl, _, rfl, _, _, rfl, rfl, _, rfl, k⟩
theorem ok_o2 {f fB : Addr} {fd dB : FuncData} (F : Fun K "difference_of" "difference_of" sO2 f fd) (DB : Df K mg "brought_back" sBB ["number"] fB dB) : FnOk P w K mg base CX0 2 f fd ["one", "other"] (spOp "sub") := by
  have GB : FnOk P w K mg base CX0 1 fB dB ["number"] spBB := ok_bb DB.F
  refine F.ok scO2 (fun vs H Q E h => ?_) (fun cdv A outer s H vs Q E hr h => ?_)
  · obtain ⟨a, b, rfl, _⟩ := h
    rfl
  · obtain ⟨a, b, rfl, ha, hb, k⟩ := h
    refine ⟨_, pss_one (ps_ret (pe_call GB hr rfl DB.m DB.k DB.b .nil pass0 (pa_cons (pe_op op_sub (pv 0) (pv 1)) pa_nil))), ?_⟩
    rw [opV_sub] at k
    exact ⟨_, rfl, _, rfl, _, _, rfl, rfl, _, rfl, k⟩
theorem ok_o3 {f fB : Addr} {fd dB : FuncData} (F : Fun K "product_of" "product_of" sO3 f fd) (DB : Df K mg "brought_back" sBB ["number"] fB dB) : FnOk P w K mg base CX0 2 f fd ["one", "other"] (spOp "mul") := by
  have GB : FnOk P w K mg base CX0 1 fB dB ["number"] spBB := ok_bb DB.F
  refine F.ok scO3 (fun vs H Q E h => ?_) (fun cdv A outer s H vs Q E hr h => ?_)
  · obtain ⟨a, b, rfl, _⟩ := h
    rfl
  · obtain ⟨a, b, rfl, ha, hb, k⟩ := h
    refine ⟨_, pss_one (ps_ret (pe_call GB hr rfl DB.m DB.k DB.b .nil pass0 (pa_cons (pe_op op_mul (pv 0) (pv 1)) pa_nil))), ?_⟩
    rw [opV_mul] at k
    unfold Sm at ha
    exact ⟨_, rfl, _, rfl, _, _, rfl, rfl, .inl ⟨by omega, by omega⟩, _, rfl, k⟩
theorem ok_o4 {f : Addr} {fd : FuncData} (F : Fun K "lesser_of" "lesser_of" sO4 f fd) (B : Bts mg) : FnOk P w K mg base CX0 2 f fd ["one", "other"] (spOp "min") := by
  refine F.ok scO4 (fun vs H Q E h => ?_) (fun cdv A outer s H vs Q E hr h => ?_)
  · obtain ⟨a, b, rfl, _⟩ := h
    rfl
  · obtain ⟨a, b, rfl, ha, hb, k⟩ := h
    refine ⟨_, pss_one (ps_ret (pe_callB (call_min2 rfl) (by rfl) B.min PyProof.Rows.boot_min (pa_cons (pv 0) (pa_cons (pv 1) pa_nil)))), ?_⟩
    rw [opV_min] at k
    exact ⟨_, rfl, _, rfl, _, _, rfl, k⟩
theorem ok_o5 {f : Addr} {fd : FuncData} (F : Fun K "greater_of" "greater_of" sO5 f fd) (B : Bts mg) : FnOk P w K mg base CX0 2 f fd ["one", "other"] (spOp "max") := by
  refine F.ok scO5 (fun vs H Q E h => ?_) (fun cdv A outer s H vs Q E hr h => ?_)
  · obtain ⟨a, b, rfl, _⟩ := h
    rfl
  · obtain ⟨a, b, rfl, ha, hb, k⟩ := h
    refine ⟨_, pss_one (ps_ret (pe_callB (call_max2 rfl) (by rfl) B.max PyProof.Rows.boot_max (pa_cons (pv 0) (pa_cons (pv 1) pa_nil)))), ?_⟩
    rw [opV_max] at k
    exact ⟨_, rfl, _, rfl, _, _, rfl, k⟩
theorem ok_o6 {f : Addr} {fd : FuncData} (F : Fun K "is_less" "is_less" sO6 f fd) : FnOk P w K mg base CX0 2 f fd ["one", "other"] (spOp "less") := by
  refine F.ok scO6 (fun vs H Q E h => ?_) (fun cdv A outer s H vs Q E hr h => ?_)
  · obtain ⟨a, b, rfl, _⟩ := h
    rfl
  · obtain ⟨a, b, rfl, ha, hb, k⟩ := h
    refine ⟨_, pss_one (ps_ret (pe_ifExp (pt_cmpR op_lt (pv 0) (pv 1) (nomark _)) pe_int pe_int)), ?_⟩
    rw [opV_less] at k
    refine ⟨_, rfl, _, rfl, _, _, rfl, rfl, _, rfl, ite2 (fun c => ?_) (fun c => ?_)⟩
    · rw [if_pos (of_decide_eq_true c)] at k
      exact k
    · rw [if_neg (fun z => c (decide_eq_true z))] at k
      exact k
theorem ok_o7 {f : Addr} {fd : FuncData} (F : Fun K "is_same" "is_same" sO7 f fd) : FnOk P w K mg base CX0 2 f fd ["one", "other"] (spOp "same") := by
  refine F.ok scO7 (fun vs H Q E h => ?_) (fun cdv A outer s H vs Q E hr h => ?_)
  · obtain ⟨a, b, rfl, _⟩ := h
    rfl
  · obtain ⟨a, b, rfl, ha, hb, k⟩ := h
    refine ⟨_, pss_one (ps_ret (pe_ifExp (pt_cmpR op_eq (pv 0) (pv 1) (nomark _)) pe_int pe_int)), ?_⟩
    rw [opV_same] at k
    refine ⟨_, rfl, _, rfl, rfl, _, rfl, ?_⟩
    rw [dec_int']
    refine ite2 (fun c => ?_) (fun c => ?_)
    · rw [if_pos (of_decide_eq_true c)] at k
      exact k
    · rw [if_neg (fun z => c (decide_eq_true z))] at k
      exact k
theorem ok_o8 {f : Addr} {fd : FuncData} (F : Fun K "are_both" "are_both" sO8 f fd) : FnOk P w K mg base CX0 2 f fd ["one", "other"] (spOp "and") := by
  refine F.ok scO8 (fun vs H Q E h => ?_) (fun cdv A outer s H vs Q E hr h => ?_)
  · obtain ⟨a, b, rfl, _⟩ := h
    rfl
  · obtain ⟨a, b, rfl, ha, hb, k⟩ := h
    refine ⟨_, pss_one (ps_ret (pe_ifExp (PW.pt (pw_and (pt_cmpR op_ne (pv 0) pe_int (nomark _)) (pw_and1 (pt_cmpR op_ne (pv 1) pe_int (nomark _))))) pe_int pe_int)), ?_⟩
    rw [opV_and] at k
    refine ⟨_, rfl, rfl, _, rfl, ?_⟩
    rw [dec_int']
    by_cases c : a = 0
    · rw [decide_eq_true c]
      rw [if_neg (fun z => z.1 c)] at k
      exact k
    · rw [decide_eq_false c]
      refine iteT ⟨_, rfl, rfl, _, rfl, ?_⟩
      rw [dec_int']
      by_cases c2 : b = 0
      · rw [decide_eq_true c2]
        rw [if_neg (fun z => z.2 c2)] at k
        exact k
      · rw [decide_eq_false c2]
        rw [if_pos ⟨c, c2⟩] at k
        exact k
theorem ok_o9 {f : Addr} {fd : FuncData} (F : Fun K "is_either" "is_either" sO9 f fd) : FnOk P w K mg base CX0 2 f fd ["one", "other"] (spOp "or") := by
  refine F.ok scO9 (fun vs H Q E h => ?_) (fun cdv A outer s H vs Q E hr h => ?_)
  · obtain ⟨a, b, rfl, _⟩ := h
    rfl
  · obtain ⟨a, b, rfl, ha, hb, k⟩ := h
    refine ⟨_, pss_one (ps_ret (pe_ifExp (PW.pt (pw_or (pt_cmpR op_ne (pv 0) pe_int (nomark _)) (pw_or1 (pt_cmpR op_ne (pv 1) pe_int (nomark _))))) pe_int pe_int)), ?_⟩
    rw [opV_or] at k
    refine ⟨_, rfl, rfl, _, rfl, ?_⟩
    rw [dec_int']
    by_cases c : a = 0
    · rw [decide_eq_true c]
      refine iteF ⟨_, rfl, rfl, _, rfl, ?_⟩
      rw [dec_int']
      by_cases c2 : b = 0
      · rw [decide_eq_true c2]
        rw [if_neg (fun z => z.elim (fun y => y c) (fun y => y c2))] at k
        exact k
      · rw [decide_eq_false c2]
        rw [if_pos (.inr c2)] at k
        exact k
    · rw [decide_eq_false c]
      rw [if_pos (.inl c)] at k
      exact k
theorem ok_o10 {f : Addr} {fd : FuncData} (F : Fun K "rest_of" "rest_of" sO10 f fd) : FnOk P w K mg base CX0 2 f fd ["one", "other"] (spOp "rest") := by
  refine F.ok scO10 (fun vs H Q E h => ?_) (fun cdv A outer s H vs Q E hr h => ?_)
  · obtain ⟨a, b, rfl, _⟩ := h
    rfl
  · obtain ⟨a, b, rfl, ha, hb, k⟩ := h
    refine ⟨_, pss_one (ps_ret (pe_ifExp (pt_cmpR op_gt (pv 1) pe_int (nomark _)) (pe_op op_mod (pv 0) (pv 1)) pe_int)), ?_⟩
    rw [opV_rest] at k
    refine ⟨_, rfl, _, _, rfl, rfl, _, rfl, ite2 (fun c => ?_) (fun c => ?_)⟩
    · have c' : b > 0 := of_decide_eq_true c
      rw [if_pos c'] at k
      exact ⟨_, rfl, _, rfl, _, _, rfl, rfl, c', k⟩
    · rw [if_neg (fun z => c (decide_eq_true z))] at k
      exact k
end
end Q

namespace Q
open PySem L2
/-! ### what an expression comes to -/
def EvV (H : Hp) (W : List Str) (en : Str → Int) (cs : List Int) : Nat → V → Int → Prop
  | 0 => fun _ _ => False
  | n + 1 => fun v z => Sm z ∧ ∃ (a : Addr) (s : Str) (r : List V), v = .ref a ∧ H a = some (.tup (.str s :: r)) ∧
    ((s = "number" ∧ r = [.int z]) ∨ (s = "cell" ∧ ∃ i : Nat, r = [.int (i : Int)] ∧ cs[i]? = some z) ∨ (s ∈ W ∧ r = [] ∧ z = en s) ∨
     (s = "if" ∧ ∃ x y u zx zy zu, r = [x, y, u] ∧ EvV H W en cs n x zx ∧ EvV H W en cs n y zy ∧ EvV H W en cs n u zu ∧ z = if zx = 0 then zu else zy) ∨
     (s ∈ opsL ∧ ∃ x y zx zy, r = [x, y] ∧ EvV H W en cs n x zx ∧ EvV H W en cs n y zy ∧ z = opV s zx zy))
theorem EvV.grow {H H' : Hp} {W : List Str} {en : Str → Int} {cs : List Int} (g : Grow H H') : ∀ {n : Nat} {v : V} {z : Int}, EvV H W en cs n v z → EvV H' W en cs n v z
  | 0, _, _, h => h.elim
  | n + 1, v, z, ⟨sm, a, s, r, e1, e2, h⟩ => by
    refine ⟨sm, a, s, r, e1, g.tup e2, ?_⟩
    rcases h with h | h | h | ⟨es, x, y, u, zx, zy, zu, er, h1, h2, h3, ez⟩ | ⟨es, x, y, zx, zy, er, h1, h2, ez⟩
    · exact .inl h
    · exact .inr (.inl h)
    · exact .inr (.inr (.inl h))
    · exact .inr (.inr (.inr (.inl ⟨es, x, y, u, zx, zy, zu, er, h1.grow g, h2.grow g, h3.grow g, ez⟩)))
    · exact .inr (.inr (.inr (.inr ⟨es, x, y, zx, zy, er, h1.grow g, h2.grow g, ez⟩)))
theorem EvV.same {H H' : Hp} {W : List Str} {en : Str → Int} {cs : List Int} {n : Nat} {v : V} {z : Int} (h : EvV H W en cs n v z) (s : Same H H') : EvV H' W en cs n v z := h.grow (Grow.of_same s)
theorem EvV.sm {H : Hp} {W : List Str} {en : Str → Int} {cs : List Int} : ∀ {n : Nat} {v : V} {z : Int}, EvV H W en cs n v z → Sm z
  | 0, _, _, h => h.elim
  | _ + 1, _, _, h => h.1
theorem EvV.mono {H : Hp} {W : List Str} {en : Str → Int} {cs : List Int} : ∀ {n m : Nat} {v : V} {z : Int}, n ≤ m → EvV H W en cs n v z → EvV H W en cs m v z
  | 0, _, _, _, _, h => h.elim
  | n + 1, 0, _, _, l, _ => absurd l (by omega)
  | n + 1, m + 1, v, z, l, ⟨sm, a, s, r, e1, e2, h⟩ => by
    refine ⟨sm, a, s, r, e1, e2, ?_⟩
    rcases h with h | h | h | ⟨es, x, y, u, zx, zy, zu, er, h1, h2, h3, ez⟩ | ⟨es, x, y, zx, zy, er, h1, h2, ez⟩
    · exact .inl h
    · exact .inr (.inl h)
    · exact .inr (.inr (.inl h))
    · exact .inr (.inr (.inr (.inl ⟨es, x, y, u, zx, zy, zu, er, h1.mono (by omega), h2.mono (by omega), h3.mono (by omega), ez⟩)))
    · exact .inr (.inr (.inr (.inr ⟨es, x, y, zx, zy, er, h1.mono (by omega), h2.mono (by omega), ez⟩)))
theorem ts_ev {H : Hp} {W : List Str} {c : Int} {en : Str → Int} {cs : List Int} (hW : ∀ s ∈ W, Sm (en s)) (hc : ∀ z ∈ cs, Sm z) (lc : c ≤ cs.length) : ∀ {n : Nat} {v : V} {k : Nat}, TS H W c n v k → ∃ z, EvV H W en cs n v z
  | 0, _, _, h => h.elim
  | n + 1, v, k, ⟨ks, ⟨a, s, r, e1, e2, h⟩, szs, p, _⟩ => by
    have kids : ∀ x ∈ ks, ∃ z, EvV H W en cs n x z := fun x hx => by
      obtain ⟨k', hk⟩ := paired_left p x hx
      exact ts_ev hW hc lc hk
    rcases h with ⟨es, _, i, er, h0, h1⟩ | ⟨es, _, i, er, h0, h1⟩ | ⟨es, er, _⟩ | ⟨es, er, ek⟩ | ⟨es, er, ek⟩
    · exact ⟨i, ⟨h0, h1⟩, a, s, r, e1, e2, .inl ⟨es, er⟩⟩
    · have hl : i.toNat < cs.length := by omega
      have ei : ((i.toNat : Nat) : Int) = i := Int.toNat_of_nonneg h0
      exact ⟨cs[i.toNat], hc _ (List.getElem_mem hl), a, s, r, e1, e2, .inr (.inl ⟨es, i.toNat, by rw [ei]; exact er, List.getElem?_eq_getElem hl⟩)⟩
    · exact ⟨en s, hW s es, a, s, r, e1, e2, .inr (.inr (.inl ⟨es, er, rfl⟩))⟩
    · subst ek
      obtain ⟨x, y, u, rfl⟩ : ∃ x y u, ks = [x, y, u] := by
        match ks, er with
        | [x, y, u], _ => exact ⟨x, y, u, rfl⟩
      obtain ⟨zx, hx⟩ := kids x (by simp)
      obtain ⟨zy, hy⟩ := kids y (by simp)
      obtain ⟨zu, hu⟩ := kids u (by simp)
      refine ⟨if zx = 0 then zu else zy, ?_, a, s, _, e1, e2, .inr (.inr (.inr (.inl ⟨es, x, y, u, zx, zy, zu, rfl, hx, hy, hu, rfl⟩)))⟩
      split
      · exact hu.sm
      · exact hy.sm
    · subst ek
      obtain ⟨x, y, rfl⟩ : ∃ x y, ks = [x, y] := by
        match ks, er with
        | [x, y], _ => exact ⟨x, y, rfl⟩
      obtain ⟨zx, hx⟩ := kids x (by simp)
      obtain ⟨zy, hy⟩ := kids y (by simp)
      exact ⟨opV s zx zy, opV_sm es hx.sm hy.sm, a, s, _, e1, e2, .inr (.inr (.inr (.inr ⟨es, x, y, zx, zy, rfl, hx, hy, rfl⟩)))⟩
/-! ### what a house sees: a dict by words -/
def upF (f : Str → Option V) (s : Str) (v : V) : Str → Option V := fun t => if t = s then some v else f t
theorem upF_eq {f : Str → Option V} {s : Str} {v : V} : upF f s v s = some v := if_pos rfl
theorem upF_ne {f : Str → Option V} {s t : Str} {v : V} (h : t ≠ s) : upF f s v t = f t := if_neg h
def noF : Str → Option V := fun _ => none
/-- the dict tells what f tells -/
def VF (kvs : List (Key × V)) (f : Str → Option V) : Prop := ∀ s : Str, valV kvs (.inr s) = f s
theorem VF.nil : VF [] noF := fun _ => rfl
theorem VF.put {kvs : List (Key × V)} {f : Str → Option V} (h : VF kvs f) (s : Str) (v : V) : VF (putK kvs (.inr s) v) (upF f s v) := fun t => by
  rw [valV_put]
  unfold upF
  by_cases c : t = s
  · rw [if_pos c, if_pos (by rw [c])]
  · rw [if_neg c, if_neg (fun e => c (Sum.inr.inj e)), h t]
theorem putK_le (kvs : List (Key × V)) (k : Key) (v : V) : (putK kvs k v).length ≤ kvs.length + 1 := by
  unfold putK
  split
  · rw [List.length_map]; omega
  · rw [List.length_append, List.length_singleton]; omega
/-- small ints at all words of W -/
def IntOn (f : Str → Option V) (W : List Str) : Prop := ∀ s ∈ W, ∃ z : Int, f s = some (.int z) ∧ Sm z
def enOf (f : Str → Option V) (s : Str) : Int := match f s with
  | some (.int z) => z
  | _ => 0
theorem IntOn.at_ {f : Str → Option V} {W : List Str} (h : IntOn f W) {s : Str} (hs : s ∈ W) : f s = some (.int (enOf f s)) ∧ Sm (enOf f s) := by
  obtain ⟨z, e, sm⟩ := h s hs
  have ez : enOf f s = z := by
    unfold enOf
    rw [e]
  rw [ez]
  exact ⟨e, sm⟩
theorem IntOn.nil {f : Str → Option V} : IntOn f [] := fun _ h => absurd h List.not_mem_nil
theorem IntOn.int {f : Str → Option V} {W W' : List Str} {s : Str} {z : Int} (h : IntOn f W) (sm : Sm z) (sub : ∀ t ∈ W', t = s ∨ t ∈ W) : IntOn (upF f s (.int z)) W' := fun t ht => by
  by_cases c : t = s
  · subst c
    exact ⟨z, upF_eq, sm⟩
  · rw [upF_ne c]
    exact h t ((sub t ht).resolve_left c)
theorem IntOn.oth {f : Str → Option V} {W : List Str} {s : Str} {v : V} (h : IntOn f W) (no : ¬ s ∈ W) : IntOn (upF f s v) W := fun t ht => by
  rw [upF_ne (fun e => no (by rw [← e]; exact ht))]
  exact h t ht
def Dom (f : Str → Option V) (ks : List Str) : Prop := ∀ t, ¬ t ∈ ks → f t = none
theorem Dom.up {f : Str → Option V} {ks : List Str} {s : Str} {v : V} (h : Dom f ks) : Dom (upF f s v) (s :: ks) := fun t ht => by
  rw [List.mem_cons, not_or] at ht
  rw [upF_ne ht.1]
  exact h t ht.2
theorem Dom.nil : Dom noF [] := fun _ _ => rfl
theorem Dom.sub {f : Str → Option V} {ks ks' : List Str} (h : Dom f ks) (s : ∀ t ∈ ks, t ∈ ks') : Dom f ks' := fun t ht => h t fun z => ht (s t z)
/-- what the walker wants of a dict -/
structure Vw (f : Str → Option V) (W : List Str) (en : Str → Int) : Prop where
  has : ∀ s ∈ W, f s = some (.int (en s))
  ops : ∀ s ∈ opsL, f s = none
  iff : f "if" = none
def viewKeys : List Str := ["me", "many", "ties", "round", "cell", "other", "heard", "sum", "least", "most"]
theorem Vw.of {f : Str → Option V} {W : List Str} {ks : List Str} (h : IntOn f W) (d : Dom f ks) (sub : ∀ t ∈ ks, t ∈ viewKeys) : Vw f W (enOf f) := by
  have d' := d.sub sub
  have k1 : ∀ s ∈ opsL, ¬ s ∈ viewKeys := by decide +kernel
  exact ⟨fun s hs => (h.at_ hs).1, fun s hs => d' s (k1 s hs), d' _ (by decide +kernel)⟩
/-- the cells, where they are told -/
def CellsIn (H : Hp) (f : Str → Option V) (cs : List Int) : Prop := cs = [] ∨ ∃ ca, f "cell" = some (.ref ca) ∧ H ca = some (.tup (cs.map V.int))
theorem CellsIn.same {H H' : Hp} {f : Str → Option V} {cs : List Int} (h : CellsIn H f cs) (s : Same H H') : CellsIn H' f cs := by
  rcases h with h | ⟨ca, h1, h2⟩
  · exact .inl h
  · exact .inr ⟨ca, h1, s _ _ h2⟩
structure OpsT (P : Program) (w : World) (K : PySem.W.Frag) (mg : Str → Option Value) (base : Heap) : Prop where
  ex : ∃ (d : Addr) (es : Array DictEntry) (n : Nat), KDict K w d es n ∧ mg "OF_TWO" = some (.ref d) ∧ ∀ s ∈ opsL, ∃ (f : Addr) (fd : FuncData), PySem.W.nsIn K d s = some (some (.ref f)) ∧ FnOk P w K mg base CX0 2 f fd ["one", "other"] (spOp s) ∧ PySem.W.keepIn K (.ref f) = true ∧ Binds K fd ["one", "other"] []
abbrev sCT : Stmt := top 35
def spCT (n : Nat) : Sp := fun vs H Q _ => ∃ (d : Addr) (v : V) (W : List Str) (en : Str → Int) (cs : List Int) (kvs : List (Key × V)) (f : Str → Option V) (z : Int), vs = [.ref d, v] ∧ Alone W ∧ H d = some (.dK kvs) ∧ VF kvs f ∧ Vw f W en ∧ CellsIn H f cs ∧ EvV H W en cs n v z ∧ Q (.int z) H
theorem seq_ne {s t : Str} {A B : Prop} (h : s ≠ t) (b : B) : if decide (V.str s = V.str t) = true then A else B := by
  rw [decide_eq_false fun e => h (V.str.inj e)]
  exact iteF b
theorem seq_eq {s t : Str} {A B : Prop} (h : s = t) (a : A) : if decide (V.str s = V.str t) = true then A else B := by
  rw [decide_eq_true (by rw [h])]
  exact iteT a
section
variable {P : Program} {w : World} {K : PySem.W.Frag} {mg : Str → Option Value} {base : Heap}
theorem scCT : FnScope ["view", "expression", "word", "action"] ["view", "expression"] (defScope sCT) := ⟨rfl, rfl, rfl, by decide +kernel, rfl, by decide +kernel, by decide +kernel⟩
theorem ok_ct {f : Addr} {fd : FuncData} (D : Df K mg "come_to" sCT ["view", "expression"] f fd) (O : OpsT P w K mg base) : ∀ n, FnOk P w K mg base CX0 (n + 3) f fd ["view", "expression"] (spCT n)
  | 0 => by
    refine D.F.ok scCT (fun vs H Q E h => ?_) (fun cdv A outer s H vs Q E hr h => ?_)
    · obtain ⟨d, v, W, en, cs, kvs, f, z, rfl, _⟩ := h
      rfl
    · obtain ⟨d, v, W, en, cs, kvs, f, z, rfl, _, _, _, _, _, h, _⟩ := h
      exact h.elim
  | n + 1 => by
    have IH := ok_ct D O n
    obtain ⟨dO, es, nO, KD, hm, hops⟩ := O.ex
    refine D.F.ok scCT (fun vs H Q E h => ?_) (fun cdv A outer s0 H vs Q E hr h => ?_)
    · obtain ⟨d, v, W, en, cs, kvs, f, z, rfl, _⟩ := h
      rfl
    · obtain ⟨d, v, W, en, cs, kvs, f, z, rfl, al, hd, vf, vw, ci, ⟨sm, a, s, r, rfl, ea, h⟩, k⟩ := h
      have nd := scCT.nd
      have hu := hu_of hr
      have hrn : Room (n + 3) _ := hr
      have hr2 : Room 2 _ := hr.mono (by omega)
      have dget : ∀ t : Str, DGet H d (.str t) (f t) := fun t => by
        rw [← vf t]
        exact DGet.k (k := .inr t) hd
      rcases h with ⟨es, er⟩ | ⟨es, i, er, hi⟩ | ⟨hs, er, ez⟩ | ⟨es, x, y, u, zx, zy, zu, er, hx, hy, hz, ez⟩ | ⟨hs, x, y, zx, zy, er, hx, hy, ez⟩
      · subst es
        subst er
        refine ⟨_, pss_cons (ps_set (i := 2) nd rfl (.inl rfl) (pe_ix ix_tup (pv 1) pe_int (fun _ _ => rfl)))
          (pss_cons (ps_if (pt_cmpR op_eq (pv 2) pe_str (nomark _)) (pss_one (ps_ret (pe_ix ix_tup (pv 1) pe_int (fun _ _ => rfl)))) pss_nil) pss_never), ?_⟩
        exact ⟨_, rfl, a, _, 0, _, rfl, rfl, SqT.of ea, at0 _ _, _, rfl, rfl, _, rfl, seq_eq rfl ⟨_, rfl, a, _, 1, _, rfl, rfl, SqT.of ea, at1 _ _ _, k⟩⟩
      · subst es
        subst er
        obtain ⟨ca, fc, hca⟩ : ∃ ca, f "cell" = some (.ref ca) ∧ H ca = some (.tup (cs.map V.int)) := by
          rcases ci with rfl | h
          · simp at hi
          · exact h
        refine ⟨_, pss_cons (ps_set (i := 2) nd rfl (.inl rfl) (pe_ix ix_tup (pv 1) pe_int (fun _ _ => rfl)))
          (pss_cons (ps_if (pt_cmpR op_eq (pv 2) pe_str (nomark _)) (pss_one (ps_ret (pe_ix ix_tup (pv 1) pe_int (fun _ _ => rfl)))) pss_nil)
          (pss_cons (ps_if (pt_cmpR op_eq (pv 2) pe_str (nomark _)) (pss_one (ps_ret (pe_ix ix_tup (pe_dget hu (pv 0) pe_str (fun _ _ => rfl)) (pe_ix ix_tup (pv 1) pe_int (fun _ _ => rfl)) (fun _ _ => rfl)))) pss_nil) pss_never)), ?_⟩
        refine ⟨_, rfl, a, _, 0, _, rfl, rfl, SqT.of ea, at0 _ _, _, rfl, rfl, _, rfl, seq_ne ne_nc.symm ⟨_, rfl, rfl, _, rfl, seq_eq rfl ?_⟩⟩
        have dg := dget "cell"
        rw [fc] at dg
        exact ⟨_, rfl, d, _, rfl, dg, _, rfl, a, _, 1, _, rfl, rfl, SqT.of ea, at1 _ _ _, ca, _, (i : Int), _, rfl, rfl, SqT.of hca, atI_nat (by rw [List.getElem?_map, hi]; rfl), k⟩
      · subst er
        have n1 : s ≠ "number" := fun e => al.number (by rw [← e]; exact hs)
        have n2 : s ≠ "cell" := fun e => al.cell (by rw [← e]; exact hs)
        refine ⟨_, pss_cons (ps_set (i := 2) nd rfl (.inl rfl) (pe_ix ix_tup (pv 1) pe_int (fun _ _ => rfl)))
          (pss_cons (ps_if (pt_cmpR op_eq (pv 2) pe_str (nomark _)) pss_never pss_nil)
          (pss_cons (ps_if (pt_cmpR op_eq (pv 2) pe_str (nomark _)) pss_never pss_nil)
          (pss_cons (ps_if (pt_cmp (pc_din hu (pv 2) (pv 0))) (pss_one (ps_ret (pe_dget hu (pv 0) (pv 2) (fun _ _ => rfl)))) pss_nil) pss_never))), ?_⟩
        have dg := dget s
        rw [vw.has s hs] at dg
        refine ⟨_, rfl, a, _, 0, _, rfl, rfl, SqT.of ea, at0 _ _, _, rfl, rfl, _, rfl, seq_ne n1 ⟨_, rfl, rfl, _, rfl, seq_ne n2 ⟨_, rfl, _, rfl, d, _, rfl, dg, _, rfl, iteT ?_⟩⟩⟩
        refine ⟨_, rfl, _, rfl, d, _, rfl, dg, ?_⟩
        rw [ez] at k
        exact k
      · subst es
        subst er
        refine ⟨_, pss_cons (ps_set (i := 2) nd rfl (.inl rfl) (pe_ix ix_tup (pv 1) pe_int (fun _ _ => rfl)))
          (pss_cons (ps_if (pt_cmpR op_eq (pv 2) pe_str (nomark _)) pss_never pss_nil)
          (pss_cons (ps_if (pt_cmpR op_eq (pv 2) pe_str (nomark _)) pss_never pss_nil)
          (pss_cons (ps_if (pt_cmp (pc_din hu (pv 2) (pv 0))) pss_never pss_nil)
          (pss_cons (ps_if (pt_cmpR op_eq (pv 2) pe_str (nomark _)) (pss_one (ps_ret (pe_call IH hrn rfl D.m D.k D.b .nil pass0 (pa_cons (pv 0) (pa_cons (pe_ifExp (pt_cmpR op_eq (pe_call IH hrn rfl D.m D.k D.b .nil pass0 (pa_cons (pv 0) (pa_cons (pe_ix ix_tup (pv 1) pe_int (fun _ _ => rfl)) pa_nil))) pe_int (nomark _)) (pe_ix ix_tup (pv 1) pe_int (fun _ _ => rfl)) (pe_ix ix_tup (pv 1) pe_int (fun _ _ => rfl))) pa_nil))))) pss_nil) pss_never)))), ?_⟩
        have dg := dget "if"
        rw [vw.iff] at dg
        refine ⟨_, rfl, a, _, 0, _, rfl, rfl, SqT.of ea, at0 _ _, _, rfl, rfl, _, rfl, seq_ne ne_ni.symm ⟨_, rfl, rfl, _, rfl, seq_ne ne_ci.symm ⟨_, rfl, _, rfl, d, _, rfl, dg, _, rfl, iteF ?_⟩⟩⟩
        refine ⟨_, rfl, rfl, _, rfl, seq_eq rfl ⟨_, rfl, _, rfl, _, rfl, a, _, 1, _, rfl, rfl, SqT.of ea, at1 _ _ _, ?_⟩⟩
        refine ⟨d, x, W, en, cs, kvs, f, zx, rfl, al, hd, vf, vw, ci, hx, rfl, _, rfl, ?_⟩
        rw [dec_int']
        by_cases c : zx = 0
        · rw [decide_eq_true c]
          rw [if_pos c] at ez
          rw [ez] at k
          refine iteT ⟨_, rfl, a, _, 3, u, rfl, rfl, SqT.of ea, rfl, d, u, W, en, cs, kvs, f, zu, rfl, al, hd, vf, vw, ci, hz, k⟩
        · rw [decide_eq_false c]
          rw [if_neg c] at ez
          rw [ez] at k
          refine iteF ⟨_, rfl, a, _, 2, y, rfl, rfl, SqT.of ea, rfl, d, y, W, en, cs, kvs, f, zy, rfl, al, hd, vf, vw, ci, hy, k⟩
      · subst er
        obtain ⟨fo, fdo, hns, GO, ko, bo⟩ := hops s hs
        obtain ⟨n1, n2, n3, _⟩ := ops_not hs
        refine ⟨_, pss_cons (ps_set (i := 2) nd rfl (.inl rfl) (pe_ix ix_tup (pv 1) pe_int (fun _ _ => rfl)))
          (pss_cons (ps_if (pt_cmpR op_eq (pv 2) pe_str (nomark _)) pss_never pss_nil)
          (pss_cons (ps_if (pt_cmpR op_eq (pv 2) pe_str (nomark _)) pss_never pss_nil)
          (pss_cons (ps_if (pt_cmp (pc_din hu (pv 2) (pv 0))) pss_never pss_nil)
          (pss_cons (ps_if (pt_cmpR op_eq (pv 2) pe_str (nomark _)) pss_never pss_nil)
          (pss_cons (ps_set (i := 3) nd rfl (.inl rfl) (pe_ix ix_kdict (pe_glob (v := .ref dO) rfl hm rfl) (pv 2) (fun _ _ => rfl)))
          (pss_one (ps_ret (pe_callL (i := 3) GO hr2 rfl (Or.inl rfl) ko bo .nil pass0 (pa_cons (pe_call IH hrn rfl D.m D.k D.b .nil pass0 (pa_cons (pv 0) (pa_cons (pe_ix ix_tup (pv 1) pe_int (fun _ _ => rfl)) pa_nil))) (pa_cons (pe_call IH hrn rfl D.m D.k D.b .nil pass0 (pa_cons (pv 0) (pa_cons (pe_ix ix_tup (pv 1) pe_int (fun _ _ => rfl)) pa_nil))) pa_nil)))))))))), ?_⟩
        have dg := dget s
        rw [vw.ops s hs] at dg
        refine ⟨_, rfl, a, _, 0, _, rfl, rfl, SqT.of ea, at0 _ _, _, rfl, rfl, _, rfl, seq_ne n1 ⟨_, rfl, rfl, _, rfl, seq_ne n2 ⟨_, rfl, _, rfl, d, _, rfl, dg, _, rfl, iteF ?_⟩⟩⟩
        refine ⟨_, rfl, rfl, _, rfl, seq_ne n3 ⟨_, rfl, dO, _, .ref fo, rfl, rfl, ⟨es, nO, _, KD.at_, KD.lit, hns, rfl⟩, ?_⟩⟩
        refine ⟨rfl, _, rfl, _, rfl, a, _, 1, _, rfl, rfl, SqT.of ea, at1 _ _ _, d, x, W, en, cs, kvs, f, zx, rfl, al, hd, vf, vw, ci, hx, ?_⟩
        refine ⟨_, rfl, _, rfl, a, _, 2, y, rfl, rfl, SqT.of ea, rfl, d, y, W, en, cs, kvs, f, zy, rfl, al, hd, vf, vw, ci, hy, ?_⟩
        rw [ez] at k
        exact ⟨zx, zy, rfl, hx.sm, hy.sm, k⟩
end
end Q

namespace Q
open PySem L2
theorem merge3_le (a b c : Key × V) : (mergeK [] [a, b, c]).length ≤ 3 := by
  have h1 := putK_le [] a.1 a.2
  have h2 := putK_le (putK [] a.1 a.2) b.1 b.2
  have h3 := putK_le (putK (putK [] a.1 a.2) b.1 b.2) c.1 c.2
  rw [List.length_nil] at h1
  show (putK (putK (putK [] a.1 a.2) b.1 b.2) c.1 c.2).length ≤ 3
  omega
abbrev sFV : Stmt := top 36
abbrev sSC : Stmt := top 37
abbrev sSY : Stmt := top 38
abbrev sNX : Stmt := top 39
theorem paired_at {α β : Type} {R : α → β → Prop} {xs : List α} {as : List β} {i : Nat} {x : α} (p : Paired R xs as) (h : xs[i]? = some x) : ∃ k, as[i]? = some k ∧ R x k := by
  induction p generalizing i with
  | nil => simp at h
  | cons a _ ih =>
    cases i with
    | zero =>
      obtain rfl := Option.some.inj h
      exact ⟨_, rfl, a⟩
    | succ i => exact ih (by simpa using h)
def f3 (h m t : Int) : Str → Option V := upF (upF (upF noF "me" (.int h)) "many" (.int m)) "ties" (.int t)
def f5 (h m t r : Int) (ca : Addr) : Str → Option V := upF (upF (f3 h m t) "round" (.int r)) "cell" (.ref ca)
def fT (h m t r : Int) (ca : Addr) (o : Int) : Str → Option V := upF (f5 h m t r ca) "other" (.int o)
def fN (h m t r : Int) (ca : Addr) (k u le mo : Int) : Str → Option V := upF (upF (upF (upF (f5 h m t r ca) "heard" (.int k)) "sum" (.int u)) "least" (.int le)) "most" (.int mo)
theorem int3 {h m t : Int} (a : Sm h) (b : Sm m) (c : Sm t) : IntOn (f3 h m t) wS :=
  IntOn.int (W := ["me", "many"]) (IntOn.int (W := ["me"]) (IntOn.int (W := []) .nil a (by decide +kernel)) b (by decide +kernel)) c (by decide +kernel)
theorem dom3 {h m t : Int} : Dom (f3 h m t) ["ties", "many", "me"] := Dom.nil.up.up.up
theorem vw3 {h m t : Int} (a : Sm h) (b : Sm m) (c : Sm t) : Vw (f3 h m t) wS (enOf (f3 h m t)) := .of (int3 a b c) dom3 (by decide +kernel)
theorem int5 {h m t r : Int} {ca : Addr} (a : Sm h) (b : Sm m) (c : Sm t) (d : Sm r) : IntOn (f5 h m t r ca) ["me", "many", "ties", "round"] :=
  (IntOn.int (W := wS) (int3 a b c) d (by decide +kernel)).oth (by decide +kernel)
theorem dom5 {h m t r : Int} {ca : Addr} : Dom (f5 h m t r ca) ["cell", "round", "ties", "many", "me"] := dom3.up.up
theorem intT {h m t r o : Int} {ca : Addr} (a : Sm h) (b : Sm m) (c : Sm t) (d : Sm r) (e : Sm o) : IntOn (fT h m t r ca o) wT := IntOn.int (int5 a b c d) e (by decide +kernel)
theorem vwT {h m t r o : Int} {ca : Addr} (a : Sm h) (b : Sm m) (c : Sm t) (d : Sm r) (e : Sm o) : Vw (fT h m t r ca o) wT (enOf (fT h m t r ca o)) := .of (intT a b c d e) dom5.up (by decide +kernel)
theorem intN {h m t r k u le mo : Int} {ca : Addr} (a : Sm h) (b : Sm m) (c : Sm t) (d : Sm r) (e1 : Sm k) (e2 : Sm u) (e3 : Sm le) (e4 : Sm mo) : IntOn (fN h m t r ca k u le mo) wN :=
  IntOn.int (W := ["me", "many", "ties", "round", "heard", "sum", "least"]) (IntOn.int (W := ["me", "many", "ties", "round", "heard", "sum"]) (IntOn.int (W := ["me", "many", "ties", "round", "heard"]) (IntOn.int (int5 a b c d) e1 (by decide +kernel)) e2 (by decide +kernel)) e3 (by decide +kernel)) e4 (by decide +kernel)
theorem vwN {h m t r k u le mo : Int} {ca : Addr} (a : Sm h) (b : Sm m) (c : Sm t) (d : Sm r) (e1 : Sm k) (e2 : Sm u) (e3 : Sm le) (e4 : Sm mo) : Vw (fN h m t r ca k u le mo) wN (enOf (fN h m t r ca k u le mo)) := .of (intN a b c d e1 e2 e3 e4) dom5.up.up.up.up (by decide +kernel)
/-- what is said, by neighbours -/
def saidL (ns : List Int) (ft fs : Int → Int) : List (Int × Int) := (ns.filter fun o => decide (ft o ≠ 0)).map fun o => (o, fs o)
/-- a tuple or list of ints -/
def Num (H : Hp) (a : Addr) (ns : List Int) : Prop := H a = some (.tup (ns.map V.int)) ∨ H a = some (.lst (ns.map V.int))
theorem Num.same {H H' : Hp} {a : Addr} {ns : List Int} (h : Num H a ns) (s : Same H H') : Num H' a ns := h.imp (s _ _) (s _ _)
theorem Num.sq {K : PySem.W.Frag} {H : Hp} {a : Addr} {ns : List Int} (h : Num H a ns) : SqO K H a (ns.map V.int) := h.elim (fun e => .inr (SqT.of e)) (fun e => .inl (SqL.of e))
def spFV (C : Addr) : Sp := fun vs H Q _ => ∃ (w dx q r : Addr) (m : Int) (L : List (Addr × List Int)) (bs : List Addr) (nb : Nat → List Int) (h : Nat), vs = [.ref w, .int (h : Int)] ∧ WebIn C m L H w dx q r bs nb ∧ h < m.toNat ∧
  ∀ d kvs H', H d = none → Same H H' → H' d = some (.dK kvs) → VF kvs (f3 h m (nb h).length) → kvs.length ≤ 3 → Q (.ref d) H'
/-- a web, a program, a house of it -/
structure HPre (C CP : Addr) (H : Hp) (w : Addr) (m : Int) (nb : Nat → List Int) (x : Addr) (s t y n : V) (h : Nat) : Prop where
  web : ∃ dx q r L bs, WebIn C m L H w dx q r bs nb
  prog : ∃ dx, H x = some (.ins CP dx (pf s t y n))
  lt : h < m.toNat
  m40 : m ≤ 40
  len : (nb h).length ≤ 64
  inn : ∀ o ∈ nb h, 0 ≤ o ∧ o < m
theorem HPre.same {C CP : Addr} {H H' : Hp} {w : Addr} {m : Int} {nb : Nat → List Int} {x : Addr} {s t y n : V} {h : Nat} (p : HPre C CP H w m nb x s t y n h) (z : Same H H') : HPre C CP H' w m nb x s t y n h := by
  obtain ⟨⟨dx, q, r, L, bs, a⟩, ⟨dp, b⟩, c, d, e, f⟩ := p
  exact ⟨⟨dx, q, r, L, bs, a.same z⟩, ⟨dp, z _ _ b⟩, c, d, e, f⟩
theorem HPre.smh {C CP : Addr} {H : Hp} {w : Addr} {m : Int} {nb : Nat → List Int} {x : Addr} {s t y n : V} {h : Nat} (p : HPre C CP H w m nb x s t y n h) : Sm (h : Int) ∧ Sm m ∧ Sm ((nb h).length : Int) := by
  have a := p.lt
  have b := p.m40
  have c := p.len
  unfold Sm
  omega
theorem HPre.smo {C CP : Addr} {H : Hp} {w : Addr} {m : Int} {nb : Nat → List Int} {x : Addr} {s t y n : V} {h : Nat} (p : HPre C CP H w m nb x s t y n h) {o : Int} (ho : o ∈ nb h) : Sm o := by
  have a := p.inn o ho
  have b := p.m40
  unfold Sm
  omega
def spSC (C CP : Addr) : Sp := fun vs H Q _ => ∃ (w x : Addr) (m : Int) (nb : Nat → List Int) (s t y n : V) (h : Nat) (q : Addr) (xs : List V) (zs : List Int), vs = [.ref w, .ref x, .int (h : Int)] ∧ HPre C CP H w m nb x s t y n h ∧
  s = .ref q ∧ H q = some (.tup xs) ∧ xs.length ≤ 4 ∧ Paired (EvV H wS (enOf (f3 h m (nb h).length)) [] 12) xs zs ∧ ∀ tq H', Same H H' → H' tq = some (.tup (zs.map V.int)) → Q (.ref tq) H'
def spSY (C CP : Addr) : Sp := fun vs H Q _ => ∃ (w x : Addr) (m : Int) (nb : Nat → List Int) (s t y n : V) (h : Nat) (r : Int) (ca : Addr) (cs : List Int) (ft fs : Int → Int), vs = [.ref w, .ref x, .int (h : Int), .int r, .ref ca] ∧ HPre C CP H w m nb x s t y n h ∧ Sm r ∧
  H ca = some (.tup (cs.map V.int)) ∧ (∀ o ∈ nb h, EvV H wT (enOf (fT h m (nb h).length r ca o)) cs 12 t (ft o) ∧ EvV H wT (enOf (fT h m (nb h).length r ca o)) cs 12 y (fs o)) ∧
  ∀ (tq : Addr) (rs : List (Addr × (Int × Int))) H', Same H H' → H' tq = some (.tup (rs.map fun p => V.ref p.1)) → (∀ p ∈ rs, H' p.1 = some (.tup [.int p.2.1, .int p.2.2])) → rs.map (·.2) = saidL (nb h) ft fs → Q (.ref tq) H'
def spNX (C CP : Addr) : Sp := fun vs H Q _ => ∃ (w x : Addr) (m : Int) (nb : Nat → List Int) (s t y n : V) (h : Nat) (r : Int) (ca na : Addr) (cs ns : List Int) (le mo : Int) (q : Addr) (xs : List V) (zs : List Int), vs = [.ref w, .ref x, .int (h : Int), .int r, .ref ca, .ref na] ∧ HPre C CP H w m nb x s t y n h ∧ Sm r ∧
  H ca = some (.tup (cs.map V.int)) ∧ Num H na ns ∧ ns.length ≤ 64 ∧ (∀ z ∈ ns, Sm z) ∧ IsLeast 0 ns le ∧ IsMost 0 ns mo ∧ n = .ref q ∧ H q = some (.tup xs) ∧ xs.length ≤ 4 ∧ Paired (EvV H wN (enOf (fN h m (nb h).length r ca ns.length (bb ns.sum) le mo)) cs 12) xs zs ∧
  ∀ tq H', Same H H' → H' tq = some (.tup (zs.map V.int)) → Q (.ref tq) H'
theorem least_sm {ns : List Int} {m : Int} (h : IsLeast 0 ns m) (k : ∀ z ∈ ns, Sm z) : Sm m := by
  rcases h with ⟨_, rfl⟩ | ⟨h, _⟩
  · unfold Sm; omega
  · exact k m h
theorem most_sm {ns : List Int} {m : Int} (h : IsMost 0 ns m) (k : ∀ z ∈ ns, Sm z) : Sm m := by
  rcases h with ⟨_, rfl⟩ | ⟨h, _⟩
  · unfold Sm; omega
  · exact k m h
section
variable {P : Program} {w : World} {K : PySem.W.Frag} {mg : Str → Option Value} {base : Heap}
/-- the defs that a round leans on -/
structure RDefsN (K : PySem.W.Frag) (mg : Str → Option Value) where
  fB : Addr
  dB : FuncData
  DB : Df K mg "brought_back" sBB ["number"] fB dB
  fN : Addr
  dN : FuncData
  DN : Df K mg "neighbours" sNbr ["web", "house"] fN dN
  fV : Addr
  dV : FuncData
  DV : Df K mg "first_view" sFV ["web", "house"] fV dV
  fC : Addr
  dC : FuncData
  DC : Df K mg "come_to" sCT ["view", "expression"] fC dC
theorem scFV : FnScope ["web", "house"] ["web", "house"] (defScope sFV) := ⟨rfl, rfl, rfl, by decide +kernel, rfl, by decide +kernel, by decide +kernel⟩
theorem ok_fv {f C : Addr} {fd : FuncData} (F : Fun K "first_view" "first_view" sFV f fd) (B : Bts mg) (T : WTxt K mg C) (D : WDefs K mg) (R : RDefsN K mg) : FnOk P w K mg base CX0 4 f fd ["web", "house"] (spFV C) := by
  have GN : FnOk P w K mg base CX0 3 R.fN R.dN ["web", "house"] (spNbr C) := ok_nbr R.DN.F B T D
  refine F.ok scFV (fun vs H Q E h => ?_) (fun cdv A outer s H vs Q E hr h => ?_)
  · obtain ⟨w, dx, q, r, m, L, bs, nb, h, rfl, _⟩ := h
    rfl
  · obtain ⟨w, dx, q, r, m, L, bs, nb, h, rfl, x, lt, k⟩ := h
    refine ⟨_, pss_one (ps_ret (pe_disp (pps_cons pe_str (pv 1) (pps_cons pe_str (pe_fld (pv 0) rfl) (pps_cons pe_str (pe_callB call_len_seq (by rfl) B.len PySem.boot_len (pa_cons (pe_call GN hr rfl R.DN.m R.DN.k R.DN.b .nil pass0 (pa_cons (pv 0) (pa_cons (pv 1) pa_nil))) pa_nil)) pps_nil))) (by rfl) (by rfl) (by intro e; cases e) (by show 3 ≤ 15; decide))), ?_⟩
    intro d hd
    have s1 := sN (o := .dK []) hd
    have x1 := x.same s1
    refine ⟨_, rfl, _, rfl, w, C, dx, _, _, rfl, x1.at_, T.cl, T.nM, wf_many _ _ _, _, rfl, _, rfl, w, dx, q, r, m, L, bs, nb, h, rfl, x1, lt, fun t ht => ?_⟩
    refine ⟨t, _, rfl, .inr (SqT.of ht), upd_same, [(.inr "me", .int (h : Int)), (.inr "many", .int m), (.inr "ties", .int (((nb h).map V.int).length : Int))], rfl, (by show 3 ≤ 15; decide), ?_⟩
    rw [List.length_map]
    refine k d _ _ hd (sNew s1 hd) upd_same (((VF.nil.put "me" (.int (h : Int))).put "many" (.int m)).put "ties" (.int ((nb h).length : Int))) ?_
    exact merge3_le _ _ _
theorem scSC : FnScope ["web", "program", "house", "view", "start"] ["web", "program", "house"] (defScope sSC) := ⟨rfl, rfl, rfl, by decide +kernel, rfl, by decide +kernel, by decide +kernel⟩
theorem ok_sc {f C CP : Addr} {fd : FuncData} (F : Fun K "starts_come_to" "starts_come_to" sSC f fd) (B : Bts mg) (T : WTxt K mg C) (TP : PTxt K mg CP) (D : WDefs K mg) (R : RDefsN K mg) (O : OpsT P w K mg base) : FnOk P w K mg base CX0 16 f fd ["web", "program", "house"] (spSC C CP) := by
  have GV : FnOk P w K mg base CX0 4 R.fV R.dV ["web", "house"] (spFV C) := ok_fv R.DV.F B T D R
  have GC : FnOk P w K mg base CX0 15 R.fC R.dC ["view", "expression"] (spCT 12) := ok_ct R.DC O 12
  refine F.ok scSC (fun vs H Q E h => ?_) (fun cdv A outer s0 H vs Q E hr h => ?_)
  · obtain ⟨w, x, m, nb, s, t, y, n, h, q, xs, zs, rfl, _⟩ := h
    rfl
  · obtain ⟨w, x, m, nb, s, t, y, n, h, q, xs, zs, rfl, pre, rfl, hq, hl, pz, k⟩ := h
    have nd := scSC.nd
    have hr4 : Room 4 _ := hr.mono (by decide)
    refine ⟨_, pss_cons (ps_set (i := 3) nd rfl (.inr rfl) (pe_call GV hr4 rfl R.DV.m R.DV.k R.DV.b .nil pass0 (pa_cons (pv 0) (pa_cons (pv 2) pa_nil))))
      (pss_one (ps_ret (pe_callTy call_tuple_of (by rfl) B.tuple PyProof.Rows.boot_tuple (pa_cons (pe_lc (own := [("start", 4)]) (g := gName 4) (tt := tYes) rfl nd (pi_tup (pe_fld (pv 1) rfl))
        (blkOk_by (N := ["web", "program", "house", "view", "start"]) (sc := defScope sSC) (by decide +kernel)) (fun _ _ _ _ _ => pg_name (i := 4) nd rfl (.inl rfl)) (fun _ _ _ _ _ => pts_nil)
        (fun _ _ _ _ _ => pe_call GC hr rfl R.DC.m R.DC.k R.DC.b .nil pass0 (pa_cons (pv 3) (pa_cons (pv 4) pa_nil)))) pa_nil)))), ?_⟩
    obtain ⟨dx, qw, r, L, bs, hw⟩ := pre.web
    obtain ⟨dp, hx⟩ := pre.prog
    obtain ⟨sh, smm, st⟩ := pre.smh
    refine ⟨_, rfl, _, rfl, w, dx, qw, r, m, L, bs, nb, h, rfl, hw, pre.lt, fun d kvs H1 nd1 s1 ed vf lk => ?_⟩
    refine ⟨_, rfl, x, CP, dp, _, _, rfl, s1 _ _ hx, TP.cl, TP.nS, pf_starts _ _ _ _, q, rfl, ⟨_, SqT.of (s1 _ _ hq)⟩, fun D0 hD => lc_tup (K := K) (a := q) (xs := xs) (fun i H' => H' D0 = some (.lst ((zs.take i).map V.int)) ∧ Same H1 H') ?_ ?_ ?_ ?_⟩
    · exact ⟨upd_same, sN hD⟩
    · rintro i H2 hi ⟨_, s2⟩
      exact SqT.of (s2 _ _ (s1 _ _ hq))
    · rintro i v H2 hv ⟨eD, s2⟩
      obtain ⟨z, hz, ev⟩ := paired_at pz hv
      have hi : i < xs.length := (List.getElem?_eq_some_iff.mp hv).1
      refine ⟨rfl, _, rfl, _, rfl, d, v, wS, _, [], kvs, _, z, rfl, alS, s2 _ _ ed, vf, vw3 sh smm st, .inl rfl, ev.same (sT s1 s2), ?_⟩
      refine ⟨_, eD, ?_, ?_, sNew s2 hD⟩
      · rw [List.length_map, List.length_take]
        exact Nat.lt_of_lt_of_le (show min i zs.length < 64 by omega) (by decide)
      · rw [upd_same, List.take_add_one, hz, List.map_append]
        rfl
    · rintro H2 ⟨eD, s2⟩
      have hlz : xs.length = zs.length := Paired.length pz
      rw [hlz, List.take_length] at eD
      refine ⟨D0, _, rfl, .inl ⟨SqL.of eD, fun t1 ht1 => ?_⟩⟩
      exact k t1 _ (sT s1 (sT s2 (sN ht1))) upd_same
end
end Q

namespace Q
open PySem L2
/-- the dict tells what f tells, but at x -/
def VFx (kvs : List (Key × V)) (f : Str → Option V) (x : Str) : Prop := ∀ s : Str, s ≠ x → valV kvs (.inr s) = f s
theorem VF.x {kvs : List (Key × V)} {f : Str → Option V} (h : VF kvs f) (x : Str) : VFx kvs f x := fun s _ => h s
theorem VFx.put {kvs : List (Key × V)} {f : Str → Option V} {x : Str} (h : VFx kvs f x) (v : V) : VF (putK kvs (.inr x) v) (upF f x v) := fun t => by
  rw [valV_put]
  unfold upF
  by_cases c : t = x
  · rw [if_pos c, if_pos (by rw [c])]
  · rw [if_neg c, if_neg (fun e => c (Sum.inr.inj e)), h t c]
theorem VF.back {kvs : List (Key × V)} {f : Str → Option V} {x : Str} {v : V} (h : VF kvs (upF f x v)) : VFx kvs f x := fun s hs => by
  rw [h s, upF_ne hs]
theorem said_snoc (ns : List Int) (ft fs : Int → Int) (i : Nat) (o : Int) (h : ns[i]? = some o) : saidL (ns.take (i + 1)) ft fs = saidL (ns.take i) ft fs ++ (if ft o ≠ 0 then [(o, fs o)] else []) := by
  unfold saidL
  rw [List.take_add_one, h, List.filter_append, List.map_append]
  congr 1
  by_cases c : ft o = 0
  · simp [c]
  · simp [c]
theorem said_le (ns : List Int) (ft fs : Int → Int) : (saidL ns ft fs).length ≤ ns.length := by
  unfold saidL
  rw [List.length_map]
  exact List.length_filter_le _ _
section
variable {P : Program} {w : World} {K : PySem.W.Frag} {mg : Str → Option Value} {base : Heap}
theorem scSY : FnScope ["web", "program", "house", "at", "cells", "view", "said", "other"] ["web", "program", "house", "at", "cells"] (defScope sSY) := ⟨rfl, rfl, rfl, by decide +kernel, rfl, by decide +kernel, by decide +kernel⟩
theorem ok_sy {f C CP : Addr} {fd : FuncData} (F : Fun K "sayings_come_to" "sayings_come_to" sSY f fd) (B : Bts mg) (T : WTxt K mg C) (TP : PTxt K mg CP) (D : WDefs K mg) (R : RDefsN K mg) (O : OpsT P w K mg base) : FnOk P w K mg base CX0 16 f fd ["web", "program", "house", "at", "cells"] (spSY C CP) := by
  have GN : FnOk P w K mg base CX0 3 R.fN R.dN ["web", "house"] (spNbr C) := ok_nbr R.DN.F B T D
  have GV : FnOk P w K mg base CX0 4 R.fV R.dV ["web", "house"] (spFV C) := ok_fv R.DV.F B T D R
  have GC : FnOk P w K mg base CX0 15 R.fC R.dC ["view", "expression"] (spCT 12) := ok_ct R.DC O 12
  refine F.ok scSY (fun vs H Q E h => ?_) (fun cdv A outer s0 H vs Q E hr h => ?_)
  · obtain ⟨w, x, m, nb, s, t, y, n, h, r, ca, cs, ft, fs, rfl, _⟩ := h
    rfl
  · obtain ⟨w, x, m, nb, s, t, y, n, h, r, ca, cs, ft, fs, rfl, pre, sr, hca, hev, k⟩ := h
    have nd := scSY.nd
    have hu := hu_of hr
    have hr4 : Room 4 _ := hr.mono (by decide)
    have hr3 : Room 3 _ := hr.mono (by decide)
    refine ⟨_, pss_cons (ps_set (i := 5) nd rfl (.inl rfl) (pe_call GV hr4 rfl R.DV.m R.DV.k R.DV.b .nil pass0 (pa_cons (pv 0) (pa_cons (pv 2) pa_nil))))
      (pss_cons (ps_dput hu (pv 5) pe_str (pv 3) rfl)
      (pss_cons (ps_dput hu (pv 5) pe_str (pv 4) rfl)
      (pss_cons (ps_set (i := 6) nd rfl (.inl rfl) (pe_lst pa_nil))
      (pss_cons (ps_for PassesOwn.never rfl (pi_tup (pe_call GN hr3 rfl R.DN.m R.DN.k R.DN.b .nil pass0 (pa_cons (pv 0) (pa_cons (pv 2) pa_nil)))) (pg_name (i := 7) nd rfl (.inl rfl))
        (pss_cons (ps_dput hu (pv 5) pe_str (pv 7) rfl)
        (pss_one (ps_if (pt_cmpR op_ne (pe_call GC hr rfl R.DC.m R.DC.k R.DC.b .nil pass0 (pa_cons (pv 5) (pa_cons (pe_fld (pv 1) rfl) pa_nil))) pe_int (nomark _))
          (pss_one (ps_expr (pe_bm PySem.F.plainAttrs_list PySem.F.slot_list_append PySem.F.type_list_append mt_append (pv 6) (pa_cons (pe_tup (pa_cons (pv 7) (pa_cons (pe_call GC hr rfl R.DC.m R.DC.k R.DC.b .nil pass0 (pa_cons (pv 5) (pa_cons (pe_fld (pv 1) rfl) pa_nil))) pa_nil))) pa_nil)))) pss_nil))))
      (pss_one (ps_ret (pe_callTy call_tuple_of (by rfl) B.tuple PyProof.Rows.boot_tuple (pa_cons (pv 6) pa_nil)))))))), ?_⟩
    obtain ⟨dx, qw, rw0, L, bs, hw⟩ := pre.web
    obtain ⟨dp, hx⟩ := pre.prog
    obtain ⟨sh, smm, st⟩ := pre.smh
    refine ⟨_, rfl, _, rfl, w, dx, qw, rw0, m, L, bs, nb, h, rfl, hw, pre.lt, fun d kvs H1 hd0 s1 ed vf lk => ?_⟩
    refine ⟨_, rfl, _, rfl, d, _, rfl, DPut.k (k := .inr "round") ed (Nat.lt_of_le_of_lt lk (by decide)), ?_⟩
    have lk2 := putK_le kvs (.inr "round") (.int r)
    have vf2 := vf.put "round" (.int r)
    refine ⟨_, rfl, _, rfl, d, _, rfl, DPut.k (k := .inr "cell") upd_same (Nat.lt_of_le_of_lt (Nat.le_trans lk2 (Nat.succ_le_succ lk)) (by decide)), ?_⟩
    have lk3 := putK_le (putK kvs (.inr "round") (.int r)) (.inr "cell") (.ref ca)
    have vf3 := vf2.put "cell" (.ref ca)
    have s3 : Same H (L2.upd (L2.upd H1 d (.dK (putK kvs (.inr "round") (.int r)))) d (.dK (putK (putK kvs (.inr "round") (.int r)) (.inr "cell") (.ref ca)))) := sNew (sNew s1 hd0) hd0
    have ed3 : (L2.upd (L2.upd H1 d (.dK (putK kvs (.inr "round") (.int r)))) d (.dK (putK (putK kvs (.inr "round") (.int r)) (.inr "cell") (.ref ca)))) d = some (.dK (putK (putK kvs (.inr "round") (.int r)) (.inr "cell") (.ref ca))) := upd_same
    have lk5 : (putK (putK kvs (.inr "round") (.int r)) (.inr "cell") (.ref ca)).length ≤ 5 := by omega
    revert s3 ed3 vf3 lk5
    generalize putK (putK kvs (.inr "round") (.int r)) (.inr "cell") (.ref ca) = kv3
    generalize L2.upd (L2.upd H1 d (.dK (putK kvs (.inr "round") (.int r)))) d (.dK kv3) = H3
    intro vf3 s3 ed3 lk5
    refine ⟨Nat.zero_le _, fun sd hsd => ?_⟩
    have s4 : Same H (L2.upd H3 sd (.lst [])) := sT s3 (sN hsd)
    have nsd : H sd = none := sNo s3 hsd
    have nds : d ≠ sd := ne_of_none ed3 hsd
    refine ⟨_, rfl, _, rfl, w, dx, qw, rw0, m, L, bs, nb, h, rfl, hw.same s4, pre.lt, fun tn htn => ?_⟩
    refine ⟨tn, rfl, ⟨_, SqT.of htn⟩, for_tup (K := K) (a := tn) (xs := (nb h).map V.int) (fun i σ H' => ∃ (x7 : Option V) (kv : List (Key × V)) (rs : List (Addr × (Int × Int))), σ = [some (.ref w), some (.ref x), some (.int (h : Int)), some (.int r), some (.ref ca), some (.ref d), some (.ref sd), x7] ∧ H' d = some (.dK kv) ∧ VFx kv (f5 h m (nb h).length r ca) "other" ∧ kv.length ≤ 5 + i ∧
      H' sd = some (.lst (rs.map fun p => V.ref p.1)) ∧ (∀ p ∈ rs, H' p.1 = some (.tup [.int p.2.1, .int p.2.2])) ∧ rs.map (·.2) = saidL ((nb h).take i) ft fs ∧ H' tn = some (.tup ((nb h).map V.int)) ∧ Same H H') ?_ ?_ ?_ ?_⟩
    · exact ⟨none, kv3, [], rfl, by rw [upd_ne nds]; exact ed3, vf3.x _, lk5, upd_same, fun p hp => absurd hp List.not_mem_nil, rfl, htn, s4⟩
    · rintro i σ H' hi ⟨x7, kv, rs, rfl, _, _, _, _, _, _, etn, _⟩
      exact SqT.of etn
    · rintro i v σ H4 hv ⟨x7, kv, rs, rfl, ed4, vf4, lk4, esd, hrs, ers, etn, s5⟩
      obtain ⟨o, ho, rfl⟩ := map_inv hv
      have hi : i < (nb h).length := (List.getElem?_eq_some_iff.mp ho).1
      have hmem := List.mem_of_getElem? ho
      have h64 := pre.len
      have nd0 : H d = none := by
        cases e : H d with
        | none => rfl
        | some o' =>
          rw [s1 _ _ e] at ed
          exact absurd hd0 (by rw [e]; simp)
      refine ⟨_, rfl, _, rfl, d, _, rfl, DPut.k (k := .inr "other") ed4 (Nat.lt_of_le_of_lt lk4 (Nat.lt_of_lt_of_le (show 5 + i < 100 by omega) (by decide))), ?_⟩
      have vf6 := vf4.put (.int o)
      have lk6 := putK_le kv (.inr "other") (.int o)
      have s6 : Same H (L2.upd H4 d (.dK (putK kv (.inr "other") (.int o)))) := sNew s5 nd0
      have ed6 : (L2.upd H4 d (.dK (putK kv (.inr "other") (.int o)))) d = some (.dK (putK kv (.inr "other") (.int o))) := upd_same
      have esd6 : (L2.upd H4 d (.dK (putK kv (.inr "other") (.int o)))) sd = some (.lst (rs.map fun p => V.ref p.1)) := by rw [upd_ne nds.symm]; exact esd
      have hrs6 : ∀ p ∈ rs, (L2.upd H4 d (.dK (putK kv (.inr "other") (.int o)))) p.1 = some (.tup [.int p.2.1, .int p.2.2]) := fun p hp => by
        rw [upd_ne (ne_of (hrs p hp) ed4 (fun z => by cases z))]
        exact hrs p hp
      have etn6 : (L2.upd H4 d (.dK (putK kv (.inr "other") (.int o)))) tn = some (.tup ((nb h).map V.int)) := by
        rw [upd_ne (ne_of etn ed4 (fun z => by cases z))]
        exact etn
      revert vf6 s6 ed6 esd6 hrs6 etn6 lk6
      generalize putK kv (.inr "other") (.int o) = kv6
      generalize L2.upd H4 d (.dK kv6) = H6
      intro vf6 lk6 s6 ed6 esd6 hrs6 etn6
      obtain ⟨evt, evy⟩ := hev o hmem
      have vwo := vwT (ca := ca) sh smm st sr (pre.smo hmem)
      have ci : CellsIn H6 (fT h m (nb h).length r ca o) cs := .inr ⟨ca, by unfold fT f5; rw [upF_ne (by decide +kernel), upF_eq], s6 _ _ hca⟩
      refine ⟨_, rfl, _, rfl, x, CP, dp, _, _, rfl, s6 _ _ hx, TP.cl, TP.nT, pf_to _ _ _ _, d, t, wT, _, cs, kv6, _, ft o, rfl, alT, ed6, vf6, vwo, ci, evt.same s6, rfl, _, rfl, ?_⟩
      rw [dec_int']
      by_cases c : ft o = 0
      · rw [decide_eq_true c]
        refine ⟨_, kv6, rs, rfl, ed6, vf6.back, by omega, esd6, hrs6, ?_, etn6, s6⟩
        rw [said_snoc _ _ _ _ _ ho, if_neg (fun z => z c), List.append_nil, ers]
      · rw [decide_eq_false c]
        refine iteT ?_
        refine ⟨_, rfl, .inl ⟨rfl, _, SqL.of esd6⟩, _, rfl, _, rfl, _, rfl, x, CP, dp, _, _, rfl, s6 _ _ hx, TP.cl, TP.nY, pf_say _ _ _ _, d, y, wT, _, cs, kv6, _, fs o, rfl, alT, ed6, vf6, vwo, ci, evy.same s6, (by show 2 ≤ sizeLine; decide), fun tp htp => ?_⟩
        have s7 := sN (o := .tup [.int o, .int (fs o)]) htp
        have nsp : sd ≠ tp := ne_of_none esd6 htp
        refine ⟨sd, _, _, rfl, rfl, s7 _ _ esd6, ?_, ?_⟩
        · have l1 := congrArg List.length ers
          rw [List.length_map] at l1
          have l2 := said_le ((nb h).take i) ft fs
          rw [List.length_take] at l2
          rw [List.length_map]
          exact Nat.lt_of_lt_of_le (show rs.length < 100 by omega) (by decide)
        · refine ⟨_, kv6, rs ++ [(tp, (o, fs o))], rfl, ?_, vf6.back, by omega, ?_, ?_, ?_, ?_, ?_⟩
          · rw [upd_ne (ne_of ed6 esd6 (fun z => by cases z))]
            exact s7 _ _ ed6
          · rw [upd_same, List.map_append]
            rfl
          · intro p hp
            rcases List.mem_append.mp hp with hp | hp
            · have z := s7 _ _ (hrs6 p hp)
              rw [upd_ne (ne_of z (s7 _ _ esd6) (fun z => by cases z))]
              exact z
            · rw [List.mem_singleton.mp hp, upd_ne nsp.symm, upd_same]
          · rw [said_snoc _ _ _ _ _ ho, if_pos c, List.map_append, ers]
            rfl
          · have z := s7 _ _ etn6
            rw [upd_ne (ne_of z (s7 _ _ esd6) (fun z => by cases z))]
            exact z
          · exact sNew (sT s6 s7) nsd
    · rintro σ H4 ⟨x7, kv, rs, rfl, ed4, vf4, lk4, esd, hrs, ers, etn, s5⟩
      rw [List.length_map, List.take_length] at ers
      refine ⟨_, rfl, sd, _, rfl, .inl ⟨SqL.of esd, fun tq htq => ?_⟩⟩
      have s7 := sN (o := .tup (rs.map fun p => V.ref p.1)) htq
      exact k tq rs _ (sT s5 s7) upd_same (fun p hp => s7 _ _ (hrs p hp)) ers
end
end Q

namespace Q
open PySem L2
section
variable {P : Program} {w : World} {K : PySem.W.Frag} {mg : Str → Option Value} {base : Heap}
theorem scNX : FnScope ["web", "program", "house", "at", "cells", "numbers", "view", "expression"] ["web", "program", "house", "at", "cells", "numbers"] (defScope sNX) := ⟨rfl, rfl, rfl, by decide +kernel, rfl, by decide +kernel, by decide +kernel⟩
theorem ok_nx {f C CP : Addr} {fd : FuncData} (F : Fun K "nexts_come_to" "nexts_come_to" sNX f fd) (B : Bts mg) (hsum : mg "sum" = none) (T : WTxt K mg C) (TP : PTxt K mg CP) (D : WDefs K mg) (R : RDefsN K mg) (O : OpsT P w K mg base) : FnOk P w K mg base CX0 16 f fd ["web", "program", "house", "at", "cells", "numbers"] (spNX C CP) := by
  have GB : FnOk P w K mg base CX0 1 R.fB R.dB ["number"] spBB := ok_bb R.DB.F
  have GV : FnOk P w K mg base CX0 4 R.fV R.dV ["web", "house"] (spFV C) := ok_fv R.DV.F B T D R
  have GC : FnOk P w K mg base CX0 15 R.fC R.dC ["view", "expression"] (spCT 12) := ok_ct R.DC O 12
  refine F.ok scNX (fun vs H Q E h => ?_) (fun cdv A outer s0 H vs Q E hr h => ?_)
  · obtain ⟨w, x, m, nb, s, t, y, n, h, r, ca, na, cs, ns, le, mo, q, xs, zs, rfl, _⟩ := h
    rfl
  · obtain ⟨w, x, m, nb, s, t, y, n, h, r, ca, na, cs, ns, le, mo, q, xs, zs, rfl, pre, sr, hca, num, ln, sns, hle, hmo, rfl, hq, hl, pz, k⟩ := h
    have nd := scNX.nd
    have hu := hu_of hr
    have hu64 := hr.units
    have hr4 : Room 4 _ := hr.mono (by decide)
    have hr1 : Room 1 _ := hr.mono (by decide)
    refine ⟨_, pss_cons (ps_set (i := 6) nd rfl (.inr rfl) (pe_call GV hr4 rfl R.DV.m R.DV.k R.DV.b .nil pass0 (pa_cons (pv 0) (pa_cons (pv 2) pa_nil))))
      (pss_cons (ps_dput hu (pv 6) pe_str (pv 3) rfl)
      (pss_cons (ps_dput hu (pv 6) pe_str (pv 4) rfl)
      (pss_cons (ps_dput hu (pv 6) pe_str (pe_callB call_len_seq (by rfl) B.len PySem.boot_len (pa_cons (pv 5) pa_nil)) rfl)
      (pss_cons (ps_dput hu (pv 6) pe_str (pe_call GB hr1 rfl R.DB.m R.DB.k R.DB.b .nil pass0 (pa_cons (pe_callB (r := rSumO K) (cr_sumO rfl) (by rfl) hsum PyProof.Rows.boot_sum (pa_cons (pv 5) pa_nil)) pa_nil)) rfl)
      (pss_cons (ps_dput hu (pv 6) pe_str (pe_callBK (r := rMinD K) (cr_minD rfl hu64) (by rfl) B.min PyProof.Rows.boot_min (pa_cons (pv 5) pa_nil) (pk_cons pe_int pk_nil)) rfl)
      (pss_cons (ps_dput hu (pv 6) pe_str (pe_callBK (r := rMaxD K) (cr_maxD rfl hu64) (by rfl) B.max PyProof.Rows.boot_max (pa_cons (pv 5) pa_nil) (pk_cons pe_int pk_nil)) rfl)
      (pss_one (ps_ret (pe_callTy call_tuple_of (by rfl) B.tuple PyProof.Rows.boot_tuple (pa_cons (pe_lc (own := [("expression", 7)]) (g := gName 7) (tt := tYes) rfl nd (pi_tup (pe_fld (pv 1) rfl))
        (blkOk_by (N := ["web", "program", "house", "at", "cells", "numbers", "view", "expression"]) (sc := defScope sNX) (by decide +kernel)) (fun _ _ _ _ _ => pg_name (i := 7) nd rfl (.inl rfl)) (fun _ _ _ _ _ => pts_nil)
        (fun _ _ _ _ _ => pe_call GC hr rfl R.DC.m R.DC.k R.DC.b .nil pass0 (pa_cons (pv 6) (pa_cons (pv 7) pa_nil)))) pa_nil)))))))))), ?_⟩
    obtain ⟨dx, qw, rw0, L, bs, hw⟩ := pre.web
    obtain ⟨dp, hx⟩ := pre.prog
    obtain ⟨sh, smm, st⟩ := pre.smh
    refine ⟨_, rfl, _, rfl, w, dx, qw, rw0, m, L, bs, nb, h, rfl, hw, pre.lt, fun d kvs H1 hd0 s1 ed vf lk => ?_⟩
    -- one word more
    have put : ∀ (H' : Hp) (kv : List (Key × V)) (f : Str → Option V) (j : Nat) (wd : Str) (v : V), Same H H' → H' d = some (.dK kv) → VF kv f → kv.length ≤ j → j ≤ 20 → ∃ H2, DPut H' d (.str wd) v H2 ∧ ∃ kv2, Same H H2 ∧ H2 d = some (.dK kv2) ∧ VF kv2 (upF f wd v) ∧ kv2.length ≤ j + 1 := fun H' kv f j wd v sH e vf' lj l20 => by
      refine ⟨_, DPut.k (k := .inr wd) e (Nat.lt_of_le_of_lt (Nat.le_trans lj l20) (by decide)), putK kv (.inr wd) v, sNew sH hd0, upd_same, vf'.put wd v, ?_⟩
      have := putK_le kv (.inr wd) v
      omega
    obtain ⟨H2, p2, kv2, s2, ed2, vf2, l2⟩ := put H1 kvs _ 3 "round" (.int r) s1 ed vf lk (by decide)
    refine ⟨_, rfl, _, rfl, d, H2, rfl, p2, ?_⟩
    obtain ⟨H3, p3, kv3, s3, ed3, vf3, l3⟩ := put H2 kv2 _ 4 "cell" (.ref ca) s2 ed2 vf2 l2 (by decide)
    refine ⟨_, rfl, _, rfl, d, H3, rfl, p3, ?_⟩
    refine ⟨_, rfl, na, _, rfl, (num.same s3).sq, ?_⟩
    rw [List.length_map]
    obtain ⟨H4, p4, kv4, s4, ed4, vf4, l4⟩ := put H3 kv3 _ 5 "heard" (.int (ns.length : Int)) s3 ed3 vf3 l3 (by decide)
    refine ⟨_, rfl, d, H4, rfl, p4, ?_⟩
    refine ⟨_, rfl, na, ns, rfl, (num.same s4).sq, ns.sum, rfl, ?_⟩
    obtain ⟨H5, p5, kv5, s5, ed5, vf5, l5⟩ := put H4 kv4 _ 6 "sum" (.int (bb ns.sum)) s4 ed4 vf4 l4 (by decide)
    refine ⟨_, rfl, d, H5, rfl, p5, ?_⟩
    refine ⟨_, rfl, na, ns, 0, rfl, rfl, (num.same s5).sq, fun le' hle' => ?_⟩
    obtain rfl := hle.uniq hle'
    obtain ⟨H6, p6, kv6, s6, ed6, vf6, l6⟩ := put H5 kv5 _ 7 "least" (.int le) s5 ed5 vf5 l5 (by decide)
    refine ⟨_, rfl, d, H6, rfl, p6, ?_⟩
    refine ⟨_, rfl, na, ns, 0, rfl, rfl, (num.same s6).sq, fun mo' hmo' => ?_⟩
    obtain rfl := hmo.uniq hmo'
    obtain ⟨H7, p7, kv7, s7, ed7, vf7, l7⟩ := put H6 kv6 _ 8 "most" (.int mo) s6 ed6 vf6 l6 (by decide)
    refine ⟨_, rfl, d, H7, rfl, p7, ?_⟩
    have vwn := vwN (ca := ca) (k := (ns.length : Int)) (u := bb ns.sum) sh smm st sr (by unfold Sm; omega) (bb_sm _) (least_sm hle sns) (most_sm hmo sns)
    have ci : CellsIn H7 (fN h m (nb h).length r ca ns.length (bb ns.sum) le mo) cs := .inr ⟨ca, by unfold fN f5; rw [upF_ne (by decide +kernel), upF_ne (by decide +kernel), upF_ne (by decide +kernel), upF_ne (by decide +kernel), upF_eq], s7 _ _ hca⟩
    refine ⟨_, rfl, x, CP, dp, _, _, rfl, s7 _ _ hx, TP.cl, TP.nN, pf_nexts _ _ _ _, q, rfl, ⟨_, SqT.of (s7 _ _ hq)⟩, fun D0 hD => lc_tup (K := K) (a := q) (xs := xs) (fun i H' => H' D0 = some (.lst ((zs.take i).map V.int)) ∧ Same H7 H') ?_ ?_ ?_ ?_⟩
    · exact ⟨upd_same, sN hD⟩
    · rintro i H8 hi ⟨_, s8⟩
      exact SqT.of (s8 _ _ (s7 _ _ hq))
    · rintro i v H8 hv ⟨eD, s8⟩
      obtain ⟨z, hz, ev⟩ := paired_at pz hv
      have hi : i < xs.length := (List.getElem?_eq_some_iff.mp hv).1
      refine ⟨rfl, _, rfl, _, rfl, d, v, wN, _, cs, kv7, _, z, rfl, alN, s8 _ _ ed7, vf7, vwn, ci.same s8, ev.same (sT s7 s8), ?_⟩
      refine ⟨_, eD, ?_, ?_, sNew s8 hD⟩
      · rw [List.length_map, List.length_take]
        exact Nat.lt_of_lt_of_le (show min i zs.length < 64 by omega) (by decide)
      · rw [upd_same, List.take_add_one, hz, List.map_append]
        rfl
    · rintro H8 ⟨eD, s8⟩
      have hlz : xs.length = zs.length := Paired.length pz
      rw [hlz, List.take_length] at eD
      refine ⟨D0, _, rfl, .inl ⟨SqL.of eD, fun t1 ht1 => ?_⟩⟩
      exact k t1 _ (sT s7 (sT s8 (sN ht1))) upd_same
end
end Q

namespace Q
open PySem L2
theorem RowsL.same {H H' : Hp} {D : Addr} {bs : List Addr} {nb : Nat → List Int} {n : Nat} (h : RowsL H D bs nb n) (s : Same H H') : RowsL H' D bs nb n := ⟨s _ _ h.at_, h.len, h.nd, h.nD, fun i a e => s _ _ (h.row i a e)⟩
end Q

namespace Q
open PySem L2 QM
theorem paired_ofI {R : V → Int → Prop} : ∀ {xs : List V}, (∀ x ∈ xs, ∃ k, R x k) → ∃ as, Paired R xs as
  | [], _ => ⟨[], .nil⟩
  | x :: r, h => by
    obtain ⟨k, hk⟩ := h x List.mem_cons_self
    obtain ⟨as, p⟩ := paired_ofI (xs := r) fun y hy => h y (List.mem_cons_of_mem _ hy)
    exact ⟨k :: as, .cons hk p⟩
theorem paired_mono' {α β : Type} {R R' : α → β → Prop} {xs : List α} {as : List β} (h : ∀ x k, R x k → R' x k) (p : Paired R xs as) : Paired R' xs as := by
  induction p with
  | nil => exact .nil
  | cons a _ ih => exact .cons (h _ _ a) ih
theorem choose_f {R : Int → Int → Prop} {ns : List Int} (h : ∀ o ∈ ns, ∃ z, R o z) : ∃ f : Int → Int, ∀ o ∈ ns, R o (f o) := by
  classical
  refine ⟨fun o => if c : ∃ z, R o z then Classical.choose c else 0, fun o ho => ?_⟩
  have c := h o ho
  show R o (if c : ∃ z, R o z then Classical.choose c else 0)
  rw [dif_pos c]
  exact Classical.choose_spec c
theorem asc_len {l : List Int} {n : Nat} (h : l.Pairwise (· < ·)) (b : ∀ x ∈ l, 0 ≤ x ∧ x < (n : Int)) : l.length ≤ n := by
  have z := nodup_le n (l.map Int.toNat) ?_ ?_
  · rw [List.length_map] at z
    exact z
  · refine List.pairwise_map.mpr (h.imp_of_mem fun {a b'} ha hb c e => ?_)
    have h1 := b a ha
    have h2 := b b' hb
    omega
  · intro x hx
    obtain ⟨y, hy, rfl⟩ := List.mem_map.mp hx
    have := b y hy
    omega
theorem RowsL.congr {H : Hp} {D : Addr} {bs : List Addr} {nb nb' : Nat → List Int} {n : Nat} (h : RowsL H D bs nb n) (e : ∀ i, i < n → nb i = nb' i) : RowsL H D bs nb' n :=
  ⟨h.at_, h.len, h.nd, h.nD, fun i a hi => by
    have : i < n := by rw [← h.len]; exact (List.getElem?_eq_some_iff.mp hi).1
    rw [← e i this]
    exact h.row i a hi⟩
/-- a web, and the law's own rows of it; not at the hand -/
structure Fix (C : Addr) (M : Nat) (H : Hp) (p w r : Addr) (nb : Nat → List Int) : Prop where
  web : ∃ dx q r0 L bs, WebIn C (M : Int) L H w dx q r0 bs nb
  rows : ∃ bs, RowsL H r bs nb M ∧ r ≠ p ∧ ¬ p ∈ bs
  m1 : 1 ≤ M
  m40 : M ≤ 40
  len : ∀ h, h < M → (nb h).length ≤ 64
  inn : ∀ h, h < M → ∀ o ∈ nb h, 0 ≤ o ∧ o < (M : Int)
theorem WebIn.ext {C : Addr} {m : Int} {L : List (Addr × List Int)} {H H' : Hp} {w p l dx q r : Addr} {bs : List Addr} {nb : Nat → List Int} (x : WebIn C m L H w dx q r bs nb) (g : HandAt H p l) (s : Ext p H H') : WebIn C m L H' w dx q r bs nb := by
  obtain ⟨xs, e⟩ := g.hp
  refine ⟨s _ _ x.at_ (ne_of x.at_ e (fun z => by cases z)), ⟨s _ _ x.rows.at_ (ne_of x.rows.at_ e (fun z => by cases z)), x.rows.len, fun i a hi => ?_⟩, x.asc, x.nb⟩
  have z := x.rows.row i a hi
  exact s _ _ z (ne_of z e (fun z => by cases z))
theorem Fix.ext {C : Addr} {M : Nat} {H H' : Hp} {p l w r : Addr} {nb : Nat → List Int} (x : Fix C M H p w r nb) (g : HandAt H p l) (s : Ext p H H') : Fix C M H' p w r nb := by
  obtain ⟨⟨dx, q, r0, L, bs, a⟩, ⟨bs2, b, n1, n2⟩, c, d, e, f⟩ := x
  exact ⟨⟨dx, q, r0, L, bs, a.ext g s⟩, ⟨bs2, ⟨s _ _ b.at_ n1, b.len, b.nd, b.nD, fun i a hi => s _ _ (b.row i a hi) (fun z => n2 (by rw [← z]; exact List.mem_of_getElem? hi))⟩, n1, n2⟩, c, d, e, f⟩
theorem Fix.same {C : Addr} {M : Nat} {H H' : Hp} {p w r : Addr} {nb : Nat → List Int} (x : Fix C M H p w r nb) (s : Same H H') : Fix C M H' p w r nb := by
  obtain ⟨⟨dx, q, r0, L, bs, a⟩, ⟨bs2, b, n1, n2⟩, c, d, e, f⟩ := x
  exact ⟨⟨dx, q, r0, L, bs, a.same s⟩, ⟨bs2, b.same s, n1, n2⟩, c, d, e, f⟩
theorem Fix.hpre {C CP : Addr} {M : Nat} {H : Hp} {p w r x dx : Addr} {nb : Nat → List Int} {s t y n : V} {h : Nat} (f : Fix C M H p w r nb) (ex : H x = some (.ins CP dx (pf s t y n))) (lt : h < M) : HPre C CP H w (M : Int) nb x s t y n h :=
  ⟨f.web, ⟨dx, ex⟩, lt, by have := f.m40; omega, f.len h lt, f.inn h lt⟩
theorem FineP.grow {H H' : Hp} {s t y n : V} (h : FineP H s t y n) (g : Grow H H') : FineP H' s t y n := by
  obtain ⟨q, xs, q', us, st, rt, ry, en, hn, ln, rn⟩ := h.ex
  exact ⟨q, xs, q', us, ⟨st.es, g.tup st.hq, st.l1, st.l4, fun x hx => (st.rs x hx).grow g⟩, rt.grow g, ry.grow g, en, g.tup hn, ln, fun x hx => (rn x hx).grow g⟩
theorem EvV.congr {H : Hp} {W : List Str} {en en' : Str → Int} {cs : List Int} (h : ∀ s ∈ W, en s = en' s) : ∀ {n : Nat} {v : V} {z : Int}, EvV H W en cs n v z → EvV H W en' cs n v z
  | 0, _, _, g => g.elim
  | n + 1, v, z, ⟨sm, a, s, r, e1, e2, g⟩ => by
    refine ⟨sm, a, s, r, e1, e2, ?_⟩
    rcases g with g | g | ⟨hs, er, ez⟩ | ⟨es, x, y, u, zx, zy, zu, er, h1, h2, h3, ez⟩ | ⟨es, x, y, zx, zy, er, h1, h2, ez⟩
    · exact .inl g
    · exact .inr (.inl g)
    · exact .inr (.inr (.inl ⟨hs, er, ez.trans (h s hs)⟩))
    · exact .inr (.inr (.inr (.inl ⟨es, x, y, u, zx, zy, zu, er, EvV.congr h h1, EvV.congr h h2, EvV.congr h h3, ez⟩)))
    · exact .inr (.inr (.inr (.inr ⟨es, x, y, zx, zy, er, EvV.congr h h1, EvV.congr h h2, ez⟩)))
theorem enT_ca {h m t r o : Int} {ca ca' : Addr} : ∀ s ∈ wT, enOf (fT h m t r ca o) s = enOf (fT h m t r ca' o) s := fun s hs => by
  have nc : s ≠ "cell" := fun e => absurd hs (by rw [e]; decide +kernel)
  have e : fT h m t r ca o s = fT h m t r ca' o s := by
    unfold fT f5
    by_cases c : s = "other"
    · rw [c, upF_eq, upF_eq]
    · rw [upF_ne c, upF_ne c, upF_ne nc, upF_ne nc]
  unfold enOf
  rw [e]
theorem enN_ca {h m t r k u le mo : Int} {ca ca' : Addr} : ∀ s ∈ wN, enOf (fN h m t r ca k u le mo) s = enOf (fN h m t r ca' k u le mo) s := fun s hs => by
  have nc : s ≠ "cell" := fun e => absurd hs (by rw [e]; decide +kernel)
  have e : fN h m t r ca k u le mo s = fN h m t r ca' k u le mo s := by
    unfold fN f5
    by_cases c1 : s = "most"
    · rw [c1, upF_eq, upF_eq]
    · rw [upF_ne c1, upF_ne c1]
      by_cases c2 : s = "least"
      · rw [c2, upF_eq, upF_eq]
      · rw [upF_ne c2, upF_ne c2]
        by_cases c3 : s = "sum"
        · rw [c3, upF_eq, upF_eq]
        · rw [upF_ne c3, upF_ne c3]
          by_cases c4 : s = "heard"
          · rw [c4, upF_eq, upF_eq]
          · rw [upF_ne c4, upF_ne c4, upF_ne nc, upF_ne nc]
  unfold enOf
  rw [e]
/-! ### hearing -/
def put1 (a : Nat → List Int) (p : Int × Int) : Nat → List Int := fun k => if k = p.1.toNat then a p.1.toNat ++ [p.2] else a k
def hearN (Sr : Nat → List (Int × Int)) : Nat → Nat → List Int
  | 0 => fun _ => []
  | i + 1 => (Sr i).foldl put1 (hearN Sr i)
/-- what one house says -/
structure SOk (M : Nat) (ps : List (Int × Int)) : Prop where
  asc : ps.Pairwise fun p q => p.1 < q.1
  bnd : ∀ p ∈ ps, 0 ≤ p.1 ∧ p.1 < (M : Int) ∧ Sm p.2
theorem SOk.take {M : Nat} {ps : List (Int × Int)} (h : SOk M ps) (j : Nat) : SOk M (ps.take j) :=
  ⟨h.asc.sublist (List.take_sublist j ps), fun p hp => h.bnd p (List.mem_of_mem_take hp)⟩
theorem SOk.of {M : Nat} {ns : List Int} {ft fs : Int → Int} (a : ns.Pairwise (· < ·)) (b : ∀ o ∈ ns, 0 ≤ o ∧ o < (M : Int)) (c : ∀ o ∈ ns, Sm (fs o)) : SOk M (saidL ns ft fs) := by
  refine ⟨List.pairwise_map.mpr (a.sublist List.filter_sublist), fun p hp => ?_⟩
  obtain ⟨o, ho, rfl⟩ := List.mem_map.mp hp
  have ho' := (List.mem_filter.mp ho).1
  exact ⟨(b o ho').1, (b o ho').2, c o ho'⟩
theorem fold_no : ∀ {ps : List (Int × Int)} {a : Nat → List Int} {h : Nat}, (∀ p ∈ ps, p.1.toNat ≠ h) → ps.foldl put1 a h = a h
  | [], _, _, _ => rfl
  | p :: ps, a, h, k => by
    show ps.foldl put1 (put1 a p) h = a h
    rw [fold_no fun q hq => k q (List.mem_cons_of_mem _ hq)]
    exact if_neg fun e => k p List.mem_cons_self e.symm
theorem fold_le : ∀ {ps : List (Int × Int)} {a : Nat → List Int} {h : Nat}, ps.Pairwise (fun p q => p.1 < q.1) → (∀ p ∈ ps, 0 ≤ p.1) → (ps.foldl put1 a h).length ≤ (a h).length + 1
  | [], _, _, _, _ => Nat.le_succ _
  | p :: ps, a, h, k, b => by
    show (ps.foldl put1 (put1 a p) h).length ≤ (a h).length + 1
    obtain ⟨k1, k2⟩ := List.pairwise_cons.mp k
    have b' : ∀ q ∈ ps, 0 ≤ q.1 := fun q hq => b q (List.mem_cons_of_mem _ hq)
    by_cases c : h = p.1.toNat
    · rw [fold_no fun q hq => by
        have := k1 q hq
        have := b p List.mem_cons_self
        omega]
      show ((if h = p.1.toNat then a p.1.toNat ++ [p.2] else a h) : List Int).length ≤ (a h).length + 1
      rw [if_pos c, List.length_append, ← c]
      exact Nat.le_refl _
    · have z := fold_le (a := put1 a p) (h := h) k2 b'
      have e : put1 a p h = a h := if_neg c
      rw [e] at z
      exact z
theorem fold_sm : ∀ {ps : List (Int × Int)} {a : Nat → List Int} {h : Nat}, (∀ p ∈ ps, Sm p.2) → (∀ k, ∀ z ∈ a k, Sm z) → ∀ z ∈ ps.foldl put1 a h, Sm z
  | [], _, _, _, g => g _
  | p :: ps, a, h, k, g => by
    refine fold_sm (ps := ps) (a := put1 a p) (fun q hq => k q (List.mem_cons_of_mem _ hq)) fun i z hz => ?_
    have hz' : z ∈ (if i = p.1.toNat then a p.1.toNat ++ [p.2] else a i) := hz
    by_cases c : i = p.1.toNat
    · rw [if_pos c] at hz'
      rcases List.mem_append.mp hz' with hz' | hz'
      · exact g _ z hz'
      · rw [List.mem_singleton.mp hz']
        exact k p List.mem_cons_self
    · rw [if_neg c] at hz'
      exact g _ z hz'
theorem hear_le {M : Nat} {Sr : Nat → List (Int × Int)} : ∀ {n : Nat}, (∀ i, i < n → SOk M (Sr i)) → ∀ h, (hearN Sr n h).length ≤ n
  | 0, _, _ => Nat.le_refl _
  | n + 1, k, h => by
    have z := hear_le (n := n) (fun i hi => k i (by omega)) h
    have y := fold_le (a := hearN Sr n) (h := h) (k n (by omega)).asc fun p hp => ((k n (by omega)).bnd p hp).1
    show ((Sr n).foldl put1 (hearN Sr n) h).length ≤ n + 1
    omega
theorem hear_sm {M : Nat} {Sr : Nat → List (Int × Int)} : ∀ {n : Nat}, (∀ i, i < n → SOk M (Sr i)) → ∀ h, ∀ z ∈ hearN Sr n h, Sm z
  | 0, _, _, _, hz => absurd hz List.not_mem_nil
  | n + 1, k, h, z, hz => fold_sm (fun p hp => ((k n (by omega)).bnd p hp).2.2) (fun i => hear_sm (n := n) (fun j hj => k j (by omega)) i) z hz
/-- as far as it went: i houses whole, of the next one j pairs -/
theorem part_le {M : Nat} {Sr : Nat → List (Int × Int)} {n i : Nat} (j : Nat) (k : ∀ i, i < n → SOk M (Sr i)) (hi : i < n) (h : Nat) : (((Sr i).take j).foldl put1 (hearN Sr i) h).length ≤ n := by
  have z := hear_le (n := i) (fun a ha => k a (by omega)) h
  have s := (k i hi).take j
  have y := fold_le (a := hearN Sr i) (h := h) s.asc fun p hp => (s.bnd p hp).1
  omega
theorem fold_snoc {ps : List (Int × Int)} {a : Nat → List Int} {j : Nat} {p : Int × Int} (h : ps[j]? = some p) : (ps.take (j + 1)).foldl put1 a = put1 ((ps.take j).foldl put1 a) p := by
  rw [List.take_add_one, h, List.foldl_append]
  rfl
/-! ### rounds -/
def SaidOf (H : Hp) (M : Nat) (nb : Nat → List Int) (t y : V) (r : Nat) (R0 : Nat → List Int) (h : Nat) (ps : List (Int × Int)) : Prop := ∃ ft fs : Int → Int, (∀ o ∈ nb h, ∀ ca, EvV H wT (enOf (fT h M (nb h).length r ca o)) (R0 h) 12 t (ft o) ∧ EvV H wT (enOf (fT h M (nb h).length r ca o)) (R0 h) 12 y (fs o)) ∧ ps = saidL (nb h) ft fs
def NextOf (H : Hp) (M : Nat) (nb : Nat → List Int) (us : List V) (r : Nat) (R0 : Nat → List Int) (S0 : Nat → List (Int × Int)) (h : Nat) (zs : List Int) : Prop := ∃ le mo, IsLeast 0 (hearN S0 M h) le ∧ IsMost 0 (hearN S0 M h) mo ∧ ∀ ca, Paired (EvV H wN (enOf (fN h M (nb h).length r ca (hearN S0 M h).length (bb (hearN S0 M h).sum) le mo)) (R0 h) 12) us zs
structure StepOk (H : Hp) (M : Nat) (nb : Nat → List Int) (t y : V) (us : List V) (r : Nat) (R0 : Nat → List Int) (S0 : Nat → List (Int × Int)) (R1 : Nat → List Int) : Prop where
  sa : ∀ h, h < M → SaidOf H M nb t y r R0 h (S0 h)
  ok : ∀ h, h < M → SOk M (S0 h)
  nx : ∀ h, h < M → NextOf H M nb us r R0 S0 h (R1 h)
structure Runs (H : Hp) (M : Nat) (nb : Nat → List Int) (xs : List V) (t y : V) (us : List V) (R : Nat → Nat → List Int) (S : Nat → Nat → List (Int × Int)) (n : Nat) : Prop where
  st : ∀ h : Nat, h < M → Paired (EvV H wS (enOf (f3 h M (nb h).length)) [] 12) xs (R 0 h)
  step : ∀ r, r < n → StepOk H M nb t y us r (R r) (S r) (R (r + 1))
theorem Runs.less {H : Hp} {M : Nat} {nb : Nat → List Int} {xs : List V} {t y : V} {us : List V} {R : Nat → Nat → List Int} {S : Nat → Nat → List (Int × Int)} {n m : Nat} (h : Runs H M nb xs t y us R S n) (l : m ≤ n) : Runs H M nb xs t y us R S m := ⟨h.st, fun r hr => h.step r (by omega)⟩
theorem StepOk.grow {H H' : Hp} {M : Nat} {nb : Nat → List Int} {t y : V} {us : List V} {r : Nat} {R0 : Nat → List Int} {S0 : Nat → List (Int × Int)} {R1 : Nat → List Int} (h : StepOk H M nb t y us r R0 S0 R1) (g : Grow H H') : StepOk H' M nb t y us r R0 S0 R1 := by
  refine ⟨fun i hi => ?_, h.ok, fun i hi => ?_⟩
  · obtain ⟨ft, fs, k, e⟩ := h.sa i hi
    exact ⟨ft, fs, fun o ho ca => ⟨(k o ho ca).1.grow g, (k o ho ca).2.grow g⟩, e⟩
  · obtain ⟨le, mo, k1, k2, p⟩ := h.nx i hi
    exact ⟨le, mo, k1, k2, fun ca => paired_mono' (fun _ _ z => z.grow g) (p ca)⟩
theorem Runs.grow {H H' : Hp} {M : Nat} {nb : Nat → List Int} {xs : List V} {t y : V} {us : List V} {R : Nat → Nat → List Int} {S : Nat → Nat → List (Int × Int)} {n : Nat} (h : Runs H M nb xs t y us R S n) (g : Grow H H') : Runs H' M nb xs t y us R S n :=
  ⟨fun i hi => paired_mono' (fun _ _ z => z.grow g) (h.st i hi), fun r hr => (h.step r hr).grow g⟩
theorem Runs.same {H H' : Hp} {M : Nat} {nb : Nat → List Int} {xs : List V} {t y : V} {us : List V} {R : Nat → Nat → List Int} {S : Nat → Nat → List (Int × Int)} {n : Nat} (h : Runs H M nb xs t y us R S n) (s : Same H H') : Runs H' M nb xs t y us R S n := h.grow (Grow.of_same s)
theorem chooseN {β : Type} [Inhabited β] {P : Nat → β → Prop} {M : Nat} (h : ∀ i, i < M → ∃ z, P i z) : ∃ f : Nat → β, ∀ i, i < M → P i (f i) := by
  classical
  refine ⟨fun i => if c : ∃ z, P i z then Classical.choose c else default, fun i hi => ?_⟩
  have c := h i hi
  show P i (if c : ∃ z, P i z then Classical.choose c else default)
  rw [dif_pos c]
  exact Classical.choose_spec c
/-- the houses of a web -/
structure NbOk (M : Nat) (nb : Nat → List Int) : Prop where
  m1 : 1 ≤ M
  m40 : M ≤ 40
  asc : ∀ h, h < M → (nb h).Pairwise (· < ·)
  len : ∀ h, h < M → (nb h).length ≤ 64
  inn : ∀ h, h < M → ∀ o ∈ nb h, 0 ≤ o ∧ o < (M : Int)
theorem NbOk.smh {M : Nat} {nb : Nat → List Int} (p : NbOk M nb) {h : Nat} (hh : h < M) : Sm (h : Int) ∧ Sm (M : Int) ∧ Sm ((nb h).length : Int) := by
  have b := p.m40
  have c := p.len h hh
  unfold Sm
  omega
theorem NbOk.smo {M : Nat} {nb : Nat → List Int} (p : NbOk M nb) {h : Nat} (hh : h < M) {o : Int} (ho : o ∈ nb h) : Sm o := by
  have a := p.inn h hh o ho
  have b := p.m40
  unfold Sm
  omega
/-- the trees of a program -/
structure Trees (H : Hp) (c : Nat) (xs : List V) (t y : V) (us : List V) : Prop where
  lx : xs.length = c
  lu : us.length = c
  rx : ∀ v ∈ xs, ∃ k, TS H wS 0 12 v k
  rt : ∃ k, TS H wT (c : Int) 12 t k
  ry : ∃ k, TS H wT (c : Int) 12 y k
  ru : ∀ v ∈ us, ∃ k, TS H wN (c : Int) 12 v k
def RowOk (M c : Nat) (R0 : Nat → List Int) : Prop := ∀ h, h < M → (R0 h).length = c ∧ ∀ z ∈ R0 h, Sm z
theorem paired_all {R : V → Int → Prop} {Q : Int → Prop} (h : ∀ x k, R x k → Q k) {xs : List V} {as : List Int} (p : Paired R xs as) : ∀ k ∈ as, Q k := by
  induction p with
  | nil => exact fun k hk => absurd hk List.not_mem_nil
  | cons a _ ih => exact fun k hk => (List.mem_cons.mp hk).elim (fun e => by rw [e]; exact h _ _ a) (ih k)
theorem step_ex {H : Hp} {M c : Nat} {nb : Nat → List Int} {xs : List V} {t y : V} {us : List V} (N : NbOk M nb) (T : Trees H c xs t y us) {r : Nat} (hr : r < 1000) {R0 : Nat → List Int} (ok : RowOk M c R0) :
    ∃ S0 R1, StepOk H M nb t y us r R0 S0 R1 ∧ RowOk M c R1 := by
  have srr : Sm (r : Int) := by unfold Sm; omega
  obtain ⟨S0, hS⟩ := chooseN (P := fun h ps => SaidOf H M nb t y r R0 h ps ∧ SOk M ps) (M := M) fun h hh => by
    obtain ⟨lc, sc⟩ := ok h hh
    obtain ⟨s1, s2, s3⟩ := N.smh hh
    have ev : ∀ {v : V}, (∃ k, TS H wT (c : Int) 12 v k) → ∀ o ∈ nb h, ∃ z, EvV H wT (enOf (fT h M (nb h).length r 0 o)) (R0 h) 12 v z := fun ⟨k, ts⟩ o ho =>
      ts_ev (fun s hs => ((intT (ca := 0) s1 s2 s3 srr (N.smo hh ho)).at_ hs).2) sc (by omega) ts
    obtain ⟨ft, hft⟩ := choose_f (ev T.rt)
    obtain ⟨fs, hfs⟩ := choose_f (ev T.ry)
    exact ⟨saidL (nb h) ft fs, ⟨ft, fs, fun o ho ca => ⟨(hft o ho).congr enT_ca, (hfs o ho).congr enT_ca⟩, rfl⟩, .of (N.asc h hh) (N.inn h hh) fun o ho => (hfs o ho).sm⟩
  have lenH := hear_le (n := M) fun i hi => (hS i hi).2
  have smH := hear_sm (n := M) fun i hi => (hS i hi).2
  obtain ⟨R1, hR⟩ := chooseN (P := fun h zs => NextOf H M nb us r R0 S0 h zs ∧ zs.length = c ∧ ∀ z ∈ zs, Sm z) (M := M) fun h hh => by
    obtain ⟨lc, sc⟩ := ok h hh
    obtain ⟨s1, s2, s3⟩ := N.smh hh
    obtain ⟨le, hle⟩ : ∃ le, IsLeast 0 (hearN S0 M h) le := by
      cases e : hearN S0 M h with
      | nil => exact ⟨0, .inl ⟨rfl, rfl⟩⟩
      | cons a' r' => exact ⟨_, least_of rfl⟩
    obtain ⟨mo, hmo⟩ : ∃ mo, IsMost 0 (hearN S0 M h) mo := by
      cases e : hearN S0 M h with
      | nil => exact ⟨0, .inl ⟨rfl, rfl⟩⟩
      | cons a' r' => exact ⟨_, most_of rfl⟩
    have hm := N.m40
    have lH := lenH h
    have sN' := intN (ca := 0) (k := ((hearN S0 M h).length : Int)) (u := bb (hearN S0 M h).sum) s1 s2 s3 srr (by unfold Sm; omega) (bb_sm _) (least_sm hle (smH h)) (most_sm hmo (smH h))
    obtain ⟨zs, pz⟩ := paired_ofI (R := EvV H wN (enOf (fN h M (nb h).length r 0 (hearN S0 M h).length (bb (hearN S0 M h).sum) le mo)) (R0 h) 12) (xs := us) fun v hv => by
      obtain ⟨kk, ts⟩ := T.ru v hv
      exact ts_ev (fun s hs => (sN'.at_ hs).2) sc (by omega) ts
    refine ⟨zs, ⟨le, mo, hle, hmo, fun ca => paired_mono' (fun _ _ z => z.congr enN_ca) pz⟩, ?_, paired_all (fun _ _ z => z.sm) pz⟩
    rw [← Paired.length pz]
    exact T.lu
  exact ⟨S0, R1, ⟨fun h hh => (hS h hh).1, fun h hh => (hS h hh).2, fun h hh => (hR h hh).1⟩, fun h hh => (hR h hh).2⟩
theorem runs_ex {H : Hp} {M c : Nat} {nb : Nat → List Int} {xs : List V} {t y : V} {us : List V} (N : NbOk M nb) (T : Trees H c xs t y us) : ∀ n, n ≤ 1000 → ∃ R S, Runs H M nb xs t y us R S n ∧ RowOk M c (R n)
  | 0, _ => by
    obtain ⟨R0, h0⟩ := chooseN (P := fun h zs => Paired (EvV H wS (enOf (f3 h M (nb h).length)) [] 12) xs zs ∧ zs.length = c ∧ ∀ z ∈ zs, Sm z) (M := M) fun h hh => by
      obtain ⟨s1, s2, s3⟩ := N.smh hh
      obtain ⟨zs, pz⟩ := paired_ofI (R := EvV H wS (enOf (f3 h M (nb h).length)) [] 12) (xs := xs) fun v hv => by
        obtain ⟨kk, ts⟩ := T.rx v hv
        exact ts_ev (fun s hs => ((int3 s1 s2 s3).at_ hs).2) (fun z hz => absurd hz List.not_mem_nil) (by decide) ts
      refine ⟨zs, pz, ?_, paired_all (fun _ _ z => z.sm) pz⟩
      rw [← Paired.length pz]
      exact T.lx
    exact ⟨fun _ => R0, fun _ _ => [], ⟨fun h hh => (h0 h hh).1, fun r hr => absurd hr (Nat.not_lt_zero _)⟩, fun h hh => (h0 h hh).2⟩
  | n + 1, l => by
    obtain ⟨R, S, ru, ok⟩ := runs_ex N T n (by omega)
    obtain ⟨S0, R1, st, ok1⟩ := step_ex N T (r := n) (by omega) ok
    refine ⟨fun i => if i = n + 1 then R1 else R i, fun i => if i = n then S0 else S i, ⟨fun h hh => ?_, fun r hr => ?_⟩, ?_⟩
    · show Paired _ xs ((if 0 = n + 1 then R1 else R 0) h)
      rw [if_neg (by omega)]
      exact ru.st h hh
    · show StepOk H M nb t y us r (if r = n + 1 then R1 else R r) (if r = n then S0 else S r) (if r + 1 = n + 1 then R1 else R (r + 1))
      by_cases c : r = n
      · subst c
        rw [if_neg (by omega), if_pos rfl, if_pos rfl]
        exact st
      · rw [if_neg (by omega), if_neg c, if_neg (by omega)]
        exact ru.step r (by omega)
    · show RowOk M c (if n + 1 = n + 1 then R1 else R (n + 1))
      rw [if_pos rfl]
      exact ok1
theorem trees_of {H : Hp} {s t y n : V} (f : FineP H s t y n) : ∃ q xs qn us, s = .ref q ∧ H q = some (.tup xs) ∧ xs.length ≤ 4 ∧ n = .ref qn ∧ H qn = some (.tup us) ∧ us.length ≤ 4 ∧ Trees H xs.length xs t y us := by
  obtain ⟨q, xs, qn, us, st, ⟨kt, rt, _⟩, ⟨ky, ry, _⟩, en, hn, ln, rn⟩ := f.ex
  exact ⟨q, xs, qn, us, st.es, st.hq, st.l4, en, hn, by have := st.l4; omega, rfl, ln, fun v hv => by
    obtain ⟨k, ts, _⟩ := st.rs v hv
    exact ⟨k, ts⟩, ⟨kt, rt⟩, ⟨ky, ry⟩, fun v hv => by
    obtain ⟨k, ts, _⟩ := rn v hv
    exact ⟨k, ts⟩⟩
/-! ### how many are said -/
def tot1 (Sr : Nat → List (Int × Int)) : Nat → Nat
  | 0 => 0
  | i + 1 => tot1 Sr i + (Sr i).length
def tot (S : Nat → Nat → List (Int × Int)) (M : Nat) : Nat → Nat
  | 0 => 0
  | r + 1 => tot S M r + tot1 (S r) M
end Q

namespace Q
open PySem L2 QM
abbrev sAll : Stmt := top 40
abbrev sSE : Stmt := top 41
abbrev sRB : Stmt := top 42
theorem walk_enT {K : PySem.W.Frag} {a : Addr} {xs : List V} : Walk (ItEt K a) xs.length (fun H => SqT K H a xs) (YPair (fun i => some (.int (i : Nat))) (fun i => xs[i]?)) := by
  refine ⟨fun i _ hi q => ⟨xs, xs[i], q, List.getElem?_eq_getElem hi⟩, fun _ q => ⟨xs, q, rfl⟩, fun i H v H' _ q y => ?_⟩
  obtain ⟨T, x, h1, h2, h3, h4⟩ := y
  exact ⟨T, .int (i : Nat), x, h1, h2, h3, rfl, h4 xs q⟩
def SaidAt (H : Hp) (a : Addr) (ps : List (Int × Int)) : Prop := ∃ rs : List (Addr × (Int × Int)), H a = some (.tup (rs.map fun p => V.ref p.1)) ∧ (∀ p ∈ rs, H p.1 = some (.tup [.int p.2.1, .int p.2.2])) ∧ rs.map (·.2) = ps
theorem SaidAt.same {H H' : Hp} {a : Addr} {ps : List (Int × Int)} (h : SaidAt H a ps) (s : Same H H') : SaidAt H' a ps := by
  obtain ⟨rs, h1, h2, h3⟩ := h
  exact ⟨rs, s _ _ h1, fun p hp => s _ _ (h2 p hp), h3⟩
theorem SaidAt.upd {H : Hp} {a D : Addr} {ps : List (Int × Int)} {o : HO} (h : SaidAt H a ps) (n : ∀ b xs, H b = some (.tup xs) → b ≠ D) : SaidAt (L2.upd H D o) a ps := by
  obtain ⟨rs, h1, h2, h3⟩ := h
  exact ⟨rs, by rw [upd_ne (n _ _ h1)]; exact h1, fun p hp => by rw [upd_ne (n _ _ (h2 p hp))]; exact h2 p hp, h3⟩
structure SaidsT (H : Hp) (a : Addr) (ts : List Addr) (S0 : Nat → List (Int × Int)) (M : Nat) : Prop where
  at_ : H a = some (.tup (ts.map V.ref))
  len : ts.length = M
  row : ∀ (i : Nat) (b : Addr), ts[i]? = some b → SaidAt H b (S0 i)
theorem SaidsT.same {H H' : Hp} {a : Addr} {ts : List Addr} {S0 : Nat → List (Int × Int)} {M : Nat} (h : SaidsT H a ts S0 M) (s : Same H H') : SaidsT H' a ts S0 M := ⟨s _ _ h.at_, h.len, fun i b e => (h.row i b e).same s⟩
structure WP (C CP : Addr) (H : Hp) (w : Addr) (M : Nat) (nb : Nat → List Int) (x : Addr) (s t y n : V) : Prop where
  N : NbOk M nb
  pre : ∀ h, h < M → HPre C CP H w (M : Int) nb x s t y n h
theorem WP.same {C CP : Addr} {H H' : Hp} {w : Addr} {M : Nat} {nb : Nat → List Int} {x : Addr} {s t y n : V} (p : WP C CP H w M nb x s t y n) (z : Same H H') : WP C CP H' w M nb x s t y n := ⟨p.N, fun h hh => (p.pre h hh).same z⟩
theorem not_lst {H : Hp} {D : Addr} {ys : List V} (e : H D = some (.lst ys)) : ∀ b xs, H b = some (.tup xs) → b ≠ D := fun b xs h z => by
  rw [z, e] at h
  cases h
theorem snoc_row {α : Type} {P : Nat → α → Prop} {l : List α} {x : α} {i : Nat} (hl : l.length = i) (h : ∀ j b, l[j]? = some b → P j b) (hx : P i x) : ∀ j b, (l ++ [x])[j]? = some b → P j b := fun j b e => by
  by_cases c : j < l.length
  · rw [List.getElem?_append_left c] at e
    exact h j b e
  · rw [List.getElem?_append_right (by omega)] at e
    have c2 : j - l.length = 0 := by
      rcases Nat.eq_zero_or_pos (j - l.length) with z | z
      · exact z
      · rw [List.getElem?_eq_none (by show 1 ≤ j - l.length; exact z)] at e
        cases e
    rw [c2] at e
    have ej : j = i := by omega
    rw [ej]
    have : x = b := by simpa using e
    rw [← this]
    exact hx
def spAll (C CP : Addr) : Sp := fun vs H Q _ => ∃ (w x a : Addr) (M : Nat) (nb : Nat → List Int) (s t y n : V) (r : Nat) (cas : List Addr) (R0 : Nat → List Int) (S0 : Nat → List (Int × Int)), vs = [.ref w, .ref x, .int (r : Int), .ref a] ∧ WP C CP H w M nb x s t y n ∧ r < 1000 ∧ RowsT H a cas R0 M ∧
  (∀ h, h < M → SaidOf H M nb t y r R0 h (S0 h)) ∧ ∀ tq ts H', Same H H' → SaidsT H' tq ts S0 M → Q (.ref tq) H'
def spSE (C : Addr) : Sp := fun vs H Q _ => ∃ (w a : Addr) (M : Nat) (ts : List Addr) (S0 : Nat → List (Int × Int)), vs = [.ref w, .ref a] ∧ (∃ dx q r L bs nb, WebIn C (M : Int) L H w dx q r bs nb) ∧ M ≤ 40 ∧ SaidsT H a ts S0 M ∧ (∀ h, h < M → SOk M (S0 h)) ∧
  ∀ d bs H', Same H H' → H d = none → RowsL H' d bs (hearN S0 M) M → Q (.ref d) H'
def spRB (C CP : Addr) : Sp := fun vs H Q _ => ∃ (w x a b : Addr) (M : Nat) (nb : Nat → List Int) (s t y n : V) (r : Nat) (cas ts : List Addr) (R0 : Nat → List Int) (S0 : Nat → List (Int × Int)) (R1 : Nat → List Int) (qn : Addr) (us : List V), vs = [.ref w, .ref x, .int (r : Int), .ref a, .ref b] ∧ WP C CP H w M nb x s t y n ∧ r < 1000 ∧ RowsT H a cas R0 M ∧ SaidsT H b ts S0 M ∧
  n = .ref qn ∧ H qn = some (.tup us) ∧ us.length ≤ 4 ∧ StepOk H M nb t y us r R0 S0 R1 ∧ ∀ tq cas' H', Same H H' → RowsT H' tq cas' R1 M → Q (.ref tq) H'
section
variable {P : Program} {w : World} {K : PySem.W.Frag} {mg : Str → Option Value} {base : Heap}
theorem scAll : FnScope ["web", "program", "at", "rows", "house", "cells"] ["web", "program", "at", "rows"] (defScope sAll) := ⟨rfl, rfl, rfl, by decide +kernel, rfl, by decide +kernel, by decide +kernel⟩
theorem ok_all {f fY C CP : Addr} {fd dY : FuncData} (F : Fun K "all_sayings" "all_sayings" sAll f fd) (B : Bts mg) (T : WTxt K mg C) (TP : PTxt K mg CP) (D : WDefs K mg) (R : RDefsN K mg) (O : OpsT P w K mg base) (DY : Df K mg "sayings_come_to" sSY ["web", "program", "house", "at", "cells"] fY dY) :
    FnOk P w K mg base CX0 17 f fd ["web", "program", "at", "rows"] (spAll C CP) := by
  have GY : FnOk P w K mg base CX0 16 fY dY ["web", "program", "house", "at", "cells"] (spSY C CP) := ok_sy DY.F B T TP D R O
  refine F.ok scAll (fun vs H Q E h => ?_) (fun cdv A outer s0 H vs Q E hr h => ?_)
  · obtain ⟨w, x, a, M, nb, s, t, y, n, r, cas, R0, S0, rfl, _⟩ := h
    rfl
  · obtain ⟨w, x, a, M, nb, s, t, y, n, r, cas, R0, S0, rfl, wp, hr0, rows, sa, k⟩ := h
    have nd := scAll.nd
    refine ⟨_, pss_one (ps_ret (pe_callTy call_tuple_of (by rfl) B.tuple PyProof.Rows.boot_tuple (pa_cons (pe_lc (own := [("house", 4), ("cells", 5)]) (g := gTup K 2 (gCons (gName 4) (gCons (gName 5) gNil))) (tt := tYes) rfl nd (pi_enumT rfl B.enumerate (pa_cons (pv 3) pa_nil))
        (blkOk_by (N := ["web", "program", "at", "rows", "house", "cells"]) (sc := defScope sAll) (by decide +kernel)) (fun _ _ _ _ _ => pg_tup rfl (pgs_cons (pg_name (i := 4) nd rfl (.inl rfl)) (pgs_cons (pg_name (i := 5) nd rfl (.inl rfl)) pgs_nil))) (fun _ _ _ _ _ => pts_nil)
        (fun _ _ _ _ _ => pe_call GY hr rfl DY.m DY.k DY.b .nil pass0 (pa_cons (pv 0) (pa_cons (pv 1) (pa_cons (pv 4) (pa_cons (pv 2) (pa_cons (pv 5) pa_nil))))))) pa_nil))), ?_⟩
    have hlc : (cas.map V.ref).length = M := by rw [List.length_map, rows.len]
    have m40 := wp.N.m40
    refine ⟨_, rfl, a, cas.map V.ref, rfl, SqT.of rows.at_, fun D0 hD => lc_it (walk_enT (K := K) (a := a) (xs := cas.map V.ref)) (fun i H' => ∃ ts : List Addr, H' D0 = some (.lst (ts.map V.ref)) ∧ ts.length = i ∧ (∀ j b, ts[j]? = some b → SaidAt H' b (S0 j)) ∧ Same H H') ?_ ?_ ?_ ?_⟩
    · exact ⟨[], upd_same, rfl, fun j b e => absurd e (by simp), sN hD⟩
    · rintro i H2 hi ⟨ts, _, _, _, s2⟩
      exact SqT.of (s2 _ _ rows.at_)
    · rintro i v H2 H3 hi ⟨ts, eD, hl, hrow, s2⟩ ⟨T1, z1, z2, rfl, hT, rfl, e1, e2⟩
      obtain rfl := Option.some.inj e1
      obtain ⟨c, hc, rfl⟩ := map_inv e2
      have hiM : i < M := by omega
      have s3 := sN (o := .tup [.int (i : Nat), .ref c]) hT
      have s23 := sT s2 s3
      obtain ⟨ft, fs, hev, es⟩ := sa i hiM
      refine ⟨T1, _, rfl, SqT.of upd_same, rfl, _, _, rfl, _, _, rfl, rfl, ?_⟩
      refine ⟨rfl, _, rfl, _, rfl, _, rfl, _, rfl, _, rfl, w, x, (M : Int), nb, s, t, y, n, i, (r : Int), c, R0 i, ft, fs, rfl, (wp.pre i hiM).same s23, (by unfold Sm; omega), s23 _ _ (rows.row i c hc), fun o ho => ⟨(hev o ho c).1.same s23, (hev o ho c).2.same s23⟩, fun tq rs H4 s4 etq hrs ers => ?_⟩
      have eD4 := s4 _ _ (s3 _ _ eD)
      have s34 := sT s3 s4
      refine ⟨_, eD4, ?_, ts ++ [tq], ?_, ?_, ?_, ?_⟩
      · rw [List.length_map, hl]
        exact Nat.lt_of_lt_of_le (show i < 64 by omega) (by decide)
      · rw [upd_same, List.map_append]
        rfl
      · rw [List.length_append, hl]
        rfl
      · refine snoc_row hl (fun j b e => ((hrow j b e).same s34).upd (not_lst eD4)) (SaidAt.upd ⟨rs, etq, hrs, ?_⟩ (not_lst eD4))
        rw [ers, es]
      · exact sNew (sT s23 s4) hD
    · rintro H2 ⟨ts, eD, hl, hrow, s2⟩
      refine ⟨D0, _, rfl, .inl ⟨SqL.of eD, fun tq htq => ?_⟩⟩
      have s3 := sN (o := .tup (ts.map V.ref)) htq
      exact k tq ts _ (sT s2 s3) ⟨upd_same, by rw [hl, hlc], fun j b e => (hrow j b e).same s3⟩
theorem scSE : FnScope ["web", "said", "numbers", "pairs", "other", "number", "_"] ["web", "said"] (defScope sSE) := ⟨rfl, rfl, rfl, by decide +kernel, rfl, by decide +kernel, by decide +kernel⟩
theorem ok_se {f C : Addr} {fd : FuncData} (F : Fun K "said_to_each" "said_to_each" sSE f fd) (B : Bts mg) (T : WTxt K mg C) : FnOk P w K mg base CX0 1 f fd ["web", "said"] (spSE C) := by
  refine F.ok scSE (fun vs H Q E h => ?_) (fun cdv A outer s0 H vs Q E hr h => ?_)
  · obtain ⟨w, a, M, ts, S0, rfl, _⟩ := h
    rfl
  · obtain ⟨w, a, M, ts, S0, rfl, ⟨dx, qw, rw0, L, wbs, nb, hw⟩, m40, sd, sok, k⟩ := h
    have nd := scSE.nd
    refine ⟨_, pss_cons (ps_setLc (i := 2) (own := [("_", 6)]) (g := gName 6) (tt := tYes) rfl nd rfl rfl (sw_true rfl rfl rfl (by decide +kernel)) (pi_range1 rfl B.range (pa_cons (pe_fld (pv 0) rfl) pa_nil))
        (blkOk_by (N := ["web", "said", "numbers", "pairs", "other", "number", "_"]) (sc := defScope sSE) (by decide +kernel)) (fun _ _ _ _ _ => pg_name (i := 6) nd rfl (.inl rfl)) (fun _ _ _ _ _ => pts_nil) (fun _ _ _ _ _ => pe_lst pa_nil))
      (pss_cons (ps_for PassesOwn.never rfl (pi_tup (pv 1)) (pg_name (i := 3) nd rfl (.inl rfl))
        (pss_one (ps_for PassesOwn.never rfl (pi_tup (pv 3)) (pg_tup rfl (pgs_cons (pg_name (i := 4) nd rfl (.inl rfl)) (pgs_cons (pg_name (i := 5) nd rfl (.inl rfl)) pgs_nil)))
          (pss_one (ps_expr (pe_bm PySem.F.plainAttrs_list PySem.F.slot_list_append PySem.F.type_list_append mt_append (pe_ix ix_list (pv 2) (pv 4) (fun _ _ => rfl)) (pa_cons (pv 5) pa_nil)))))))
      (pss_one (ps_ret (pv 2)))), ?_⟩
    refine ⟨_, rfl, w, C, dx, _, _, rfl, hw.at_, T.cl, T.nM, wf_many _ _ _, (M : Int), rfl, by omega, by omega, fun D hD => lc_range (lo := 0) (n := (M : Int).toNat) (fun i H' => ∃ bs : List Addr, H' D = some (.lst (bs.map V.ref)) ∧ bs.length = i ∧ bs.Nodup ∧ D ∉ bs ∧ (∀ a ∈ bs, H' a = some (.lst []) ∧ H a = none) ∧ Same H H') ?_ ?_ ?_⟩
    · exact ⟨[], upd_same, rfl, List.nodup_nil, List.not_mem_nil, fun a ha => absurd ha List.not_mem_nil, sNew (fun _ _ e => e) hD⟩
    · rintro i H1 hi ⟨bs, e1, hl, hn, hd, hb, s1⟩
      refine ⟨rfl, Nat.zero_le _, fun a ha => ?_⟩
      have nDa : D ≠ a := ne_of_none e1 ha
      have ea : upd H1 a (.lst []) D = some (.lst (bs.map V.ref)) := by rw [upd_ne nDa]; exact e1
      have na : a ∉ bs := fun hm => by
        rw [(hb a hm).1] at ha
        cases ha
      refine ⟨_, ea, ?_, bs ++ [a], ?_, ?_, ?_, ?_, ?_, ?_⟩
      · rw [List.length_map, hl]
        exact Nat.lt_of_lt_of_le (m := 64) (by omega) (by decide)
      · rw [upd_same, List.map_append]
        rfl
      · rw [List.length_append, hl]
        rfl
      · exact nd_snoc hn na
      · intro hm
        rcases List.mem_append.mp hm with hm | hm
        · exact hd hm
        · exact nDa (List.mem_singleton.mp hm)
      · intro b hm
        rcases List.mem_append.mp hm with hm | hm
        · refine ⟨?_, (hb b hm).2⟩
          rw [upd_ne (fun e => hd (by rw [← e]; exact hm)), upd_ne (fun e => na (by rw [← e]; exact hm))]
          exact (hb b hm).1
        · obtain rfl := List.mem_singleton.mp hm
          refine ⟨?_, sNo s1 ha⟩
          rw [upd_ne nDa.symm, upd_same]
      · exact sNew (sNew' s1 ha) hD
    · rintro H1 ⟨bs, e1, hl, hn, hd, hb, s1⟩
      have r1 : RowsL H1 D bs (fun _ => []) M := ⟨e1, by omega, hn, hd, fun i a hi => (hb a (List.mem_of_getElem? hi)).1⟩
      have hfr : ∀ a ∈ bs, H a = none := fun a ha => (hb a ha).2
      clear e1 hl hn hd hb
      have hlt : (ts.map V.ref).length = M := by rw [List.length_map, sd.len]
      refine ⟨_, rfl, a, rfl, ⟨_, SqT.of (s1 _ _ sd.at_)⟩, for_tup (K := K) (a := a) (xs := ts.map V.ref) (fun i σ H' => ∃ x3 x4 x5, σ = [some (.ref w), some (.ref a), some (.ref D), x3, x4, x5, none] ∧ RowsL H' D bs (hearN S0 i) M ∧ Same H H') ?_ ?_ ?_ ?_⟩
      · exact ⟨none, none, none, rfl, r1, s1⟩
      · rintro i σ H2 hi ⟨x3, x4, x5, rfl, r2, s2⟩
        exact SqT.of (s2 _ _ sd.at_)
      · rintro i v σ H2 hv ⟨x3, x4, x5, rfl, r2, s2⟩
        obtain ⟨b, hb, rfl⟩ := map_inv hv
        have hiM : i < M := by rw [← sd.len]; exact (List.getElem?_eq_some_iff.mp hb).1
        obtain ⟨rs, eb, hrs, ers⟩ := sd.row i b hb
        refine ⟨_, rfl, b, rfl, ⟨_, SqT.of (s2 _ _ eb)⟩, for_tup (K := K) (a := b) (xs := rs.map fun p => V.ref p.1) (fun j σ H' => ∃ x4 x5, σ = [some (.ref w), some (.ref a), some (.ref D), some (.ref b), x4, x5, none] ∧ RowsL H' D bs (((S0 i).take j).foldl put1 (hearN S0 i)) M ∧ Same H H') ?_ ?_ ?_ ?_⟩
        · exact ⟨x4, x5, rfl, r2, s2⟩
        · rintro j σ H3 hj ⟨x4, x5, rfl, r3, s3⟩
          exact SqT.of (s3 _ _ eb)
        · rintro j v σ H3 hv ⟨x4, x5, rfl, r3, s3⟩
          obtain ⟨p, hp, rfl⟩ := map_inv hv
          have hps : (S0 i)[j]? = some p.2 := by rw [← ers, List.getElem?_map, hp]; rfl
          obtain ⟨p0, pM, _⟩ := (sok i hiM).bnd p.2 (List.mem_of_getElem? hps)
          have ep := s3 _ _ (hrs p (List.mem_of_getElem? hp))
          have lb : p.2.1.toNat < bs.length := by rw [r3.len]; omega
          have gb : bs[p.2.1.toNat]? = some bs[p.2.1.toNat] := List.getElem?_eq_getElem lb
          have rb := r3.row _ _ gb
          refine ⟨p.1, _, rfl, SqT.of ep, rfl, _, _, rfl, _, _, rfl, rfl, ?_⟩
          refine ⟨_, rfl, _, rfl, D, _, p.2.1, _, rfl, rfl, SqL.of r3.at_, get_cast p0 (map_get gb), .inl ⟨rfl, _, SqL.of rb⟩, _, rfl, bs[p.2.1.toNat], _, _, rfl, rfl, rb, ?_, ?_⟩
          · rw [List.length_map]
            exact Nat.lt_of_le_of_lt (part_le j sok hiM _) (Nat.lt_of_lt_of_le (show M < 64 by omega) (by decide))
          · refine ⟨_, _, rfl, ?_, sNew s3 (hfr _ (List.getElem_mem lb))⟩
            rw [fold_snoc hps]
            exact r3.add (j := p.2.2) gb
        · rintro σ H3 ⟨x4, x5, rfl, r3, s3⟩
          have el : (rs.map fun p => V.ref p.1).length = (S0 i).length := by rw [← ers, List.length_map, List.length_map]
          rw [el, List.take_length] at r3
          exact ⟨_, x4, x5, rfl, r3, s3⟩
      · rintro σ H2 ⟨x3, x4, x5, rfl, r2, s2⟩
        rw [hlt] at r2
        exact ⟨_, rfl, k D bs H2 s2 hD r2⟩
theorem scRB : FnScope ["web", "program", "at", "rows", "said", "numbers", "house", "cells"] ["web", "program", "at", "rows", "said"] (defScope sRB) := ⟨rfl, rfl, rfl, by decide +kernel, rfl, by decide +kernel, by decide +kernel⟩
theorem ok_rb {f fX fS C CP : Addr} {fd dX dS : FuncData} (F : Fun K "rows_behind" "rows_behind" sRB f fd) (B : Bts mg) (hsum : mg "sum" = none) (T : WTxt K mg C) (TP : PTxt K mg CP) (D : WDefs K mg) (R : RDefsN K mg) (O : OpsT P w K mg base) (DX : Df K mg "nexts_come_to" sNX ["web", "program", "house", "at", "cells", "numbers"] fX dX)
    (DS : Df K mg "said_to_each" sSE ["web", "said"] fS dS) : FnOk P w K mg base CX0 17 f fd ["web", "program", "at", "rows", "said"] (spRB C CP) := by
  have GX : FnOk P w K mg base CX0 16 fX dX ["web", "program", "house", "at", "cells", "numbers"] (spNX C CP) := ok_nx DX.F B hsum T TP D R O
  have GS : FnOk P w K mg base CX0 1 fS dS ["web", "said"] (spSE C) := ok_se DS.F B T
  refine F.ok scRB (fun vs H Q E h => ?_) (fun cdv A outer s0 H vs Q E hr h => ?_)
  · obtain ⟨w, x, a, b, M, nb, s, t, y, n, r, cas, ts, R0, S0, R1, qn, us, rfl, _⟩ := h
    rfl
  · obtain ⟨w, x, a, b, M, nb, s, t, y, n, r, cas, ts, R0, S0, R1, qn, us, rfl, wp, hr0, rows, sd, rfl, hqn, lus, st, k⟩ := h
    have nd := scRB.nd
    have hr1 : Room 1 _ := hr.mono (by decide)
    refine ⟨_, pss_cons (ps_set (i := 5) nd rfl (.inr rfl) (pe_call GS hr1 rfl DS.m DS.k DS.b .nil pass0 (pa_cons (pv 0) (pa_cons (pv 4) pa_nil))))
      (pss_one (ps_ret (pe_callTy call_tuple_of (by rfl) B.tuple PyProof.Rows.boot_tuple (pa_cons (pe_lc (own := [("house", 6), ("cells", 7)]) (g := gTup K 2 (gCons (gName 6) (gCons (gName 7) gNil))) (tt := tYes) rfl nd (pi_enumT rfl B.enumerate (pa_cons (pv 3) pa_nil))
        (blkOk_by (N := ["web", "program", "at", "rows", "said", "numbers", "house", "cells"]) (sc := defScope sRB) (by decide +kernel)) (fun _ _ _ _ _ => pg_tup rfl (pgs_cons (pg_name (i := 6) nd rfl (.inl rfl)) (pgs_cons (pg_name (i := 7) nd rfl (.inl rfl)) pgs_nil))) (fun _ _ _ _ _ => pts_nil)
        (fun _ _ _ _ _ => pe_call GX hr rfl DX.m DX.k DX.b .nil pass0 (pa_cons (pv 0) (pa_cons (pv 1) (pa_cons (pv 6) (pa_cons (pv 2) (pa_cons (pv 7) (pa_cons (pe_ix (r := rIxL K) ix_list (pv 5) (pv 6) (fun _ _ => rfl)) pa_nil)))))))) pa_nil)))), ?_⟩
    have hlc : (cas.map V.ref).length = M := by rw [List.length_map, rows.len]
    have m40 := wp.N.m40
    have m1 := wp.N.m1
    obtain ⟨dx, qw, rw0, L, wbs, hw⟩ := (wp.pre 0 (by omega)).web
    refine ⟨_, rfl, _, rfl, w, b, M, ts, S0, rfl, ⟨dx, qw, rw0, L, wbs, nb, hw⟩, m40, sd, st.ok, fun d bs H1 s1 hd0 rl => ?_⟩
    have lenH := hear_le (n := M) st.ok
    have smH := hear_sm (n := M) st.ok
    refine ⟨_, rfl, a, cas.map V.ref, rfl, SqT.of (s1 _ _ rows.at_), fun D0 hD => lc_it (walk_enT (K := K) (a := a) (xs := cas.map V.ref)) (fun i H' => ∃ cs : List Addr, H' D0 = some (.lst (cs.map V.ref)) ∧ cs.length = i ∧ (∀ j b, cs[j]? = some b → H' b = some (.tup ((R1 j).map V.int))) ∧ Same H1 H') ?_ ?_ ?_ ?_⟩
    · exact ⟨[], upd_same, rfl, fun j b e => absurd e (by simp), sN hD⟩
    · rintro i H2 hi ⟨cs, _, _, _, s2⟩
      exact SqT.of (s2 _ _ (s1 _ _ rows.at_))
    · rintro i v H2 H3 hi ⟨cs, eD, hl, hrow, s2⟩ ⟨T1, z1, z2, rfl, hT, rfl, e1, e2⟩
      obtain rfl := Option.some.inj e1
      obtain ⟨c, hc, rfl⟩ := map_inv e2
      have hiM : i < M := by omega
      have s3 := sN (o := .tup [.int (i : Nat), .ref c]) hT
      have s123 := sT s1 (sT s2 s3)
      have rl3 := rl.same (sT s2 s3)
      obtain ⟨le, mo, hle, hmo, pz⟩ := st.nx i hiM
      have ul : i < bs.length := by rw [rl.len]; exact hiM
      have gu : bs[i]? = some bs[i] := List.getElem?_eq_getElem ul
      refine ⟨T1, _, rfl, SqT.of upd_same, rfl, _, _, rfl, _, _, rfl, rfl, ?_⟩
      refine ⟨rfl, _, rfl, _, rfl, _, rfl, _, rfl, _, rfl, _, rfl, _, rfl, d, _, (i : Int), _, rfl, rfl, SqL.of rl3.at_, atI_nat (map_get gu), w, x, (M : Int), nb, s, t, y, _, i, (r : Int), c, bs[i], R0 i, hearN S0 M i, le, mo, qn, us, R1 i, rfl, (wp.pre i hiM).same s123, (by unfold Sm; omega), s123 _ _ (rows.row i c hc), .inr (rl3.row _ _ gu), by have := lenH i; omega, smH i, hle, hmo, rfl, s123 _ _ hqn, lus, paired_mono' (fun _ _ z => z.same s123) (pz c), fun tq H4 s4 etq => ?_⟩
      have eD4 := s4 _ _ (s3 _ _ eD)
      have s34 := sT s3 s4
      refine ⟨_, eD4, ?_, cs ++ [tq], ?_, ?_, ?_, ?_⟩
      · rw [List.length_map, hl]
        exact Nat.lt_of_lt_of_le (show i < 64 by omega) (by decide)
      · rw [upd_same, List.map_append]
        rfl
      · rw [List.length_append, hl]
        rfl
      · refine snoc_row hl (fun j b e => ?_) ?_
        · have z := s34 _ _ (hrow j b e)
          rw [upd_ne (not_lst eD4 _ _ z)]
          exact z
        · rw [upd_ne (not_lst eD4 _ _ etq)]
          exact etq
      · exact sNew (sT (sT s2 s3) s4) hD
    · rintro H2 ⟨cs, eD, hl, hrow, s2⟩
      refine ⟨D0, _, rfl, .inl ⟨SqL.of eD, fun tq htq => ?_⟩⟩
      have s3 := sN (o := .tup (cs.map V.ref)) htq
      exact k tq cs _ (sT s1 (sT s2 s3)) ⟨upd_same, by rw [hl, hlc], fun j b e => s3 _ _ (hrow j b e)⟩
end
end Q

namespace Q
open PySem L2 QM
abbrev sRR : Stmt := top 43
abbrev sLk : Stmt := top 44
abbrev sMS : Stmt := top 9999
theorem RowsT.upd {H : Hp} {r D : Addr} {bs : List Addr} {nb : Nat → List Int} {n : Nat} {o : HO} (h : RowsT H r bs nb n) (no : ∀ b xs, H b = some (.tup xs) → b ≠ D) : RowsT (L2.upd H D o) r bs nb n :=
  ⟨by rw [upd_ne (no _ _ h.at_)]; exact h.at_, h.len, fun i a e => by rw [upd_ne (no _ _ (h.row i a e))]; exact h.row i a e⟩
theorem SaidsT.upd {H : Hp} {a D : Addr} {ts : List Addr} {S0 : Nat → List (Int × Int)} {M : Nat} {o : HO} (h : SaidsT H a ts S0 M) (no : ∀ b xs, H b = some (.tup xs) → b ≠ D) : SaidsT (L2.upd H D o) a ts S0 M :=
  ⟨by rw [upd_ne (no _ _ h.at_)]; exact h.at_, h.len, fun i b e => (h.row i b e).upd no⟩
structure CellsL (H : Hp) (c : Addr) (as : List Addr) (R : Nat → Nat → List Int) (n M : Nat) : Prop where
  at_ : H c = some (.lst (as.map V.ref))
  len : as.length = n + 1
  row : ∀ (i : Nat) (a : Addr), as[i]? = some a → ∃ cas, RowsT H a cas (R i) M
structure ToldL (H : Hp) (d : Addr) (bs : List Addr) (S : Nat → Nat → List (Int × Int)) (n M : Nat) : Prop where
  at_ : H d = some (.lst (bs.map V.ref))
  len : bs.length = n
  row : ∀ (i : Nat) (b : Addr), bs[i]? = some b → ∃ ts, SaidsT H b ts (S i) M
theorem CellsL.same {H H' : Hp} {c : Addr} {as : List Addr} {R : Nat → Nat → List Int} {n M : Nat} (h : CellsL H c as R n M) (s : Same H H') : CellsL H' c as R n M := ⟨s _ _ h.at_, h.len, fun i a e => by
  obtain ⟨cas, z⟩ := h.row i a e
  exact ⟨cas, z.same s⟩⟩
theorem ToldL.same {H H' : Hp} {d : Addr} {bs : List Addr} {S : Nat → Nat → List (Int × Int)} {n M : Nat} (h : ToldL H d bs S n M) (s : Same H H') : ToldL H' d bs S n M := ⟨s _ _ h.at_, h.len, fun i b e => by
  obtain ⟨ts, z⟩ := h.row i b e
  exact ⟨ts, z.same s⟩⟩
/-- what a run by rounds stands on -/
def PreR (C CP : Addr) (H : Hp) (vs : List V) (M k : Nat) (R : Nat → Nat → List Int) (S : Nat → Nat → List (Int × Int)) : Prop :=
  ∃ (w x : Addr) (nb : Nat → List Int) (t y : V) (q qn : Addr) (xs us : List V), vs = [.ref w, .ref x, .int (k : Int)] ∧ WP C CP H w M nb x (.ref q) t y (.ref qn) ∧ H q = some (.tup xs) ∧ xs.length ≤ 4 ∧ H qn = some (.tup us) ∧ us.length ≤ 4 ∧ Runs H M nb xs t y us R S k ∧ k ≤ 40
def spRR (C CP : Addr) : Sp := fun vs H Q _ => ∃ (M k : Nat) (R : Nat → Nat → List Int) (S : Nat → Nat → List (Int × Int)), PreR C CP H vs M k R S ∧ ∀ p c d as bs H', Same H H' → H c = none → H' p = some (.tup [.ref c, .ref d]) → CellsL H' c as R k M → ToldL H' d bs S k M → Q (.ref p) H'
def spLk (C CP : Addr) : Sp := fun vs H Q _ => ∃ (M k : Nat) (R : Nat → Nat → List Int) (S : Nat → Nat → List (Int × Int)), PreR C CP H vs M k R S ∧ ∀ c as H', Same H H' → H c = none → CellsL H' c as R k M → Q (.ref c) H'
def spMS (C CP : Addr) : Sp := fun vs H Q _ => ∃ (M k : Nat) (R : Nat → Nat → List Int) (S : Nat → Nat → List (Int × Int)), PreR C CP H vs M k R S ∧ ∀ H', Same H H' → Q (.int (tot S M k : Nat)) H'
def rLen (K : PySem.W.Frag) : List V → Hp → VK → Prop := fun xs H Q => ∃ (p : Addr) (ys : List V), xs = [V.ref p] ∧ (SqL K H p ys ∨ SqT K H p ys) ∧ Q (V.int ys.length) H
theorem lc_in {J : It} {n : Nat} {G : Hp → Prop} {Y : Nat → Hp → V → Hp → Prop} (w : Walk J n G Y) {g : TG} {tt : TT} {te : TE} {vs : List Nat} {σ : L2.St} {H1 : Hp} {D : Addr} {Qd : Hp → Prop} (Pv : Nat → Hp → Prop) (h0 : Pv 0 H1) (hG : ∀ i H, i ≤ n → Pv i H → G H)
    (hs : ∀ i x H H', i < n → Pv i H → Y i H x H' → g x (wipe σ vs) H' fun σ2 H2 => wipe σ2 vs = wipe σ vs ∧ tt σ2 H2 fun b H3 =>
      if b = true then te σ2 H3 fun y H4 => ∃ acc, H4 D = some (.lst acc) ∧ acc.length < sizeLine ∧ Pv (i + 1) (L2.upd H4 D (.lst (acc ++ [y]))) else Pv (i + 1) H3) (hd : ∀ H, Pv n H → Qd H) :
    ∃ W : Nat → Nat → Hp → Prop, (∃ m, W 0 m H1) ∧ ∀ i m H, W i m H →
      (J.stop i H ∧ Qd H) ∨ (J.go i H ∧ ∃ Nx : Hp → Prop, (∀ H', Nx H' → ∃ m', m' < m ∧ W (i + 1) m' H') ∧ ∀ x H', J.yld i H x H' → g x (wipe σ vs) H' fun σ2 H2 => wipe σ2 vs = wipe σ vs ∧ tt σ2 H2 fun b H3 =>
        if b = true then te σ2 H3 fun y H4 => ∃ acc, H4 D = some (.lst acc) ∧ acc.length < sizeLine ∧ Nx (L2.upd H4 D (.lst (acc ++ [y]))) else Nx H3) := by
  refine ⟨fun i m H => m = n - i ∧ i ≤ n ∧ Pv i H, ⟨n, by simp, Nat.zero_le _, h0⟩, ?_⟩
  rintro i m H ⟨rfl, hi, p⟩
  have q := hG i H hi p
  by_cases hlt : i < n
  · refine .inr ⟨w.goes i H hlt q, Pv (i + 1), fun H' p' => ⟨n - (i + 1), by omega, rfl, hlt, p'⟩, fun x H' y => hs i x H H' hlt p (w.yields i H x H' hlt q y)⟩
  · have e : i = n := by omega
    subst e
    exact .inl ⟨w.stops H q, hd H p⟩
theorem lc_out {J : It} {n : Nat} {G : Hp → Prop} {Y : Nat → Hp → V → Hp → Prop} (w : Walk J n G Y) {g : TG} {tt : TT} {bd : L2.St → Hp → (Hp → Prop) → Prop} {vs : List Nat} {σ : L2.St} {H1 : Hp} {Qd : Hp → Prop} (Pv : Nat → Hp → Prop) (h0 : Pv 0 H1) (hG : ∀ i H, i ≤ n → Pv i H → G H)
    (hs : ∀ i x H H', i < n → Pv i H → Y i H x H' → g x (wipe σ vs) H' fun σ2 H2 => wipe σ2 vs = wipe σ vs ∧ tt σ2 H2 fun b H3 =>
      if b = true then bd σ2 H3 (Pv (i + 1)) else Pv (i + 1) H3) (hd : ∀ H, Pv n H → Qd H) :
    ∃ W : Nat → Nat → Hp → Prop, (∃ m, W 0 m H1) ∧ ∀ i m H, W i m H →
      (J.stop i H ∧ Qd H) ∨ (J.go i H ∧ ∃ Nx : Hp → Prop, (∀ H', Nx H' → ∃ m', m' < m ∧ W (i + 1) m' H') ∧ ∀ x H', J.yld i H x H' → g x (wipe σ vs) H' fun σ2 H2 => wipe σ2 vs = wipe σ vs ∧ tt σ2 H2 fun b H3 =>
        if b = true then bd σ2 H3 Nx else Nx H3) := by
  refine ⟨fun i m H => m = n - i ∧ i ≤ n ∧ Pv i H, ⟨n, by simp, Nat.zero_le _, h0⟩, ?_⟩
  rintro i m H ⟨rfl, hi, p⟩
  have q := hG i H hi p
  by_cases hlt : i < n
  · refine .inr ⟨w.goes i H hlt q, Pv (i + 1), fun H' p' => ⟨n - (i + 1), by omega, rfl, hlt, p'⟩, fun x H' y => hs i x H H' hlt p (w.yields i H x H' hlt q y)⟩
  · have e : i = n := by omega
    subst e
    exact .inl ⟨w.stops H q, hd H p⟩
section
variable {P : Program} {w : World} {K : PySem.W.Frag} {mg : Str → Option Value} {base : Heap}
/-- the defs that lockstep leans on -/
structure KDefs (K : PySem.W.Frag) (mg : Str → Option Value) where
  fT : Addr
  dT : FuncData
  DT : Df K mg "starts_come_to" sSC ["web", "program", "house"] fT dT
  fY : Addr
  dY : FuncData
  DY : Df K mg "sayings_come_to" sSY ["web", "program", "house", "at", "cells"] fY dY
  fX : Addr
  dX : FuncData
  DX : Df K mg "nexts_come_to" sNX ["web", "program", "house", "at", "cells", "numbers"] fX dX
  fA : Addr
  dA : FuncData
  DA : Df K mg "all_sayings" sAll ["web", "program", "at", "rows"] fA dA
  fE : Addr
  dE : FuncData
  DE : Df K mg "said_to_each" sSE ["web", "said"] fE dE
  fB : Addr
  dB : FuncData
  DB : Df K mg "rows_behind" sRB ["web", "program", "at", "rows", "said"] fB dB
  fR : Addr
  dR : FuncData
  DR : Df K mg "round_by_round" sRR ["web", "program", "rounds"] fR dR
theorem scRR : FnScope ["web", "program", "rounds", "rows", "cells", "told", "at", "said", "house"] ["web", "program", "rounds"] (defScope sRR) := ⟨rfl, rfl, rfl, by decide +kernel, rfl, by decide +kernel, by decide +kernel⟩
theorem ok_rr {f C CP : Addr} {fd : FuncData} (F : Fun K "round_by_round" "round_by_round" sRR f fd) (B : Bts mg) (hsum : mg "sum" = none) (T : WTxt K mg C) (TP : PTxt K mg CP) (D : WDefs K mg) (R : RDefsN K mg) (O : OpsT P w K mg base) (N : KDefs K mg) :
    FnOk P w K mg base CX0 18 f fd ["web", "program", "rounds"] (spRR C CP) := by
  have GT : FnOk P w K mg base CX0 16 N.fT N.dT ["web", "program", "house"] (spSC C CP) := ok_sc N.DT.F B T TP D R O
  have GA : FnOk P w K mg base CX0 17 N.fA N.dA ["web", "program", "at", "rows"] (spAll C CP) := ok_all N.DA.F B T TP D R O N.DY
  have GB : FnOk P w K mg base CX0 17 N.fB N.dB ["web", "program", "at", "rows", "said"] (spRB C CP) := ok_rb N.DB.F B hsum T TP D R O N.DX N.DE
  refine F.ok scRR (fun vs H Q E h => ?_) (fun cdv A outer s0 H vs Q E hr h => ?_)
  · obtain ⟨M, k, R, S, ⟨w, x, nb, t, y, q, qn, xs, us, rfl, _⟩, _⟩ := h
    rfl
  · obtain ⟨M, k, R, S, ⟨w, x, nb, t, y, q, qn, xs, us, rfl, wp, hq, lx, hqn, lus, ru, k40⟩, kk⟩ := h
    have nd := scRR.nd
    have hr16 : Room 16 _ := hr.mono (by decide)
    have m40 := wp.N.m40
    have m1 := wp.N.m1
    refine ⟨_, pss_cons (ps_set (i := 3) nd rfl (.inl rfl) (pe_callTy call_tuple_of (by rfl) B.tuple PyProof.Rows.boot_tuple (pa_cons (pe_lc (own := [("house", 8)]) (g := gName 8) (tt := tYes) rfl nd (pi_range1 rfl B.range (pa_cons (pe_fld (pv 0) rfl) pa_nil))
        (blkOk_by (N := ["web", "program", "rounds", "rows", "cells", "told", "at", "said", "house"]) (sc := defScope sRR) (by decide +kernel)) (fun _ _ _ _ _ => pg_name (i := 8) nd rfl (.inl rfl)) (fun _ _ _ _ _ => pts_nil)
        (fun _ _ _ _ _ => pe_call GT hr16 rfl N.DT.m N.DT.k N.DT.b .nil pass0 (pa_cons (pv 0) (pa_cons (pv 1) (pa_cons (pv 8) pa_nil))))) pa_nil)))
      (pss_cons (ps_set (i := 4) nd rfl (.inl rfl) (pe_lst (pa_cons (pv 3) pa_nil)))
      (pss_cons (ps_set (i := 5) nd rfl (.inl rfl) (pe_lst pa_nil))
      (pss_cons (ps_for PassesOwn.never rfl (pi_range1 rfl B.range (pa_cons (pv 2) pa_nil)) (pg_name (i := 6) nd rfl (.inl rfl))
        (pss_cons (ps_set (i := 7) nd rfl (.inl rfl) (pe_call GA hr rfl N.DA.m N.DA.k N.DA.b .nil pass0 (pa_cons (pv 0) (pa_cons (pv 1) (pa_cons (pv 6) (pa_cons (pv 3) pa_nil))))))
        (pss_cons (ps_set (i := 3) nd rfl (.inl rfl) (pe_call GB hr rfl N.DB.m N.DB.k N.DB.b .nil pass0 (pa_cons (pv 0) (pa_cons (pv 1) (pa_cons (pv 6) (pa_cons (pv 3) (pa_cons (pv 7) pa_nil)))))))
        (pss_cons (ps_expr (pe_bm PySem.F.plainAttrs_list PySem.F.slot_list_append PySem.F.type_list_append mt_append (pv 5) (pa_cons (pv 7) pa_nil)))
        (pss_one (ps_expr (pe_bm PySem.F.plainAttrs_list PySem.F.slot_list_append PySem.F.type_list_append mt_append (pv 4) (pa_cons (pv 3) pa_nil))))))))
      (pss_one (ps_ret (pe_tup (pa_cons (pv 4) (pa_cons (pv 5) pa_nil)))))))), ?_⟩
    obtain ⟨dx, qw, rw0, L, wbs, hw⟩ := (wp.pre 0 (by omega)).web
    have eM : ((M : Int)).toNat = M := Int.toNat_natCast M
    have ek : ((k : Int)).toNat = k := Int.toNat_natCast k
    refine ⟨_, rfl, w, C, dx, _, _, rfl, hw.at_, T.cl, T.nM, wf_many _ _ _, (M : Int), rfl, by omega, by omega, fun D0 hD => lc_range (lo := 0) (n := (M : Int).toNat) (fun i H' => ∃ cs : List Addr, H' D0 = some (.lst (cs.map V.ref)) ∧ cs.length = i ∧ (∀ j b, cs[j]? = some b → H' b = some (.tup ((R 0 j).map V.int))) ∧ Same H H') ?_ ?_ ?_⟩
    · exact ⟨[], upd_same, rfl, fun j b e => absurd e (by simp), sN hD⟩
    · rintro i H2 hi ⟨cs, eD, hl, hrow, s2⟩
      rw [Int.zero_add]
      have hiM : i < M := by omega
      refine ⟨rfl, _, rfl, _, rfl, _, rfl, w, x, (M : Int), nb, _, t, y, _, i, q, xs, R 0 i, rfl, (wp.pre i hiM).same s2, rfl, s2 _ _ hq, lx, paired_mono' (fun _ _ z => z.same s2) (ru.st i hiM), fun tq H4 s4 etq => ?_⟩
      have eD4 := s4 _ _ eD
      refine ⟨_, eD4, ?_, cs ++ [tq], ?_, ?_, ?_, ?_⟩
      · rw [List.length_map, hl]
        exact Nat.lt_of_lt_of_le (show i < 64 by omega) (by decide)
      · rw [upd_same, List.map_append]
        rfl
      · rw [List.length_append, hl]
        rfl
      · refine snoc_row hl (fun j b e => ?_) ?_
        · have z := s4 _ _ (hrow j b e)
          rw [upd_ne (not_lst eD4 _ _ z)]
          exact z
        · rw [upd_ne (not_lst eD4 _ _ etq)]
          exact etq
      · exact sNew (sT s2 s4) hD
    · rintro H2 ⟨cs, eD, hl, hrow, s2⟩
      refine ⟨D0, _, rfl, .inl ⟨SqL.of eD, fun ta hta => ?_⟩⟩
      have s3 := sT s2 (sN (o := .tup (cs.map V.ref)) hta)
      have rows0 : RowsT (L2.upd H2 ta (.tup (cs.map V.ref))) ta cs (R 0) M := ⟨upd_same, by rw [hl, eM], fun j b e => (sN hta) _ _ (hrow j b e)⟩
      revert s3 rows0
      generalize L2.upd H2 ta (.tup (cs.map V.ref)) = H3
      intro s3 rows0
      refine ⟨_, rfl, (by show 1 ≤ sizeLine; decide), fun lc hlc => ?_⟩
      have s4 := sN (o := .lst [.ref ta]) hlc
      have hlc0 : H lc = none := sNo s3 hlc
      refine ⟨Nat.zero_le _, fun ld hld => ?_⟩
      have s5 := sN (o := .lst []) hld
      have hld0 : H ld = none := sNo (sT s3 s4) hld
      have ncd : lc ≠ ld := ne_of_none upd_same hld
      refine ⟨_, rfl, (k : Int), rfl, by omega, by omega, for_range (lo := 0) (n := (k : Int).toNat) (fun i σ H' => ∃ (ra : Addr) (x6 x7 : Option V) (cas as bs : List Addr), σ = [some (.ref w), some (.ref x), some (.int (k : Int)), some (.ref ra), some (.ref lc), some (.ref ld), x6, x7, none] ∧ RowsT H' ra cas (R i) M ∧ CellsL H' lc as R i M ∧ ToldL H' ld bs S i M ∧ Same H H') ?_ ?_ ?_⟩
      · refine ⟨ta, none, none, cs, [ta], [], rfl, rows0.same (sT s4 s5), ⟨s5 _ _ upd_same, rfl, fun i a e => ?_⟩, ⟨upd_same, rfl, fun i a e => absurd e (by simp)⟩, sT s3 (sT s4 s5)⟩
        have e2 : i = 0 ∧ ta = a := by
          cases i with
          | zero => exact ⟨rfl, by simpa using e⟩
          | succ i => exact absurd e (by simp)
        obtain ⟨rfl, rfl⟩ := e2
        exact ⟨cs, rows0.same (sT s4 s5)⟩
      · rintro i σ H6 hi ⟨ra, x6, x7, cas, as, bs, rfl, rows, cl, tl, s6⟩
        rw [Int.zero_add]
        have hik : i < k := by omega
        have st := ru.step i hik
        refine ⟨_, rfl, _, rfl, _, rfl, _, rfl, w, x, ra, M, nb, _, t, y, _, i, cas, R i, S i, rfl, wp.same s6, by omega, rows, (st.grow (Grow.of_same s6)).sa, fun tq ts H7 s7 sd => ?_⟩
        refine ⟨_, rfl, _, rfl, _, rfl, _, rfl, _, rfl, w, x, ra, tq, M, nb, _, t, y, _, i, cas, ts, R i, S i, R (i + 1), qn, us, rfl, (wp.same s6).same s7, by omega, rows.same s7, sd, rfl, s7 _ _ (s6 _ _ hqn), lus, st.grow (Grow.of_same (sT s6 s7)), fun rb cas' H8 s8 rows' => ?_⟩
        have s78 := sT s7 s8
        have etl := s78 _ _ tl.at_
        have ecl := s78 _ _ cl.at_
        have no8 := not_lst etl
        refine ⟨_, rfl, .inl ⟨rfl, _, SqL.of etl⟩, _, rfl, ld, _, _, rfl, rfl, etl, ?_, ?_⟩
        · rw [List.length_map, tl.len]
          exact Nat.lt_of_lt_of_le (show i < 64 by omega) (by decide)
        have ecl9 : (L2.upd H8 ld (.lst (bs.map V.ref ++ [.ref tq]))) lc = some (.lst (as.map V.ref)) := by
          rw [upd_ne ncd]
          exact ecl
        have no9 := not_lst ecl9
        refine ⟨_, rfl, .inl ⟨rfl, _, SqL.of ecl9⟩, _, rfl, lc, _, _, rfl, rfl, ecl9, ?_, ?_⟩
        · rw [List.length_map, cl.len]
          exact Nat.lt_of_lt_of_le (show i + 1 < 64 by omega) (by decide)
        refine ⟨rb, _, _, cas', as ++ [rb], bs ++ [tq], rfl, (rows'.upd no8).upd no9, ⟨?_, ?_, ?_⟩, ⟨?_, ?_, ?_⟩, ?_⟩
        · rw [upd_same, List.map_append]
          rfl
        · rw [List.length_append, cl.len]
          rfl
        · refine snoc_row cl.len (fun j b e => ?_) ⟨cas', (rows'.upd no8).upd no9⟩
          obtain ⟨cc, z⟩ := cl.row j b e
          exact ⟨cc, ((z.same s78).upd no8).upd no9⟩
        · rw [upd_ne ncd.symm, upd_same, List.map_append]
          rfl
        · rw [List.length_append, tl.len]
          rfl
        · refine snoc_row tl.len (fun j b e => ?_) ⟨ts, ((sd.same s8).upd no8).upd no9⟩
          obtain ⟨cc, z⟩ := tl.row j b e
          exact ⟨cc, ((z.same s78).upd no8).upd no9⟩
        · exact sNew (sNew (sT s6 s78) hld0) hlc0
      · rintro σ H6 ⟨ra, x6, x7, cas, as, bs, rfl, rows, cl, tl, s6⟩
        rw [ek] at cl tl
        refine ⟨_, rfl, _, rfl, (by show 2 ≤ sizeLine; decide), fun p hp => ?_⟩
        have s7 := sN (o := .tup [.ref lc, .ref ld]) hp
        exact kk p lc ld as bs _ (sT s6 s7) hlc0 upd_same (cl.same s7) (tl.same s7)
theorem forty {k : Nat} (h : k ≤ 40) : (decide (0 ≤ (k : Int)) && decide ((k : Int) < 40 + 1)) = true := by
  rw [decide_eq_true (by omega), decide_eq_true (by omega)]
  rfl
theorem scLk : FnScope ["web", "program", "rounds", "cells", "_"] ["web", "program", "rounds"] (defScope sLk) := ⟨rfl, rfl, rfl, by decide +kernel, rfl, by decide +kernel, by decide +kernel⟩
theorem ok_lk {f C CP : Addr} {fd : FuncData} (F : Fun K "lockstep" "lockstep" sLk f fd) (B : Bts mg) (hsum : mg "sum" = none) (hmr : ∃ t, mg "MOST_ROUNDS" = some (.int 40 t)) (T : WTxt K mg C) (TP : PTxt K mg CP) (D : WDefs K mg) (R : RDefsN K mg) (O : OpsT P w K mg base) (N : KDefs K mg) :
    FnOk P w K mg base CX0 19 f fd ["web", "program", "rounds"] (spLk C CP) := by
  have GN : FnOk P w K mg base CX0 2 D.fN D.dN ["limit", "thing"] (spNum K) := ok_num D.DN.F B D.DP
  have GR : FnOk P w K mg base CX0 18 N.fR N.dR ["web", "program", "rounds"] (spRR C CP) := ok_rr N.DR.F B hsum T TP D R O N
  obtain ⟨tr, hr0⟩ := hmr
  refine F.ok scLk (fun vs H Q E h => ?_) (fun cdv A outer s0 H vs Q E hr h => ?_)
  · obtain ⟨M, k, R, S, ⟨w, x, nb, t, y, q, qn, xs, us, rfl, _⟩, _⟩ := h
    rfl
  · obtain ⟨M, k, R, S, pre, kk⟩ := h
    obtain ⟨w, x, nb, t, y, q, qn, xs, us, rfl, rest⟩ := id pre
    have k40 := rest.2.2.2.2.2.2
    have nd := scLk.nd
    have hr2 : Room 2 _ := hr.mono (by decide)
    refine ⟨_, pss_cons (ps_if (pt_not (pt_val (pe_call GN hr2 rfl D.DN.m D.DN.k D.DN.b .nil pass0 (pa_cons (pe_op op_add (pe_glob (v := .int 40) rfl hr0 ⟨_, rfl⟩) pe_int) (pa_cons (pv 2) pa_nil))))) pss_never pss_nil)
      (pss_cons (ps_asg (pe_call GR hr rfl N.DR.m N.DR.k N.DR.b .nil pass0 (pa_cons (pv 0) (pa_cons (pv 1) (pa_cons (pv 2) pa_nil)))) (pg_tup rfl (pgs_cons (pg_name (i := 3) nd rfl (.inl rfl)) (pgs_cons (pg_name (i := 4) nd rfl (.inl rfl)) pgs_nil))))
      (pss_one (ps_ret (pv 3)))), ?_⟩
    refine ⟨_, _, rfl, rfl, _, rfl, _, _, rfl, .inl ⟨_, rfl, _, rfl, ?_⟩⟩
    rw [forty k40]
    refine iteF ⟨_, rfl, _, rfl, _, rfl, M, k, R, S, pre, fun p c d as bs H1 s1 hc ep cl tl => ?_⟩
    exact ⟨p, _, rfl, SqT.of ep, rfl, _, _, rfl, _, _, rfl, rfl, _, rfl, kk c as H1 s1 hc cl⟩
end
end Q

/-! an own error over ValueError whose __init__ says super().__init__() alone -/
namespace QS
open PySem PySem.W PySem.Calls PyProof.Rows PySem.HandSPX L2
/-- the body super().__init__() -/
def supB (q1 q2 q3 q4 q5 : Pos) : List Stmt := [.Expr (.Call (.Attribute (.Call (.Name "super" q1) [] [] q2) "__init__" q3) [] [] q4) q5]
def supSc : Scope := { kind := .function, names := [("self", .local), ("__class__", .free), ("super", .globalImplicit)], isGenerator := false, isCoroutine := false, more := [] }
def supAr (p : Pos) : Arguments := { posonlyargs := [], args := [{ arg := "self", annotation := none, pos := p }], vararg := none, kwonlyargs := [], kw_defaults := [], kwarg := none, defaults := [] }
theorem supSc_cell : ∀ x ∈ supSc.names, x.2 ≠ .cell := by decide
theorem supSc_loc (v : Value) : ∀ y ∈ [(("self" : Str), v)], supSc.names.lookup y.1 = some .local := fun y hy => by
  rw [List.mem_singleton.mp hy]
  show supSc.names.lookup ("self" : Str) = some .local
  decide
theorem he_sup {o : Expr} {env : Env} {q3 q4 : Pos} (hl : (q3.endLine == q4.line) = true) : eval (.Call (.Attribute o "__init__" q3) [] [] q4) env = (do
    let ov ← attributeBase o "__init__" env (eval o env)
    standAt q3.atName
    let (f, first) ← holding [ov] (getMethod ov "__init__" (do return (← importBound o env).getD true))
    callWith q4 f first (backTo q4 (starEach [] env)) []) := by
  rw [arm_eval_Call]
  have hp : methodCallPos true o env q3 q4 = pure q4 := by unfold methodCallPos; simp [hl]
  have hf : methodCallForm (([] : List Expr).length + ([] : List Keyword).length) (backTo q4 (starEach [] env)) (backToKw q4 (keywordEach [] env)) = true := rfl
  unfold methodCall
  rw [hf, hp]
  unfold calleeOf
  simp only [if_true, pure_bind]
  rfl
/-- what the written part says of such a class -/
structure SupC (prog : Program) (K : Frag) (mg : Str → Option Value) (C fI : Addr) (qual : Str) : Prop where
  cls : ∃ nm q N bs bm sn sub ab col dd k0 k1 k2 k3 k5, K.lookup C = some (excClassObj nm q C N bs bm true sn sub ab col dd k0 k1 k2 k3 k5 "ValueError.__new__") ∧ refsVE bm = true
  iC : findIn K (.ref C) "__init__" = some (some (.ref fI))
  tI : typeIn K (.ref fI) = some (.type "function")
  kC : keepIn K (.ref C) = true
  exC : subIn K (.ref C) (.type "BaseException") = some true
  veC : subIn K (.ref C) (.type "ValueError") = some true
  tyC : typeIn K (.ref C) = some (.type "type")
  me : mroIn K C (.ref C) = some true
  noS : mg "super" = none
  op : nsIn K cStatics "thirdparty.any" = some none
  al : ks_superIn K C C "__init__" = some (some (.builtin "ValueError.__init__"))
  top : (prog.main.scope.names.lookup ("super" : Str)).isSome = false
  fn : ∃ (oc : Value) (od : Option Addr) (doc pm : Value) (an : Option Addr) (cda cc : Addr) (ct : Value) (osl : Array (Option Value)) (p q1 q2 q3 q4 q5 : Pos) (ccl cl : Value) (cdd cld : Option Addr) (ccs csl : Array (Option Value)) (vs : Array Value) (file : Str) (tf : Tok),
    K.lookup fI = some ⟨oc, od, .func (ksFn "__init__" qual (supAr p) (supB q1 q2 q3 q4 q5) supSc .none .none doc pm an (.ref cda) ct cc), osl⟩ ∧ codeIn K (.ref cda) qual = true ∧ K.lookup cda = some ⟨ccl, cdd, .fields vs, ccs⟩ ∧ vs[2]? = some (.str file tf) ∧
      ((prog.main.file : Str) == file) = true ∧ K.lookup cc = some ⟨cl, cld, .cell (some (.ref C)), csl⟩ ∧ (q3.endLine == q4.line) = true
section
variable {prog : Program} {w : World} {A : Around} {E : Value → Shared → Prop} {R : Result → Shared → Prop} {s : Shared} {K : Frag} {mg : Str → Option Value} {C fI : Addr} {qual : Str} {base : Heap}
theorem sup_init (T : SupC prog K mg C fI qual) (M : Mod K mg base) (hk : ∀ b o, base.get? b = some o → s.heap.get? b = some o) {x t0 : Addr} (hx : s.heap.get? x = some (excO C t0)) (hroom : A.depth < recursionLimit)
    (hq : ∀ h' tk t1, (∀ b o, b ≠ x → s.heap.get? b = some o → h'.get? b = some o) → h'.get? x = some (excO C t1) → R (.ok (.ret .none)) { s with heap := h', toks := tk }) :
    codeAny (model prog w) A (.call (.ref fI) ⟨[.ref x], []⟩) R s := by
  have X : K.In s.heap := M.kin.keeps hk
  obtain ⟨oc, od, doc, pm, an, cda, cc, ct, osl, p, q1, q2, q3, q4, q5, ccl, cl, cdd, cld, ccs, csl, vs, file, tf, lk, hcd, hcode, hvs, hfile, hcell, hline⟩ := T.fn
  obtain ⟨nm, q, N, bs, bm, sn, sub, ab, col, dd, k0, k1, k2, k3, k5, hC, hbm⟩ := T.cls
  refine ks_codeAny_call_defAt (binds := [("self", .ref x)]) hroom (X _ _ lk) rfl (M.nolimit.keeps hk) (codeRec_of X hcd) rfl (BindsTo.of_eq (by first | rfl | with_unfolding_all rfl)) supSc_cell (supSc_loc _) (fun h1 hns kp => ?_) rfl rfl rfl
  have X1 : K.In h1 := X.keeps kp
  have b1 : ∀ b o, base.get? b = some o → h1.get? b = some o := fun b o e => kp b o (hk b o e)
  have hx1 := kp _ _ hx
  obtain ⟨mb, hmb, hbv⟩ := M.blt
  obtain ⟨hp, g, d, t, os⟩ := s
  show _root_.PySem.wpAt _ _ _ (execs (supB q1 q2 q3 q4 q5) (ksEnv qual supSc hp.objs.size fI (.ref cda) cc)) _ _ _
  refine ks_wpAt_execs_cons (ks_wpAt_Expr_any (ks_wpAt_MethodCall ?_ (he_sup hline)))
  refine ks_wpAt_super_base (env := ksEnv qual supSc hp.objs.size fI (.ref cda) cc) rfl rfl (by decide) rfl (X1 _ _ lk) rfl rfl rfl (X1 _ _ hcode) rfl hvs hfile T.top ?_
  refine ks_loadName_global rfl rfl (loadGlobal_builtin (M.glob.keeps b1) T.noS (hmb.keeps b1) ((hbv _ (by decide)).trans (by decide +kernel)) ⟨rfl, ?_⟩)
  refine wpAny_loadName_free rfl rfl rfl ⟨_, X1 _ _ hcell, rfl⟩ ?_
  refine wpAny_loadName_local rfl rfl hns rfl ?_
  have hC1 := X1 _ _ hC
  refine ks_wpAny_isType_cls hC1 rfl ⟨rfl, ?_⟩
  refine ks_wpAny_call_super hC1 rfl hx1 rfl (fun c e => nomatch e) (looks_mroIn X1 T.me) (fun h2 e2 k2 => ?_)
  have X2 : K.In h2 := X1.keeps k2
  have hx2 := k2 _ _ hx1
  have hC2 := X2 _ _ hC
  have hcl : clsIn K C = some { name := nm, bases := bs, mro := .ref C :: bm, ns := N, qualname := q, hasDict := true, slotNames := sn, subclasses := sub, abstract := ab, collection := col, hasDel := false } := by unfold clsIn; rw [hC] <;> rfl
  have hal : alongIn K "__init__" (((Value.ref C :: bm).dropWhile (· != .ref C)).drop 1) = some (some (.builtin "ValueError.__init__")) := by
    have z := T.al
    unfold ks_superIn at z
    rw [hcl] at z
    exact z
  have nxC : x ≠ C := fun e => by
    rw [e, hC1] at hx1
    cases hx1
  have hI : Looks (model prog w) h2 (isInstance (.ref x) (.type "ValueError")) true := by
    have I : InstAt h2 x (excO C t0) C none := ⟨hx2, rfl, rfl, trivial⟩
    exact I.type.andThen (looks_subIn X2 T.veC)
  refine kxs_getMethod kxs_ValueError e2 (looks_opaque X2 T.op) (l₀ := .ref C :: bm) ?_ rfl X2 hal hI nxC (by decide) ?_
  · exact fun A Q E s k q => wpAny_bind ((looks_clsIn X2 hcl) A _ E s k (wpAny_pure q))
  have k3 : ∀ b o, h2.get? b = some o → (h2.push (kxs_mw "ValueError.__init__" x)).get? b = some o := fun b o e => Heap.get?_push_of_some _ e
  refine kxs_callWith (i := "ValueError.__init__") (u := h2.objs.size) (x := x) rfl (evalArgs_empty ⟨Heap.get?_push_at rfl rfl, ?_⟩)
  refine wpAny_call (codeAny_of_tree ?_)
  show wpAny _ _ (callAny (.ref h2.objs.size) ⟨[], []⟩) _ _ _
  simp only [callAny]
  refine wpAny_bind (wpAny_load (Heap.get?_push_at rfl rfl) ?_)
  simp only [kxs_mw, show (Value.type "method-wrapper" == Value.type "method" || Value.type "method-wrapper" == Value.type "builtin_function_or_method" || Value.type "method-wrapper" == Value.type "method-wrapper") = true by decide, if_true]
  refine KFB.if_so (by decide) ?_
  refine wpAny_bind (check_bound_init F.excBase_ValueError.toExcCallFacts (k3 _ _ hC2) (k3 _ _ hx2) rfl ?_)
  refine wpAny_bind (wpAny_pure (wpAny_pure ?_))
  refine ⟨plainId_quiet F.excBase_ValueError.init.plain _, codeAny_builtin F.excBase_ValueError.initEntry ?_⟩
  refine exc_init_tree (cls := .ref C) (t0 := t0) (dv := none) (c2 := .none) (c3 := .none) (b4 := .bool false) (k3 _ _ hx2) (Nat.zero_le _) (fun h4 k4 e4 _ => ?_)
  show _root_.PySem.wpAt _ _ _ (execs [] _) _ _ _
  refine wpAt_of_wpAny (wpAny_execs_nil ?_)
  exact hq h4 _ _ (fun b o hb e => k4 b o hb (k3 b o (k2 b o (kp b o e)))) e4
end
section
variable {X : Cx} {p pos : Pos} {x : Str} {C fI : Addr} {k : Nat} {qual : Str}
/-- raise C(): a new error of the class at C, without a dict -/
theorem pmk_sup (T : SupC X.prog X.K X.mg C fI qual) (hr : Room k X.A) (hg : Gl X x) (hm : X.mg x = some (.ref C)) (hdb : (x == ("__debug__" : Str)) = false := by decide) :
    PMk X (.Call (.Name x p) [] [] pos) (fun _ H Q => Q (.ref C) none H) := by
  intro pins s σ H Q I h
  obtain ⟨nm, q, N, bs, bm, sn, sub, ab, col, dd, k0, k1, k2, k3, k5, hC, hbm⟩ := T.cls
  refine wpAny_Call_Name_kw (ld_glob I hg hm ?_ hdb)
  refine PySem.W.callWith_K0 I.kIn T.kC ?_
  show wpAny _ _ (call (.ref C) []) _ _ _
  have hdp := hr.dp
  have hbk := I.bk
  obtain ⟨hp, g, dr, tk, os⟩ := s
  have kk : ∀ b o, hp.get? b = some o → ((hp.push (kdv_tup [])).push (excO C hp.objs.size)).get? b = some o := fun b o e => Heap.get?_push_of_some _ (Heap.get?_push_of_some _ e)
  have hget : ((hp.push (kdv_tup [])).push (excO C hp.objs.size)).get? (hp.objs.size + 1) = some (excO C hp.objs.size) := by heap_get
  have hdep : (X.A.under (.builtin "type.__call__" ⟨[.ref C], []⟩)).depth < recursionLimit := by
    rw [make_depth]
    omega
  refine wpAny_call (call_own F.excBase_ValueError (fun Y => refsVE_contains Y bm hbm) (I.kIn _ _ hC) (looks_findIn I.kIn T.iC) (fun self => bind_fn I.kIn self T.tI) (Nat.zero_le _)
    (sup_init T I.ok.mod (fun b o e => kk b o (hbk b o e)) hget hdep fun h' tk' t1 k4 e4 => ⟨rfl, ?_⟩))
  obtain ⟨G, r1, r2⟩ := restrict h' fun b => decide (b ≠ hp.objs.size + 1)
  have gk : ∀ b, b ≠ hp.objs.size + 1 → G.get? b = h'.get? b := fun b hb => r1 b (decide_eq_true hb)
  have ge : G.get? (hp.objs.size + 1) = none := r2 _ (by simp)
  have old : ∀ b o, hp.get? b = some o → G.get? b = some o := fun b o e => by
    have hb : b ≠ hp.objs.size + 1 := Nat.ne_of_lt (Nat.lt_succ_of_lt (Heap.lt_size e))
    rw [gk b hb]
    exact k4 b o hb (kk b o e)
  have J : Inv X pins σ H ⟨G, g, dr, tk', os⟩ := I.kept (t' := tk') old
  refine ⟨hp.objs.size + 1, _, _, ⟨G, g, dr, tk', os⟩, H, .ref C, none, rfl, J, fun b o e => ?_, ge, e4, ⟨rfl, rfl⟩, rfl, rfl, I.hok.fresh (Nat.le_succ _), rfl, I.bare, raises_own T.exC T.tyC, h⟩
  by_cases hb : b = hp.objs.size + 1
  · have e' : G.get? b = some o := e
    rw [hb, ge] at e'
    cases e'
  · exact (gk b hb).symm.trans e
end
end QS

/-! programs that are drawn -/
namespace Q
open PySem L2
abbrev sSN : Stmt := top 92
abbrev sEX : Stmt := top 93
abbrev sPR : Stmt := top 94
def PreX (H : Hp) (p l wl : Addr) (Ws W : List Str) (c : Int) : Prop := HandAt H p l ∧ H wl = some (.lst (Ws.map V.str)) ∧ wl ≠ p ∧ Alone W ∧ 0 < Ws.length ∧ Ws.length < 100 ∧ (∀ s ∈ Ws, s ∈ W ∧ s ∈ txtL) ∧ 0 ≤ c ∧ c ≤ 4
def sayL : List Str := ["me", "many", "ties", "round", "other", "other"]
def hearL : List Str := ["me", "many", "ties", "round", "heard", "sum", "least", "most", "sum"]
def spPR : Sp := fun vs H Q _ => ∃ (p l : Addr), vs = [.ref p] ∧ HandAt H p l ∧ ∀ pt q t y qn H', HandAt H' p l → Ext p H H' → H' pt = some (.tup [.ref q, t, y, .ref qn]) → FineP H' (.ref q) t y (.ref qn) → PreP H' (.ref q) t y (.ref qn) → Q (.ref pt) H'
def twoL : List Str := ["add", "sub", "mul", "min", "max", "less", "same", "rest", "and", "or"]
theorem two_ops : ∀ s ∈ twoL, s ∈ opsL ∧ s ∈ txtL := by decide +kernel
def spSN : Sp := fun vs H Q _ => ∃ (p l : Addr), vs = [.ref p] ∧ HandAt H p l ∧ ∀ i H', -2147483648 ≤ i → i ≤ 2147483647 → HandAt H' p l → Ext p H H' → Q (.int i) H'
def spEX (n : Nat) : Sp := fun vs H Q _ => ∃ (p l wl : Addr) (Ws W : List Str) (c : Int), vs = [.ref p, .ref wl, .int c, .int (n : Int)] ∧ 1 ≤ n ∧ PreX H p l wl Ws W c ∧ ∀ v H' k, HandAt H' p l → Ext p H H' → Wh H' v → TS H' W c n v k → k ≤ n → Q v H'
theorem ts_mk {H : Hp} {W : List Str} {c : Int} {n : Nat} {v : V} {ks : List V} {szs : List Nat} {k : Nat} (hn : 1 ≤ n) (nd : Node H W c v ks) (p : Paired (TS H W c (n - 1)) ks szs) (e : k = 1 + szs.sum) : TS H W c n v k := by
  cases n with
  | zero => omega
  | succ n => exact ⟨ks, nd, szs, p, e⟩
theorem fn_any {P : Program} {w : World} {K : PySem.W.Frag} {mg : Str → Option Value} {base : Heap} {CX : CXT} {f : Addr} {fd : FuncData} {ps : List Str} {sp : Nat → Sp} {n k : Nat} (lv : Nat → Nat) (h : ∀ m, m < n → FnOk P w K mg base CX (lv m) f fd ps (sp m)) (l : ∀ m, m < n → lv m ≤ k) : FnOk P w K mg base CX k f fd ps (fun vs H Q E => ∃ m, m < n ∧ sp m vs H Q E) :=
  ⟨fun vs H Q E z => let ⟨m, hm, z⟩ := z; (h m hm).len vs H Q E z, fun A outer s H args us vs Q E hr he hb hv hs => let ⟨m, hm, hs⟩ := hs; (h m hm).run A outer s H args us vs Q E (hr.mono (l m hm)) he hb hv hs⟩
section
variable {P : Program} {w : World} {K : PySem.W.Frag} {mg : Str → Option Value} {base : Heap}
theorem scSN : FnScope ["hand", "kind"] ["hand"] (defScope sSN) := ⟨rfl, rfl, rfl, by decide +kernel, rfl, by decide +kernel, by decide +kernel⟩
theorem scEX : FnScope ["hand", "words", "cells", "left", "twos", "kind", "one", "some", "turn"] ["hand", "words", "cells", "left"] (defScope sEX) := ⟨rfl, rfl, rfl, by decide +kernel, rfl, by decide +kernel, by decide +kernel⟩
theorem scPR : FnScope ["hand", "cells", "always", "starts", "saying", "to", "say", "hearing", "turn"] ["hand"] (defScope sPR) := ⟨rfl, rfl, rfl, by decide +kernel, rfl, by decide +kernel, by decide +kernel⟩
theorem ok_sn {f fD : Addr} {fd dD : FuncData} (D : Df K mg "_law_small_number" sSN ["hand"] f fd) (B : Bts mg) (DD : Df K mg "_law_draw" sDraw ["hand", "many"] fD dD) : FnOk P w K mg base CX0 2 f fd ["hand"] spSN := by
  have GD : FnOk P w K mg base CX0 1 fD dD ["hand", "many"] spDraw := ok_draw DD.F B
  refine D.F.ok scSN (fun vs H Q E h => ?_) (fun cdv A outer s H vs Q E hr h => ?_)
  · obtain ⟨p, l, rfl, _⟩ := h
    rfl
  · obtain ⟨p, l, rfl, g0, k⟩ := h
    have nd := scSN.nd
    have hr1 : Room 1 _ := hr.mono (by decide)
    refine ⟨_, pss_cons (ps_set (i := 1) nd rfl (.inl rfl) (pe_call GD hr1 rfl DD.m DD.k DD.b .nil pass0 (pa_cons (pv 0) (pa_cons pe_int pa_nil))))
        (pss_cons (ps_if (pt_cmpR op_eq (pv 1) pe_int (nomark _)) (pss_one (ps_ret (pe_ix ix_list (pe_lst (pa_cons pe_int (pa_cons (pe_un un_neg pe_int) (pa_cons pe_int (pa_cons (pe_un un_neg pe_int) (pa_cons pe_int pa_nil)))))) (pe_call GD hr1 rfl DD.m DD.k DD.b .nil pass0 (pa_cons (pv 0) (pa_cons pe_int pa_nil))) (fun _ _ => rfl)))) pss_nil)
        (pss_one (ps_ret (pe_op op_sub (pe_call GD hr1 rfl DD.m DD.k DD.b .nil pass0 (pa_cons (pv 0) (pa_cons pe_int pa_nil))) pe_int)))), ?_⟩
    refine ⟨_, rfl, p, l, 6, rfl, g0, by decide, by decide, fun d H1 d0 d1 g1 b1 => ?_⟩
    have x1 : Ext p H H1 := Ext.rfl'.but b1
    refine ⟨_, rfl, rfl, _, rfl, ite2 (fun _ => ?_) (fun _ => ?_)⟩
    · refine ⟨_, rfl, _, rfl, (by show 5 ≤ sizeLine; decide), fun ml hml => ?_⟩
      have g2 := g1.new (o := .lst [.int 2147483647, .int (-2147483648), .int 65536, .int (-1), .int 1000000007]) hml
      refine ⟨_, rfl, p, l, 5, rfl, g2, by decide, by decide, fun d2 H3 e0 e1 g3 b3 => ?_⟩
      obtain ⟨v, hv, ev⟩ := pick_in (xs := [V.int 2147483647, .int (-2147483648), .int 65536, .int (-1), .int 1000000007]) e0 (by show d2 < 5; exact e1)
      have nmp := (g1.ne hml).1
      obtain ⟨i, rfl, h0, h1⟩ : ∃ i : Int, v = .int i ∧ -2147483648 ≤ i ∧ i ≤ 2147483647 := by
        simp only [List.mem_cons, List.not_mem_nil, or_false] at hv
        rcases hv with h | h | h | h | h
        · exact ⟨_, h, by decide, by decide⟩
        · exact ⟨_, h, by decide, by decide⟩
        · exact ⟨_, h, by decide, by decide⟩
        · exact ⟨_, h, by decide, by decide⟩
        · exact ⟨_, h, by decide, by decide⟩
      exact ⟨ml, _, d2, .int i, rfl, rfl, SqL.of (by rw [b3 ml nmp]; exact upd_same), ev, k i H3 h0 h1 g3 ((x1.upd hml).but b3)⟩
    · refine ⟨_, rfl, p, l, 9, rfl, g1, by decide, by decide, fun d2 H3 e0 e1 g3 b3 => ?_⟩
      exact ⟨_, _, rfl, rfl, k _ H3 (by omega) (by omega) g3 (x1.but b3)⟩
theorem ok_ex {f fD fS : Addr} {fd dD dS : FuncData} (D : Df K mg "_law_expression" sEX ["hand", "words", "cells", "left"] f fd) (B : Bts mg) (DD : Df K mg "_law_draw" sDraw ["hand", "many"] fD dD) (DSN : Df K mg "_law_small_number" sSN ["hand"] fS dS) : ∀ n, FnOk P w K mg base CX0 (n + 3) f fd ["hand", "words", "cells", "left"] (spEX n) := by
  have GD : FnOk P w K mg base CX0 1 fD dD ["hand", "many"] spDraw := ok_draw DD.F B
  have GSN : FnOk P w K mg base CX0 2 fS dS ["hand"] spSN := ok_sn DSN B DD
  intro n
  induction n using Nat.strongRecOn with
  | _ n ih =>
  have IH : FnOk P w K mg base CX0 (n + 2) f fd ["hand", "words", "cells", "left"] (fun vs H Q E => ∃ m, m < n ∧ spEX m vs H Q E) := fn_any (fun m => m + 3) ih (fun m hm => by show m + 3 ≤ n + 2; omega)
  refine D.F.ok scEX (fun vs H Q E h => ?_) (fun cdv A outer s H vs Q E hr h => ?_)
  · obtain ⟨p, l, wl, Ws, W, c, rfl, _⟩ := h
    rfl
  · obtain ⟨p, l, wl, Ws, W, c, rfl, n1, ⟨g0, ew, nwp, al, ne, few, txt, c0, c4⟩, k⟩ := h
    have nd := scEX.nd
    have hr1 : Room 1 _ := hr.mono (by omega)
    have hr2 : Room 2 _ := hr.mono (by omega)
    have hrn : Room (n + 2) _ := hr
    refine ⟨_, pss_cons (ps_set (i := 4) nd rfl (.inl rfl) (pe_lst (pa_cons pe_str (pa_cons pe_str (pa_cons pe_str (pa_cons pe_str (pa_cons pe_str (pa_cons pe_str (pa_cons pe_str (pa_cons pe_str (pa_cons pe_str (pa_cons pe_str pa_nil))))))))))))
        (pss_cons (ps_set (i := 5) nd rfl (.inl rfl) (pe_call GD hr1 rfl DD.m DD.k DD.b .nil pass0 (pa_cons (pv 0) (pa_cons pe_int pa_nil))))
        (C8.pss_cut (ps_if (PW.pt (pw_and (pt_cmpR op_gt (pv 3) pe_int (nomark _)) (pw_and1 (pt_cmpR op_lt (pv 5) pe_int (nomark _))))) (pss_cons (ps_set (i := 6) nd rfl (.inl rfl) (pe_call IH hrn rfl D.m D.k D.b .nil pass0 (pa_cons (pv 0) (pa_cons (pv 1) (pa_cons (pv 2) (pa_cons (pe_op op_fdiv (pe_op op_sub (pv 3) pe_int) pe_int) pa_nil))))))
        (pss_one (ps_ret (pe_tup (pa_cons (pe_ix ix_list (pv 4) (pe_call GD hr1 rfl DD.m DD.k DD.b .nil pass0 (pa_cons (pv 0) (pa_cons pe_int pa_nil))) (fun _ _ => rfl)) (pa_cons (pv 6) (pa_cons (pe_call IH hrn rfl D.m D.k D.b .nil pass0 (pa_cons (pv 0) (pa_cons (pv 1) (pa_cons (pv 2) (pa_cons (pe_op op_fdiv (pe_op op_sub (pv 3) pe_int) pe_int) pa_nil))))) pa_nil))))))) pss_nil)
        (C8.pss_cut (ps_if (PW.pt (pw_and (pt_cmpR op_gt (pv 3) pe_int (nomark _)) (pw_and1 (pt_cmpR op_eq (pv 5) pe_int (nomark _))))) (pss_cons (ps_setLc (i := 7) (own := [("turn", 8)]) (g := gName 8) (tt := tYes) rfl nd rfl rfl (sw_true rfl rfl rfl (by decide +kernel)) (pi_range1 rfl B.range (pa_cons pe_int pa_nil)) (blkOk_by (N := ["hand", "words", "cells", "left", "twos", "kind", "one", "some", "turn"]) (sc := defScope sEX) (by decide +kernel)) (fun _ _ _ _ _ => pg_name (i := 8) nd rfl (.inl rfl)) (fun _ _ _ _ _ => pts_nil) (fun _ _ _ _ _ => (pe_call IH hrn rfl D.m D.k D.b .nil pass0 (pa_cons (pv 0) (pa_cons (pv 1) (pa_cons (pv 2) (pa_cons (pe_op op_fdiv (pe_op op_sub (pv 3) pe_int) pe_int) pa_nil)))))))
        (pss_one (ps_ret (pe_tup (pa_cons pe_str (pa_cons (pe_ix ix_list (pv 7) pe_int (fun _ _ => rfl)) (pa_cons (pe_ix ix_list (pv 7) pe_int (fun _ _ => rfl)) (pa_cons (pe_ix ix_list (pv 7) pe_int (fun _ _ => rfl)) pa_nil)))))))) pss_nil)
        (C8.pss_cut (ps_if (PW.pt (pw_and (pt_cmpR op_lt (pv 5) pe_int (nomark _)) (pw_and1 (pt_cmpR op_gt (pv 2) pe_int (nomark _))))) (pss_one (ps_ret (pe_tup (pa_cons pe_str (pa_cons (pe_call GD hr1 rfl DD.m DD.k DD.b .nil pass0 (pa_cons (pv 0) (pa_cons (pv 2) pa_nil))) pa_nil))))) pss_nil)
        (pss_cons (ps_if (pt_cmpR op_eq (pv 5) pe_int (nomark _)) (pss_one (ps_ret (pe_tup (pa_cons pe_str (pa_cons (pe_call GSN hr2 rfl DSN.m DSN.k DSN.b .nil pass0 (pa_cons (pv 0) pa_nil)) pa_nil))))) pss_nil)
        (pss_one (ps_ret (pe_tup (pa_cons (pe_ix ix_list (pv 1) (pe_call GD hr1 rfl DD.m DD.k DD.b .nil pass0 (pa_cons (pv 0) (pa_cons (pe_callB call_len_seq (by rfl) B.len PySem.boot_len (pa_cons (pv 1) pa_nil)) pa_nil))) (fun _ _ => rfl)) pa_nil))))))))), ?_⟩
    refine ⟨(by show 10 ≤ sizeLine; decide), fun tl htl => ?_⟩
    have ga := g0.new (o := .lst (twoL.map V.str)) htl
    have ewa := sN (o := .lst (twoL.map V.str)) htl _ _ ew
    have ntp := (g0.ne htl).1
    refine ⟨_, rfl, p, l, 10, rfl, ga, by decide, by decide, fun d H1 d0 d1 g1 b1 => ?_⟩
    have x1 : Ext p H H1 := (Ext.rfl'.upd htl).but b1
    have ew1 : H1 wl = some (.lst (Ws.map V.str)) := by rw [b1 wl nwp]; exact ewa
    have et1 : H1 tl = some (.lst (twoL.map V.str)) := by rw [b1 tl ntp]; exact upd_same
    clear ga ewa b1 htl
    have pre : ∀ {H' : Hp}, HandAt H' p l → Ext p H1 H' → PreX H' p l wl Ws W c := fun g x => ⟨g, x _ _ ew1 nwp, nwp, al, ne, few, txt, c0, c4⟩
    refine ⟨fun σ H' => σ = [some (.ref p), some (.ref wl), some (.int c), some (.int (n : Int)), some (.ref tl), some (.int d), none, none, none] ∧ H1 = H', ?_, ?_⟩
    · refine ⟨_, rfl, _, _, rfl, rfl, _, rfl, ?_⟩
      by_cases c1 : 2 < n
      case neg =>
        rw [decide_eq_false (show ¬ (2 : Int) < (n : Int) by omega)]
        exact iteF (iteF ⟨rfl, rfl⟩)
      rw [decide_eq_true (show (2 : Int) < (n : Int) by omega)]
      refine iteT ⟨_, rfl, _, _, rfl, rfl, _, rfl, ite2 (fun _ => ?_) (fun _ => ⟨rfl, rfl⟩)⟩
      have eq2 : ∀ a b : V, [a, b, V.int c, .int (((n : Int) - 1) / 2)] = [a, b, .int c, .int (((n - 1) / 2 : Nat) : Int)] := fun a b => by rw [show (((n : Int) - 1) / 2) = (((n - 1) / 2 : Nat) : Int) by omega]
      refine ⟨_, rfl, _, rfl, _, rfl, _, rfl, _, _, rfl, rfl, _, _, rfl, rfl, ⟨by decide, by decide⟩, (n - 1) / 2, by omega, p, l, wl, Ws, W, c, eq2 _ _, by omega, pre g1 Ext.rfl', fun v1 H2 k1 g2 x2 w1 t1 l1 => ?_⟩
      have et2 := x2 _ _ et1 ntp
      refine ⟨_, rfl, _, rfl, p, l, 10, rfl, g2, by decide, by decide, fun d2 H3 e0 e1 g3 b3 => ?_⟩
      obtain ⟨v, hv, ev⟩ := pick_in (xs := twoL.map V.str) e0 (by show d2 < 10; exact e1)
      obtain ⟨s, hs, rfl⟩ := List.mem_map.mp hv
      obtain ⟨so, sx⟩ := two_ops s hs
      have x3 : Ext p H2 H3 := Ext.rfl'.but b3
      refine ⟨tl, _, d2, .str s, rfl, rfl, SqL.of (x3 _ _ et2 ntp), ev, _, rfl, _, rfl, _, rfl, _, rfl, _, rfl, _, _, rfl, rfl, _, _, rfl, rfl, ⟨by decide, by decide⟩, (n - 1) / 2, by omega, p, l, wl, Ws, W, c, eq2 _ _, by omega, pre g3 (x2.trans x3), fun v4 H4 k4 g4 x4 w4 t4 l4 => ⟨(by show 3 ≤ sizeLine; decide), fun t ht => ?_⟩⟩
      have s5 := sN (o := .tup [.str s, v1, v4]) ht
      have gr : Grow H2 H4 := (Grow.of_ext g2 g3 x3).trans (Grow.of_ext g3 g4 x4)
      refine k (.ref t) _ (1 + (k1 + (k4 + 0))) (g4.new ht) ((x1.trans (x2.trans (x3.trans x4))).upd ht) (.tup upd_same (by show 3 ≤ 200; decide) (wh_cons (.str sx) (wh_cons ((w1.grow gr).same s5) (wh_cons (w4.same s5) wh_nil)))) ?_ (by omega)
      exact ts_mk n1 ((node_iff upd_same _).mpr (.inr (.inr (.inr (.inr ⟨so, rfl, rfl⟩))))) (szs := [k1, k4]) (.cons (((t1.grow gr).same s5).mono (by omega)) (.cons ((t4.same s5).mono (by omega)) .nil)) (by simp)
    rintro σ H' ⟨rfl, rfl⟩
    refine ⟨fun σ H' => σ = [some (.ref p), some (.ref wl), some (.int c), some (.int (n : Int)), some (.ref tl), some (.int d), none, none, none] ∧ H1 = H', ?_, ?_⟩
    · refine ⟨_, rfl, _, _, rfl, rfl, _, rfl, ?_⟩
      by_cases c1 : 3 < n
      case neg =>
        rw [decide_eq_false (show ¬ (3 : Int) < (n : Int) by omega)]
        exact iteF (iteF ⟨rfl, rfl⟩)
      rw [decide_eq_true (show (3 : Int) < (n : Int) by omega)]
      refine iteT ⟨_, rfl, rfl, _, rfl, ite2 (fun _ => ?_) (fun _ => ⟨rfl, rfl⟩)⟩
      have eq3 : ∀ a b : V, [a, b, V.int c, .int (((n : Int) - 1) / 3)] = [a, b, .int c, .int (((n - 1) / 3 : Nat) : Int)] := fun a b => by rw [show (((n : Int) - 1) / 3) = (((n - 1) / 3 : Nat) : Int) by omega]
      refine ⟨3, rfl, by decide, by decide, fun D0 hD => lc_range (lo := 0) (n := 3) (fun i H' => ∃ vs : List V, H' D0 = some (.lst vs) ∧ vs.length = i ∧ (∀ x ∈ vs, Wh H' x ∧ ∃ z, TS H' W c ((n - 1) / 3) x z ∧ z ≤ (n - 1) / 3) ∧ HandAt H' p l ∧ Ext p H1 H') ?_ ?_ ?_⟩
      · exact ⟨[], upd_same, rfl, fun x hx => absurd hx List.not_mem_nil, g1.new hD, Ext.rfl'.upd hD⟩
      · rintro i H2 hi ⟨vs, eD, hl, hv, g2, x2⟩
        have nDp : D0 ≠ p := by
          obtain ⟨xs, e⟩ := g1.hp
          exact (ne_of_none e hD).symm
        refine ⟨rfl, _, rfl, _, rfl, _, rfl, _, rfl, _, _, rfl, rfl, _, _, rfl, rfl, ⟨by decide, by decide⟩, (n - 1) / 3, by omega, p, l, wl, Ws, W, c, eq3 _ _, by omega, pre g2 x2, fun v H3 z g3 x3 wv tv lz => ?_⟩
        have eD3 : H3 D0 = some (.lst vs) := x3 _ _ eD nDp
        have gr := Grow.of_ext g2 g3 x3
        have gu : Grow H3 (L2.upd H3 D0 (.lst (vs ++ [v]))) := Grow.upd eD3
        refine ⟨vs, eD3, by rw [hl]; exact Nat.lt_of_lt_of_le (show i < 64 by omega) (by decide), vs ++ [v], upd_same, by rw [List.length_append, hl]; rfl, fun x hx => ?_, ?_, ?_⟩
        · rcases List.mem_append.mp hx with hx | hx
          · obtain ⟨a, z', b, e⟩ := hv x hx
            exact ⟨(a.grow gr).grow gu, z', (b.grow gr).grow gu, e⟩
          · have ex : x = v := by simpa using hx
            subst ex
            exact ⟨wv.grow gu, z, tv.grow gu, lz⟩
        · have nDl : D0 ≠ l := by
            obtain ⟨ns, e, _⟩ := g1.hl
            exact (ne_of_none e hD).symm
          exact g3.stay nDp nDl
        · intro b o e nb
          rw [upd_ne (ne_of_none e hD)]
          exact (x2.trans x3) b o e nb
      · rintro H2 ⟨vs, eD, hl, hv, g2, x2⟩
        obtain ⟨v1, v2, v3, rfl⟩ : ∃ v1 v2 v3, vs = [v1, v2, v3] := by
          match vs, hl with
          | [v1, v2, v3], _ => exact ⟨v1, v2, v3, rfl⟩
        refine ⟨_, rfl, D0, [v1, v2, v3], 0, v1, rfl, rfl, SqL.of eD, rfl, _, rfl, D0, [v1, v2, v3], 1, v2, rfl, rfl, SqL.of eD, rfl, _, rfl, D0, [v1, v2, v3], 2, v3, rfl, rfl, SqL.of eD, rfl, (by show 4 ≤ sizeLine; decide), fun t ht => ?_⟩
        have s3 := sN (o := .tup [.str "if", v1, v2, v3]) ht
        obtain ⟨w1, z1, t1, l1⟩ := hv v1 (by simp)
        obtain ⟨w2, z2, t2, l2⟩ := hv v2 (by simp)
        obtain ⟨w3, z3, t3, l3⟩ := hv v3 (by simp)
        refine k (.ref t) _ (1 + (z1 + (z2 + (z3 + 0)))) (g2.new ht) ((x1.trans x2).upd ht) (.tup upd_same (by show 4 ≤ 200; decide) (wh_cons (.str (by decide +kernel)) (wh_cons (w1.same s3) (wh_cons (w2.same s3) (wh_cons (w3.same s3) wh_nil))))) ?_ (by omega)
        exact ts_mk n1 ((node_iff upd_same _).mpr (.inr (.inr (.inr (.inl ⟨rfl, rfl, rfl⟩))))) (szs := [z1, z2, z3]) (.cons ((t1.same s3).mono (by omega)) (.cons ((t2.same s3).mono (by omega)) (.cons ((t3.same s3).mono (by omega)) .nil))) (by simp)
    rintro σ H' ⟨rfl, rfl⟩
    refine ⟨fun σ H' => σ = [some (.ref p), some (.ref wl), some (.int c), some (.int (n : Int)), some (.ref tl), some (.int d), none, none, none] ∧ H1 = H', ?_, ?_⟩
    · refine ⟨_, rfl, _, _, rfl, rfl, _, rfl, ite2 (fun _ => ⟨_, rfl, _, _, rfl, rfl, _, rfl, ite2 (fun cc => ?_) (fun _ => ⟨rfl, rfl⟩)⟩) (fun _ => iteF ⟨rfl, rfl⟩)⟩
      have cp : 0 < c := of_decide_eq_true cc
      refine ⟨_, rfl, _, rfl, p, l, c, rfl, g1, cp, by omega, fun d H2 e0 e1 g2 b2 => ⟨(by show 2 ≤ sizeLine; decide), fun t ht => ?_⟩⟩
      exact k (.ref t) _ 1 (g2.new ht) ((x1.but b2).upd ht) (.tup upd_same (by show 2 ≤ 200; decide) (wh_cons (.str (by decide +kernel)) (wh_cons (.int d) wh_nil))) (ts_mk n1 ((node_iff upd_same []).mpr (.inr (.inl ⟨rfl, rfl, d, rfl, e0, e1⟩))) .nil rfl) n1
    rintro σ H' ⟨rfl, rfl⟩
    refine ⟨_, rfl, rfl, _, rfl, ite2 (fun _ => ?_) (fun _ => ?_)⟩
    · refine ⟨_, rfl, p, l, rfl, g1, fun i H2 i0 i1 g2 x2 => ⟨(by show 2 ≤ sizeLine; decide), fun t ht => ?_⟩⟩
      exact k (.ref t) _ 1 (g2.new ht) ((x1.trans x2).upd ht) (.tup upd_same (by show 2 ≤ 200; decide) (wh_cons (.str (by decide +kernel)) (wh_cons (.int i) wh_nil))) (ts_mk n1 ((node_iff upd_same []).mpr (.inl ⟨rfl, rfl, i, rfl, i0, i1⟩)) .nil rfl) n1
    · refine ⟨_, rfl, _, rfl, _, rfl, wl, _, rfl, .inl (SqL.of ew1), p, l, _, rfl, g1, by rw [List.length_map]; omega, by rw [List.length_map]; omega, fun d2 H2 e0 e1 g2 b2 => ?_⟩
      obtain ⟨v, hv, ev⟩ := pick_in (xs := Ws.map V.str) e0 e1
      obtain ⟨s, hs, rfl⟩ := List.mem_map.mp hv
      obtain ⟨sw, sx⟩ := txt s hs
      refine ⟨wl, _, d2, .str s, rfl, rfl, SqL.of (by rw [b2 wl nwp]; exact ew1), ev, (by show 1 ≤ sizeLine; decide), fun t ht => ?_⟩
      exact k (.ref t) _ 1 (g2.new ht) ((x1.but b2).upd ht) (.tup upd_same (by show 1 ≤ 200; decide) (wh_cons (.str sx) wh_nil)) (ts_mk n1 ((node_iff upd_same []).mpr (.inr (.inr (.inl ⟨sw, rfl, rfl⟩)))) .nil rfl) n1
theorem ok_pr {f fD fS fE : Addr} {fd dD dS dE : FuncData} (D : Df K mg "_law_program" sPR ["hand"] f fd) (B : Bts mg) (DD : Df K mg "_law_draw" sDraw ["hand", "many"] fD dD) (DSN : Df K mg "_law_small_number" sSN ["hand"] fS dS) (DE : Df K mg "_law_expression" sEX ["hand", "words", "cells", "left"] fE dE) : FnOk P w K mg base CX0 13 f fd ["hand"] spPR := by
  have GD : FnOk P w K mg base CX0 1 fD dD ["hand", "many"] spDraw := ok_draw DD.F B
  have GE : FnOk P w K mg base CX0 12 fE dE ["hand", "words", "cells", "left"] (fun vs H Q E => ∃ m, m < 10 ∧ spEX m vs H Q E) := fn_any (fun m => m + 3) (fun m _ => ok_ex DE B DD DSN m) (fun m hm => by show m + 3 ≤ 12; omega)
  refine D.F.ok scPR (fun vs H Q E h => ?_) (fun cdv A outer s H vs Q E hr h => ?_)
  · obtain ⟨p, l, rfl, _⟩ := h
    rfl
  · obtain ⟨p, l, rfl, g0, k⟩ := h
    have nd := scPR.nd
    have hr1 : Room 1 _ := hr.mono (by decide)
    have hr12 : Room 12 _ := hr
    refine ⟨_, pss_cons (ps_set (i := 1) nd rfl (.inr rfl) (pe_op op_add pe_int (pe_call GD hr1 rfl DD.m DD.k DD.b .nil pass0 (pa_cons (pv 0) (pa_cons pe_int pa_nil)))))
        (pss_cons (ps_set (i := 2) nd rfl (.inr rfl) (pe_lst (pa_cons pe_str (pa_cons pe_str (pa_cons pe_str pa_nil)))))
        (pss_cons (ps_set (i := 3) nd rfl (.inl rfl) (pe_callTy call_tuple_of (by rfl) B.tuple PyProof.Rows.boot_tuple (pa_cons (pe_lc (own := [("turn", 8)]) (g := gName 8) (tt := tYes) rfl nd (pi_range1 rfl B.range (pa_cons (pv 1) pa_nil)) (blkOk_by (N := ["hand", "cells", "always", "starts", "saying", "to", "say", "hearing", "turn"]) (sc := defScope sPR) (by decide +kernel)) (fun _ _ _ _ _ => pg_name (i := 8) nd rfl (.inl rfl)) (fun _ _ _ _ _ => pts_nil) (fun _ _ _ _ _ => (pe_call GE hr12 rfl DE.m DE.k DE.b .nil pass0 (pa_cons (pv 0) (pa_cons (pv 2) (pa_cons pe_int (pa_cons pe_int pa_nil))))))) pa_nil)))
        (pss_cons (ps_set (i := 4) nd rfl (.inl rfl) (pe_op op_cat (pv 2) (pe_lst (pa_cons pe_str (pa_cons pe_str (pa_cons pe_str pa_nil))))))
        (pss_cons (ps_set (i := 5) nd rfl (.inl rfl) (pe_ix ix_list (pe_lst (pa_cons (pe_tup (pa_cons pe_str (pa_cons pe_int pa_nil))) (pa_cons (pe_tup (pa_cons pe_str (pa_cons pe_int pa_nil))) (pa_cons (pe_call GE hr12 rfl DE.m DE.k DE.b .nil pass0 (pa_cons (pv 0) (pa_cons (pv 4) (pa_cons (pv 1) (pa_cons pe_int pa_nil))))) pa_nil)))) (pe_call GD hr1 rfl DD.m DD.k DD.b .nil pass0 (pa_cons (pv 0) (pa_cons pe_int pa_nil))) (fun _ _ => rfl)))
        (pss_cons (ps_set (i := 6) nd rfl (.inl rfl) (pe_call GE hr12 rfl DE.m DE.k DE.b .nil pass0 (pa_cons (pv 0) (pa_cons (pv 4) (pa_cons (pv 1) (pa_cons pe_int pa_nil))))))
        (pss_cons (ps_set (i := 7) nd rfl (.inr rfl) (pe_op op_cat (pv 2) (pe_lst (pa_cons pe_str (pa_cons pe_str (pa_cons pe_str (pa_cons pe_str (pa_cons pe_str (pa_cons pe_str pa_nil)))))))))
        (pss_one (ps_ret (pe_tup (pa_cons (pv 3) (pa_cons (pv 5) (pa_cons (pv 6) (pa_cons (pe_callTy call_tuple_of (by rfl) B.tuple PyProof.Rows.boot_tuple (pa_cons (pe_lc (own := [("turn", 8)]) (g := gName 8) (tt := tYes) rfl nd (pi_range1 rfl B.range (pa_cons (pv 1) pa_nil)) (blkOk_by (N := ["hand", "cells", "always", "starts", "saying", "to", "say", "hearing", "turn"]) (sc := defScope sPR) (by decide +kernel)) (fun _ _ _ _ _ => pg_name (i := 8) nd rfl (.inl rfl)) (fun _ _ _ _ _ => pts_nil) (fun _ _ _ _ _ => (pe_call GE hr12 rfl DE.m DE.k DE.b .nil pass0 (pa_cons (pv 0) (pa_cons (pv 7) (pa_cons (pv 1) (pa_cons pe_int pa_nil))))))) pa_nil)) pa_nil))))))))))))), ?_⟩
    refine ⟨_, rfl, p, l, 3, rfl, g0, by decide, by decide, fun d H1 d0 d1 g1 b1 => ⟨_, _, rfl, rfl, ?_⟩⟩
    obtain ⟨cn, rfl⟩ : ∃ cn : Nat, d = (cn : Int) := ⟨d.toNat, by omega⟩
    have x1 : Ext p H H1 := Ext.rfl'.but b1
    clear b1
    refine ⟨(by show 3 ≤ sizeLine; decide), fun al hal => ?_⟩
    have nap := (g1.ne hal).1
    have g2 := g1.new (o := .lst [.str "me", .str "many", .str "ties"]) hal
    have x2 := x1.upd (o := .lst [.str "me", .str "many", .str "ties"]) hal
    have ea : (upd H1 al (.lst [.str "me", .str "many", .str "ties"])) al = some (.lst (wS.map V.str)) := upd_same
    revert g2 x2 ea
    generalize (upd H1 al (.lst [.str "me", .str "many", .str "ties"])) = H2
    intro g2 x2 ea
    clear hal x1 g1
    have e1n : (1 : Int) + (cn : Int) = ((1 + cn : Nat) : Int) := by omega
    have pS : ∀ {H' : Hp}, HandAt H' p l → Ext p H2 H' → PreX H' p l al wS wS 0 := fun g x => ⟨g, x _ _ ea nap, nap, alS, by decide, by decide, by decide +kernel, by decide, by decide⟩
    refine ⟨_, rfl, 1 + (cn : Int), rfl, by omega, by omega, fun D0 hD => lc_range (lo := 0) (n := (1 + (cn : Int)).toNat) (fun i H' => ∃ vs : List V, H' D0 = some (.lst vs) ∧ vs.length = i ∧ (∀ x ∈ vs, Wh H' x ∧ Right H' wS 0 x) ∧ HandAt H' p l ∧ Ext p H2 H') ?_ ?_ ?_⟩
    · exact ⟨[], upd_same, rfl, fun x hx => absurd hx List.not_mem_nil, g2.new hD, Ext.rfl'.upd hD⟩
    · rintro i H3 hi ⟨vs, eD, hl, hv, g3, x3⟩
      have nDp : D0 ≠ p := by
        obtain ⟨xs, e⟩ := g2.hp
        exact (ne_of_none e hD).symm
      refine ⟨rfl, _, rfl, _, rfl, 5, by decide, p, l, al, wS, wS, 0, rfl, by decide, pS g3 x3, fun v H3' z g3' x3' wv tv' lz => ?_⟩
      have eD3 := x3' _ _ eD nDp
      have gr := Grow.of_ext g3 g3' x3'
      have gu : Grow H3' (L2.upd H3' D0 (.lst (vs ++ [v]))) := Grow.upd eD3
      refine ⟨vs, eD3, by rw [hl]; exact Nat.lt_of_lt_of_le (show i < 64 by omega) (by decide), vs ++ [v], upd_same, by rw [List.length_append, hl]; rfl, fun x hx => ?_, ?_, ?_⟩
      · rcases List.mem_append.mp hx with hx | hx
        · exact ⟨((hv x hx).1.grow gr).grow gu, ((hv x hx).2.grow gr).grow gu⟩
        · have ex : x = v := by simpa using hx
          subst ex
          exact ⟨wv.grow gu, Right.grow ⟨z, tv'.mono (by decide), by omega⟩ gu⟩
      · have nDl : D0 ≠ l := by
          obtain ⟨ns, e, _⟩ := g2.hl
          exact (ne_of_none e hD).symm
        exact g3'.stay nDp nDl
      · intro b o e nb
        rw [upd_ne (ne_of_none e hD)]
        exact (x3.trans x3') b o e nb
    rintro H3 ⟨vs, eD, hl, hv, g3, x3⟩
    have lv : vs.length = 1 + cn := by omega
    refine ⟨D0, vs, rfl, .inl ⟨SqL.of eD, fun q hq => ?_⟩⟩
    have s4 := sN (o := .tup vs) hq
    have g4 := g3.new (o := .tup vs) hq
    have x4 := (x2.trans x3).upd (o := .tup vs) hq
    have ea4 := s4 _ _ (x3 _ _ ea nap)
    have eq4 : (upd H3 q (.tup vs)) q = some (.tup vs) := upd_same
    have hv4 : ∀ x ∈ vs, Wh (upd H3 q (.tup vs)) x ∧ Right (upd H3 q (.tup vs)) wS 0 x := fun x hx => ⟨(hv x hx).1.same s4, (hv x hx).2.grow (Grow.of_same s4)⟩
    revert g4 x4 ea4 eq4 hv4
    generalize (upd H3 q (.tup vs)) = H4
    intro g4 x4 ea4 eq4 hv4
    clear s4 hq hv eD g3 x3 hD x2 g2 pS ea hl
    -- saying
    refine ⟨_, rfl, (by show 3 ≤ sizeLine; decide), fun l5 h5 => ?_⟩
    have s5 := sN (o := .lst [.str "round", .str "other", .str "other"]) h5
    refine ⟨al, l5, _, _, rfl, rfl, s5 _ _ ea4, upd_same, (by show 3 + 3 ≤ sizeLine; decide), fun sl hsl => ?_⟩
    have s6 := sN (o := .lst (wS.map V.str ++ [.str "round", .str "other", .str "other"])) hsl
    have es : (upd (upd H4 l5 (.lst [.str "round", .str "other", .str "other"])) sl (.lst (wS.map V.str ++ [.str "round", .str "other", .str "other"]))) sl = some (.lst (sayL.map V.str)) := upd_same
    have s46 := sT s5 s6
    have nsp := ((g4.same s5).ne hsl).1
    revert s46 es
    generalize (upd (upd H4 l5 (.lst [.str "round", .str "other", .str "other"])) sl (.lst (wS.map V.str ++ [.str "round", .str "other", .str "other"]))) = H6
    intro es s46
    have g6 := g4.same s46
    have ea6 := s46 _ _ ea4
    clear s5 s6 hsl h5
    have pT : ∀ {H' : Hp}, HandAt H' p l → Ext p H6 H' → PreX H' p l sl sayL wT ((1 + cn : Nat) : Int) := fun g x => ⟨g, x _ _ es nsp, nsp, alT, by decide, by decide, by decide +kernel, by omega, by omega⟩
    -- to
    refine ⟨(by show 2 ≤ sizeLine; decide), fun t7 h7 => ⟨(by show 2 ≤ sizeLine; decide), fun t8 h8 => ?_⟩⟩
    have s7 := sN (o := .tup [.str "number", .int 1]) h7
    have s8 := sN (o := .tup [.str "number", .int 1]) h8
    have e7 := s8 _ _ (upd_same (H := H6) (a := t7) (o := .tup [.str "number", .int 1]))
    have e8 : (upd (upd H6 t7 (.tup [.str "number", .int 1])) t8 (.tup [.str "number", .int 1])) t8 = some (.tup [.str "number", .int 1]) := upd_same
    have s68 := sT s7 s8
    revert s68 e7 e8
    generalize (upd (upd H6 t7 (.tup [.str "number", .int 1])) t8 (.tup [.str "number", .int 1])) = H8
    intro e7 e8 s68
    clear s7 s8 h7 h8
    have g8 := g6.same s68
    have x68 : Ext p H6 H8 := fun b o e _ => s68 b o e
    refine ⟨_, rfl, _, rfl, _, rfl, 9, by decide, p, l, sl, sayL, wT, ((1 + cn : Nat) : Int), (by rw [← e1n]; rfl), by decide, pT g8 x68, fun v9 H9 k9 g9 x9 w9 tt9 l9 => ⟨(by show 3 ≤ sizeLine; decide), fun m hm => ?_⟩⟩
    have s10 := sN (o := .lst [.ref t7, .ref t8, v9]) hm
    have nmp := (g9.ne hm).1
    have g10 := g9.new (o := .lst [.ref t7, .ref t8, v9]) hm
    refine ⟨_, rfl, p, l, 3, rfl, g10, by decide, by decide, fun d11 H11 f0 f1 g11 b11 => ?_⟩
    have x10 : Ext p H9 H11 := (Ext.rfl'.upd hm).but b11
    obtain ⟨tv, htv, ev⟩ := pick_in (xs := [.ref t7, .ref t8, v9]) f0 (by show d11 < 3; exact f1)
    have x811 := x9.trans x10
    have gr8 : Grow H8 H11 := (Grow.of_ext g8 g9 x9).trans (Grow.of_ext g9 g11 x10)
    have tok : Wh H11 tv ∧ Right H11 wT ((1 + cn : Nat) : Int) tv := by
      have num : ∀ t, H8 t = some (.tup [.str "number", .int 1]) → Wh H11 (.ref t) ∧ Right H11 wT ((1 + cn : Nat) : Int) (.ref t) := fun t e =>
        ⟨Wh.grow (.tup e (by show 2 ≤ 200; decide) (wh_cons (.str (by decide +kernel)) (wh_cons (.int 1) wh_nil))) gr8, Right.grow ⟨1, ts_mk (by decide) ((node_iff e []).mpr (.inl ⟨rfl, rfl, 1, rfl, by decide, by decide⟩)) .nil rfl, by decide⟩ gr8⟩
      simp only [List.mem_cons, List.not_mem_nil, or_false] at htv
      rcases htv with rfl | rfl | rfl
      · exact num _ e7
      · exact num _ e8
      · exact ⟨w9.grow (Grow.of_ext g9 g11 x10), ⟨k9, (tt9.grow (Grow.of_ext g9 g11 x10)).mono (by decide), by omega⟩⟩
    refine ⟨m, _, d11, tv, rfl, rfl, SqL.of (by rw [b11 m nmp]; exact upd_same), ev, ?_⟩
    have x611 : Ext p H6 H11 := x68.trans x811
    clear ev htv b11 gr8 x811 x10 s10 hm nmp g10 f0 f1 w9 tt9 x9 g9 x68 s68 e7 e8 g8
    -- say
    refine ⟨_, rfl, _, rfl, _, rfl, 9, by decide, p, l, sl, sayL, wT, ((1 + cn : Nat) : Int), (by rw [← e1n]; rfl), by decide, pT g11 x611, fun y H12 k12 g12 x12 w12 tt12 l12 => ?_⟩
    have gr12 := Grow.of_ext g11 g12 x12
    have x612 := x611.trans x12
    have ea12 := x612 _ _ ea6 nap
    refine ⟨_, rfl, (by show 6 ≤ sizeLine; decide), fun l13 h13 => ?_⟩
    have s13 := sN (o := .lst [.str "round", .str "heard", .str "sum", .str "least", .str "most", .str "sum"]) h13
    refine ⟨al, l13, _, _, rfl, rfl, s13 _ _ ea12, upd_same, (by show 3 + 6 ≤ sizeLine; decide), fun hl14 hh14 => ?_⟩
    have s14 := sN (o := .lst (wS.map V.str ++ [.str "round", .str "heard", .str "sum", .str "least", .str "most", .str "sum"])) hh14
    have eh : (upd (upd H12 l13 (.lst [.str "round", .str "heard", .str "sum", .str "least", .str "most", .str "sum"])) hl14 (.lst (wS.map V.str ++ [.str "round", .str "heard", .str "sum", .str "least", .str "most", .str "sum"]))) hl14 = some (.lst (hearL.map V.str)) := upd_same
    have s1214 := sT s13 s14
    have nhp := ((g12.same s13).ne hh14).1
    revert s1214 eh
    generalize (upd (upd H12 l13 (.lst [.str "round", .str "heard", .str "sum", .str "least", .str "most", .str "sum"])) hl14 (.lst (wS.map V.str ++ [.str "round", .str "heard", .str "sum", .str "least", .str "most", .str "sum"]))) = H14
    intro eh s1214
    have g14 := g12.same s1214
    have pN : ∀ {H' : Hp}, HandAt H' p l → Ext p H14 H' → PreX H' p l hl14 hearL wN ((1 + cn : Nat) : Int) := fun g x => ⟨g, x _ _ eh nhp, nhp, alN, by decide, by decide, by decide +kernel, by omega, by omega⟩
    clear s13 s14 hh14 h13 ea12
    refine ⟨_, rfl, _, rfl, _, rfl, _, rfl, 1 + (cn : Int), rfl, by omega, by omega, fun D0 hD => lc_range (lo := 0) (n := (1 + (cn : Int)).toNat) (fun i H' => ∃ us : List V, H' D0 = some (.lst us) ∧ us.length = i ∧ (∀ x ∈ us, Wh H' x ∧ Right H' wN ((1 + cn : Nat) : Int) x) ∧ HandAt H' p l ∧ Ext p H14 H') ?_ ?_ ?_⟩
    · exact ⟨[], upd_same, rfl, fun x hx => absurd hx List.not_mem_nil, g14.new hD, Ext.rfl'.upd hD⟩
    · rintro i H15 hi ⟨us, eD, hl, hv, g15, x15⟩
      have nDp : D0 ≠ p := by
        obtain ⟨xs, e⟩ := g14.hp
        exact (ne_of_none e hD).symm
      refine ⟨rfl, _, rfl, _, rfl, _, rfl, 9, by decide, p, l, hl14, hearL, wN, ((1 + cn : Nat) : Int), (by rw [← e1n]; rfl), by decide, pN g15 x15, fun v H3' z g3' x3' wv tv' lz => ?_⟩
      have eD3 := x3' _ _ eD nDp
      have gr := Grow.of_ext g15 g3' x3'
      have gu : Grow H3' (L2.upd H3' D0 (.lst (us ++ [v]))) := Grow.upd eD3
      refine ⟨us, eD3, by rw [hl]; exact Nat.lt_of_lt_of_le (show i < 64 by omega) (by decide), us ++ [v], upd_same, by rw [List.length_append, hl]; rfl, fun x hx => ?_, ?_, ?_⟩
      · rcases List.mem_append.mp hx with hx | hx
        · exact ⟨((hv x hx).1.grow gr).grow gu, ((hv x hx).2.grow gr).grow gu⟩
        · have ex : x = v := by simpa using hx
          subst ex
          exact ⟨wv.grow gu, Right.grow ⟨z, tv'.mono (by decide), by omega⟩ gu⟩
      · have nDl : D0 ≠ l := by
          obtain ⟨ns, e, _⟩ := g14.hl
          exact (ne_of_none e hD).symm
        exact g3'.stay nDp nDl
      · intro b o e nb
        rw [upd_ne (ne_of_none e hD)]
        exact (x15.trans x3') b o e nb
    rintro H15 ⟨us, eD, hl, hv, g15, x15⟩
    have lu : us.length = 1 + cn := by omega
    refine ⟨D0, us, rfl, .inl ⟨SqL.of eD, fun qn hqn => ⟨(by show 4 ≤ sizeLine; decide), fun pt hpt => ?_⟩⟩⟩
    have s16 := sN (o := .tup us) hqn
    have s17 := sN (o := .tup [.ref q, tv, y, .ref qn]) hpt
    have s1517 := sT s16 s17
    have x1417 : Ext p H14 _ := x15.same s1517
    have x617 : Ext p H6 _ := x612.trans ((show Ext p H12 H14 from fun b o e _ => s1214 b o e).trans x1417)
    have x417 : Ext p H4 _ := (show Ext p H4 H6 from fun b o e _ => s46 b o e).trans x617
    have g17 := g15.same s1517
    have gr417 := Grow.of_ext g4 g17 x417
    have gr1117 := gr12.trans ((Grow.of_same s1214).trans (Grow.of_ext g14 g17 x1417))
    have gr1217 := (Grow.of_same s1214).trans (Grow.of_ext g14 g17 x1417)
    have eq17 := gr417.tup eq4
    have eqn17 : (upd (upd H15 qn (.tup us)) pt (.tup [.ref q, tv, y, .ref qn])) qn = some (.tup us) := s17 _ _ upd_same
    have hv17 : ∀ x ∈ us, Wh (upd (upd H15 qn (.tup us)) pt (.tup [.ref q, tv, y, .ref qn])) x ∧ Right (upd (upd H15 qn (.tup us)) pt (.tup [.ref q, tv, y, .ref qn])) wN ((1 + cn : Nat) : Int) x := fun x hx => ⟨(hv x hx).1.same s1517, (hv x hx).2.grow (Grow.of_same s1517)⟩
    refine k pt q tv y qn _ g17 (x4.trans x417) upd_same ?_ ?_
    · refine ⟨q, vs, qn, us, ⟨rfl, eq17, by omega, by omega, fun x hx => (hv4 x hx).2.grow gr417⟩, ?_, ?_, rfl, eqn17, by omega, fun x hx => ?_⟩
      · rw [lv]
        exact tok.2.grow gr1117
      · rw [lv]
        exact Right.grow ⟨k12, tt12.mono (by decide), by omega⟩ gr1217
      · rw [lv]
        exact (hv17 x hx).2
    · exact ⟨.tup eq17 (by omega) fun x hx => (hv4 x hx).1.grow gr417, tok.1.grow gr1117, w12.grow gr1217, .tup eqn17 (by omega) fun x hx => (hv17 x hx).1⟩
end
end Q

namespace Q
open PySem L2
theorem part_look (y : V) : List.lookup ("part" : Str) ([(("part" : Str), y)] : List (Str × V)) = some y := by
  show (match (("part" : Str) == ("part" : Str)) with | true => some y | false => List.lookup ("part" : Str) []) = some y
  rw [show (("part" : Str) == ("part" : Str)) = true by decide]
section
variable {X : Cx}
end

abbrev sEq : Stmt := inClass (top 72) 1
/-- data that can be compared -/
def Dat (K : PySem.W.Frag) (H : Hp) (n : Nat) (v : V) (d : PyData) : Prop := Dp K H v d ∧ d.canLay0 = true ∧ d.depth ≤ n ∧ PyData.eqv d d = true
def DatL (K : PySem.W.Frag) (H : Hp) (n : Nat) (vs : List V) (ds : List PyData) : Prop := DpAll K H vs ds ∧ PyData.canLayAll0 ds = true ∧ PyData.depthAll ds ≤ n ∧ PyData.eqvAll ds ds = true
theorem DatL.nil {K : PySem.W.Frag} {H : Hp} {n : Nat} : DatL K H n [] [] := ⟨.nil, by simp [PyData.canLayAll0], by simp [PyData.depthAll], by simp [PyData.eqvAll]⟩
theorem DatL.cons {K : PySem.W.Frag} {H : Hp} {n : Nat} {v : V} {vs : List V} {d : PyData} {ds : List PyData} (h : Dat K H n v d) (k : DatL K H n vs ds) : DatL K H n (v :: vs) (d :: ds) :=
  ⟨.cons h.1 k.1, by simp only [PyData.canLayAll0, h.2.1, k.2.1, Bool.and_self], by simp only [PyData.depthAll]; exact Nat.max_le.mpr ⟨h.2.2.1, k.2.2.1⟩, by simp only [PyData.eqvAll, h.2.2.2, k.2.2.2, Bool.and_self]⟩
theorem Dat.tup {K : PySem.W.Frag} {H : Hp} {n : Nat} {a : Addr} {vs : List V} {ds : List PyData} (e : H a = some (.tup vs)) (h : DatL K H n vs ds) : Dat K H (n + 1) (.ref a) (.tuple ds) :=
  ⟨.tup (SqT.of e) h.1, by simp only [PyData.canLay0, h.2.1], by simp only [PyData.depth]; have := h.2.2.1; omega, by simp only [PyData.eqv, h.2.2.2]⟩
theorem Dat.str {K : PySem.W.Frag} {H : Hp} {n : Nat} (z : Str) (ok : PyData.strOk z = true) : Dat K H n (.str z) (.str z) := ⟨.str z, by simp only [PyData.canLay0, ok], by simp [PyData.depth], by simp [PyData.eqv]⟩
theorem Dat.int {K : PySem.W.Frag} {H : Hp} {n : Nat} (z : Int) : Dat K H n (.int z) (.int z) := ⟨.int z, by simp [PyData.canLay0], by simp [PyData.depth], by simp [PyData.eqv]⟩
theorem datL_of {K : PySem.W.Frag} {H : Hp} {n : Nat} : ∀ {xs : List V}, (∀ x ∈ xs, ∃ d, Dat K H n x d) → ∃ ds, DatL K H n xs ds
  | [], _ => ⟨[], .nil⟩
  | x :: r, h => by
    obtain ⟨d, hd⟩ := h x List.mem_cons_self
    obtain ⟨ds, hds⟩ := datL_of (xs := r) fun y hy => h y (List.mem_cons_of_mem _ hy)
    exact ⟨d :: ds, .cons hd hds⟩
theorem ok_ops : ∀ s ∈ opsL, PyData.strOk s = true := by decide +kernel
theorem ok_wS : ∀ s ∈ wS, PyData.strOk s = true := by decide +kernel
theorem ok_wT : ∀ s ∈ wT, PyData.strOk s = true := by decide +kernel
theorem ok_wN : ∀ s ∈ wN, PyData.strOk s = true := by decide +kernel
theorem ts_dat {K : PySem.W.Frag} {H : Hp} {W : List Str} {c : Int} (hW : ∀ s ∈ W, PyData.strOk s = true) : ∀ {n : Nat} {v : V} {k : Nat}, TS H W c n v k → ∃ d, Dat K H n v d
  | 0, _, _, h => h.elim
  | n + 1, v, k, h => by
    obtain ⟨ks, ⟨a, s, r, rfl, e, h⟩, szs, p, _⟩ := h
    have kids : ∀ x ∈ ks, ∃ d, Dat K H n x d := fun x hx => by
      obtain ⟨k', hk⟩ := paired_left p x hx
      exact ts_dat hW hk
    have items : ∀ x ∈ r, ∃ d, Dat K H n x d := by
      rcases h with ⟨_, _, i, rfl, _⟩ | ⟨_, _, i, rfl, _⟩ | ⟨_, rfl, _⟩ | ⟨_, _, rfl⟩ | ⟨_, _, rfl⟩
      · exact fun x hx => by
          have e := List.mem_singleton.mp hx
          subst e
          exact ⟨_, .int i⟩
      · exact fun x hx => by
          have e := List.mem_singleton.mp hx
          subst e
          exact ⟨_, .int i⟩
      · exact fun x hx => absurd hx List.not_mem_nil
      · exact kids
      · exact kids
    have sok : PyData.strOk s = true := by
      rcases h with ⟨rfl, _⟩ | ⟨rfl, _⟩ | ⟨hw, _⟩ | ⟨rfl, _⟩ | ⟨ho, _⟩
      · decide +kernel
      · decide +kernel
      · exact hW s hw
      · decide +kernel
      · exact ok_ops s ho
    obtain ⟨ds, hds⟩ := datL_of items
    exact ⟨_, .tup e (.cons (.str s sok) hds)⟩
theorem Dat.mono {K : PySem.W.Frag} {H : Hp} {n m : Nat} {v : V} {d : PyData} (h : Dat K H n v d) (l : n ≤ m) : Dat K H m v d := ⟨h.1, h.2.1, Nat.le_trans h.2.2.1 l, h.2.2.2⟩
theorem Dat.shaped {K : PySem.W.Frag} {H : Hp} {n : Nat} {v : V} {d : PyData} (h : Dat K H n v d) (l : n ≤ 60) : SeqAt.shaped d = true := by
  unfold SeqAt.shaped
  rw [Bool.and_eq_true]
  exact ⟨h.2.1, decide_eq_true (Nat.le_trans h.2.2.1 (by omega))⟩
theorem right_dat {K : PySem.W.Frag} {H : Hp} {W : List Str} {c : Int} {v : V} (hW : ∀ s ∈ W, PyData.strOk s = true) (h : Right H W c v) : ∃ d, Dat K H 13 v d := by
  obtain ⟨k, h, _⟩ := h
  obtain ⟨d, hd⟩ := ts_dat (K := K) hW h
  exact ⟨d, hd.mono (by omega)⟩
theorem fine_dat {K : PySem.W.Frag} {H : Hp} {s t y n : V} (h : FineP H s t y n) : ∃ d1 d2 d3 d4, Dat K H 14 s d1 ∧ Dat K H 14 t d2 ∧ Dat K H 14 y d3 ∧ Dat K H 14 n d4 := by
  obtain ⟨q, xs, q', ns, st, rt, ry, rfl, hn, ln, rn⟩ := h.ex
  obtain ⟨ds, hds⟩ := datL_of (K := K) (n := 13) fun x hx => right_dat ok_wS (st.rs x hx)
  obtain ⟨es, hes⟩ := datL_of (K := K) (n := 13) fun x hx => right_dat ok_wN (rn x hx)
  obtain ⟨d2, h2⟩ := right_dat (K := K) ok_wT rt
  obtain ⟨d3, h3⟩ := right_dat (K := K) ok_wT ry
  have e := st.es
  subst e
  exact ⟨_, d2, d3, _, .tup st.hq hds, h2.mono (by omega), h3.mono (by omega), .tup hn hes⟩
def spEqP (K : PySem.W.Frag) (C : Addr) : Sp := fun vs H Q _ => ∃ (w dx : Addr) (s t y n z : V), vs = [.ref w, z] ∧ H w = some (.ins C dx (pf s t y n)) ∧
  ((∃ (w2 dx2 : Addr) (s2 t2 y2 n2 : V) (d1 d2 d3 d4 e1 e2 e3 e4 : PyData), z = .ref w2 ∧ H w2 = some (.ins C dx2 (pf s2 t2 y2 n2)) ∧ Dat K H 14 s d1 ∧ Dat K H 14 t d2 ∧ Dat K H 14 y d3 ∧ Dat K H 14 n d4 ∧ Dat K H 14 s2 e1 ∧ Dat K H 14 t2 e2 ∧ Dat K H 14 y2 e3 ∧ Dat K H 14 n2 e4 ∧
      Q (.bl (PyData.eqv d1 e1 && (PyData.eqv d2 e2 && (PyData.eqv d3 e3 && PyData.eqv d4 e4)))) H) ∨ (∃ tt ys, z = .ref tt ∧ H tt = some (.tup ys) ∧ Q (.bl false) H))
structure EqT (K : PySem.W.Frag) (C f : Addr) (fd : FuncData) : Prop where
  find : PySem.W.findIn K (.ref C) "__eq__" = some (some (.ref f))
  fn : PySem.W.isFn K (.ref f) = true
  F : Fun K "__eq__" "Program.__eq__" sEq f fd
  b : Binds K fd ["self", "other"] []
  ha : PySem.W.findIn K (.ref C) "__class__" = some (some (.builtin "object.__class__"))
  hn : PySem.W.specialIn K (.builtin "object.__class__") "__get__" = some (some (.builtin "getset_descriptor.__get__"))
  htk : PySem.W.takesIn K (.builtin "object.__class__") = some true
  hm : PySem.W.mroIn K C (.type "object") = some true
  isC : PySem.W.isClsIn K C = true
  tyC : PySem.W.typeIn K (.ref C) = some (.type "type")
  nT : PySem.W.subIn K (.type "tuple") (.ref C) = some false
  nf : PySem.W.notFirst K C (.type "tuple") = true
section
variable {P : Program} {w : World} {K : PySem.W.Frag} {mg : Str → Option Value} {base : Heap}
theorem EqT.tup {C f : Addr} {fd : FuncData} (T : EqT K C f fd) : PySem.W.kitOne K (.type "tuple") (.ref C) = some false := by
  have z : (PySem.W.clsIn K C).isSome = true := T.isC
  show (if (Value.type "tuple" == Value.ref C) = true then some true else if ((PySem.W.clsIn K C).isSome && PySem.W.typeIn K (.ref C) == some (.type "type")) = true then PySem.W.subIn K (.type "tuple") (.ref C) else none) = some false
  rw [if_neg (by simp), z, T.tyC, T.nT]
  rfl
theorem EqT.me {C f : Addr} {fd : FuncData} (T : EqT K C f fd) : PySem.W.kitOne K (.ref C) (.ref C) = some true := by
  show (if (Value.ref C == Value.ref C) = true then some true else _) = some true
  rw [if_pos (by simp)]
theorem scEq : FnScope ["self", "other"] ["self", "other"] (defScope sEq) := ⟨rfl, rfl, rfl, by decide +kernel, rfl, by decide +kernel, by decide +kernel⟩
theorem ok_eqp {C f : Addr} {fd : FuncData} (B : Bts mg) (T : PTxt K mg C) (E1 : EqT K C f fd) : FnOk P w K mg base CX0 1 f fd ["self", "other"] (spEqP K C) := by
  refine E1.F.ok scEq (fun vs H Q E h => ?_) (fun cdv A outer s0 H vs Q E hr h => ?_)
  · obtain ⟨_, _, _, _, _, _, _, rfl, _⟩ := h
    rfl
  · obtain ⟨w, dx, s, t, y, n, z, rfl, ew, h⟩ := h
    have hu := hr.units
    refine ⟨_, pss_one (ps_ret (pe_and (pe_callB call_isi (by rfl) B.isinstance PyProof.Rows.boot_isinstance (pa_cons (pv 1) (pa_cons (pe_glob (v := .ref C) rfl T.mgC rfl) pa_nil)))
      (pe_and (pe_cmpR (op_eqD hu) (pe_fld (pv 0) rfl) (pe_fld (pv 1) rfl) (nomark _)) (pe_and (pe_cmpR (op_eqD hu) (pe_fld (pv 0) rfl) (pe_fld (pv 1) rfl) (nomark _)) (pe_and (pe_cmpR (op_eqD hu) (pe_fld (pv 0) rfl) (pe_fld (pv 1) rfl) (nomark _)) (pe_one (pe_cmpR (op_eqD hu) (pe_fld (pv 0) rfl) (pe_fld (pv 1) rfl) (nomark _)))))))), ?_⟩
    rcases h with ⟨w2, dx2, s2, t2, y2, n2, d1, d2, d3, d4, e1, e2, e3, e4, rfl, ew2, a1, a2, a3, a4, b1, b2, b3, b4, k⟩ | ⟨tt, ys, rfl, et, k⟩
    · refine ⟨_, rfl, .ref w2, .ref C, .ref C, .ref C, true, rfl, .own C, .base (.ins ew2 T.cl E1.ha E1.hn E1.htk E1.hm), E1.me, _, rfl, iteT ?_⟩
      refine ⟨_, rfl, w, C, dx, _, _, rfl, ew, T.cl, T.nS, pf_starts _ _ _ _, _, rfl, w2, C, dx2, _, _, rfl, ew2, T.cl, T.nS, pf_starts _ _ _ _, d1, e1, a1.1, b1.1, a1.shaped (by decide), b1.shaped (by decide), _, rfl, ?_⟩
      cases c1 : PyData.eqv d1 e1 with
      | false => rw [c1] at k; exact iteF k
      | true =>
      refine iteT ⟨_, rfl, w, C, dx, _, _, rfl, ew, T.cl, T.nT, pf_to _ _ _ _, _, rfl, w2, C, dx2, _, _, rfl, ew2, T.cl, T.nT, pf_to _ _ _ _, d2, e2, a2.1, b2.1, a2.shaped (by decide), b2.shaped (by decide), _, rfl, ?_⟩
      cases c2 : PyData.eqv d2 e2 with
      | false => rw [c1, c2] at k; exact iteF k
      | true =>
      refine iteT ⟨_, rfl, w, C, dx, _, _, rfl, ew, T.cl, T.nY, pf_say _ _ _ _, _, rfl, w2, C, dx2, _, _, rfl, ew2, T.cl, T.nY, pf_say _ _ _ _, d3, e3, a3.1, b3.1, a3.shaped (by decide), b3.shaped (by decide), _, rfl, ?_⟩
      cases c3 : PyData.eqv d3 e3 with
      | false => rw [c1, c2, c3] at k; exact iteF k
      | true =>
      rw [c1, c2, c3] at k
      exact iteT ⟨_, rfl, w, C, dx, _, _, rfl, ew, T.cl, T.nN, pf_nexts _ _ _ _, _, rfl, w2, C, dx2, _, _, rfl, ew2, T.cl, T.nN, pf_nexts _ _ _ _, d4, e4, a4.1, b4.1, a4.shaped (by decide), b4.shaped (by decide), k⟩
    · exact ⟨_, rfl, .ref tt, .ref C, .type "tuple", .ref C, false, rfl, .own C, .base (.tup et), E1.tup, _, rfl, iteF k⟩
end
end Q

/-! what is refused: gamma, leader_of, Course -/
namespace Q
open PySem L2 QM
abbrev sMost : Stmt := inClass (top 7) 0
abbrev sCrs : Stmt := inClass (top 48) 0
abbrev sEqC : Stmt := inClass (top 48) 1
abbrev sLdOf : Stmt := top 62
/-- what never raises may be called where something is caught -/
theorem fn_up {P : Program} {w : World} {K : PySem.W.Frag} {mg : Str → Option Value} {base : Heap} {k : Nat} {f : Addr} {fd : FuncData} {ps : List Str} {sp : Sp} {CX : CXT} (F : FnOk P w K mg base CX0 k f fd ps sp) : FnOk P w K mg base CX k f fd ps sp :=
  ⟨F.len, fun A outer s H args us vs Q E hr he hb hv hs => codeAny_mono (F.run A outer s H args us vs Q E hr he hb hv hs) fun r s' h => by
    match r, h with
    | .ok (.ret u), h => exact h
    | .error e, h => exact h.elim⟩
/-- one promise or the other -/
theorem fn_or {P : Program} {w : World} {K : PySem.W.Frag} {mg : Str → Option Value} {base : Heap} {k : Nat} {f : Addr} {fd : FuncData} {ps : List Str} {sp sp' : Sp} {CX : CXT} (F : FnOk P w K mg base CX k f fd ps sp) (G : FnOk P w K mg base CX k f fd ps sp') :
    FnOk P w K mg base CX k f fd ps (fun vs H Q E => sp vs H Q E ∨ sp' vs H Q E) :=
  ⟨fun vs H Q E h => h.elim (F.len vs H Q E) (G.len vs H Q E), fun A outer s H args us vs Q E hr he hb hv hs => hs.elim (F.run A outer s H args us vs Q E hr he hb hv) (G.run A outer s H args us vs Q E hr he hb hv)⟩
def xdM (y : V) : HO := .xd [("most", y)]
def spMost (CB : Addr) : Sp := fun vs H Q _ => ∃ (a : Addr) (y : V), vs = [.ref a, y] ∧ H a = some (exo a CB none) ∧ ∀ d, H d = none → d ≠ a → Q .non (upd (upd H d (exd d [("most", y)])) a (exo a CB (some d)))
/-- what the top says of TooMany -/
structure MTxt (K : PySem.W.Frag) (mg : Str → Option Value) (CB fI : Addr) (fd : FuncData) : Prop where
  ox : OexC K CB
  iC : PySem.W.findIn K (.ref CB) "__init__" = some (some (.ref fI))
  tI : PySem.W.typeIn K (.ref fI) = some (.type "function")
  F : Fun K "__init__" "TooMany.__init__" sMost fI fd
  b : Binds K fd ["self", "most"] []
  no : PySem.W.findIn K (.ref CB) "most" = some none
  g : mg "TooMany" = some (.ref CB)
  xf : XfC K CB
/-- what the top says of Course -/
structure CTxt (K : PySem.W.Frag) (mg : Str → Option Value) (C : Addr) : Prop where
  cl : Cls K C
  nP : NoAttr K C "program"
  nK : NoAttr K C "keeper"
  nG : NoAttr K C "goal"
  nL : NoAttr K C "_lock"
  mgC : mg "Course" = some (.ref C)
def cf (x kp g lk : V) : List (Str × V) := putF "_lock" lk (putF "goal" g (putF "keeper" kp (putF "program" x [])))
theorem cf_program (x kp g lk : V) : (cf x kp g lk).lookup ("program" : Str) = some x := by
  unfold cf
  rw [lookup_putF, if_neg (by decide +kernel), lookup_putF, if_neg (by decide +kernel), lookup_putF, if_neg (by decide +kernel), lookup_putF, if_pos rfl]
theorem cf_keeper (x kp g lk : V) : (cf x kp g lk).lookup ("keeper" : Str) = some kp := by
  unfold cf
  rw [lookup_putF, if_neg (by decide +kernel), lookup_putF, if_neg (by decide +kernel), lookup_putF, if_pos rfl]
theorem cf_goal (x kp g lk : V) : (cf x kp g lk).lookup ("goal" : Str) = some g := by
  unfold cf
  rw [lookup_putF, if_neg (by decide +kernel), lookup_putF, if_pos rfl]
/-- a keeper that stands, as it was made -/
structure KpAt (C CK : Addr) (M : Nat) (L : List (Addr × List Int)) (par : Nat → Option Nat) (T : List (Addr × List Int)) (H : Hp) (x w q pa t : Addr) : Prop where
  web : WebQ C M H w q L
  at_ : ∃ dx la ch ac, H x = some (.ins CK dx (kf (.ref w) (.ref pa) (.ref t) la ch ac)) ∧ LdAt H la M par
  hpa : H pa = some (.tup (pVs M par))
  ht : H t = some (.tup (T.map fun p => V.ref p.1))
  hts : ∀ p ∈ T, H p.1 = some (.tup (p.2.map V.int))
  m1 : 1 ≤ M
  m40 : M ≤ 40
theorem KpAt.same {C CK : Addr} {M : Nat} {L : List (Addr × List Int)} {par : Nat → Option Nat} {T : List (Addr × List Int)} {H H' : Hp} {x w q pa t : Addr} (h : KpAt C CK M L par T H x w q pa t) (s : Same H H') : KpAt C CK M L par T H' x w q pa t := by
  obtain ⟨dx, la, ch, ac, e, ld⟩ := h.at_
  exact ⟨h.web.same s, ⟨dx, la, ch, ac, s _ _ e, ld.same s⟩, s _ _ h.hpa, s _ _ h.ht, fun p hp => s _ _ (h.hts p hp), h.m1, h.m40⟩
theorem kf_leaders (w pa t la ch ac : V) : (kf w pa t la ch ac).lookup ("_leaders" : Str) = some la := by
  unfold kf
  rw [lookup_putF, if_neg (by decide +kernel), lookup_putF, if_neg (by decide +kernel), lookup_putF, if_pos rfl]
/-- a program that stands -/
structure PgAt (CP : Addr) (H : Hp) (x : Addr) (s t y n : V) : Prop where
  at_ : ∃ dx, H x = some (.ins CP dx (pf s t y n))
  fine : FineP H s t y n
  pre : PreP H s t y n
/-- the errors without fields -/
structure SupE (P : Program) (K : PySem.W.Frag) (mg : Str → Option Value) (C f : Addr) (x q : Str) : Prop where
  sup : QS.SupC P K mg C f q
  g : mg x = some (.ref C)
def spGammaN (C CN : Addr) : Sp := fun vs H Q E => ∃ (w q : Addr) (M : Nat) (L : List (Addr × List Int)) (v : V), vs = [.ref w, v] ∧ WebQ C M H w q L ∧ Kd H v ∧ (∀ i : Int, v = .int i → ¬ (2 ≤ i ∧ i ≤ 8)) ∧ ∀ H', Same H H' → E (.ref CN) none H'
def spLdX (C CK CH : Addr) : Sp := fun vs H Q E => ∃ (x w q pa t : Addr) (M : Nat) (L : List (Addr × List Int)) (par : Nat → Option Nat) (T : List (Addr × List Int)) (v : V), vs = [.ref x, v] ∧ KpAt C CK M L par T H x w q pa t ∧ Kd H v ∧
  ((∃ i : Int, v = .int i ∧ 0 ≤ i ∧ i < (M : Int)) → ∀ u H', Same H H' → Q u H') ∧ ((∀ i : Int, v = .int i → ¬ (0 ≤ i ∧ i < (M : Int))) → ∀ H', Same H H' → E (.ref CH) none H')
def spCrs (C CK CP CO CN CT : Addr) : Sp := fun vs H Q E => ∃ (a da x k w q pa tt : Addr) (M : Nat) (L : List (Addr × List Int)) (par : Nat → Option Nat) (T : List (Addr × List Int)) (s t y n v : V) (H0 : Hp), vs = [.ref a, .ref x, .ref k, v] ∧
  H0 a = none ∧ Same H0 H ∧ H a = some (.ins CO da []) ∧ KpAt C CK M L par T H0 k w q pa tt ∧ PgAt CP H0 x s t y n ∧ Kd H0 v ∧
  (8 < M → ∀ d H', H' d = some (xdM (.int 8)) → Same H H' → E (.ref CT) (some d) H') ∧
  (M ≤ 8 → (∀ i : Int, v = .int i → ¬ (0 ≤ i ∧ i ≤ 40)) → ∀ H', Same H H' → E (.ref CN) none H') ∧
  (M ≤ 8 → ∀ i : Int, v = .int i → 0 ≤ i → i ≤ 40 → ∀ lk H', H' a = some (.ins CO da (cf (.ref x) (.ref k) (.int i) lk)) → Same H0 H' → Q .non H')
section
variable {P : Program} {w : World} {K : PySem.W.Frag} {mg : Str → Option Value} {base : Heap}
theorem scMost : FnScope ["self", "most"] ["self", "most"] (defScope sMost) := ⟨rfl, rfl, rfl, by decide +kernel, rfl, by decide +kernel, by decide +kernel⟩
theorem ok_most {CB fI : Addr} {fd : FuncData} (T : MTxt K mg CB fI fd) : FnOk P w K mg base CX0 1 fI fd ["self", "most"] (spMost CB) := by
  refine T.F.ok scMost (fun vs H Q E h => ?_) (fun cdv A outer s H vs Q E hr h => ?_)
  · obtain ⟨a, y, rfl, _⟩ := h
    rfl
  · obtain ⟨a, y, rfl, e, k⟩ := h
    refine ⟨_, pss_one (ps_ost (pv 0) (pv 1)), ?_⟩
    exact ⟨_, rfl, _, rfl, a, CB, rfl, T.ox, T.no, .inl ⟨e, fun d n ne => k d n ne⟩⟩
/-- raise TooMany(y) -/
theorem many_raise {CB : Addr} {H H1 : Hp} {y : V} {E : XK} (s : Same H H1) (k : ∀ d H', H' d = some (xdM y) → Same H H' → E (.ref CB) (some d) H') :
    [y].length ≤ 1000 ∧ ∀ a, H1 a = none → spMost CB (.ref a :: ([y] ++ [])) (upd H1 a (exo a CB none)) (fun v H2 => v = .non ∧ ∃ (d : Addr) (fs : List (Str × V)), H2 a = some (exo a CB (some d)) ∧ H2 d = some (exd d fs) ∧ H1 d = none ∧ E (.ref CB) (some d) (upd (del H2 a) d (.xd fs))) (fun _ _ _ => False) := by
  refine ⟨(by show 1 ≤ 1000; decide), fun a ha => ⟨a, y, rfl, upd_same, fun d hd hda => ⟨rfl, d, _, upd_same, ?_, ?_, k d _ upd_same fun b o e => ?_⟩⟩⟩
  · rw [upd_ne hda, upd_same]
  · rw [upd_ne hda] at hd
    exact hd
  · have hb := s _ _ e
    have nba : b ≠ a := ne_of_none hb ha
    rw [upd_ne hda] at hd
    have nbd : b ≠ d := ne_of_none hb hd
    rw [upd_ne nbd, del_ne nba, upd_ne nba, upd_ne nbd, upd_ne nba]
    exact hb
theorem ok_gammaN {f C CN fN : Addr} {fd : FuncData} (F : Fun K "gamma" "gamma" sGamma f fd) (B : Bts mg) (D : WDefs K mg) (X : SupE P K mg CN fN "NoNumber" "NoNumber.__init__") : FnOk P w K mg base (L2.CX P w) 3 f fd ["web", "k"] (spGammaN C CN) := by
  have GPl : FnOk P w K mg base CX0 1 D.fP D.dP ["thing"] (spPlain K) := ok_plain (x := "") (st := sPlain) D.DP.F B
  refine F.okX scGamma (fun vs H Q E h => ?_) (fun cdv A outer s H vs Q E hr h => ?_)
  · obtain ⟨w, q, M, L, v, rfl, _⟩ := h
    rfl
  · obtain ⟨w, q, M, L, v, rfl, hw, kd, no, k⟩ := h
    have hr1 : Room 1 _ := hr.mono (by decide)
    refine ⟨_, pss_cons (ps_if (PW.pt (pw_or (pt_not (pt_val (pe_call GPl hr1 rfl D.DP.m D.DP.k D.DP.b .nil pass0 (pa_cons (pv 1) pa_nil)))) (pw_or1 (pt_not (pt_chain op_le op_le pe_int (pv 1) pe_int)))))
      (pss_one (ps_raise rfl (takes_of rfl rfl rfl rfl) (QS.pmk_sup X.sup hr rfl X.g))) pss_nil) pss_never, ?_⟩
    rcases kd.cl (K := K) with ⟨i, rfl⟩ | ⟨t, b, c, ty, kb, kc, e⟩
    · refine ⟨_, rfl, .int i, .type "int", true, false, rfl, .base (.int _), kInt_int, kBool_int, _, rfl, iteF ?_⟩
      refine ⟨_, rfl, _, _, rfl, rfl, _, rfl, ?_⟩
      by_cases c : (2 : Int) ≤ i
      · rw [decide_eq_true c]
        refine iteT ⟨_, _, rfl, rfl, _, rfl, ?_⟩
        rw [decide_eq_false (fun z : i ≤ 8 => no i rfl ⟨c, z⟩)]
        exact iteT (k H (fun _ _ e => e))
      · rw [decide_eq_false c]
        exact iteF ⟨_, rfl, iteT (k H (fun _ _ e => e))⟩
    · refine ⟨_, rfl, v, t, b, c, rfl, ty, kb, kc, _, rfl, ?_⟩
      rw [e]
      exact iteT (k H (fun _ _ e => e))
theorem scLdOf : FnScope ["keeper", "house"] ["keeper", "house"] (defScope sLdOf) := ⟨rfl, rfl, rfl, by decide +kernel, rfl, by decide +kernel, by decide +kernel⟩
theorem ok_ldX {f C CK CH fH : Addr} {fd : FuncData} (F : Fun K "leader_of" "leader_of" sLdOf f fd) (B : Bts mg) (T : WTxt K mg C) (TK : KTxt K mg CK) (D : WDefs K mg) (X : SupE P K mg CH fH "NoHouse" "NoHouse.__init__") : FnOk P w K mg base (L2.CX P w) 3 f fd ["keeper", "house"] (spLdX C CK CH) := by
  have GN : FnOk P w K mg base CX0 2 D.fN D.dN ["limit", "thing"] (spNum K) := ok_num D.DN.F B D.DP
  refine F.okX scLdOf (fun vs H Q E h => ?_) (fun cdv A outer s H vs Q E hr h => ?_)
  · obtain ⟨x, w, q, pa, t, M, L, par, Tl, v, rfl, _⟩ := h
    rfl
  · obtain ⟨x, w, q, pa, t, M, L, par, Tl, v, rfl, kp, kd, k, kN⟩ := h
    refine ⟨_, pss_cons (ps_if (pt_not (pt_val (pe_call GN hr rfl D.DN.m D.DN.k D.DN.b .nil pass0 (pa_cons (pe_fld (pe_fld (pv 0) rfl) rfl) (pa_cons (pv 1) pa_nil))))) (pss_one (ps_raise rfl (takes_of rfl rfl rfl rfl) (QS.pmk_sup X.sup hr rfl X.g))) pss_nil)
      (pss_one (ps_ret (pe_ix ix_tup (pe_fld (pv 0) rfl) (pv 1) (fun _ _ => rfl)))), ?_⟩
    obtain ⟨dx, la, ch, ac, ex, a, rfl, ela⟩ := kp.at_
    obtain ⟨dw, r, bs, nb, wi, tt⟩ := kp.web
    refine ⟨_, rfl, x, CK, dx, _, _, rfl, ex, TK.cl, TK.nW, kf_web _ _ _ _ _ _, w, C, dw, _, _, rfl, wi.at_, T.cl, T.nM, wf_many _ _ _, _, rfl, (M : Int), _, rfl, ?_⟩
    rcases kd.cl (K := K) with ⟨i, rfl⟩ | no
    · refine .inl ⟨i, rfl, ?_⟩
      by_cases c : 0 ≤ i ∧ i < (M : Int)
      · rw [decide_eq_true c.1, decide_eq_true c.2]
        obtain ⟨v, rfl⟩ : ∃ v : Nat, i = (v : Int) := ⟨i.toNat, by omega⟩
        refine ⟨_, rfl, iteF ?_⟩
        exact ⟨_, rfl, x, CK, dx, _, _, rfl, ex, TK.cl, TK.nL, kf_leaders _ _ _ _ _ _, _, rfl, a, _, (v : Int), _, rfl, rfl, SqT.of ela, flN_ix _ (by omega), k ⟨_, rfl, c⟩ _ H (fun _ _ e => e)⟩
      · have e : (decide (0 ≤ i) && decide (i < (M : Int))) = false := by
          by_cases c1 : 0 ≤ i
          · rw [decide_eq_true c1, decide_eq_false (fun z => c ⟨c1, z⟩)]
            rfl
          · rw [decide_eq_false c1]
            rfl
        rw [e]
        exact ⟨_, rfl, iteT (kN (fun j ej => by cases ej; exact c) H (fun _ _ e => e))⟩
    · exact .inr ⟨no, _, rfl, iteT (kN (fun j ej => by subst ej; exact (no.int).elim) H (fun _ _ e => e))⟩
/-- what lockstep wants of a keeper's web and a program -/
theorem preR_of {C CP : Addr} {M k : Nat} {H : Hp} {wd q x : Addr} {L : List (Addr × List Int)} {s t y n : V} (hw : WebQ C M H wd q L) (pg : PgAt CP H x s t y n) (m1 : 1 ≤ M) (m40 : M ≤ 40) (hk : k ≤ 40) : ∃ R S, PreR C CP H [.ref wd, .ref x, .int (k : Int)] M k R S := by
  obtain ⟨dx, r0, bs0, nb, wi, tt⟩ := hw
  obtain ⟨dxp, ex⟩ := pg.at_
  have TT : TL (M : Int) L := ⟨tt.ok, tt.conn, by omega, by omega⟩
  have eM : ((M : Int)).toNat = M := Int.toNat_natCast M
  have hinn : ∀ h, h < M → ∀ o ∈ nb h, 0 ≤ o ∧ o < (M : Int) := fun h hh o ho => TT.in2 ((wi.nb h (by rw [eM]; exact hh) o).mp ho)
  have NB : NbOk M nb := ⟨m1, m40, fun h hh => wi.asc h (by rw [eM]; exact hh), fun h hh => Nat.le_trans (asc_len (wi.asc h (by rw [eM]; exact hh)) (hinn h hh)) (by omega), hinn⟩
  obtain ⟨qs, xs, qn, us, rfl, hqs, lx, rfl, hqn, lu, trees⟩ := trees_of pg.fine
  obtain ⟨R, S, ru, _⟩ := runs_ex NB trees k (by omega)
  exact ⟨R, S, wd, x, nb, t, y, qs, qn, xs, us, rfl, ⟨NB, fun h hh => ⟨⟨dx, q, r0, L, bs0, wi⟩, ⟨dxp, ex⟩, by rw [eM]; exact hh, by omega, NB.len h hh, NB.inn h hh⟩⟩, hqs, lx, hqn, lu, ru, hk⟩
theorem PgAt.same {CP : Addr} {H H' : Hp} {x : Addr} {s t y n : V} (pg : PgAt CP H x s t y n) (z : Same H H') : PgAt CP H' x s t y n := by
  obtain ⟨dx, e⟩ := pg.at_
  exact ⟨⟨dx, z _ _ e⟩, pg.fine.same pg.pre z, ⟨pg.pre.s.same z, pg.pre.t.same z, pg.pre.y.same z, pg.pre.n.same z⟩⟩
end
end Q

/-! Course, made or refused -/
namespace Q
open PySem L2 QM
section
variable {P : Program} {w : World} {K : PySem.W.Frag} {mg : Str → Option Value} {base : Heap}
theorem scCrs : FnScope ["self", "program", "keeper", "goal"] ["self", "program", "keeper", "goal"] (defScope sCrs) := ⟨rfl, rfl, rfl, by decide +kernel, rfl, by decide +kernel, by decide +kernel⟩
theorem ok_crs {f C CK CP CO CN CT fN fT fLk : Addr} {fd dT dLk : FuncData} (F : Fun K "__init__" "Course.__init__" sCrs f fd) (B : Bts mg) (hmo : ∃ t, mg "MOST_ON_COURSE" = some (.int 8 t)) (hmr : ∃ t, mg "MOST_ROUNDS" = some (.int 40 t)) (T : WTxt K mg C) (TK : KTxt K mg CK) (TC : CTxt K mg CO) (D : WDefs K mg) (TM : MTxt K mg CT fT dT) (X : SupE P K mg CN fN "NoNumber" "NoNumber.__init__")
    (DLk : Df K mg "lockstep" sLk ["web", "program", "rounds"] fLk dLk) (GLk : FnOk P w K mg base CX0 19 fLk dLk ["web", "program", "rounds"] (spLk C CP)) : FnOk P w K mg base (L2.CX P w) 20 f fd ["self", "program", "keeper", "goal"] (spCrs C CK CP CO CN CT) := by
  have GN : FnOk P w K mg base CX0 2 D.fN D.dN ["limit", "thing"] (spNum K) := ok_num D.DN.F B D.DP
  have GI : FnOk P w K mg base CX0 1 fT dT ["self", "most"] (spMost CT) := ok_most TM
  obtain ⟨t8, h8⟩ := hmo
  obtain ⟨tr, hr0⟩ := hmr
  refine F.okX scCrs (fun vs H Q E h => ?_) (fun cdv A outer s0 H vs Q E hr h => ?_)
  · obtain ⟨a, da, x, kk, wd, q, pa, tt, M, L, par, Tl, s, t, y, n, v, H0, rfl, _⟩ := h
    rfl
  · obtain ⟨a, da, x, kk, wd, q, pa, tt, M, L, par, Tl, s, t, y, n, v, H0, rfl, na, sm, ha, kp, pg, kd, k1, k2, k3⟩ := h
    have hr2 : Room 2 _ := hr.mono (by decide)
    refine ⟨_, pss_cons (ps_if (pt_cmpR op_gt (pe_fld (pe_fld (pv 2) rfl) rfl) (pe_glob (v := .int 8) rfl h8 ⟨_, rfl⟩) (nomark _)) (pss_one (ps_raise rfl (takes_of rfl rfl rfl rfl) (pmk_oex TM.ox TM.iC TM.tI GI hr2 TM.b .nil pass0 rfl TM.g (pa_cons (pe_glob (v := .int 8) rfl h8 ⟨_, rfl⟩) pa_nil)))) pss_nil)
      (pss_cons (ps_if (pt_not (pt_val (pe_call GN hr2 rfl D.DN.m D.DN.k D.DN.b .nil pass0 (pa_cons (pe_op op_add (pe_glob (v := .int 40) rfl hr0 ⟨_, rfl⟩) pe_int) (pa_cons (pv 3) pa_nil))))) (pss_one (ps_raise rfl (takes_of rfl rfl rfl rfl) (QS.pmk_sup X.sup hr rfl X.g))) pss_nil)
      (pss_cons (ps_fld (pv 0) (pv 1) rfl)
      (pss_cons (ps_fld (pv 0) (pv 2) rfl)
      (pss_cons (ps_fld (pv 0) (pv 3) rfl)
      (pss_one (ps_fld (pv 0) (pe_callTy call_tuple_of (by rfl) B.tuple PyProof.Rows.boot_tuple (pa_cons (pe_call GLk hr rfl DLk.m DLk.k DLk.b .nil pass0 (pa_cons (pe_fld (pv 2) rfl) (pa_cons (pv 1) (pa_cons (pv 3) pa_nil)))) pa_nil)) rfl)))))), ?_⟩
    obtain ⟨dx, la, ch, ac, ek, ld⟩ := kp.at_
    obtain ⟨dw, r, bs, nb, wi, ti⟩ := kp.web
    have ekH := sm _ _ ek
    refine ⟨_, rfl, kk, CK, dx, _, _, rfl, ekH, TK.cl, TK.nW, kf_web _ _ _ _ _ _, wd, C, dw, _, _, rfl, sm _ _ wi.at_, T.cl, T.nM, wf_many _ _ _, _, _, rfl, rfl, _, rfl, ?_⟩
    by_cases c8 : 8 < M
    · rw [decide_eq_true (show (8 : Int) < (M : Int) by omega)]
      exact iteT (many_raise (fun _ _ e => e) fun d H' e s1 => k1 c8 d H' e s1)
    have m8 : M ≤ 8 := by omega
    rw [decide_eq_false (show ¬ (8 : Int) < (M : Int) by omega)]
    refine iteF ⟨_, _, rfl, rfl, _, rfl, _, v, rfl, ?_⟩
    rcases kd.cl (K := K) with ⟨i, rfl⟩ | no
    rotate_left
    · have no' : NoInt K H v := by
        rcases (kd.same sm).cl (K := K) with ⟨i, rfl⟩ | no'
        · exact (no.int).elim
        · exact no'
      exact .inr ⟨no', _, rfl, iteT (k2 m8 (fun j ej => by subst ej; exact (no.int).elim) H (fun _ _ e => e))⟩
    refine .inl ⟨i, rfl, ?_⟩
    by_cases c : 0 ≤ i ∧ i ≤ 40
    rotate_left
    · have e : (decide (0 ≤ i) && decide (i < 40 + 1)) = false := by
        by_cases c1 : 0 ≤ i
        · rw [decide_eq_true c1, decide_eq_false (fun z => c ⟨c1, by omega⟩)]
          rfl
        · rw [decide_eq_false c1]
          rfl
      have e' : (decide (0 ≤ i) && decide (i < (fun i j : Int => i + j) 40 1)) = false := e
      refine ⟨_, rfl, ?_⟩
      show (if (!(decide (0 ≤ i) && decide (i < 40 + 1))) = true then _ else _)
      rw [e]
      exact iteT (k2 m8 (fun j ej => by cases ej; exact c) H (fun _ _ e => e))
    have e : (decide (0 ≤ i) && decide (i < 40 + 1)) = true := by
      rw [decide_eq_true c.1, decide_eq_true (by omega)]
      rfl
    refine ⟨_, rfl, ?_⟩
    show (if (!(decide (0 ≤ i) && decide (i < 40 + 1))) = true then _ else _)
    rw [e]
    obtain ⟨kr, rfl⟩ : ∃ kr : Nat, i = (kr : Int) := ⟨i.toNat, by omega⟩
    refine iteF ⟨_, rfl, _, rfl, a, CO, da, _, rfl, ha, TC.cl, TC.nP, (by show 0 < 1000; decide), ?_⟩
    refine ⟨_, rfl, _, rfl, a, CO, da, _, rfl, upd_same, TC.cl, TC.nK, (by show 1 < 1000; decide), ?_⟩
    refine ⟨_, rfl, _, rfl, a, CO, da, _, rfl, upd_same, TC.cl, TC.nG, (by show 2 < 1000; decide), ?_⟩
    rw [upd_upd, upd_upd]
    have st : Same H0 (upd H a (.ins CO da (putF "goal" (.int (kr : Int)) (putF "keeper" (.ref kk) (putF "program" (.ref x) []))))) := fun b o eb => by
      rw [upd_ne (ne_of_none eb na)]
      exact sm _ _ eb
    have eo : (upd H a (.ins CO da (putF "goal" (.int (kr : Int)) (putF "keeper" (.ref kk) (putF "program" (.ref x) []))))) a = some (.ins CO da (putF "goal" (.int (kr : Int)) (putF "keeper" (.ref kk) (putF "program" (.ref x) [])))) := upd_same
    revert st eo
    generalize (upd H a (.ins CO da (putF "goal" (.int (kr : Int)) (putF "keeper" (.ref kk) (putF "program" (.ref x) []))))) = H1
    intro st eo
    obtain ⟨R, S, pr⟩ := preR_of (k := kr) (kp.web.same st) (pg.same st) kp.m1 kp.m40 (by omega)
    refine ⟨_, rfl, kk, CK, dx, _, _, rfl, st _ _ ek, TK.cl, TK.nW, kf_web _ _ _ _ _ _, _, rfl, _, rfl, M, kr, R, S, pr, fun lc as H2 s2 hlc cl => ?_⟩
    refine ⟨lc, as.map V.ref, rfl, .inl ⟨SqL.of cl.at_, fun tl htl => ?_⟩⟩
    have s3 := sN (o := .tup (as.map V.ref)) htl
    refine ⟨_, rfl, a, CO, da, _, rfl, s3 _ _ (s2 _ _ eo), TC.cl, TC.nL, (by show 3 < 1000; decide), ?_⟩
    refine k3 m8 _ rfl c.1 c.2 _ _ upd_same fun b o eb => ?_
    rw [upd_ne (ne_of_none eb na)]
    exact s3 _ _ (s2 _ _ (st _ _ eb))
end
end Q

/-! Course's own ==, is_keeper -/
namespace Q
open PySem L2 QM
abbrev sIsK : Stmt := top 63
/-- no kind of thing but a keeper is a Keeper -/
structure NotK (K : PySem.W.Frag) (C CP CK : Addr) : Prop where
  ty : ∀ T ∈ (["NoneType", "int", "bool", "str", "tuple", "list", "dict"] : List String), PySem.W.kitOne K (.type T) (.ref CK) = some false
  web : PySem.W.kitOne K (.ref C) (.ref CK) = some false
  prg : PySem.W.kitOne K (.ref CP) (.ref CK) = some false
theorem NotK.kd {K : PySem.W.Frag} {C CP CK : Addr} (N : NotK K C CP CK) {H : Hp} {v : V} (h : Kd H v) : ∃ t, TyX K H v t ∧ PySem.W.kitOne K t (.ref CK) = some false := by
  cases h with
  | int i => exact ⟨_, .base (.int _), N.ty _ (by decide)⟩
  | non => exact ⟨_, .base .non, N.ty _ (by decide)⟩
  | bl b => exact ⟨_, .base (.bl b), N.ty _ (by decide)⟩
  | str z => exact ⟨_, .base (.str z), N.ty _ (by decide)⟩
  | tup e => exact ⟨_, .base (.tup e), N.ty _ (by decide)⟩
  | lst e => exact ⟨_, .base (.lst e), N.ty _ (by decide)⟩
  | dk e => exact ⟨_, .base (.dK e), N.ty _ (by decide)⟩
def spIsKp (C CP CK : Addr) : Sp := fun vs H Q _ => ∃ (w q : Addr) (M : Nat) (L : List (Addr × List Int)) (v : V), vs = [.ref w, v] ∧ WebQ C M H w q L ∧
  ((Kd H v ∧ Q (.bl false) H) ∨ (v = .ref w ∧ Q (.bl false) H) ∨ (∃ (x dx : Addr) (fs : List (Str × V)), v = .ref x ∧ H x = some (.ins CP dx fs) ∧ Q (.bl false) H) ∨
   (∃ (x dx : Addr) (pa t la ch ac : V), v = .ref x ∧ H x = some (.ins CK dx (kf (.ref w) pa t la ch ac)) ∧ Q (.bl true) H))
def spEqCr (C CK CP CO : Addr) : Sp := fun vs H Q _ => ∃ (a da b db x x2 k k2 w q pa tt : Addr) (M : Nat) (L : List (Addr × List Int)) (par : Nat → Option Nat) (T : List (Addr × List Int)) (s t y n : V) (i j : Int) (lk lk2 : V), vs = [.ref a, .ref b] ∧
  H a = some (.ins CO da (cf (.ref x) (.ref k) (.int i) lk)) ∧ H b = some (.ins CO db (cf (.ref x2) (.ref k2) (.int j) lk2)) ∧ PgAt CP H x s t y n ∧ PgAt CP H x2 s t y n ∧ KpAt C CK M L par T H k w q pa tt ∧ KpAt C CK M L par T H k2 w q pa tt ∧ Q (.bl (decide (i = j))) H
section
variable {P : Program} {w : World} {K : PySem.W.Frag} {mg : Str → Option Value} {base : Heap}
theorem scIsK : FnScope ["web", "thing"] ["web", "thing"] (defScope sIsK) := ⟨rfl, rfl, rfl, by decide +kernel, rfl, by decide +kernel, by decide +kernel⟩
theorem ok_iskp {f C CK CP fW fE fP : Addr} {fd dW dE dP : FuncData} (F : Fun K "is_keeper" "is_keeper" sIsK f fd) (B : Bts mg) (T : WTxt K mg C) (TK : KTxt K mg CK) (TP : PTxt K mg CP) (E1 : EqC K "Web.__eq__" sEqW C fW dW) (E2 : EqC K "Keeper.__eq__" sEqK CK fE dE) (E4 : EqT K CP fP dP) (NK : NotK K C CP CK) : FnOk P w K mg base CX0 2 f fd ["web", "thing"] (spIsKp C CP CK) := by
  have GW : FnOk P w K mg base CX0 1 fW dW ["self", "other"] (spEqWs C) := ok_eqws B T E1
  refine F.ok scIsK (fun vs H Q E h => ?_) (fun cdv A outer s H vs Q E hr h => ?_)
  · obtain ⟨w, q, M, L, v, rfl, _⟩ := h
    rfl
  · obtain ⟨w, q, M, L, v, rfl, hw, h⟩ := h
    have hr1 : Room 1 _ := hr.mono (by decide)
    refine ⟨_, pss_one (ps_ret (pe_and (pe_callB call_isi (by rfl) B.isinstance PyProof.Rows.boot_isinstance (pa_cons (pv 1) (pa_cons (pe_glob (v := .ref CK) rfl TK.mgC rfl) pa_nil)))
      (pe_one (pe_cmpR (op_eqI GW E1.find E1.fn E1.nf E1.b pass0 hr1) (pe_fld (pv 1) rfl) (pv 0) (nomark _))))), ?_⟩
    obtain ⟨dw, r, bs, nb, wi, tt⟩ := id hw
    rcases h with ⟨kd, k⟩ | ⟨rfl, k⟩ | ⟨x, dx, fs, rfl, hx, k⟩ | ⟨x, dx, pa, t, la, ch, ac, rfl, hx, k⟩
    · obtain ⟨t, ty, kt⟩ := NK.kd (K := K) kd
      exact ⟨_, rfl, v, .ref CK, t, .ref CK, false, rfl, .own CK, ty, kt, _, rfl, iteF k⟩
    · exact ⟨_, rfl, .ref w, .ref CK, .ref C, .ref CK, false, rfl, .own CK, .base (.ins wi.at_ T.cl E1.ha E1.hn E1.htk E1.hm), NK.web, _, rfl, iteF k⟩
    · exact ⟨_, rfl, .ref x, .ref CK, .ref CP, .ref CK, false, rfl, .own CK, .base (.ins hx TP.cl E4.ha E4.hn E4.htk E4.hm), NK.prg, _, rfl, iteF k⟩
    · refine ⟨_, rfl, .ref x, .ref CK, .ref CK, .ref CK, true, rfl, .own CK, .base (.ins hx TK.cl E2.ha E2.hn E2.htk E2.hm), kit_me, _, rfl, iteT ?_⟩
      exact ⟨_, rfl, x, CK, dx, _, _, rfl, hx, TK.cl, TK.nW, kf_web _ _ _ _ _ _, _, rfl, w, dw, _, rfl, wi.at_, .inl ⟨w, dw, _, rfl, wi.at_⟩, w, q, M, L, rfl, hw, ⟨true, rfl⟩, k⟩
theorem scEqC : FnScope ["self", "other"] ["self", "other"] (defScope sEqC) := ⟨rfl, rfl, rfl, by decide +kernel, rfl, by decide +kernel, by decide +kernel⟩
theorem ok_eqcr {f C CK CP CO fW fE fP : Addr} {fd dW dE dP : FuncData} (B : Bts mg) (T : WTxt K mg C) (TK : KTxt K mg CK) (TP : PTxt K mg CP) (TC : CTxt K mg CO) (E1 : EqC K "Web.__eq__" sEqW C fW dW) (E2 : EqC K "Keeper.__eq__" sEqK CK fE dE) (E4 : EqT K CP fP dP) (E5 : EqC K "Course.__eq__" sEqC CO f fd) : FnOk P w K mg base CX0 3 f fd ["self", "other"] (spEqCr C CK CP CO) := by
  have GP : FnOk P w K mg base CX0 1 fP dP ["self", "other"] (spEqP K CP) := ok_eqp B TP E4
  have GK : FnOk P w K mg base CX0 2 fE dE ["self", "other"] (spEqK C CK) := ok_eqk B T TK E1 E2
  refine E5.F.ok scEqC (fun vs H Q E h => ?_) (fun cdv A outer s0 H vs Q E hr h => ?_)
  · obtain ⟨a, da, b, db, x, x2, k, k2, wd, q, pa, tt, M, L, par, Tl, s, t, y, n, i, j, lk, lk2, rfl, _⟩ := h
    rfl
  · obtain ⟨a, da, b, db, x, x2, k, k2, wd, q, pa, tt, M, L, par, Tl, s, t, y, n, i, j, lk, lk2, rfl, ha, hb, pg, pg2, kp, kp2, kq⟩ := h
    have hr1 : Room 1 _ := hr.mono (by decide)
    have hr2 : Room 2 _ := hr.mono (by decide)
    refine ⟨_, pss_one (ps_ret (pe_and (pe_callB call_isi (by rfl) B.isinstance PyProof.Rows.boot_isinstance (pa_cons (pv 1) (pa_cons (pe_glob (v := .ref CO) rfl TC.mgC rfl) pa_nil)))
      (pe_and (pe_cmpR (op_eqI GP E4.find E4.fn E4.nf E4.b pass0 hr1) (pe_fld (pv 0) rfl) (pe_fld (pv 1) rfl) (nomark _))
        (pe_and (pe_cmpR (op_eqI GK E2.find E2.fn E2.nf E2.b pass0 hr2) (pe_fld (pv 0) rfl) (pe_fld (pv 1) rfl) (nomark _))
          (pe_one (pe_cmpR op_eq (pe_fld (pv 0) rfl) (pe_fld (pv 1) rfl) (nomark _))))))), ?_⟩
    refine ⟨_, rfl, .ref b, .ref CO, .ref CO, .ref CO, true, rfl, .own CO, .base (.ins hb TC.cl E5.ha E5.hn E5.htk E5.hm), kit_me, _, rfl, iteT ?_⟩
    obtain ⟨dx, ex⟩ := pg.at_
    obtain ⟨dx2, ex2⟩ := pg2.at_
    obtain ⟨d1, d2, d3, d4, a1, a2, a3, a4⟩ := fine_dat (K := K) pg.fine
    have eT : (PyData.eqv d1 d1 && (PyData.eqv d2 d2 && (PyData.eqv d3 d3 && PyData.eqv d4 d4))) = true := by
      rw [a1.2.2.2, a2.2.2.2, a3.2.2.2, a4.2.2.2]
      rfl
    refine ⟨_, rfl, a, CO, da, _, _, rfl, ha, TC.cl, TC.nP, cf_program _ _ _ _, _, rfl, b, CO, db, _, _, rfl, hb, TC.cl, TC.nP, cf_program _ _ _ _, x, dx, _, rfl, ex, .inl ⟨x2, dx2, _, rfl, ex2⟩, x, dx, s, t, y, n, _, rfl, ex, .inl ⟨x2, dx2, s, t, y, n, d1, d2, d3, d4, d1, d2, d3, d4, rfl, ex2, a1, a2, a3, a4, a1, a2, a3, a4, ⟨_, rfl⟩, _, rfl, ?_⟩⟩
    rw [eT]
    obtain ⟨dk, la, ch, ac, ek, ld⟩ := kp.at_
    obtain ⟨dk2, la2, ch2, ac2, ek2, ld2⟩ := kp2.at_
    refine iteT ⟨_, rfl, a, CO, da, _, _, rfl, ha, TC.cl, TC.nK, cf_keeper _ _ _ _, _, rfl, b, CO, db, _, _, rfl, hb, TC.cl, TC.nK, cf_keeper _ _ _ _, k, dk, _, rfl, ek, .inl ⟨k2, dk2, _, rfl, ek2⟩, ?_⟩
    refine ⟨k, dk, k2, dk2, wd, q, pa, pa, tt, tt, M, L, Tl, Tl, par, la, ch, ac, la2, ch2, ac2, rfl, ek, ek2, kp.web, kp.hpa, kp.hpa, kp.ht, kp.hts, kp.ht, kp.hts, rfl, ⟨_, rfl⟩, _, rfl, iteT ?_⟩
    refine ⟨_, rfl, a, CO, da, _, _, rfl, ha, TC.cl, TC.nG, cf_goal _ _ _ _, _, rfl, b, CO, db, _, _, rfl, hb, TC.cl, TC.nG, cf_goal _ _ _ _, rfl, ?_⟩
    have ed : (decide (V.int i = V.int j)) = decide (i = j) := by
      by_cases c : i = j
      · rw [c, decide_eq_true rfl, decide_eq_true rfl]
      · rw [decide_eq_false c, decide_eq_false (fun z => c (V.int.inj z))]
    first
      | exact kq
      | (rw [← ed] at kq; exact kq)
end
end Q

/-! a number, or what is none -/
namespace Q
open PySem L2 QM
abbrev sNone : Stmt := top 96
def spLNumG : Sp := fun vs H Q _ => ∃ (v : V) (lo hi : Int), vs = [v, .int lo, .int hi] ∧ Kd H v ∧ ∀ b : Bool, (b = true ↔ ∃ i : Int, v = .int i ∧ lo ≤ i ∧ i ≤ hi) → Q (.bl b) H
def spNone : Sp := fun vs H Q _ => ∃ (p l : Addr) (lo hi : Int), vs = [.ref p, .int lo, .int hi] ∧ HandAt H p l ∧ 0 ≤ lo ∧ lo ≤ hi ∧ hi ≤ 100 ∧ ∀ v H', Kd H' v → HandAt H' p l → Ext p H H' → Q v H'
section
variable {P : Program} {w : World} {K : PySem.W.Frag} {mg : Str → Option Value} {base : Heap}
theorem noint_ne {H : Hp} {v : V} (n : NoInt K H v) (i : Int) : v ≠ .int i := fun e => by
  subst e
  exact n.int
theorem scLNumG : FnScope ["thing", "least", "most"] ["thing", "least", "most"] (defScope sLNum) := ⟨rfl, rfl, rfl, by decide +kernel, rfl, by decide +kernel, by decide +kernel⟩
theorem ok_lnumG {f : Addr} {fd : FuncData} (F : Fun K "_law_number" "_law_number" sLNum f fd) (B : Bts mg) : FnOk P w K mg base CX0 1 f fd ["thing", "least", "most"] spLNumG := by
  refine F.ok scLNumG (fun vs H Q E h => ?_) (fun cdv A outer s H vs Q E hr h => ?_)
  · obtain ⟨v, lo, hi, rfl, _⟩ := h
    rfl
  · obtain ⟨v, lo, hi, rfl, kd, k⟩ := h
    refine ⟨_, pss_one (ps_ret (pe_and (pe_callB call_isi (by rfl) B.isinstance PyProof.Rows.boot_isinstance (pa_cons (pv 0) (pa_cons (pe_bltn (v := .ty "int") rfl B.int PyProof.Rows.boot_int rfl) pa_nil)))
      (pe_and (pe_not (pe_callB call_isi (by rfl) B.isinstance PyProof.Rows.boot_isinstance (pa_cons (pv 0) (pa_cons (pe_bltn (v := .ty "bool") rfl B.bool (by decide +kernel) rfl) pa_nil))))
        (pe_one (pe_chain op_le op_le (pv 1) (pv 0) (pv 2)))))), ?_⟩
    rcases kd.cl (K := K) with ⟨i, rfl⟩ | n
    · have k' : Q (.bl (decide (lo ≤ i) && decide (i ≤ hi))) H := k _ ⟨fun z => by
        rw [Bool.and_eq_true] at z
        exact ⟨i, rfl, of_decide_eq_true z.1, of_decide_eq_true z.2⟩, by
        rintro ⟨j, e, h1, h2⟩
        rw [V.int.inj e, decide_eq_true h1, decide_eq_true h2]
        rfl⟩
      clear k
      refine ⟨_, rfl, .int i, .ty "int", .type "int", .type "int", true, rfl, .ty _, .base (.int _), kit_ty (by decide +kernel), _, rfl, iteT ?_⟩
      refine ⟨_, rfl, .int i, .ty "bool", .type "int", .type "bool", false, rfl, .ty _, .base (.int _), kit_ty (by decide +kernel), _, rfl, _, rfl, iteT ?_⟩
      refine ⟨_, rfl, _, rfl, _, _, rfl, rfl, _, rfl, ?_⟩
      by_cases c : lo ≤ i
      · rw [decide_eq_true c] at k' ⊢
        exact iteT ⟨_, rfl, _, _, rfl, rfl, k'⟩
      · rw [decide_eq_false c] at k' ⊢
        exact iteF k'
    · have k' : Q (.bl false) H := k _ ⟨fun z => (Bool.false_ne_true z).elim, by
        rintro ⟨j, e, _⟩
        exact (noint_ne n _ e).elim⟩
      obtain ⟨t, b, c, ty, k1, k2, e⟩ := n
      refine ⟨_, rfl, v, .ty "int", t, .type "int", b, rfl, .ty _, ty, k1, _, rfl, ?_⟩
      cases b with
      | false => exact iteF k'
      | true =>
        cases c with
        | false => cases e
        | true => exact iteT ⟨_, rfl, v, .ty "bool", t, .type "bool", true, rfl, .ty _, ty, k2, _, rfl, _, rfl, iteF k'⟩
theorem scNone : FnScope ["hand", "least", "most"] ["hand", "least", "most"] (defScope sNone) := ⟨rfl, rfl, rfl, by decide +kernel, rfl, by decide +kernel, by decide +kernel⟩
theorem ok_none {f fD fP : Addr} {fd dD dP : FuncData} (D : Df K mg "_law_none" sNone ["hand", "least", "most"] f fd) (B : Bts mg) (DD : Df K mg "_law_draw" sDraw ["hand", "many"] fD dD) (DP : Df K mg "_law_deep" sDeep ["hand"] fP dP) : FnOk P w K mg base CX0 3 f fd ["hand", "least", "most"] spNone := by
  have GD : FnOk P w K mg base CX0 1 fD dD ["hand", "many"] spDraw := ok_draw DD.F B
  have GDp : FnOk P w K mg base CX0 2 fP dP ["hand"] spDeep := ok_deep DP.F B DD
  refine D.F.ok scNone (fun vs H Q E h => ?_) (fun cdv A outer s H vs Q E hr h => ?_)
  · obtain ⟨p, l, lo, hi, rfl, _⟩ := h
    rfl
  · obtain ⟨p, l, lo, hi, rfl, g0, lo0, lohi, hi100, k⟩ := h
    have nd := scNone.nd
    have hr1 : Room 1 _ := hr.mono (by decide)
    have hr2 : Room 2 _ := hr.mono (by decide)
    refine ⟨_, pss_cons (ps_if (pt_cmpR op_eq (pe_call GD hr1 rfl DD.m DD.k DD.b .nil pass0 (pa_cons (pv 0) (pa_cons pe_int pa_nil))) pe_int (nomark _)) (pss_one (ps_ret (pe_ix ix_list (pe_lst (pa_cons (pv 1) (pa_cons (pv 2) (pa_cons (pe_op op_add (pv 1) (pe_call GD hr1 rfl DD.m DD.k DD.b .nil pass0 (pa_cons (pv 0) (pa_cons (pe_op op_add (pe_op op_sub (pv 2) (pv 1)) pe_int) pa_nil)))) pa_nil)))) (pe_call GD hr1 rfl DD.m DD.k DD.b .nil pass0 (pa_cons (pv 0) (pa_cons pe_int pa_nil))) (fun _ _ => rfl)))) pss_nil)
        (pss_one (ps_ret (pe_ix ix_list (pe_lst (pa_cons (pe_op op_sub (pv 1) pe_int) (pa_cons (pe_op op_add (pv 2) pe_int) (pa_cons pe_bl (pa_cons pe_bl (pa_cons pe_non (pa_cons pe_str (pa_cons (pe_tup (pa_cons pe_int pa_nil)) (pa_cons (pe_lst (pa_cons pe_int pa_nil)) (pa_cons (pe_op op_pow pe_int pe_int) (pa_cons (pe_call GDp hr2 rfl DP.m DP.k DP.b .nil pass0 (pa_cons (pv 0) pa_nil)) pa_nil))))))))))) (pe_call GD hr1 rfl DD.m DD.k DD.b .nil pass0 (pa_cons (pv 0) (pa_cons pe_int pa_nil))) (fun _ _ => rfl)))), ?_⟩
    refine ⟨_, rfl, p, l, 2, rfl, g0, by decide, by decide, fun d H1 d0 d1 g1 b1 => ?_⟩
    have x1 : Ext p H H1 := Ext.rfl'.but b1
    refine ⟨rfl, _, rfl, ite2 (fun _ => ?_) (fun _ => ?_)⟩
    · refine ⟨_, rfl, _, rfl, _, rfl, _, rfl, _, rfl, _, rfl, _, _, rfl, rfl, _, _, rfl, rfl, p, l, hi - lo + 1, rfl, g1, by omega, by omega, fun d2 H2 e0 e1 g2 b2 => ⟨_, _, rfl, rfl, (by show 3 ≤ sizeLine; decide), fun ml hml => ?_⟩⟩
      have g3 := g2.new (o := .lst [.int lo, .int hi, .int (lo + d2)]) hml
      have nmp := (g2.ne hml).1
      refine ⟨_, rfl, p, l, 3, rfl, g3, by decide, by decide, fun d3 H4 f0 f1 g4 b4 => ?_⟩
      obtain ⟨v, hv, ev⟩ := pick_in (xs := [V.int lo, .int hi, .int (lo + d2)]) f0 (by show d3 < 3; exact f1)
      have kv : Kd H4 v := by
        simp only [List.mem_cons, List.not_mem_nil, or_false] at hv
        rcases hv with rfl | rfl | rfl <;> exact .int _
      exact ⟨ml, _, d3, v, rfl, rfl, SqL.of (by rw [b4 ml nmp]; exact upd_same), ev, k v H4 kv g4 (((x1.but b2).upd hml).but b4)⟩
    · refine ⟨_, rfl, _, _, rfl, rfl, _, rfl, _, _, rfl, rfl, (by show 1 ≤ sizeLine; decide), fun ta hta => ⟨(by show 1 ≤ sizeLine; decide), fun lb hlb => ?_⟩⟩
      have g2 := g1.new (o := .tup [.int 2]) hta
      have g3 := g2.new (o := .lst [.int 2]) hlb
      have ntp := (g1.ne hta).1
      have nlp := (g2.ne hlb).1
      have s3 := sT (sN (o := .tup [.int 2]) hta) (sN (o := .lst [.int 2]) hlb)
      have et : (upd (upd H1 ta (.tup [.int 2])) lb (.lst [.int 2])) ta = some (.tup [.int 2]) := (sN (o := .lst [.int 2]) hlb) _ _ upd_same
      have el : (upd (upd H1 ta (.tup [.int 2])) lb (.lst [.int 2])) lb = some (.lst [.int 2]) := upd_same
      revert g3 s3 et el
      generalize (upd (upd H1 ta (.tup [.int 2])) lb (.lst [.int 2])) = H3
      intro g3 s3 et el
      refine ⟨_, _, rfl, rfl, ⟨by decide, by decide, by decide⟩, ?_⟩
      refine ⟨_, rfl, p, l, rfl, g3, fun v9 H4 w9 g4 x4 => ⟨(by show 10 ≤ sizeLine; decide), fun ml hml => ?_⟩⟩
      have g5 := g4.new (o := .lst [.int (lo - 1), .int (hi + 1), .bl true, .bl false, .non, .str "2", .ref ta, .ref lb, .int 10000000000000000000, v9]) hml
      have nmp := (g4.ne hml).1
      refine ⟨_, rfl, p, l, 10, rfl, g5, by decide, by decide, fun d3 H6 f0 f1 g6 b6 => ?_⟩
      have x6 : Ext p H4 H6 := (Ext.rfl'.upd hml).but b6
      have x36 := x4.trans x6
      obtain ⟨v, hv, ev⟩ := pick_in (xs := [V.int (lo - 1), .int (hi + 1), .bl true, .bl false, .non, .str "2", .ref ta, .ref lb, .int 10000000000000000000, v9]) f0 (by show d3 < 10; exact f1)
      have kv : Kd H6 v := by
        simp only [List.mem_cons, List.not_mem_nil, or_false] at hv
        rcases hv with rfl | rfl | rfl | rfl | rfl | rfl | rfl | rfl | rfl | rfl
        · exact .int _
        · exact .int _
        · exact .bl _
        · exact .bl _
        · exact .non
        · exact .str _
        · exact .tup (x36 _ _ et ntp)
        · exact .lst (x36 _ _ el nlp)
        · exact .int _
        · exact w9.kd.ext g4 g6 x6
      exact ⟨ml, _, d3, v, rfl, rfl, SqL.of (by rw [b6 ml nmp]; exact upd_same), ev, k v H6 kv g6 ((x1.trans (fun b o e _ => s3 b o e)).trans x36)⟩
end
end Q

namespace L2
open PySem PySem.Spec PyProof.Rows
/-! xs.count(y) of flat things -/
theorem cnt_flat {y : V} : ∀ {ys : List V} {us : List Value}, Vals ys us → ys.all flatV = true → us.countP (eqU y) = ys.countP fun z => eqV z y
  | _, _, .nil, _ => rfl
  | z :: ys, u :: us, .cons r t, f => by
    rw [List.all_cons, Bool.and_eq_true] at f
    rw [List.countP_cons, List.countP_cons, cnt_flat t f.2, eqU_of r f.1]
theorem mt_cntF {X : Cx} : MtR X "list.count" (fun x xs H Q => ∃ (a : Addr) (ys : List V) (y : V), x = .ref a ∧ xs = [y] ∧ SqL X.K H a ys ∧ flatV y = true ∧ ys.all flatV = true ∧ Q (.int ((ys.countP fun z => eqV z y : Nat) : Int)) H) := by
  intro pins s σ H x xs v us Q I rx rxs h
  obtain ⟨a, ys, y, rfl, rfl, hs, fy, fys, q⟩ := h
  cases rx
  obtain ⟨u, rfl, ru⟩ := rxs.one
  obtain ⟨its, rv, ⟨⟨cls, dd, data, sl⟩, n, ho, hc, hdn, hd⟩, hlen⟩ := I.list hs
  simp only at hc hd
  subst hc hd
  refine call_meets PySem.F.slot_list_count ⟨_, ho, rfl⟩ PySem.F.entry_list_count (PySem.F.args_list_count_2 _ _)
    (SeqAt.list_countAt a its.toArray n dd sl u (eqU y)) ⟨ho, fun u' hu' => mem_eqAt ru fy rv fys u' (by simpa using hu'), ?_⟩
  have ec := cnt_flat (y := y) rv fys
  refine ⟨.int ((ys.countP fun z => eqV z y : Nat) : Int), H, I.tok _, ⟨s.toks, ?_⟩, q⟩
  show Value.int ((its.toArray.toList.countP (eqU y) : Nat) : Int) s.toks = Value.int ((ys.countP fun z => eqV z y : Nat) : Int) s.toks
  rw [← ec]
/-- isinstance(e, C) of a caught error, with or without a dict of its own -/
def rIsX (K : PySem.W.Frag) (D a : Addr) (cls : Value) (d : Option Addr) : List V → Hp → VK → Prop := fun xs H Q => cls = .ref D ∧ (∀ dd, d = some dd → ∃ fs, H dd = some (.xd fs)) ∧ ∃ (c : V) (cv : Value) (b : Bool), xs = [.ref a, c] ∧ (∀ u, RelV c u → u = cv) ∧ PySem.W.kitOne K (.ref D) cv = some b ∧ Q (.bl b) H
theorem call_isX {X : Cx} {a D : Addr} {oe : Obj} {cls : Value} {d : Option Addr} {pn : List (Addr × Obj)} (C : ExcC X.K D) (hc : PySem.W.isClsIn X.K D = true) (hz : Zc cls d oe) (hf : ∃ vs, oe.data = .fields vs) : CallR (X.suite a ((a, oe) :: pn)) (.builtin "isinstance") (rIsX X.K D a cls d) := by
  intro pins s σ H xs us Q I r h
  obtain ⟨rfl, hd, c, cv, b, rfl, hcv, e, q⟩ := h
  cases r with
  | cons rx rr =>
    cases rr with
    | cons rt r0 =>
      cases r0
      cases rx
      have ec := hcv _ rt
      subst ec
      obtain ⟨hget, hn, _⟩ := I.pin (a, oe) (List.mem_append.mpr (.inl List.mem_cons_self))
      obtain ⟨vs, hv⟩ := hf
      have nc : PySem.W.notCls oe = true := by
        unfold PySem.W.notCls
        rw [hv]
      have main : ∀ od, PySem.W.InstAt s.heap a oe D od → wpAny (model (X.suite a ((a, oe) :: pn)).prog (X.suite a ((a, oe) :: pn)).w) (X.suite a ((a, oe) :: pn)).A (call (.builtin "isinstance") [.ref a, _]) (EP (X.suite a ((a, oe) :: pn)) pins σ Q) (X.suite a ((a, oe) :: pn)).xe s := fun od J =>
        PySem.W.kia_one (PySem.W.kitx_exc (x := a) (ox := oe) (od := od) hc C.hg C.hk C.hs C.ha C.hn C.ht C.hm) I.kIn J e (by intro z; cases z) (fun tk => ⟨.bl b, H, I.tok tk, rfl, q⟩)
      cases d with
      | none => exact main none ⟨hget, hz.1, nc, by rw [hz.2]; trivial⟩
      | some dd =>
        obtain ⟨fs, hfs⟩ := hd dd rfl
        have hok := I.hok dd _ hfs
        obtain ⟨o, ho⟩ : ∃ o, s.heap.get? dd = some o := by
          obtain ⟨es, hA, _⟩ := hok
          obtain ⟨e1, _, _, e4, _⟩ := hA
          exact ⟨e1, e4⟩
        exact main (some o) ⟨hget, hz.1, nc, by rw [hz.2]; exact ho⟩
end L2
namespace L2
open PySem PySem.Spec PyProof.Rows L2H
/-- what such a def is worth: at the error's address, class, own dict -/
abbrev SpE := Addr → Value → Option Addr → Sp
structure FnE (P : Program) (w : World) (K : PySem.W.Frag) (mg : Str → Option Value) (base : Heap) (k : Nat) (f : Addr) (fd : FuncData) (ps : List Str) (sp : SpE) : Prop where
  len : ∀ a c d xs H Q E, sp a c d xs H Q E → xs.length = ps.length
  run : ∀ (A : Around) (fr : List Env) (s : Shared) (H : Hp) (gs : Args) (us : List Value) (xs : List V) (Q : VK) (E : XK) (pe : Addr × Obj) (c : Value) (d : Option Addr), RoomH k A → PinOk fr H s pe → Zc c d pe.2 → (∃ vs, pe.2.data = .fields vs) →
    Env0 P w K mg base A fr s H → BindsTo s fd gs (ps.zip us) → Vals xs us → sp pe.1 c d xs H Q E → codeAny (model P w) A (.call (.ref f) gs) (CR CX0 fr P w H s Q E) s
/-- such a def of the text, by its body -/
theorem fn_err {P : Program} {w : World} {K : PySem.W.Frag} {mg : Str → Option Value} {base : Heap} {k : Nat} {x qual : Str} {st : Stmt} {f : Addr} {fd : FuncData} {N ps : List Str} {sp : SpE} (F : Fun K x qual st f fd) (S : FnScope N ps (defScope st))
    (len : ∀ a c d xs H Q E, sp a c d xs H Q E → xs.length = ps.length)
    (hbody : ∀ (cdv : Value) (A : Around) (fr : List Env) (s : Shared) (H : Hp) (xs : List V) (Q : VK) (E : XK) (pe : Addr × Obj) (c : Value) (d : Option Addr), RoomH k (A.deeper (envOfC qual (defScope st) s.heap.objs.size f cdv)) → Zc c d pe.2 → (∃ vs, pe.2.data = .fields vs) → sp pe.1 c d xs H Q E →
      ∃ t, PSs (cxH CX0 P w K mg base N qual (defScope st) f cdv A fr s H E pe) (defBody st) t ∧ t { nx := fun _ H' => Q .non H', rt := Q } (L2.start N xs) H) : FnE P w K mg base (k + 1) f fd ps sp := by
  obtain ⟨oc, od, kV, dc, pm, an, cdv, ct, osl, rfl, lk, hcd⟩ := F.ex
  refine ⟨len, fun A fr s H gs us xs Q E pe c d room pin zc zf en bd rl want => ?_⟩
  have kin : K.In s.heap := en.mod.kin.keeps fun b o q => (en.bs b o q).1
  have nol : s.heap.NoLimit := en.mod.nolimit.keeps fun b o q => (en.bs b o q).1
  refine codeAny_call_function room.depth (kin _ _ lk) rfl S.co S.gen rfl (PySem.W.codeRec_of kin hcd) (bd _ _ _ _ ?_)
  refine wpAny_newFunctionEnv_cells S.kind (fun ⟨n, v⟩ hn => ?_) fun env eq s1 J => ?_
  · rcases S.par n (List.of_mem_zip hn).1 with z | z
    · exact Or.inl z
    · exact Or.inr ⟨z, PySem.W.cellsFrom_some _ _ _ (Or.inl z)⟩
  subst eq
  refine ⟨nol.keeps J.toInCall.keep, codeAny_func ?_⟩
  obtain ⟨t, ht, hq⟩ := hbody cdv A fr s H xs Q E pe c d (room.deeper _) zc zf want
  refine wpAny_mono (ht.run [] s1 (L2.start N xs) H _ (inv_startH S pin en (len _ _ _ _ _ _ _ want) rl J) hq) (fun fl s2 z => ?_) fun _ _ z => z
  match fl, z with
  | .ret u, ⟨v, _, H2, I2, rv, q⟩ => exact ⟨v, H2, I2.os, I2.bare, I2.base, I2.hok, rv, q⟩
  | .next, ⟨_, H2, I2, q⟩ => exact ⟨V.non, H2, I2.os, I2.bare, I2.base, I2.hok, rfl, q⟩
  | .brk, ⟨_, _, _, q⟩ => exact q.elim
  | .cont, ⟨_, _, _, q⟩ => exact q.elim
/-- a call of it in the suite -/
def tCallE (sp : SpE) (a : Addr) (c : Value) (d : Option Addr) (t : TA) : TE := fun σ H Q => t σ H fun xs H1 => sp a c d xs H1 Q E0
theorem pe_callE {X : Cx} {k : Nat} {f a : Addr} {fd : FuncData} {ps : List Str} {sp : SpE} {oe : Obj} {pn : List (Addr × Obj)} {c : Value} {d : Option Addr} {x : Str} {e : Expr} {es : List Expr} {q pos : Pos} {t : TA} (F : FnE X.prog X.w X.K X.mg X.base k f fd ps sp) (hr : Room k X.A) (zc : Zc c d oe) (zf : ∃ vs, oe.data = .fields vs)
    (hg : Gl X x) (hm : X.mg x = some (.ref f)) (hk : PySem.W.keepIn X.K (.ref f) = true) (hb : Binds X.K fd ps []) (ha : PA (X.suite a ((a, oe) :: pn)) (e :: es) t)
    (hdb : (x == ("__debug__" : Str)) = false := by decide) (he : starEach (e :: es) X.env = (false, eval e X.env) :: starEach es X.env := by rfl) (hpl : (backTo pos (starEach es X.env)).any (·.1) = false := by rfl) :
    PE (X.suite a ((a, oe) :: pn)) (.Call (.Name x q) (e :: es) [] pos) (tCallE sp a c d t) := by
  refine ⟨fun pins s σ H Q I h => wpAny_Call_Name_kw (ld_glob I hg hm ?_ hdb)⟩
  refine PySem.W.callWith_K (h₀ := X.base) I.ok.mod.kin hk (thn (ha.run pos pins s σ H _ I h) fun us s1 ⟨xs, H1, I1, rl, want⟩ => ⟨I1.kIn, ?_⟩) he hpl
  have hl : us.length = ps.length := rl.length.symm.trans (F.len _ _ _ _ _ _ _ want)
  have bd := hb s1 us I1.kIn (by rw [List.append_nil]; exact hl)
  rw [List.append_nil] at bd
  obtain ⟨p1, p2, p3, p4, p5⟩ := I1.pin (a, oe) (List.mem_append_left _ List.mem_cons_self)
  have pin : PinOk X.stack H1 s1 (a, oe) := ⟨p1, p2, fun m => (List.mem_cons.mp (I1.stkSub a m)).elim p3 p4, p5⟩
  refine wpAny_call (codeAny_mono (F.run (X.suite a ((a, oe) :: pn)).A X.stack s1 H1 ⟨us, []⟩ us xs Q E0 (a, oe) c d ⟨hr.dp, hr.un⟩ pin zc zf I1.env0 bd rl want) fun r s2 z => ?_)
  match r, z with
  | .ok (.ret u), z => exact I1.after z
  | .error _, z => exact z.elim
end L2
/-! the word of what a call raises -/
namespace Q
open PySem L2 QM
abbrev sLW : Stmt := top 95
def nmC : Nat → Str
  | 0 => "NoHouse"
  | 1 => "NoNumber"
  | _ => "TooMany"
def wdC : Nat → Str
  | 0 => "house"
  | 1 => "number"
  | _ => "many"
/-- the three errors -/
structure CErr (K : PySem.W.Frag) (mg : Str → Option Value) (CE : Addr) where
  cl : Nat → Addr
  g : ∀ i, i < 3 → mg (nmC i) = some (.ref (cl i))
  ex : ∀ i, i < 3 → PySem.W.exmOne K (.ref (cl i)) (.ref CE) = some true
  e : ∀ i, i < 3 → ExcC K (cl i)
  c : ∀ i, i < 3 → PySem.W.isClsIn K (cl i) = true
  v : ∀ i, i < 3 → PySem.W.kitOne K (.ref (cl i)) (.type "ValueError") = some true
  k : ∀ i j, i < 3 → j < 3 → PySem.W.kitOne K (.ref (cl i)) (.ref (cl j)) = some (decide (i = j))
  gE : mg "RoundError" = some (.ref CE)
  noV : mg "ValueError" = none
/-- how such an error lies -/
def ErrAt {K : PySem.W.Frag} {mg : Str → Option Value} {CE : Addr} (XE : CErr K mg CE) (i : Nat) (cls : Value) (d : Option Addr) (H : Hp) : Prop := i < 3 ∧ cls = .ref (XE.cl i) ∧ (i < 2 → d = none) ∧ (i = 2 → ∃ dd, d = some dd ∧ H dd = some (xdM (.int 8)))
/-- what _law_word makes of a call -/
def TWord {K : PySem.W.Frag} {mg : Str → Option Value} {CE : Addr} (XE : CErr K mg CE) : (XK → Hp → VK → Prop) → Hp → VK → Prop := fun tl H Q =>
  ∀ (E' : XK) (Q' : VK), (∀ cls d H' i, ErrAt XE i cls d H' → (∀ H2, Same H' H2 → Q (.str (wdC i)) H2) → E' cls d H') → (∀ v H', Q (.str "let") H' → Q' v H') → tl E' H Q'
theorem most_look (y : V) : List.lookup ("most" : Str) ([(("most" : Str), y)] : List (Str × V)) = some y := by
  show (match (("most" : Str) == ("most" : Str)) with | true => some y | false => List.lookup ("most" : Str) []) = some y
  rw [show (("most" : Str) == ("most" : Str)) = true by decide]
theorem scLW : FnScope ["call", "word", "error", "flags"] ["call"] (defScope sLW) := ⟨rfl, rfl, rfl, by decide +kernel, rfl, by decide +kernel, by decide +kernel⟩
/-- the suite's reading -/
def tW {K : PySem.W.Frag} {mg : Str → Option Value} {CE : Addr} (XE : CErr K mg CE) (a : Addr) (cls : Value) (d : Option Addr) : L2.TS := fun D σ H => σ.length = 4 → ∃ (i : Nat) (x0 x1 x3 : Option V), σ = [x0, x1, some (.ref a), x3] ∧ ErrAt XE i cls d H ∧ ∀ H2 y3, Same H H2 → D.nx [x0, some (.str (wdC i)), some (.ref a), y3] H2
theorem pss_by {X : Cx} {ss : List Stmt} {tw : L2.TS} (h : ∀ pins s σ H D, L2.Inv X pins σ H s → tw D σ H → ∃ t, PSs X ss t ∧ t D σ H) : PSs X ss tw := ⟨fun pins s σ H D I z => by
  obtain ⟨t, ht, q⟩ := h pins s σ H D I z
  exact ht.run pins s σ H D I q⟩
def spIsE : SpE := fun _ _ _ vs H Q _ => ∃ i : Int, vs = [.int i, .int i] ∧ ∀ H', Same H H' → Q (.bl true) H'
section
variable {P : Program} {w : World} {K : PySem.W.Frag} {mg : Str → Option Value} {base : Heap}
theorem ok_isE {f : Addr} {fd : FuncData} (D : Df K mg "_law_is" sIs ["told", "due"] f fd) (B : Bts mg) : FnE P w K mg base 1 f fd ["told", "due"] spIsE := by
  refine fn_err D.F scIs (fun a c d vs H Q E h => ?_) (fun cdv A fr s H vs Q E pe c d hr zc zf h => ?_)
  · obtain ⟨i, rfl, _⟩ := h
    rfl
  · obtain ⟨i, rfl, k⟩ := h
    refine ⟨_, pss_cons (ps_if (pt_val (pe_callB call_isiT (by rfl) B.isinstance PyProof.Rows.boot_isinstance (pa_cons (pv 1) (pa_cons (pe_tup (pa_cons (pe_bltn (v := .ty "tuple") rfl B.tuple PyProof.Rows.boot_tuple rfl) (pa_cons (pe_bltn (v := .ty "list") rfl B.list PyProof.Rows.boot_list rfl) pa_nil))) pa_nil)))) pss_never pss_nil)
      (pss_one (ps_ret (pe_and (pe_cmpR op_eq (pe_callB call_isi (by rfl) B.isinstance PyProof.Rows.boot_isinstance (pa_cons (pv 0) (pa_cons (pe_bltn (v := .ty "bool") rfl B.bool (by decide +kernel) rfl) pa_nil)))
          (pe_callB call_isi (by rfl) B.isinstance PyProof.Rows.boot_isinstance (pa_cons (pv 1) (pa_cons (pe_bltn (v := .ty "bool") rfl B.bool (by decide +kernel) rfl) pa_nil))) (nomark _))
        (pe_one (pe_cmpR op_eq (pv 0) (pv 1) (nomark _)))))), ?_⟩
    refine ⟨_, rfl, (by show 2 ≤ sizeLine; decide), fun tp htp => ?_⟩
    refine ⟨.int i, tp, [.ty "tuple", .ty "list"], .type "int", [.type "tuple", .type "list"], false, rfl, upd_same, .cons (.ty _) (.cons (.ty _) .nil), .base (.int _), kitTL (t := "int") (b := false) (c := false) (by decide +kernel) (by decide +kernel), _, rfl, iteF ?_⟩
    refine ⟨_, rfl, .int i, .ty "bool", .type "int", .type "bool", false, rfl, .ty _, .base (.int _), kit_ty (by decide +kernel), _, rfl, .int i, .ty "bool", .type "int", .type "bool", false, rfl, .ty _, .base (.int _), kit_ty (by decide +kernel), rfl, _, rfl, ?_⟩
    rw [decide_eq_true (rfl : V.bl false = V.bl false)]
    refine iteT ⟨_, rfl, _, rfl, rfl, ?_⟩
    rw [decide_eq_true rfl]
    exact k _ (sN htp)
end
section
variable {X : Cx} {CE : Addr}
theorem word_gives {g fI fT : Addr} {cdg : Value} {q : Str} {dI dT : FuncData} (B : Bts X.mg) (XE : CErr X.K X.mg CE) (TM : MTxt X.K X.mg (XE.cl 2) fT dT) (hr0 : Room 2 X.A) (DI : Df X.K X.mg "_law_is" sIs ["told", "due"] fI dI) :
    LamX.GivesTo X ["call", "word", "error", "flags"] "_law_word" (defScope sLW) g cdg (defBody sLW) "call" q (TWord XE) := by
  intro f c' s H Q tl act hc h
  have nd := scLW.nd
  have g0 : X.mg "NoHouse" = some (.ref (XE.cl 0)) := XE.g 0 (by decide)
  have g1 : X.mg "NoNumber" = some (.ref (XE.cl 1)) := XE.g 1 (by decide)
  have g2 : X.mg "TooMany" = some (.ref (XE.cl 2)) := XE.g 2 (by decide)
  have GI : FnE X.prog X.w X.K X.mg X.base 1 fI dI ["told", "due"] spIsE := ok_isE DI B
  have hr : Room 1 (X.A.deeper (PyProof.Rows.envOfC "_law_word" (defScope sLW) s.heap.objs.size g cdg)) := hr0.deeper _
  refine ⟨_, pss_cons (ps_set (i := 1) nd rfl (.inl rfl) pe_str)
    (pss_cons (ps_try_as (X := (cxOf C8.CX0 X.prog X.w X.K X.mg X.base ["call", "word", "error", "flags"] "_law_word" (defScope sLW) g cdg X.A X.stack s H C8.E0).nox) (i := 2) (c := .ref CE) (Wout := fun _ _ _ _ => False)
      (tb := fun W D σ H => ∃ Ech : XK, (∀ cls d σ' H', Ech cls d H' → W cls d σ' H') ∧ σ[0]? = some (some (.ref f)) ∧ H c' = some (LamX.CodeO c' q) ∧ tl Ech H (fun _ H' => D.nx σ H'))
      (ts := fun a cls d => tW XE a cls d) rfl rfl nd rfl rfl ⟨rfl, by decide, .inl XE.gE⟩ LamX.takes0
      (fun W pn xe tk _ => ?_) (fun a oe cls d pn zc zf => ?_)) (pss_one (ps_ret (pv 1)))), ?_⟩
  · refine ⟨fun pins s' σ H' D I h' => ?_⟩
    obtain ⟨Ech, hW, h1, h2, h3⟩ := h'
    exact (pss_one (ps_expr (act W pn xe Ech _ _ tk hW))).run pins s' σ H' D I ⟨h1, h2, h3⟩
  · refine pss_by fun pins s' σ H' D I h' => ?_
    obtain ⟨i, x0, x1, x3, rfl, ⟨hi, rfl, n2, y2⟩, k⟩ := h' I.len
    refine ⟨_, pss_cons (ps_set (i := 3) nd rfl (.inl rfl) (pe_lst (pa_cons (pe_callB (call_isX (XE.e i hi) (XE.c i hi) zc zf) (by rfl) B.isinstance PyProof.Rows.boot_isinstance (pa_cons (pv 2) (pa_cons (pe_glob (v := .ref (XE.cl 0)) rfl g0 rfl) pa_nil))) (pa_cons (pe_callB (call_isX (XE.e i hi) (XE.c i hi) zc zf) (by rfl) B.isinstance PyProof.Rows.boot_isinstance (pa_cons (pv 2) (pa_cons (pe_glob (v := .ref (XE.cl 1)) rfl g1 rfl) pa_nil))) (pa_cons (pe_callB (call_isX (XE.e i hi) (XE.c i hi) zc zf) (by rfl) B.isinstance PyProof.Rows.boot_isinstance (pa_cons (pv 2) (pa_cons (pe_glob (v := .ref (XE.cl 2)) rfl g2 rfl) pa_nil))) pa_nil)))))
      (pss_cons (ps_set (i := 1) nd rfl (.inl rfl) pe_str)
      (pss_cons (ps_if (PW.pt (pw_and (pt_cmpR op_eq (pe_bm PySem.F.plainAttrs_list PySem.F.slot_list_count PySem.F.type_list_count mt_cntF (pv 3) (pa_cons pe_bl pa_nil)) pe_int (nomark _)) (pw_and1 (pt_val (pe_callB (call_isX (XE.e i hi) (XE.c i hi) zc zf) (by rfl) B.isinstance PyProof.Rows.boot_isinstance (pa_cons (pv 2) (pa_cons (pe_bltn (v := .ty "ValueError") rfl XE.noV (by decide +kernel) rfl) pa_nil)))))))
          (pss_one (ps_set (i := 1) nd rfl (.inl rfl) (pe_ix ix_list (pe_lst (pa_cons pe_str (pa_cons pe_str (pa_cons pe_str pa_nil)))) (pe_bm PySem.F.plainAttrs_list PySem.F.slot_list_index PySem.F.type_list_index mt_index (pv 3) (pa_cons pe_bl pa_nil)) (fun _ _ => rfl)))) pss_nil)
      (pss_one (ps_if (PW.pt (pw_and (pt_cmpR op_eq (pv 1) pe_str (nomark _)) (pw_and1 (pt_not (pt_val (pe_callE GI hr zc zf rfl DI.m DI.k DI.b (pa_cons (pe_xf TM.xf TM.no zc zf (pv 2)) (pa_cons pe_int pa_nil))))))))
          pss_never pss_nil)))), ?_⟩
    have hd : ∀ dd, d = some dd → ∃ fs, H' dd = some (.xd fs) := fun dd z => by
      rcases (by omega : i = 0 ∨ i = 1 ∨ i = 2) with rfl | rfl | rfl
      · rw [n2 (by decide)] at z
        cases z
      · rw [n2 (by decide)] at z
        cases z
      · obtain ⟨dd', e1, e2⟩ := y2 rfl
        rw [e1] at z
        cases z
        exact ⟨_, e2⟩
    refine ⟨_, rfl, rfl, hd, .ref (XE.cl 0), .ref (XE.cl 0), _, rfl, fun u hu => hu, XE.k i 0 hi (by decide), ?_⟩
    refine ⟨_, rfl, rfl, hd, .ref (XE.cl 1), .ref (XE.cl 1), _, rfl, fun u hu => hu, XE.k i 1 hi (by decide), ?_⟩
    refine ⟨_, rfl, rfl, hd, .ref (XE.cl 2), .ref (XE.cl 2), _, rfl, fun u hu => hu, XE.k i 2 hi (by decide), ?_⟩
    refine ⟨(by show 3 ≤ sizeLine; decide), fun l1 h1 => ?_⟩
    have s1 := sN (o := .lst [.bl (decide (i = 0)), .bl (decide (i = 1)), .bl (decide (i = 2))]) h1
    have e1 : (upd H' l1 (.lst [.bl (decide (i = 0)), .bl (decide (i = 1)), .bl (decide (i = 2))])) l1 = some (.lst [.bl (decide (i = 0)), .bl (decide (i = 1)), .bl (decide (i = 2))]) := upd_same
    revert s1 e1
    generalize (upd H' l1 (.lst [.bl (decide (i = 0)), .bl (decide (i = 1)), .bl (decide (i = 2))])) = H1
    intro s1 e1
    have cnt : (([.bl (decide (i = 0)), .bl (decide (i = 1)), .bl (decide (i = 2))] : List V).countP fun z => eqV z (.bl true)) = 1 := by
      rcases (by omega : i = 0 ∨ i = 1 ∨ i = 2) with rfl | rfl | rfl <;> rfl
    have hd1 : ∀ dd, d = some dd → ∃ fs, H1 dd = some (.xd fs) := fun dd z => by
      obtain ⟨fs, e⟩ := hd dd z
      exact ⟨fs, s1 _ _ e⟩
    refine ⟨_, rfl, .inl ⟨rfl, _, SqL.of e1⟩, l1, _, .bl true, rfl, rfl, SqL.of e1, rfl, rfl, rfl, _, rfl, ?_⟩
    rw [cnt]
    refine iteT ?_
    refine ⟨_, rfl, rfl, hd1, .ty "ValueError", .type "ValueError", true, rfl, fun u hu => hu, XE.v i hi, _, rfl, iteT ?_⟩
    refine ⟨(by show 3 ≤ sizeLine; decide), fun l4 h4 => ?_⟩
    have s4 := sN (o := .lst [.str "house", .str "number", .str "many"]) h4
    have e5 := s4 _ _ e1
    have e4 : (upd H1 l4 (.lst [.str "house", .str "number", .str "many"])) l4 = some (.lst [.str "house", .str "number", .str "many"]) := upd_same
    revert s4 e5 e4
    generalize (upd H1 l4 (.lst [.str "house", .str "number", .str "many"])) = H4
    intro s4 e5 e4
    have S4 := sT s1 s4
    refine ⟨_, rfl, .inl ⟨rfl, _, SqL.of e5⟩, l1, _, .bl true, i, .bl true, rfl, rfl, SqL.of e5, rfl, rfl, ?_, rfl, ?_, l4, _, (i : Int), .str (wdC i), rfl, rfl, SqL.of e4, atI_nat ?_, ?_⟩
    · rcases (by omega : i = 0 ∨ i = 1 ∨ i = 2) with rfl | rfl | rfl <;> rfl
    · intro m z' hm hz
      rcases (by omega : i = 0 ∨ i = 1 ∨ i = 2) with rfl | rfl | rfl <;>
        rcases (by omega : m = 0 ∨ m = 1) with rfl | rfl <;> first | omega | (cases hz; rfl)
    · rcases (by omega : i = 0 ∨ i = 1 ∨ i = 2) with rfl | rfl | rfl <;> rfl
    refine ⟨_, rfl, rfl, _, rfl, ?_⟩
    rcases (by omega : i = 0 ∨ i = 1 ∨ i = 2) with rfl | rfl | rfl
    · exact iteF (iteF (k _ _ S4))
    · exact iteF (iteF (k _ _ S4))
    · obtain ⟨dd, rfl, edd⟩ := y2 rfl
      refine iteT ⟨_, rfl, rfl, rfl, dd, _, _, rfl, S4 _ _ edd, most_look _, 8, rfl, fun H5 s5 => ⟨_, rfl, iteF ?_⟩⟩
      exact k _ _ (sT S4 s5)
  · refine ⟨fun cls d H' => ∀ σ', wAs X.K (.ref CE) 2 (fun a cls d => tW XE a cls d) (fun _ _ _ _ => False) _ cls d σ' H', fun cls d σ' H' z => z σ', rfl, hc, h _ _ (fun cls d H' i er k => ?_) (fun v H' z => ⟨_, rfl, z⟩)⟩
    intro σ'
    refine ⟨true, ?_, fun _ a _ hlen => ?_, fun z => nomatch z⟩
    · obtain ⟨hi, rfl, _⟩ := er
      exact XE.ex i hi
    · rw [List.length_set] at hlen
      match σ', hlen with
      | [x0, x1, x2, x3], _ => exact ⟨i, x0, x1, x3, rfl, er, fun H2 y3 s => ⟨_, rfl, k H2 s⟩⟩
end
end Q

/-! what stands while lambdas are made; the law's places -/
namespace Q
open PySem L2 QM
/-- what stood stands; lists and tables of code may have become others -/
def GrowT (H H' : Hp) : Prop := ∀ a o, H a = some o → (∀ ps, o ≠ .tbl ps) → H' a = some o ∨ ∃ xs ys, o = .lst xs ∧ H' a = some (.lst ys)
theorem GrowT.of {H H' : Hp} (g : Grow H H') : GrowT H H' := fun a o e _ => g a o e
theorem GrowT.extN {H H' : Hp} (x : LamX.ExtN H H') : GrowT H H' := fun a o e n => .inl (x a o e n)
theorem GrowT.tup {H H' : Hp} (g : GrowT H H') {a : Addr} {xs : List V} (e : H a = some (.tup xs)) : H' a = some (.tup xs) := by
  rcases g a _ e (fun _ z => by cases z) with e1 | ⟨_, _, z, _⟩
  · exact e1
  · cases z
theorem GrowT.ins {H H' : Hp} (g : GrowT H H') {a C dx : Addr} {fs : List (Str × V)} (e : H a = some (.ins C dx fs)) : H' a = some (.ins C dx fs) := by
  rcases g a _ e (fun _ z => by cases z) with e1 | ⟨_, _, z, _⟩
  · exact e1
  · cases z
theorem Kd.growT {H H' : Hp} {v : V} (h : Kd H v) (g : GrowT H H') : Kd H' v := by
  cases h with
  | int i => exact .int i
  | non => exact .non
  | bl b => exact .bl b
  | str z => exact .str z
  | tup e => exact .tup (g.tup e)
  | lst e =>
    rcases g _ _ e (fun _ z => by cases z) with e1 | ⟨_, _, _, e1⟩
    · exact .lst e1
    · exact .lst e1
  | dk e =>
    rcases g _ _ e (fun _ z => by cases z) with e1 | ⟨_, _, z, _⟩
    · exact .dk e1
    · cases z
theorem Kd.notT {H : Hp} {a : Addr} {o : HO} (h : Kd H (.ref a)) (e : H a = some o) : ∀ ps, o ≠ .tbl ps := fun ps z => by
  subst z
  cases h with
  | tup e1 => rw [e] at e1; cases e1
  | lst e1 => rw [e] at e1; cases e1
  | dk e1 => rw [e] at e1; cases e1
theorem Kt.growT {H H' : Hp} (g : GrowT H H') : ∀ {n : Nat} {v : V}, Kt H n v → Kt H' n v
  | 0, _, _ => trivial
  | n + 1, v, h => ⟨⟨h.1.1.growT g, h.1.2⟩, fun a xs e1 e2 => by
    subst e1
    obtain ⟨o, eo⟩ := h.1.1.at_
    rcases g a o eo (h.1.1.notT eo) with e3 | ⟨_, _, _, e3⟩
    · rw [e2] at e3
      cases e3
      obtain ⟨h1, h2⟩ := h.2 a xs rfl eo
      exact ⟨h1, fun x hx => (h2 x hx).growT g⟩
    · rw [e2] at e3
      cases e3⟩
theorem Wh.growT {H H' : Hp} {v : V} (h : Wh H v) (g : GrowT H H') : Wh H' v := fun n => (h n).growT g
theorem TS.growT {H H' : Hp} {W : List Str} {c : Int} (g : GrowT H H') : ∀ {n : Nat} {v : V} {k : Nat}, TS H W c n v k → TS H' W c n v k
  | 0, _, _, h => h.elim
  | n + 1, v, k, ⟨ks, ⟨a, s, r, e1, e2, h⟩, szs, p, e⟩ => ⟨ks, ⟨a, s, r, e1, g.tup e2, h⟩, szs, paired_mono (fun x k _ h => h.growT g) p, e⟩
theorem Right.growT {H H' : Hp} {W : List Str} {c : Int} {v : V} (h : Right H W c v) (g : GrowT H H') : Right H' W c v := let ⟨k, h, l⟩ := h; ⟨k, h.growT g, l⟩
theorem WebQ.growT {C : Addr} {M : Nat} {H H' : Hp} {w q : Addr} {L : List (Addr × List Int)} (h : WebQ C M H w q L) (g : GrowT H H') : WebQ C M H' w q L := by
  obtain ⟨dx, r, bs, nb, x, t⟩ := h
  exact ⟨dx, r, bs, nb, ⟨g.ins x.at_, ⟨g.tup x.rows.at_, x.rows.len, fun i a hi => g.tup (x.rows.row i a hi)⟩, x.asc, x.nb⟩, ⟨g.tup t.at_, fun u hu => g.tup (t.tup u hu), t.ok, t.asc, t.few, t.conn⟩⟩
theorem KpAt.growT {C CK : Addr} {M : Nat} {L : List (Addr × List Int)} {par : Nat → Option Nat} {T : List (Addr × List Int)} {H H' : Hp} {x w q pa t : Addr} (h : KpAt C CK M L par T H x w q pa t) (g : GrowT H H') : KpAt C CK M L par T H' x w q pa t := by
  obtain ⟨dx, la, ch, ac, e, a, e1, e2⟩ := h.at_
  exact ⟨h.web.growT g, ⟨dx, la, ch, ac, g.ins e, a, e1, g.tup e2⟩, g.tup h.hpa, g.tup h.ht, fun p hp => g.tup (h.hts p hp), h.m1, h.m40⟩
theorem PgAt.growT {CP : Addr} {H H' : Hp} {x : Addr} {s t y n : V} (pg : PgAt CP H x s t y n) (g : GrowT H H') : PgAt CP H' x s t y n := by
  obtain ⟨dx, e⟩ := pg.at_
  obtain ⟨q, xs, q', ns, st, rt, ry, en, hn, ln, rn⟩ := pg.fine.ex
  exact ⟨⟨dx, g.ins e⟩, ⟨q, xs, q', ns, ⟨st.es, g.tup st.hq, st.l1, st.l4, fun x hx => (st.rs x hx).growT g⟩, rt.growT g, ry.growT g, en, g.tup hn, ln, fun x hx => (rn x hx).growT g⟩, ⟨pg.pre.s.growT g, pg.pre.t.growT g, pg.pre.y.growT g, pg.pre.n.growT g⟩⟩
theorem ChoAt.growT {f : Nat → Int} {L : List (Addr × List Int)} {m : Int} {H H' : Hp} {t : Addr} {T : List (Addr × List Int)} (h : ChoAt f L m H t T) (g : GrowT H H') : ChoAt f L m H' t T :=
  ⟨g.tup h.at_, fun p hp => g.tup (h.tup p hp), h.ok, h.asc, h.len, h.sub, h.crs, h.all, h.nd⟩
theorem HandAt.extN {H H' : Hp} {p l : Addr} (h : HandAt H p l) (x : LamX.ExtN H H') : HandAt H' p l := by
  obtain ⟨ns, i, r, s, c, hx⟩ := h
  exact ⟨ns, i, r, s, c, ⟨x _ _ hx.at_ (fun _ z => by cases z), x _ _ hx.lst (fun _ z => by cases z), hx.len, hx.r0, hx.s0, hx.s1⟩⟩
/-- tables stay tables where the hand moves on -/
theorem tabs_ext {T : List (Addr × Str)} {H H' : Hp} {p l : Addr} (t : LamX.Tabs T H) (g : HandAt H p l) (x : Ext p H H') : LamX.Tabs T H' := fun b hb => by
  obtain ⟨xs, e⟩ := g.hp
  obtain ⟨ps, h1, h2, h3⟩ := t b hb
  refine ⟨ps, x _ _ h1 (ne_of h1 e (fun z => by cases z)), h2, fun pos cv hc => ?_⟩
  obtain ⟨c, e1, e2⟩ := h3 pos cv hc
  exact ⟨c, e1, x _ _ e2 (ne_of e2 e (fun z => by cases z))⟩
/-- all that the law goes about with -/
structure LawS (C CK CP : Addr) (M : Nat) (L : List (Addr × List Int)) (par : Nat → Option Nat) (Tl : List (Addr × List Int)) (Tt : List (Addr × Str)) (H : Hp) (p l wt w q kp pa tt pt x : Addr) (s t y n : V) : Prop where
  hand : HandAt H p l
  tabs : LamX.Tabs Tt H
  hwt : H wt = some (.tup [.int (M : Int), .ref q])
  kp : KpAt C CK M L par Tl H kp w q pa tt
  cho : ChoAt (fun i => (LD par M i : Int)) L (M : Int) H tt Tl
  pg : PgAt CP H x s t y n
  hpt : H pt = some (.tup [s, t, y, n])
section
variable {C CK CP : Addr} {M : Nat} {L : List (Addr × List Int)} {par : Nat → Option Nat} {Tl : List (Addr × List Int)} {Tt : List (Addr × Str)} {H H' : Hp} {p l wt w q kp pa tt pt x : Addr} {s t y n : V}
theorem LawS.go (S : LawS C CK CP M L par Tl Tt H p l wt w q kp pa tt pt x s t y n) (g : GrowT H H') (h : HandAt H' p l) (ta : LamX.Tabs Tt H') : LawS C CK CP M L par Tl Tt H' p l wt w q kp pa tt pt x s t y n :=
  ⟨h, ta, g.tup S.hwt, S.kp.growT g, S.cho.growT g, S.pg.growT g, g.tup S.hpt⟩
theorem LawS.same (S : LawS C CK CP M L par Tl Tt H p l wt w q kp pa tt pt x s t y n) (z : Same H H') : LawS C CK CP M L par Tl Tt H' p l wt w q kp pa tt pt x s t y n := S.go (.of (.of_same z)) (S.hand.same z) (S.tabs.ext z)
theorem LawS.ext (S : LawS C CK CP M L par Tl Tt H p l wt w q kp pa tt pt x s t y n) (h : HandAt H' p l) (z : Ext p H H') : LawS C CK CP M L par Tl Tt H' p l wt w q kp pa tt pt x s t y n := S.go (.of (.of_ext S.hand h z)) h (tabs_ext S.tabs S.hand z)
theorem LawS.lam (S : LawS C CK CP M L par Tl Tt H p l wt w q kp pa tt pt x s t y n) (z : LamX.ExtN H H') (ta : LamX.Tabs Tt H') : LawS C CK CP M L par Tl Tt H' p l wt w q kp pa tt pt x s t y n := S.go (.extN z) (S.hand.extN z) ta
end
/-- what a Keeper is made of, of a web that stands -/
theorem keep_in {C : Addr} {M : Nat} {H : Hp} {w q pa t : Addr} {L T : List (Addr × List Int)} {par : Nat → Option Nat} {rk : Nat → Nat} (h : WebQ C M H w q L) (hpa : H pa = some (.tup (pVs M par))) (pg : ParG M par rk L) (cho : ChoAt (fun i => (LD par M i : Int)) L (M : Int) H t T) (m1 : 1 ≤ M) (m40 : M ≤ 40) : KeepIn C M H w pa t L T par := by
  obtain ⟨dx, r, bs, nb, wi, tt⟩ := h
  have TT : TL (M : Int) L := ⟨tt.ok, tt.conn, by omega, by omega⟩
  have hn : NbOf L M nb := by
    have := wi.nb
    rwa [Int.toNat_natCast] at this
  exact ⟨⟨dx, q, r, bs, nb, rk, wi, tt, pg.1, fun v u hv e => (nbg_of TT hn v hv u).mpr ⟨u, rfl, pg.2 v u hv e⟩⟩, hpa, cho, m1, m40⟩
/-- a promise at a lower level -/
theorem fn_lv {P : Program} {w : World} {K : PySem.W.Frag} {mg : Str → Option Value} {base : Heap} {CX : CXT} {k k' : Nat} {f : Addr} {fd : FuncData} {ps : List Str} {sp : Sp} (F : FnOk P w K mg base CX k f fd ps sp) (l : k ≤ k') : FnOk P w K mg base CX k' f fd ps sp :=
  ⟨F.len, fun A outer s H args us vs Q E hr he hb hv hs => F.run A outer s H args us vs Q E (hr.mono l) he hb hv hs⟩
end Q

/-! what comes of the three calls -/
namespace Q
open PySem L2 QM
/-- gamma, told or refused -/
def spGX (C CK CN : Addr) : Sp := fun vs H Q E => spGamma C CK vs H Q E ∨ spGammaN C CN vs H Q E
theorem GrowT.same {H H1 H2 : Hp} (g : GrowT H H1) (s : Same H1 H2) : GrowT H H2 := fun a o e n => by
  rcases g a o e n with e1 | ⟨xs, ys, z, e1⟩
  · exact .inl (s _ _ e1)
  · exact .inr ⟨xs, ys, z, s _ _ e1⟩
section
variable {K : PySem.W.Frag} {mg : Str → Option Value} {C CK CP CO CE : Addr} {M : Nat} {L : List (Addr × List Int)} {par : Nat → Option Nat} {Tl : List (Addr × List Int)} {Tt : List (Addr × Str)} {H : Hp} {p l wt w q kp pa tt pt x : Addr} {s t y n v : V}
theorem word_gamma {XE : CErr K mg CE} {tl : XK → Hp → VK → Prop} {Rest : VK} (htl : ∀ E H' Q', spGX C CK (XE.cl 1) [.ref w, v] H' Q' E → tl E H' Q') (S : LawS C CK CP M L par Tl Tt H p l wt w q kp pa tt pt x s t y n) (kd : Kd H v)
    (h : ∀ (H' : Hp) (b : Bool), LawS C CK CP M L par Tl Tt H' p l wt w q kp pa tt pt x s t y n → GrowT H H' → (b = true ↔ ∃ i : Int, v = .int i ∧ 2 ≤ i ∧ i ≤ 8) → Rest (.str (if b = true then "let" else "number")) H') : ∀ H1, LamX.ExtN H H1 → LamX.Tabs Tt H1 → TWord XE tl H1 Rest := by
  intro H1 eN T1 E' Q' hE hQ
  have S1 := S.lam eN T1
  have k1 := kd.growT (.extN eN)
  refine htl _ _ _ ?_
  by_cases c : ∃ i : Int, v = .int i ∧ 2 ≤ i ∧ i ≤ 8
  · obtain ⟨i, rfl, i2, i8⟩ := id c
    obtain ⟨kk, rfl⟩ : ∃ kk : Nat, i = (kk : Int) := ⟨i.toNat, by omega⟩
    refine .inl ⟨w, q, M, kk, L, rfl, S1.kp.web, S1.kp.m1, S1.kp.m40, by omega, by omega, fun x' dx' pa' t' T' par' j la ch ac H2 s2 _ _ _ _ _ => hQ _ _ ?_⟩
    exact h H2 true (S1.same s2) ((GrowT.extN eN).same s2) ⟨fun _ => c, fun _ => rfl⟩
  · refine .inr ⟨w, q, M, L, v, rfl, S1.kp.web, k1, fun i e z => c ⟨i, e, z⟩, fun H2 s2 => hE _ _ _ 1 ⟨by decide, rfl, fun _ => rfl, fun z => absurd z (by decide)⟩ fun H3 s3 => ?_⟩
    have s23 := sT s2 s3
    exact h H3 false (S1.same s23) ((GrowT.extN eN).same s23) ⟨(fun z => nomatch z), fun z => absurd z c⟩
theorem word_leader {XE : CErr K mg CE} {tl : XK → Hp → VK → Prop} {Rest : VK} (htl : ∀ E H' Q', spLdX C CK (XE.cl 0) [.ref kp, v] H' Q' E → tl E H' Q') (S : LawS C CK CP M L par Tl Tt H p l wt w q kp pa tt pt x s t y n) (kd : Kd H v)
    (h : ∀ (H' : Hp) (b : Bool), LawS C CK CP M L par Tl Tt H' p l wt w q kp pa tt pt x s t y n → GrowT H H' → (b = true ↔ ∃ i : Int, v = .int i ∧ 0 ≤ i ∧ i < (M : Int)) → Rest (.str (if b = true then "let" else "house")) H') : ∀ H1, LamX.ExtN H H1 → LamX.Tabs Tt H1 → TWord XE tl H1 Rest := by
  intro H1 eN T1 E' Q' hE hQ
  have S1 := S.lam eN T1
  have k1 := kd.growT (.extN eN)
  refine htl _ _ _ ⟨kp, w, q, pa, tt, M, L, par, Tl, v, rfl, S1.kp, k1, fun c u H2 s2 => hQ _ _ ?_, fun no H2 s2 => hE _ _ _ 0 ⟨by decide, rfl, fun _ => rfl, fun z => absurd z (by decide)⟩ fun H3 s3 => ?_⟩
  · exact h H2 true (S1.same s2) ((GrowT.extN eN).same s2) ⟨fun _ => c, fun _ => rfl⟩
  · have s23 := sT s2 s3
    exact h H3 false (S1.same s23) ((GrowT.extN eN).same s23) ⟨(fun z => nomatch z), fun ⟨i, e, z⟩ => absurd z (no i e)⟩
/-- the word that is due for a course -/
def dueC (M : Nat) (b : Bool) : Str := if 8 < M then "many" else if b = true then "let" else "number"
theorem word_course {XE : CErr K mg CE} {tl : XK → Hp → VK → Prop} {Rest : VK} (htl : ∀ E H' Q', (∀ a da, H' a = none → H' da = none → da ≠ a → spCrs C CK CP CO (XE.cl 1) (XE.cl 2) [.ref a, .ref x, .ref kp, v] (upd (upd H' da (.own a)) a (.ins CO da [])) (fun u H2 => u = .non ∧ Q' (.ref a) H2) E) → tl E H' Q') (S : LawS C CK CP M L par Tl Tt H p l wt w q kp pa tt pt x s t y n) (kd : Kd H v)
    (h : ∀ (H' : Hp) (b : Bool), LawS C CK CP M L par Tl Tt H' p l wt w q kp pa tt pt x s t y n → GrowT H H' → (b = true ↔ ∃ i : Int, v = .int i ∧ 0 ≤ i ∧ i ≤ 40) → Rest (.str (dueC M b)) H') : ∀ H1, LamX.ExtN H H1 → LamX.Tabs Tt H1 → TWord XE tl H1 Rest := by
  intro H1 eN T1 E' Q' hE hQ
  have S1 := S.lam eN T1
  have k1 := kd.growT (.extN eN)
  have gr := GrowT.extN eN
  refine htl _ _ _ fun a da na nda nad => ?_
  have sx : Same H1 (upd (upd H1 da (.own a)) a (.ins CO da [])) := sNew (sNew (fun _ _ e => e) nda) na
  refine ⟨a, da, x, kp, w, q, pa, tt, M, L, par, Tl, s, t, y, n, v, H1, rfl, na, sx, upd_same, S1.kp, S1.pg, k1, fun m8 d H2 ed s2 => ?_, fun m8 no H2 s2 => ?_, fun m8 i e i0 i40 lk H2 _ s2 => ⟨rfl, hQ _ _ ?_⟩⟩
  · refine hE _ _ _ 2 ⟨by decide, rfl, fun z => absurd z (by decide), fun _ => ⟨d, rfl, ed⟩⟩ fun H3 s3 => ?_
    have s23 := sT sx (sT s2 s3)
    by_cases c : ∃ i : Int, v = .int i ∧ 0 ≤ i ∧ i ≤ 40
    · have z := h H3 true (S1.same s23) (gr.same s23) ⟨fun _ => c, fun _ => rfl⟩
      unfold dueC at z
      rw [if_pos m8] at z
      exact z
    · have z := h H3 false (S1.same s23) (gr.same s23) ⟨(fun z => nomatch z), fun z => absurd z c⟩
      unfold dueC at z
      rw [if_pos m8] at z
      exact z
  · refine hE _ _ _ 1 ⟨by decide, rfl, fun _ => rfl, fun z => absurd z (by decide)⟩ fun H3 s3 => ?_
    have s23 := sT sx (sT s2 s3)
    have z := h H3 false (S1.same s23) (gr.same s23) ⟨(fun z => nomatch z), fun ⟨i, e, z⟩ => absurd z (no i e)⟩
    unfold dueC at z
    rw [if_neg (by omega), if_neg (by decide)] at z
    exact z
  · have z := h H2 true (S1.same s2) (gr.same s2) ⟨fun _ => ⟨i, e, i0, i40⟩, fun _ => rfl⟩
    unfold dueC at z
    rw [if_neg (by omega), if_pos rfl] at z
    exact z
/-- a course, made -/
theorem made_course {CN CT k1 x1 w1 q1 pa1 tt1 : Addr} {E : XK} {Rest : Addr → Hp → Prop} {i : Int} (kp : KpAt C CK M L par Tl H k1 w1 q1 pa1 tt1) (pg : PgAt CP H x1 s t y n) (m8 : M ≤ 8) (i0 : 0 ≤ i) (i40 : i ≤ 40) (h : ∀ a da lk H', Same H H' → H' a = some (.ins CO da (cf (.ref x1) (.ref k1) (.int i) lk)) → Rest a H') :
    ∀ a da, H a = none → H da = none → da ≠ a → spCrs C CK CP CO CN CT [.ref a, .ref x1, .ref k1, .int i] (upd (upd H da (.own a)) a (.ins CO da [])) (fun u H2 => u = .non ∧ Rest a H2) E := by
  intro a da na nda nad
  have sx : Same H (upd (upd H da (.own a)) a (.ins CO da [])) := sNew (sNew (fun _ _ e => e) nda) na
  exact ⟨a, da, x1, k1, w1, q1, pa1, tt1, M, L, par, Tl, s, t, y, n, .int i, H, rfl, na, sx, upd_same, kp, pg, .int i, fun m _ _ _ _ => absurd m (by omega), fun _ no _ _ => absurd ⟨i0, i40⟩ (no i rfl), fun _ j e _ _ lk H2 ea s2 => ⟨rfl, by cases e; exact h a da lk H2 s2 ea⟩⟩
theorem eqp_two {x2 : Addr} {E : XK} {Rest : VK} (pg : PgAt CP H x s t y n) (pg2 : PgAt CP H x2 s t y n) (h : Rest (.bl true) H) : spEqP K CP [.ref x, .ref x2] H (fun v H' => (∃ c, v = .bl c) ∧ Rest v H') E := by
  obtain ⟨dx, ex⟩ := pg.at_
  obtain ⟨dx2, ex2⟩ := pg2.at_
  obtain ⟨d1, d2, d3, d4, a1, a2, a3, a4⟩ := fine_dat (K := K) pg.fine
  have eT : (PyData.eqv d1 d1 && (PyData.eqv d2 d2 && (PyData.eqv d3 d3 && PyData.eqv d4 d4))) = true := by
    rw [a1.2.2.2, a2.2.2.2, a3.2.2.2, a4.2.2.2]
    rfl
  refine ⟨x, dx, s, t, y, n, _, rfl, ex, .inl ⟨x2, dx2, s, t, y, n, d1, d2, d3, d4, d1, d2, d3, d4, rfl, ex2, a1, a2, a3, a4, a1, a2, a3, a4, ⟨_, rfl⟩, ?_⟩⟩
  rw [eT]
  exact h
theorem eqk_two {k2 : Addr} {E : XK} {Rest : VK} (kp1 : KpAt C CK M L par Tl H kp w q pa tt) (kp2 : KpAt C CK M L par Tl H k2 w q pa tt) (h : Rest (.bl true) H) : spEqK C CK [.ref kp, .ref k2] H (fun v H' => (∃ c, v = .bl c) ∧ Rest v H') E := by
  obtain ⟨dk, la, ch, ac, ek, _⟩ := kp1.at_
  obtain ⟨dk2, la2, ch2, ac2, ek2, _⟩ := kp2.at_
  exact ⟨kp, dk, k2, dk2, w, q, pa, pa, tt, tt, M, L, Tl, Tl, par, la, ch, ac, la2, ch2, ac2, rfl, ek, ek2, kp1.web, kp1.hpa, kp1.hpa, kp1.ht, kp1.hts, kp1.ht, kp1.hts, rfl, ⟨_, rfl⟩, h⟩
end
end Q

/-! the law -/
namespace Q
open PySem L2 QM
abbrev sLaw : Stmt := top 97
def lamQ : Str := (("law" : Str) ++ ".<locals>.") ++ "<lambda>"
def spLaw (K : PySem.W.Frag) (Pt : Addr) : Sp := fun vs H Q _ => ∃ (a : Addr) (ns : List Int), vs = [.ref a] ∧ SqL K H a (ns.map V.int) ∧ ns.length ≤ 63 ∧ LamX.Tabs [(Pt, lamQ)] H ∧ ∀ H', Q (.bl true) H'
/-- the law's own defs -/
structure LDefs (K : PySem.W.Frag) (mg : Str → Option Value) where
  fH : Addr
  dH : FuncData
  DH : Df K mg "_law_hand" sHand ["script"] fH dH
  fWb : Addr
  dWb : FuncData
  DWb : Df K mg "_law_web" sLWeb ["hand", "most"] fWb dWb
  fK : Addr
  dK : FuncData
  DK : Df K mg "_law_keeper" sLKeep ["hand", "web"] fK dK
  fP : Addr
  dP : FuncData
  DP : Df K mg "_law_program" sPR ["hand"] fP dP
  fE : Addr
  dE : FuncData
  DE : Df K mg "_law_expression" sEX ["hand", "words", "cells", "left"] fE dE
  fS : Addr
  dS : FuncData
  DS : Df K mg "_law_small_number" sSN ["hand"] fS dS
  fW : Addr
  dW : FuncData
  DW : Df K mg "_law_word" sLW ["call"] fW dW
  fN : Addr
  dN : FuncData
  DN : Df K mg "_law_none" sNone ["hand", "least", "most"] fN dN
  fNu : Addr
  dNu : FuncData
  DNu : Df K mg "_law_number" sLNum ["thing", "least", "most"] fNu dNu
  fDe : Addr
  dDe : FuncData
  DDe : Df K mg "_law_deep" sDeep ["hand"] fDe dDe
  fI : Addr
  dI : FuncData
  DI : Df K mg "_law_is" sIs ["told", "due"] fI dI
  fG : Addr
  dG : FuncData
  DG : Df K mg "gamma" sGamma ["web", "k"] fG dG
  fL : Addr
  dL : FuncData
  DL : Df K mg "leader_of" sLdOf ["keeper", "house"] fL dL
  fIK : Addr
  dIK : FuncData
  DIK : Df K mg "is_keeper" sIsK ["web", "thing"] fIK dIK
  fLs : Addr
  dLs : FuncData
  DLs : Df K mg "lockstep" sLk ["web", "program", "rounds"] fLs dLs
section
variable {P : Program} {w : World} {K : PySem.W.Frag} {mg : Str → Option Value} {base : Heap}
theorem fn_law {k : Nat} {f : Addr} {name qual : Str} {params : Arguments} {body : List Stmt} {scope : Scope} {dV kV doc pm cdv ct oc : Value} {an od : Option Addr} {osl : Array (Option Value)} {N ps : List Str} {sp : Sp} (lk : K.lookup f = some ⟨oc, od, .func (PySem.W.fnOf name qual params body scope dV kV doc pm an cdv ct), osl⟩) (hcd : PySem.W.codeIn K cdv qual = true) (S : FnScope N ps scope)
    (len : ∀ vs H Q E, sp vs H Q E → vs.length = ps.length)
    (hb : ∀ (A : Around) (outer : List Env) (s : Shared) (H : Hp) (vs : List V) (Q : VK) (E : XK), Room k (A.deeper (PyProof.Rows.envOfC qual scope s.heap.objs.size f cdv)) → sp vs H Q E → ∃ t, PSs (cxOf CX0 P w K mg base N qual scope f cdv A outer s H E).nox body t ∧ t { nx := fun _ H' => Q .non H', rt := Q } (L2.start N vs) H) :
    FnOk P w K mg base CX0 (k + 1) f (PySem.W.fnOf name qual params body scope dV kV doc pm an cdv ct) ps sp := fn_of lk hcd S len fun A outer s H vs Q E hr hsp => by
  obtain ⟨t, h, q⟩ := hb A outer s H vs Q E hr hsp
  exact ⟨t, h.nox, q⟩
theorem scLaw : FnScope ["script", "hand", "web", "parents", "chosen", "parts", "turn", "due", "told", "other", "odd", "factor", "goal", "house", "keeper", "program", "told_web"] ["script"] (defScope sLaw) := ⟨rfl, rfl, rfl, by decide +kernel, rfl, by decide +kernel, by decide +kernel⟩
theorem ok_law {f c Pt C CK CP CO CE CB fM fK fP fO fB fT fH fN fE1 fE2 fE4 fE5 : Addr} {dM dK dP dO dB dT d1 d2 d4 d5 : FuncData} {oc dV kV doc pm ct : Value} {od an : Option Addr} {osl : Array (Option Value)}
    (B : Bts mg) (hz : mg "zip" = none) (ha : mg "all" = none) (hsum : mg "sum" = none) (O : Oth K w mg) (OT : OpsT P w K mg base) (hmo : ∃ t, mg "MOST_ON_COURSE" = some (.int 8 t)) (hmr : ∃ t, mg "MOST_ROUNDS" = some (.int 40 t))
    (T : WTxt K mg C) (MW : Mk K C fM) (FM : Fun K "__init__" "Web.__init__" sWeb fM dM) (bM : Binds K dM ["self", "many", "ties"] [])
    (TK : KTxt K mg CK) (MK : Mk K CK fK) (FK : Fun K "__init__" "Keeper.__init__" sKeep fK dK) (bK : Binds K dK ["self", "web", "parents", "chosen"] [])
    (TP : PTxt K mg CP) (MP : Mk K CP fP) (FP : Fun K "__init__" "Program.__init__" sProg fP dP) (bP : Binds K dP ["self", "starts", "to", "say", "nexts"] []) (PD : PDefs K mg) (BT : BTxt K mg CB fB dB)
    (TC : CTxt K mg CO) (MO : Mk K CO fO) (FO : Fun K "__init__" "Course.__init__" sCrs fO dO) (bO : Binds K dO ["self", "program", "keeper", "goal"] [])
    (E1 : EqC K "Web.__eq__" sEqW C fE1 d1) (E2 : EqC K "Keeper.__eq__" sEqK CK fE2 d2) (E4 : EqT K CP fE4 d4) (E5 : EqC K "Course.__eq__" sEqC CO fE5 d5) (NK : NotK K C CP CK)
    (XE : CErr K mg CE) (TM : MTxt K mg (XE.cl 2) fT dT) (XH : SupE P K mg (XE.cl 0) fH "NoHouse" "NoHouse.__init__") (XN : SupE P K mg (XE.cl 1) fN "NoNumber" "NoNumber.__init__")
    (D : WDefs K mg) (G : GDefs K mg) (R : RDefs K mg) (RN : RDefsN K mg) (KD : KDefs K mg) (N : NDefs K mg) (U : LDefs K mg)
    (lk : K.lookup f = some ⟨oc, od, .func (PySem.W.fnOf "law" "law" (defArgs sLaw) (defBody sLaw) (defScope sLaw) dV kV doc pm an (.ref c) ct), osl⟩) (hcd : PySem.W.codeIn K (.ref c) "law" = true) (TB : LamX.TabB base mg c Pt) :
    FnOk P w K mg base CX0 24 f (PySem.W.fnOf "law" "law" (defArgs sLaw) (defBody sLaw) (defScope sLaw) dV kV doc pm an (.ref c) ct) ["script"] (spLaw K Pt) := by
  have GH : FnOk P w K mg base CX0 1 U.fH U.dH ["script"] (spHand K) := ok_hand U.DH.F B
  have GD : FnOk P w K mg base CX0 1 N.fD N.dD ["hand", "many"] spDraw := ok_draw N.DD.F B
  have GLw : FnOk P w K mg base CX0 2 U.fWb U.dWb ["hand", "most"] spLWeb := ok_lweb U.DWb.F B N.DD
  have GM : FnOk P w K mg base CX0 5 fM dM ["self", "many", "ties"] (spWeb C) := ok_web FM B T D
  have GLk : FnOk P w K mg base CX0 4 U.fK U.dK ["hand", "web"] spLKeep := ok_lkeep U.DK.F B N
  have GK : FnOk P w K mg base CX0 6 fK dK ["self", "web", "parents", "chosen"] (spKeep C CK) := ok_keep FK B hz ha T TK D G
  have GPr : FnOk P w K mg base CX0 13 U.fP U.dP ["hand"] spPR := ok_pr U.DP B N.DD U.DS U.DE
  have GPg : FnOk P w K mg base (L2.CX P w) 6 fP dP ["self", "starts", "to", "say", "nexts"] (spProgX CP CB) := ok_progX FP B O TP PD BT
  have GNo : FnOk P w K mg base CX0 3 U.fN U.dN ["hand", "least", "most"] spNone := ok_none U.DN B N.DD U.DDe
  have GNu : FnOk P w K mg base CX0 1 U.fNu U.dNu ["thing", "least", "most"] spLNumG := ok_lnumG U.DNu.F B
  have GDe : FnOk P w K mg base CX0 2 U.fDe U.dDe ["hand"] spDeep := ok_deep U.DDe.F B N.DD
  have GI : FnOk P w K mg base CX0 2 U.fI U.dI ["told", "due"] (spIs 1) := ok_is U.DI B hz ha 1
  have GGm : FnOk P w K mg base CX0 8 U.fG U.dG ["web", "k"] (spGamma C CK) := ok_gamma U.DG.F B hz ha T TK D G R MK FK bK
  have GGx : FnOk P w K mg base (L2.CX P w) 8 U.fG U.dG ["web", "k"] (spGX C CK (XE.cl 1)) := fn_or (fn_up GGm) (fn_lv (ok_gammaN U.DG.F B D XN) (by decide))
  have GLd : FnOk P w K mg base (L2.CX P w) 3 U.fL U.dL ["keeper", "house"] (spLdX C CK (XE.cl 0)) := ok_ldX U.DL.F B T TK D XH
  have GLs : FnOk P w K mg base CX0 19 U.fLs U.dLs ["web", "program", "rounds"] (spLk C CP) := ok_lk U.DLs.F B hsum hmr T TP D RN OT KD
  have GCo : FnOk P w K mg base (L2.CX P w) 20 fO dO ["self", "program", "keeper", "goal"] (spCrs C CK CP CO (XE.cl 1) (XE.cl 2)) := ok_crs FO B hmo hmr T TK TC D TM XN U.DLs GLs
  have GIK : FnOk P w K mg base CX0 2 U.fIK U.dIK ["web", "thing"] (spIsKp C CP CK) := ok_iskp U.DIK.F B T TK TP E1 E2 E4 NK
  have GEP : FnOk P w K mg base CX0 1 fE4 d4 ["self", "other"] (spEqP K CP) := ok_eqp B TP E4
  have GEK : FnOk P w K mg base CX0 2 fE2 d2 ["self", "other"] (spEqK C CK) := ok_eqk B T TK E1 E2
  have GEC : FnOk P w K mg base CX0 3 fE5 d5 ["self", "other"] (spEqCr C CK CP CO) := ok_eqcr B T TK TP TC E1 E2 E4 E5
  obtain ⟨ocW, odW, kVW, docW, pmW, anW, cdW, ctW, oslW, eW, lkW, hcW⟩ := U.DW.F.ex
  have bW := U.DW.b
  rw [eW] at bW lkW
  refine fn_law lk hcd scLaw (fun vs H Q E h => ?_) (fun A outer s0 H vs Q E hr h => ?_)
  · obtain ⟨a, ns, rfl, _⟩ := h
    rfl
  · obtain ⟨a, ns, rfl, hS, hlen, tb0, k⟩ := h
    have nd := scLaw.nd
    have hr1 : Room 1 _ := hr.mono (by decide)
    have hr2 : Room 2 _ := hr.mono (by decide)
    have hr3 : Room 3 _ := hr.mono (by decide)
    have hr4 : Room 4 _ := hr.mono (by decide)
    have hr6 : Room 6 _ := hr.mono (by decide)
    have hr7 : Room 7 _ := hr.mono (by decide)
    have hr13 : Room 13 _ := hr.mono (by decide)
    have hr21 : Room 21 _ := hr.mono (by decide)
    refine ⟨_, pss_cons (ps_set (i := 1) nd rfl (.inl rfl) (pe_call GH hr1 rfl U.DH.m U.DH.k U.DH.b .nil pass0 (pa_cons (pv 0) pa_nil)))
        (pss_cons (ps_set (i := 2) nd rfl (.inl rfl) (pe_call GLw hr2 rfl U.DWb.m U.DWb.k U.DWb.b .nil pass0 (pa_cons (pv 1) (pa_cons pe_int pa_nil))))
        (pss_cons (ps_set (i := 16) nd rfl (.inr rfl) (pe_make MW GM hr6 rfl T.mgC bM .nil pass0 (pa_cons (pe_ix ix_tup (pv 2) pe_int (fun _ _ => rfl)) (pa_cons (pe_ix ix_tup (pv 2) pe_int (fun _ _ => rfl)) pa_nil))))
        (pss_cons (ps_asg (pe_call GLk hr4 rfl U.DK.m U.DK.k U.DK.b .nil pass0 (pa_cons (pv 1) (pa_cons (pv 2) pa_nil))) (pg_tup rfl (pgs_cons (pg_name (i := 3) nd rfl (.inl rfl)) (pgs_cons (pg_name (i := 4) nd rfl (.inl rfl)) pgs_nil))))
        (pss_cons (ps_set (i := 14) nd rfl (.inr rfl) (pe_make MK GK hr7 rfl TK.mgC bK .nil pass0 (pa_cons (pv 16) (pa_cons (pv 3) (pa_cons (pv 4) pa_nil)))))
        (pss_cons (ps_set (i := 5) nd rfl (.inl rfl) (pe_call GPr hr13 rfl U.DP.m U.DP.k U.DP.b .nil pass0 (pa_cons (pv 1) pa_nil)))
        (pss_cons (ps_set (i := 15) nd rfl (.inr rfl) (pe_makeS MP GPg hr7 rfl TP.mgC bP (fun σ pins H s e s' I h => passF pins σ H s e s' I h) (pa_cons (pe_ix ix_tup (pv 5) pe_int (fun _ _ => rfl)) (pa_cons (pe_ix ix_tup (pv 5) pe_int (fun _ _ => rfl)) (pa_cons (pe_ix ix_tup (pv 5) pe_int (fun _ _ => rfl)) (pa_cons (pe_ix ix_tup (pv 5) pe_int (fun _ _ => rfl)) pa_nil))))))
        (pss_cons (ps_for PassesOwn.never rfl (pi_range1 rfl B.range (pa_cons pe_int pa_nil)) (pg_name (i := 6) nd rfl (.inl rfl)) (pss_cons (ps_set (i := 11) nd rfl (.inr rfl) (pe_call GNo hr3 rfl U.DN.m U.DN.k U.DN.b .nil pass0 (pa_cons (pv 1) (pa_cons pe_int (pa_cons pe_int pa_nil)))))
        (pss_cons (ps_if (pt_cmpR op_ne (LamX.pe_lamcall (T := [(Pt, lamQ)]) (TT := TWord XE) (a := "call") (c := c) (P := Pt) (k := 21) (Ng := ["call", "word", "error", "flags"]) rfl U.DW.m U.DW.k lkW hcW bW scLW rfl (.inl rfl) (word_gives (X := (cxOf CX0 P w K mg base ["script", "hand", "web", "parents", "chosen", "parts", "turn", "due", "told", "other", "odd", "factor", "goal", "house", "keeper", "program", "told_web"] "law" (defScope sLaw) f (.ref c) A outer s0 H E).nox) B XE TM hr2 U.DI) TB rfl List.mem_cons_self (fun p hp _ => by rw [List.mem_singleton.mp hp]; rfl) hr (LamX.lamS_by (sc := defScope sLaw) (by decide +kernel)) rfl (fun _ _ _ _ _ => rfl) (fun A outer s H E f c' hr' => pe_call GGx (hr'.mono (by decide)) rfl U.DG.m U.DG.k U.DG.b .nil (passes_call (takes_of rfl rfl rfl rfl) fun _ _ _ _ h => h) (pa_cons (pv 16) (pa_cons (pv 11) pa_nil)))) (pe_ix ix_list (pe_lst (pa_cons pe_str (pa_cons pe_str pa_nil))) (pe_callTy call_int1 (by rfl) B.int PyProof.Rows.boot_int (pa_cons (pe_call GNu hr1 rfl U.DNu.m U.DNu.k U.DNu.b .nil pass0 (pa_cons (pv 11) (pa_cons pe_int (pa_cons pe_int pa_nil)))) pa_nil)) (fun _ _ => rfl)) (nomark _)) pss_never pss_nil)
        (pss_cons (ps_set (i := 13) nd rfl (.inr rfl) (pe_call GNo hr3 rfl U.DN.m U.DN.k U.DN.b .nil pass0 (pa_cons (pv 1) (pa_cons pe_int (pa_cons (pe_op op_sub (pe_ix ix_tup (pv 2) pe_int (fun _ _ => rfl)) pe_int) pa_nil)))))
        (pss_cons (ps_set (i := 7) nd rfl (.inl rfl) (pe_ix ix_list (pe_lst (pa_cons pe_str (pa_cons pe_str pa_nil))) (pe_callTy call_int1 (by rfl) B.int PyProof.Rows.boot_int (pa_cons (pe_call GNu hr1 rfl U.DNu.m U.DNu.k U.DNu.b .nil pass0 (pa_cons (pv 13) (pa_cons pe_int (pa_cons (pe_op op_sub (pe_ix ix_tup (pv 2) pe_int (fun _ _ => rfl)) pe_int) pa_nil)))) pa_nil)) (fun _ _ => rfl)))
        (pss_cons (ps_if (pt_cmpR op_ne (LamX.pe_lamcall (T := [(Pt, lamQ)]) (TT := TWord XE) (a := "call") (c := c) (P := Pt) (k := 21) (Ng := ["call", "word", "error", "flags"]) rfl U.DW.m U.DW.k lkW hcW bW scLW rfl (.inl rfl) (word_gives (X := (cxOf CX0 P w K mg base ["script", "hand", "web", "parents", "chosen", "parts", "turn", "due", "told", "other", "odd", "factor", "goal", "house", "keeper", "program", "told_web"] "law" (defScope sLaw) f (.ref c) A outer s0 H E).nox) B XE TM hr2 U.DI) TB rfl List.mem_cons_self (fun p hp _ => by rw [List.mem_singleton.mp hp]; rfl) hr (LamX.lamS_by (sc := defScope sLaw) (by decide +kernel)) rfl (fun _ _ _ _ _ => rfl) (fun A outer s H E f c' hr' => pe_call GLd (hr'.mono (by decide)) rfl U.DL.m U.DL.k U.DL.b .nil (passes_call (takes_of rfl rfl rfl rfl) fun _ _ _ _ h => h) (pa_cons (pv 14) (pa_cons (pv 13) pa_nil)))) (pv 7) (nomark _)) pss_never pss_nil)
        (pss_cons (ps_set (i := 12) nd rfl (.inr rfl) (pe_call GNo hr3 rfl U.DN.m U.DN.k U.DN.b .nil pass0 (pa_cons (pv 1) (pa_cons pe_int (pa_cons pe_int pa_nil)))))
        (pss_cons (ps_set (i := 7) nd rfl (.inl rfl) (pe_ix ix_list (pe_lst (pa_cons pe_str (pa_cons pe_str pa_nil))) (pe_callTy call_int1 (by rfl) B.int PyProof.Rows.boot_int (pa_cons (pe_call GNu hr1 rfl U.DNu.m U.DNu.k U.DNu.b .nil pass0 (pa_cons (pv 12) (pa_cons pe_int (pa_cons pe_int pa_nil)))) pa_nil)) (fun _ _ => rfl)))
        (C8.pss_cut (ps_if (pt_cmpR op_gt (pe_ix ix_tup (pv 2) pe_int (fun _ _ => rfl)) pe_int (nomark _)) (pss_one (ps_set (i := 7) nd rfl (.inl rfl) pe_str)) pss_nil)
        (pss_cons (ps_if (pt_cmpR op_ne (LamX.pe_lamcall (T := [(Pt, lamQ)]) (TT := TWord XE) (a := "call") (c := c) (P := Pt) (k := 21) (Ng := ["call", "word", "error", "flags"]) rfl U.DW.m U.DW.k lkW hcW bW scLW rfl (.inl rfl) (word_gives (X := (cxOf CX0 P w K mg base ["script", "hand", "web", "parents", "chosen", "parts", "turn", "due", "told", "other", "odd", "factor", "goal", "house", "keeper", "program", "told_web"] "law" (defScope sLaw) f (.ref c) A outer s0 H E).nox) B XE TM hr2 U.DI) TB rfl List.mem_cons_self (fun p hp _ => by rw [List.mem_singleton.mp hp]; rfl) hr (LamX.lamS_by (sc := defScope sLaw) (by decide +kernel)) rfl (fun _ _ _ _ _ => rfl) (fun A outer s H E f c' hr' => pe_makeS MO GCo hr' rfl TC.mgC bO (fun σ => passAt (takes_of rfl rfl rfl rfl) σ) (pa_cons (pv 15) (pa_cons (pv 14) (pa_cons (pv 12) pa_nil))))) (pv 7) (nomark _)) pss_never pss_nil)
        (pss_one (ps_if (pt_cmpR op_eq (pv 7) pe_str (nomark _)) (pss_cons (ps_set (i := 8) nd rfl (.inl rfl) (pe_makeS MO GCo hr21 rfl TC.mgC bO (fun σ pins H s e s' I h => passF pins σ H s e s' I h) (pa_cons (pv 15) (pa_cons (pv 14) (pa_cons (pv 12) pa_nil)))))
        (pss_cons (ps_set (i := 9) nd rfl (.inl rfl) (pe_makeS MO GCo hr21 rfl TC.mgC bO (fun σ pins H s e s' I h => passF pins σ H s e s' I h) (pa_cons (pe_makeS MP GPg hr7 rfl TP.mgC bP (fun σ pins H s e s' I h => passF pins σ H s e s' I h) (pa_cons (pe_ix ix_tup (pv 5) pe_int (fun _ _ => rfl)) (pa_cons (pe_ix ix_tup (pv 5) pe_int (fun _ _ => rfl)) (pa_cons (pe_ix ix_tup (pv 5) pe_int (fun _ _ => rfl)) (pa_cons (pe_ix ix_tup (pv 5) pe_int (fun _ _ => rfl)) pa_nil))))) (pa_cons (pe_make MK GK hr7 rfl TK.mgC bK .nil pass0 (pa_cons (pv 16) (pa_cons (pv 3) (pa_cons (pv 4) pa_nil)))) (pa_cons (pv 12) pa_nil)))))
        (pss_cons (ps_if (PW.pt (pw_or (pt_not (pt_cmpR (op_eqI GEC E5.find E5.fn E5.nf E5.b pass0 hr3) (pv 8) (pv 9) (nomark _))) (pw_or1 (PW.pt (pw_and (pt_cmpR (op_eqI GEC E5.find E5.fn E5.nf E5.b pass0 hr3) (pv 8) (pe_makeS MO GCo hr21 rfl TC.mgC bO (fun σ pins H s e s' I h => passF pins σ H s e s' I h) (pa_cons (pv 15) (pa_cons (pv 14) (pa_cons (pe_op op_sub pe_int (pe_callB (call_max2 rfl) (by rfl) B.max PyProof.Rows.boot_max (pa_cons pe_int (pa_cons (pv 12) pa_nil)))) pa_nil)))) (nomark _)) (pw_and1 (pt_cmpR op_ne (pv 12) (pe_op op_sub pe_int (pe_callB (call_max2 rfl) (by rfl) B.max PyProof.Rows.boot_max (pa_cons pe_int (pa_cons (pv 12) pa_nil)))) (nomark _)))))))) pss_never pss_nil)
        (pss_one (ps_if (PW.pt (pw_or (pt_not (PW.pt (pw_and (pt_cmpR (op_eqI GEP E4.find E4.fn E4.nf E4.b pass0 hr1) (pe_fld (pv 8) rfl) (pv 15) (nomark _)) (pw_and1 (pt_cmpR (op_eqI GEK E2.find E2.fn E2.nf E2.b pass0 hr2) (pe_fld (pv 8) rfl) (pv 14) (nomark _)))))) (pw_or1 (pt_not (pt_val (pe_call GI hr2 rfl U.DI.m U.DI.k U.DI.b .nil pass0 (pa_cons (pe_fld (pv 8) rfl) (pa_cons (pv 12) pa_nil)))))))) pss_never pss_nil))))) pss_nil))))))))))))
        (pss_cons (ps_set (i := 10) nd rfl (.inl rfl) (pe_ix ix_list (pe_lst (pa_cons pe_non (pa_cons pe_int (pa_cons (pv 3) (pa_cons (pe_tup (pa_cons (pv 3) (pa_cons (pv 4) pa_nil))) (pa_cons (pv 16) (pa_cons (pv 15) (pa_cons (pe_lst pa_nil) (pa_cons pe_dnewK (pa_cons (pe_call GDe hr2 rfl U.DDe.m U.DDe.k U.DDe.b .nil pass0 (pa_cons (pv 1) pa_nil)) pa_nil)))))))))) (pe_call GD hr1 rfl N.DD.m N.DD.k N.DD.b .nil pass0 (pa_cons (pv 1) (pa_cons pe_int pa_nil))) (fun _ _ => rfl)))
        (pss_one (ps_ret (pe_and (pe_cmpR op_is_bl (pe_call GIK hr2 rfl U.DIK.m U.DIK.k U.DIK.b .nil pass0 (pa_cons (pv 16) (pa_cons (pv 10) pa_nil))) pe_bl rfl) (pe_one (pe_cmpR op_is_bl (pe_call GIK hr2 rfl U.DIK.m U.DIK.k U.DIK.b .nil pass0 (pa_cons (pv 16) (pa_cons (pv 14) pa_nil))) pe_bl rfl))))))))))))), ?_⟩
    refine ⟨_, rfl, a, ns, rfl, hS, hlen, fun p l H1 g1 hp0 hl0 s1 => ?_⟩
    have tb1 := tb0.ext s1
    refine ⟨_, rfl, p, l, 12, rfl, g1, by decide, by decide, fun Wt q m L H3 m1' m12 ti eW g3 x3 => ?_⟩
    have tb3 := tabs_ext tb1 g1 x3
    obtain ⟨M, rfl⟩ : ∃ M : Nat, m = (M : Int) := ⟨m.toNat, by omega⟩
    have m1 : 1 ≤ M := by omega
    have m40 : M ≤ 40 := by omega
    refine ⟨_, rfl, Wt, _, 0, _, rfl, rfl, SqT.of eW, rfl, _, rfl, Wt, _, 1, _, rfl, rfl, SqT.of eW, rfl, fun x dx nx ndx nex => ?_⟩
    have sx : Same H3 (upd (upd H3 dx (.own x)) x (.ins C dx [])) := sNew (sNew (fun _ _ e => e) ndx) nx
    refine ⟨x, dx, (M : Int), q, L, rfl, upd_same, ti.same sx, m1', by omega, fun r bs nb H4 wi x4 => ⟨rfl, ?_⟩⟩
    have s34 : Same H3 H4 := fun b o e => x4 b o (sx b o e) (ne_of_none e nx)
    have g4 : HandAt H4 p l := g3.same s34
    have tb4 := tb3.ext s34
    have w4 : WebQ C M H4 x q L := ⟨dx, r, bs, nb, wi, ti.same s34⟩
    have l4 : LWeb H4 Wt q (M : Int) L := ⟨s34 _ _ eW, ti.same s34⟩
    clear sx x4 wi s34 g3 x3 g1 s1 hp0 hl0 tb3 tb1
    refine ⟨_, rfl, _, rfl, p, l, Wt, q, M, L, rfl, g4, l4, m1, m40, fun r' pa tt Tl par rk H6 g6 x6 er epa pgr cho => ?_⟩
    have tb6 := tabs_ext tb4 g4 x6
    have gr6 : GrowT H4 H6 := .of (.of_ext g4 g6 x6)
    have w6 := w4.growT gr6
    have eW6 := gr6.tup l4.1
    refine ⟨r', _, rfl, SqT.of er, rfl, _, _, rfl, _, _, rfl, rfl, ?_⟩
    refine ⟨_, rfl, _, rfl, _, rfl, fun kp dkp nk ndk nek => ?_⟩
    have sy : Same H6 (upd (upd H6 dkp (.own kp)) kp (.ins CK dkp [])) := sNew (sNew (fun _ _ e => e) ndk) nk
    refine ⟨kp, dkp, x, pa, tt, M, L, Tl, par, rfl, upd_same, keep_in (w6.same sy) (sy _ _ epa) pgr (cho.same sy) m1 m40, fun la ch ac H7 ey ld sty => ⟨rfl, ?_⟩⟩
    have s67 : Same H6 H7 := fun b o e => sty b o (sy _ _ e) (ne_of_none e nk)
    have kp7 : KpAt C CK M L par Tl H7 kp x q pa tt := ⟨w6.same s67, ⟨dkp, la, ch, ac, ey, ld⟩, s67 _ _ epa, s67 _ _ cho.at_, fun p hp => s67 _ _ (cho.tup p hp), m1, m40⟩
    have cho7 := cho.same s67
    have tb7 := tb6.ext s67
    have g7 := g6.same s67
    have eW7 := s67 _ _ eW6
    clear sty s67 sy er epa cho eW6 w6 gr6 x6 g6 tb6 l4 w4 tb4 g4
    refine ⟨_, rfl, p, l, rfl, g7, fun pt qs t y qn H8 g8 x8 ept fine pre => ?_⟩
    have gr8 : GrowT H7 H8 := .of (.of_ext g7 g8 x8)
    have tb8 := tabs_ext tb7 g7 x8
    refine ⟨_, rfl, pt, _, 0, _, rfl, rfl, SqT.of ept, rfl, _, rfl, pt, _, 1, _, rfl, rfl, SqT.of ept, rfl, _, rfl, pt, _, 2, _, rfl, rfl, SqT.of ept, rfl, _, rfl, pt, _, 3, _, rfl, rfl, SqT.of ept, rfl, fun xp dxp nxp ndxp nexp => ?_⟩
    have sp : Same H8 (upd (upd H8 dxp (.own xp)) xp (.ins CP dxp [])) := sNew (sNew (fun _ _ e => e) ndxp) nxp
    refine ⟨xp, dxp, _, t, y, _, rfl, upd_same, pre.same sp, fun r d H' bp _ _ => ((fine.same pre sp).not_bad bp).elim, fun _ H9 exp x9 => ⟨rfl, ?_⟩⟩
    have s89 : Same H8 H9 := fun b o e => x9 b o (sp _ _ e) (ne_of_none e nxp)
    have S9 : LawS C CK CP M L par Tl [(Pt, lamQ)] H9 p l Wt x q kp pa tt pt xp (.ref qs) t y (.ref qn) :=
      ⟨g8.same s89, tb8.ext s89, s89 _ _ (gr8.tup eW7), (kp7.growT gr8).same s89, (cho7.growT gr8).same s89, ⟨⟨dxp, exp⟩, fine.same pre s89, pre.same s89⟩, s89 _ _ ept⟩
    clear s89 x9 sp tb8 gr8 g8 x8 ept fine pre eW7 g7 tb7 cho7 kp7
    refine ⟨4, rfl, by decide, by decide, for_range (lo := 0) (n := 4) (fun i σ H' => ∃ y6 y7 y8 y9 y11 y12 y13 : Option V, σ = [some (.ref a), some (.ref p), some (.ref Wt), some (.ref pa), some (.ref tt), some (.ref pt), y6, y7, y8, y9, none, y11, y12, y13, some (.ref kp), some (.ref xp), some (.ref x)] ∧ LawS C CK CP M L par Tl [(Pt, lamQ)] H' p l Wt x q kp pa tt pt xp (.ref qs) t y (.ref qn)) ?_ ?_ ?_⟩
    · exact ⟨none, none, none, none, none, none, none, rfl, S9⟩
    · rintro i σ H10 hi ⟨y6, y7, y8, y9, y11, y12, y13, rfl, S10⟩
      refine ⟨_, rfl, p, l, 2, 8, rfl, S10.hand, by decide, by decide, by decide, fun v1 H11 k1 g11 x11 => ?_⟩
      have S11 := S10.ext g11 x11
      refine ⟨S11.tabs, word_gamma (fun E H' Q' z => ⟨_, rfl, _, rfl, z⟩) S11 k1 (fun H12 b S12 g12 hb => ?_)⟩
      refine ⟨(by show 2 ≤ sizeLine; decide), fun ml hml => ?_⟩
      have s13 := sN (o := .lst [.str "number", .str "let"]) hml
      have S13 := S12.same s13
      refine ⟨_, rfl, v1, 2, 8, rfl, (k1.growT g12).same s13, fun b' hb' => .inr ⟨b', rfl, ?_⟩⟩
      obtain rfl : b' = b := Bool.eq_iff_iff.mpr (hb'.trans hb.symm)
      refine ⟨ml, _, (if b' = true then 1 else 0), .str (if b' = true then "let" else "number"), rfl, rfl, SqL.of upd_same, (by cases b' <;> rfl), rfl, _, rfl, ?_⟩
      rw [decide_eq_true rfl]
      refine iteF ?_
      clear hb hb' g12 S12 hml k1
      revert S13
      generalize (upd H12 ml (.lst [.str "number", .str "let"])) = H13
      intro S13
      refine ⟨_, rfl, _, rfl, Wt, _, 0, _, rfl, rfl, SqT.of S13.hwt, rfl, _, _, rfl, rfl, p, l, 0, (M : Int) - 1, rfl, S13.hand, by decide, by omega, by omega, fun v2 H14 k2 g14 x14 => ?_⟩
      have S14 := S13.ext g14 x14
      refine ⟨(by show 2 ≤ sizeLine; decide), fun ml2 hml2 => ?_⟩
      have s15 := sN (o := .lst [.str "house", .str "let"]) hml2
      have S15 := S14.same s15
      refine ⟨_, rfl, _, rfl, Wt, _, 0, _, rfl, rfl, SqT.of S15.hwt, rfl, _, _, rfl, rfl, v2, 0, (M : Int) - 1, rfl, k2.same s15, fun b2 hb2 => .inr ⟨b2, rfl, ?_⟩⟩
      refine ⟨ml2, _, (if b2 = true then 1 else 0), .str (if b2 = true then "let" else "house"), rfl, rfl, SqL.of upd_same, (by cases b2 <;> rfl), ?_⟩
      have kv2 := k2.same s15
      clear S14 hml2 k2
      revert S15 kv2
      generalize (upd H14 ml2 (.lst [.str "house", .str "let"])) = H15
      intro S15 kv2
      refine ⟨S15.tabs, word_leader (fun E H' Q' z => ⟨_, rfl, _, rfl, z⟩) S15 kv2 (fun H16 b3 S16 g16 hb3 => ?_)⟩
      obtain rfl : b3 = b2 := Bool.eq_iff_iff.mpr (hb3.trans (Iff.trans ⟨fun ⟨i, e, h1, h2⟩ => ⟨i, e, h1, by omega⟩, fun ⟨i, e, h1, h2⟩ => ⟨i, e, h1, by omega⟩⟩ hb2.symm))
      refine ⟨_, rfl, rfl, _, rfl, ?_⟩
      rw [decide_eq_true rfl]
      refine iteF ?_
      clear hb2 hb3 g16 kv2 S15
      -- goal
      refine ⟨_, rfl, p, l, 0, 40, rfl, S16.hand, by decide, by decide, by decide, fun v3 H17 k3 g17 x17 => ?_⟩
      have S17 := S16.ext g17 x17
      refine ⟨(by show 2 ≤ sizeLine; decide), fun ml3 hml3 => ?_⟩
      have s18 := sN (o := .lst [.str "number", .str "let"]) hml3
      have S18 := S17.same s18
      have kv3 := k3.same s18
      refine ⟨_, rfl, v3, 0, 40, rfl, kv3, fun b4 hb4 => .inr ⟨b4, rfl, ?_⟩⟩
      refine ⟨ml3, _, (if b4 = true then 1 else 0), .str (if b4 = true then "let" else "number"), rfl, rfl, SqL.of upd_same, (by cases b4 <;> rfl), ?_⟩
      clear S17 hml3 k3 S16
      revert S18 kv3
      generalize (upd H17 ml3 (.lst [.str "number", .str "let"])) = H18
      intro S18 kv3
      refine ⟨fun σ H' => σ = [some (.ref a), some (.ref p), some (.ref Wt), some (.ref pa), some (.ref tt), some (.ref pt), some (.int (0 + (i : Int))), some (.str (dueC M b4)), y8, y9, none, some v1, some v3, some v2, some (.ref kp), some (.ref xp), some (.ref x)] ∧ H18 = H', ?_, ?_⟩
      · refine ⟨_, rfl, Wt, _, 0, _, rfl, rfl, SqT.of S18.hwt, rfl, _, _, rfl, rfl, _, rfl, ite2 (fun c => ?_) (fun c => ?_)⟩
        · have c8 : 8 < M := by
            have := of_decide_eq_true c
            omega
          refine ⟨?_, rfl⟩
          unfold dueC
          rw [if_pos c8]
          rfl
        · have c8 : ¬ 8 < M := fun z => c (decide_eq_true (by omega))
          refine ⟨?_, rfl⟩
          unfold dueC
          rw [if_neg c8]
          rfl
      rintro σ H' ⟨rfl, rfl⟩
      refine ⟨S18.tabs, word_course (fun E H' Q' z => ⟨_, rfl, _, rfl, _, rfl, z⟩) S18 kv3 (fun H20 b5 S20 g20 hb5 => ?_)⟩
      obtain rfl : b5 = b4 := Bool.eq_iff_iff.mpr (hb5.trans hb4.symm)
      refine ⟨_, rfl, rfl, _, rfl, ?_⟩
      rw [decide_eq_true rfl]
      refine iteF ?_
      clear g20 kv3 S18 hb4
      by_cases c : M ≤ 8 ∧ b5 = true
      rotate_left
      · have ne : (V.str (dueC M b5)) ≠ V.str "let" := by
          unfold dueC
          by_cases c8 : 8 < M
          · rw [if_pos c8]
            decide
          · rw [if_neg c8]
            cases b5 with
            | false => decide
            | true => exact absurd ⟨by omega, rfl⟩ c
        refine ⟨_, rfl, rfl, _, rfl, ?_⟩
        rw [decide_eq_false ne]
        exact iteF ⟨_, _, _, _, _, _, _, rfl, S20⟩
      obtain ⟨m8, rfl⟩ := c
      obtain ⟨g, rfl, g0, g40⟩ := hb5.mp rfl
      refine ⟨_, rfl, rfl, _, rfl, ?_⟩
      rw [decide_eq_true (by unfold dueC; rw [if_neg (by omega), if_pos rfl])]
      refine iteT ⟨_, rfl, _, rfl, _, rfl, made_course S20.kp S20.pg m8 g0 g40 (fun a1 da1 lk1 H21 s21 ea1 => ?_)⟩
      have S21 := S20.same s21
      clear s21 S20
      -- the other
      refine ⟨_, rfl, pt, _, 0, _, rfl, rfl, SqT.of S21.hpt, rfl, _, rfl, pt, _, 1, _, rfl, rfl, SqT.of S21.hpt, rfl, _, rfl, pt, _, 2, _, rfl, rfl, SqT.of S21.hpt, rfl, _, rfl, pt, _, 3, _, rfl, rfl, SqT.of S21.hpt, rfl, fun x2 dx2 nx2 ndx2 _ => ?_⟩
      have sp2 : Same H21 (upd (upd H21 dx2 (.own x2)) x2 (.ins CP dx2 [])) := sNew (sNew (fun _ _ e => e) ndx2) nx2
      refine ⟨x2, dx2, _, t, y, _, rfl, upd_same, S21.pg.pre.same sp2, fun r d H' bp _ _ => ((S21.pg.fine.same S21.pg.pre sp2).not_bad bp).elim, fun _ H22 ex2 x22 => ⟨rfl, ?_⟩⟩
      have s22 : Same H21 H22 := fun b o e => x22 b o (sp2 _ _ e) (ne_of_none e nx2)
      have S22 := S21.same s22
      have ea12 := s22 _ _ ea1
      have pg2 : PgAt CP H22 x2 (.ref qs) t y (.ref qn) := ⟨⟨dx2, ex2⟩, S22.pg.fine, S22.pg.pre⟩
      clear s22 x22 ex2 sp2 S21 ea1
      refine ⟨_, rfl, _, rfl, _, rfl, fun kp2 dk2 nk2 ndk2 _ => ?_⟩
      have sy2 : Same H22 (upd (upd H22 dk2 (.own kp2)) kp2 (.ins CK dk2 [])) := sNew (sNew (fun _ _ e => e) ndk2) nk2
      refine ⟨kp2, dk2, x, pa, tt, M, L, Tl, par, rfl, upd_same, keep_in (S22.kp.web.same sy2) (sy2 _ _ S22.kp.hpa) pgr (S22.cho.same sy2) m1 m40, fun la2 ch2 ac2 H23 ey2 ld2 sty2 => ⟨rfl, ?_⟩⟩
      have s23 : Same H22 H23 := fun b o e => sty2 b o (sy2 _ _ e) (ne_of_none e nk2)
      have S23 := S22.same s23
      have ea13 := s23 _ _ ea12
      have pg3 := pg2.same s23
      have kpa : KpAt C CK M L par Tl H23 kp2 x q pa tt := ⟨S23.kp.web, ⟨dk2, la2, ch2, ac2, ey2, ld2⟩, S23.kp.hpa, S23.kp.ht, S23.kp.hts, m1, m40⟩
      clear s23 sty2 sy2 S22 ea12 pg2
      refine ⟨_, rfl, made_course kpa pg3 m8 g0 g40 (fun a2 da2 lk2 H24 s24 ea2 => ?_)⟩
      have S24 := S23.same s24
      have ea1' := s24 _ _ ea13
      refine ⟨_, rfl, _, rfl, a1, da1, _, rfl, ea1', .inl ⟨a2, da2, _, rfl, ea2⟩, a1, da1, a2, da2, xp, x2, kp, kp2, x, q, pa, tt, M, L, par, Tl, _, t, y, _, g, g, lk1, lk2, rfl, ea1', ea2, S24.pg, pg3.same s24, S24.kp, kpa.same s24, ⟨_, rfl⟩, _, rfl, ?_⟩
      rw [decide_eq_true rfl]
      clear kpa pg3 ea2 S23 ea13
      refine iteF ⟨_, rfl, _, rfl, _, rfl, _, rfl, 1, g, rfl, _, _, rfl, rfl, made_course S24.kp S24.pg m8 (i := 41 - (if g > 1 then g else 1)) (by split <;> omega) (by split <;> omega) (fun a3 da3 lk3 H25 s25 ea3 => ?_)⟩
      have S25 := S24.same s25
      have eb1 := s25 _ _ ea1'
      refine ⟨a1, da1, _, rfl, eb1, .inl ⟨a3, da3, _, rfl, ea3⟩, a1, da1, a3, da3, xp, xp, kp, kp, x, q, pa, tt, M, L, par, Tl, _, t, y, _, g, _, lk1, lk3, rfl, eb1, ea3, S25.pg, S25.pg, S25.kp, S25.kp, ⟨_, rfl⟩, _, rfl, ?_⟩
      rw [decide_eq_false (show ¬ g = 41 - (if g > 1 then g else 1) by split <;> omega)]
      refine iteF (iteF ?_)
      obtain ⟨dx5, ex5⟩ := S25.pg.at_
      obtain ⟨dk5, la5, ch5, ac5, ek5, _⟩ := S25.kp.at_
      refine ⟨_, rfl, a1, CO, da1, _, _, rfl, eb1, TC.cl, TC.nP, cf_program _ _ _ _, _, rfl, xp, dx5, _, rfl, ex5, .inl ⟨xp, dx5, _, rfl, ex5⟩, eqp_two S25.pg S25.pg ⟨_, rfl, iteT ?_⟩⟩
      refine ⟨_, rfl, a1, CO, da1, _, _, rfl, eb1, TC.cl, TC.nK, cf_keeper _ _ _ _, _, rfl, kp, dk5, _, rfl, ek5, .inl ⟨kp, dk5, _, rfl, ek5⟩, eqk_two S25.kp S25.kp ⟨_, rfl, ?_⟩⟩
      refine iteF ?_
      refine ⟨_, rfl, a1, CO, da1, _, _, rfl, eb1, TC.cl, TC.nG, cf_goal _ _ _ _, _, rfl, .int g, .int g, rfl, .inl ⟨g, rfl, rfl⟩, fun H26 s26 => ⟨_, rfl, iteF ?_⟩⟩
      exact ⟨_, _, _, _, _, _, _, rfl, S25.same s26⟩
    · rintro σ H10 ⟨y6, y7, y8, y9, y11, y12, y13, rfl, S10⟩
      refine ⟨_, rfl, _, rfl, _, rfl, (by show 2 ≤ sizeLine; decide), fun tp htp => ⟨_, rfl, _, rfl, Nat.zero_le _, fun le hle => ?_⟩⟩
      have s11 := sT (sN (o := .tup [.ref pa, .ref tt]) htp) (sN (o := .lst []) hle)
      have etp : (upd (upd H10 tp (.tup [.ref pa, .ref tt])) le (.lst [])) tp = some (.tup [.ref pa, .ref tt]) := (sN (o := .lst []) hle) _ _ upd_same
      have ele : (upd (upd H10 tp (.tup [.ref pa, .ref tt])) le (.lst [])) le = some (.lst []) := upd_same
      revert s11 etp ele
      generalize (upd (upd H10 tp (.tup [.ref pa, .ref tt])) le (.lst [])) = H11
      intro s11 etp ele
      have S11 := S10.same s11
      refine fun de hde => ?_
      have s12 := sN (o := .dK []) hde
      have S12 := S11.same s12
      have etp2 := s12 _ _ etp
      have ele2 := s12 _ _ ele
      have ede : (upd H11 de (.dK [])) de = some (.dK []) := upd_same
      revert S12 etp2 ele2 ede
      generalize (upd H11 de (.dK [])) = H12
      intro S12 etp2 ele2 ede
      clear s12 S11 hde s11 etp ele hle htp S10
      refine ⟨_, rfl, p, l, rfl, S12.hand, fun v9 H13 w9 g13 x13 => ⟨(by show 9 ≤ sizeLine; decide), fun ml hml => ?_⟩⟩
      have gr13 : GrowT H12 H13 := .of (.of_ext S12.hand g13 x13)
      have S13 := S12.ext g13 x13
      have s14 := sN (o := .lst [.non, .int 0, .ref pa, .ref tp, .ref x, .ref xp, .ref le, .ref de, v9]) hml
      have S14 := S13.same s14
      have eml : (upd H13 ml (.lst [.non, .int 0, .ref pa, .ref tp, .ref x, .ref xp, .ref le, .ref de, v9])) ml = some (.lst [.non, .int 0, .ref pa, .ref tp, .ref x, .ref xp, .ref le, .ref de, v9]) := upd_same
      have nmp := (g13.ne hml).1
      have gr14 := gr13.same s14
      have k9 := w9.kd.same s14
      revert S14 eml gr14 k9
      generalize (upd H13 ml (.lst [.non, .int 0, .ref pa, .ref tp, .ref x, .ref xp, .ref le, .ref de, v9])) = H14
      intro S14 eml gr14 k9
      refine ⟨_, rfl, p, l, 9, rfl, S14.hand, by decide, by decide, fun d3 H15 f0 f1 g15 b15 => ?_⟩
      have x15 : Ext p H14 H15 := Ext.rfl'.but b15
      have gr15 : GrowT H14 H15 := .of (.of_ext S14.hand g15 x15)
      have S15 := S14.ext g15 x15
      obtain ⟨v, hv, ev⟩ := pick_in (xs := [V.non, .int 0, .ref pa, .ref tp, .ref x, .ref xp, .ref le, .ref de, v9]) f0 (by show d3 < 9; exact f1)
      refine ⟨ml, _, d3, v, rfl, rfl, SqL.of (by rw [b15 ml nmp]; exact eml), ev, ?_⟩
      obtain ⟨dx5, ex5⟩ := S15.pg.at_
      obtain ⟨dk5, la5, ch5, ac5, ek5, _⟩ := S15.kp.at_
      have dis : ∀ {Z Z2 : Prop}, Z → ((Kd H15 v ∧ Z) ∨ (v = .ref x ∧ Z) ∨ (∃ (x' dx : Addr) (fs : List (Str × V)), v = .ref x' ∧ H15 x' = some (.ins CP dx fs) ∧ Z) ∨ (∃ (x' dx : Addr) (pa t la ch ac : V), v = .ref x' ∧ H15 x' = some (.ins CK dx (kf (.ref x) pa t la ch ac)) ∧ Z2)) := fun {Z Z2} z => by
        have kl := (Kd.lst ele2).growT gr14
        have kd' := (Kd.dk ede).growT gr14
        have kt := (Kd.tup etp2).growT gr14
        simp only [List.mem_cons, List.not_mem_nil, or_false] at hv
        rcases hv with rfl | rfl | rfl | rfl | rfl | rfl | rfl | rfl | rfl
        · exact .inl ⟨.non, z⟩
        · exact .inl ⟨.int 0, z⟩
        · exact .inl ⟨.tup S15.kp.hpa, z⟩
        · exact .inl ⟨kt.growT gr15, z⟩
        · exact .inr (.inl ⟨rfl, z⟩)
        · exact .inr (.inr (.inl ⟨xp, dx5, _, rfl, ex5, z⟩))
        · exact .inl ⟨kl.growT gr15, z⟩
        · exact .inl ⟨kd'.growT gr15, z⟩
        · exact .inl ⟨k9.growT gr15, z⟩
      refine ⟨_, rfl, _, rfl, x, q, M, L, v, rfl, S15.kp.web, dis ⟨false, false, rfl, rfl, _, rfl, ?_⟩⟩
      rw [decide_eq_true rfl]
      refine iteT ⟨_, rfl, _, rfl, x, q, M, L, .ref kp, rfl, S15.kp.web, .inr (.inr (.inr ⟨kp, dk5, _, _, _, _, _, rfl, ek5, true, true, rfl, rfl, ?_⟩))⟩
      rw [decide_eq_true rfl]
      exact k _
end
end Q

/-! classes -/
namespace Q
open PySem L2 QM
theorem exm_ot {K : PySem.W.Frag} {A S : Addr} {b : Bool} (h1 : PySem.W.subIn K (.ref S) (.type "BaseException") = some true) (h2 : PySem.W.isClsIn K S = true) (h3 : PySem.W.typeIn K (.ref S) = some (.type "type")) (h4 : PySem.W.subIn K (.ref A) (.ref S) = some b) : PySem.W.exmOne K (.ref A) (.ref S) = some b := by
  have u1 : (PySem.W.subIn K (.ref S) (.type "BaseException") == some true) = true := by rw [h1] <;> rfl
  have u2 : ((PySem.W.clsIn K S).isSome && PySem.W.typeIn K (.ref S) == some (.type "type")) = true := by
    have z : (PySem.W.clsIn K S).isSome = true := h2
    rw [z, h3] <;> rfl
  show (if (PySem.W.subIn K (.ref S) (.type "BaseException") == some true) = true then (if ((PySem.W.clsIn K S).isSome && PySem.W.typeIn K (.ref S) == some (.type "type")) = true then PySem.W.subIn K (.ref A) (.ref S) else none) else none) = some b
  rw [if_pos u1, if_pos u2, h4]
theorem kit_self {K : PySem.W.Frag} {C : Addr} : PySem.W.kitOne K (.ref C) (.ref C) = some true := by
  unfold PySem.W.kitOne
  rw [if_pos (beq_self_eq_true _)]
theorem kit_ve {K : PySem.W.Frag} {C : Addr} (h : PySem.W.subIn K (.ref C) (.type "ValueError") = some true) : PySem.W.kitOne K (.ref C) (.type "ValueError") = some true := by
  unfold PySem.W.kitOne
  rw [if_neg (fun z => nomatch z)]
  show (if PySem.W.kitMeta "ValueError" = true then _ else none) = some true
  rw [if_pos (by decide +kernel)]
  exact h
theorem kit_clsN {K : PySem.W.Frag} {C S : Addr} (h2 : PySem.W.isClsIn K S = true) (h3 : PySem.W.typeIn K (.ref S) = some (.type "type")) (h4 : PySem.W.subIn K (.ref C) (.ref S) = some false) (h5 : PySem.W.subIn K (.ref C) (.ref C) = some true) : PySem.W.kitOne K (.ref C) (.ref S) = some false := by
  have u2 : ((PySem.W.clsIn K S).isSome && PySem.W.typeIn K (.ref S) == some (.type "type")) = true := by
    have z : (PySem.W.clsIn K S).isSome = true := h2
    rw [z, h3] <;> rfl
  unfold PySem.W.kitOne
  split
  · rename_i e
    have e : Value.ref C = Value.ref S := eq_of_beq e
    injection e with e
    subst e
    rw [h4] at h5
    cases h5
  · show (if ((PySem.W.clsIn K S).isSome && PySem.W.typeIn K (.ref S) == some (.type "type")) = true then PySem.W.subIn K (.ref C) (.ref S) else none) = some false
    rw [if_pos u2]
    exact h4
theorem kit_tyC {K : PySem.W.Frag} {C : Addr} {t : String} (isC : PySem.W.isClsIn K C = true) (tyC : PySem.W.typeIn K (.ref C) = some (.type "type")) (no : PySem.W.subIn K (.type t) (.ref C) = some false) : PySem.W.kitOne K (.type t) (.ref C) = some false := by
  have z : (PySem.W.clsIn K C).isSome = true := isC
  show (if (Value.type t == Value.ref C) = true then some true else if ((PySem.W.clsIn K C).isSome && PySem.W.typeIn K (.ref C) == some (.type "type")) = true then PySem.W.subIn K (.type t) (.ref C) else none) = some false
  rw [if_neg (by simp), z, tyC, no]
  rfl
/-- what is asked of one error -/
structure Er3 (K : PySem.W.Frag) (mg : Str → Option Value) (CE C : Addr) (x : Str) : Prop where
  g : mg x = some (.ref C)
  ex : PySem.W.exmOne K (.ref C) (.ref CE) = some true
  e : ExcC K C
  c : PySem.W.isClsIn K C = true
  v : PySem.W.kitOne K (.ref C) (.type "ValueError") = some true
def clOf (a b c : Addr) : Nat → Addr
  | 0 => a
  | 1 => b
  | _ => c
theorem three {p : Nat → Prop} (h0 : p 0) (h1 : p 1) (h2 : p 2) : ∀ i, i < 3 → p i
  | 0, _ => h0
  | 1, _ => h1
  | 2, _ => h2
  | n + 3, h => absurd h (by omega)
def cerrOf {K : PySem.W.Frag} {mg : Str → Option Value} {CE A B C : Addr} (a : Er3 K mg CE A "NoHouse") (b : Er3 K mg CE B "NoNumber") (c : Er3 K mg CE C "TooMany")
    (ab : PySem.W.kitOne K (.ref A) (.ref B) = some false) (ac : PySem.W.kitOne K (.ref A) (.ref C) = some false) (ba : PySem.W.kitOne K (.ref B) (.ref A) = some false) (bc : PySem.W.kitOne K (.ref B) (.ref C) = some false) (ca : PySem.W.kitOne K (.ref C) (.ref A) = some false) (cb : PySem.W.kitOne K (.ref C) (.ref B) = some false)
    (gE : mg "RoundError" = some (.ref CE)) (noV : mg "ValueError" = none) : CErr K mg CE where
  cl := clOf A B C
  g := three a.g b.g c.g
  ex := three a.ex b.ex c.ex
  e := three a.e b.e c.e
  c := three a.c b.c c.c
  v := three a.v b.v c.v
  k := fun i j hi hj => three (p := fun i => ∀ j, j < 3 → PySem.W.kitOne K (.ref (clOf A B C i)) (.ref (clOf A B C j)) = some (decide (i = j))) (three kit_me ab ac) (three ba kit_me bc) (three ca cb kit_me) i hi j hj
  gE := gE
  noV := noV
end Q

namespace Q
open PySem L2 QM QS
theorem exm_me {K : PySem.W.Frag} {S : Addr} (h1 : PySem.W.subIn K (.ref S) (.type "BaseException") = some true) (h2 : PySem.W.isClsIn K S = true) (h3 : PySem.W.typeIn K (.ref S) = some (.type "type")) (h4 : PySem.W.subIn K (.ref S) (.ref S) = some true) : PySem.W.exmOne K (.ref S) (.ref S) = some true := by
  have u1 : (PySem.W.subIn K (.ref S) (.type "BaseException") == some true) = true := by rw [h1] <;> rfl
  have u2 : ((PySem.W.clsIn K S).isSome && PySem.W.typeIn K (.ref S) == some (.type "type")) = true := by
    have z : (PySem.W.clsIn K S).isSome = true := h2
    rw [z, h3] <;> rfl
  show (if (PySem.W.subIn K (.ref S) (.type "BaseException") == some true) = true then (if ((PySem.W.clsIn K S).isSome && PySem.W.typeIn K (.ref S) == some (.type "type")) = true then PySem.W.subIn K (.ref S) (.ref S) else none) else none) = some true
  rw [if_pos u1, if_pos u2, h4]

theorem all_mk {l : PySem.W.OpenLaw} {w : World} {K : PySem.W.Frag} {h : Heap} {mg : Str → Option Value} {fa : Addr} (X : K.In h) (G : h.Ns mainGlobals mg) (hfa : mg "law" = some (.ref fa))
    {C fM : Addr} {tmW : Tok} {odM anM : Option Addr} {slM : Array (Option Value)} {ocM kVM dcM pmM cdM ctM : Value}
    {CP fM0 : Addr} {tm tm1 tm2 : Tok} {aS aT aN dP : Addr} {ddS ddT ddN : Option Addr} {itS itT itN : Array Value} {nuS nuT nuN nuP : Nat} {slS slT slN : Array (Option Value)} {esP : Array DictEntry} {tx : Tok} {tz0 : Tok} {tz1 : Tok} {tz2 : Tok} {tz3 : Tok} {tz4 : Tok} {tz5 : Tok} {tz6 : Tok} {tz7 : Tok} {tz8 : Tok} {ty0 : Tok} {ty1 : Tok} {ty2 : Tok} {ty3 : Tok} {ty4 : Tok} {ty5 : Tok} {ty6 : Tok} {ty7 : Tok} {ty8 : Tok} {ty9 : Tok}
    {CB fB : Addr} {nmB qB : Str} {NB : Addr} {bsB bmB : List Value} {snB : List Str} {subB : List Value} {abB : Bool} {colB : Option Bool} {ddB : Option Addr} {k0B k1B k2B k3B k5B : Option Value} {ocB : Value} {odB anB : Option Addr} {slB : Array (Option Value)} {kVB dcB pmB cdB ctB : Value} {odM0 anM0 : Option Addr} {slM0 : Array (Option Value)} {ocM0 kVM0 dcM0 pmM0 cdM0 ctM0 : Value}
    {dO : Addr} {esO : Array DictEntry} {nuO : Nat}
    {tc_MOST_ON_COURSE : Tok}
    {tc_MOST_ROUNDS : Tok}
    {CK fK : Addr} {ocK9 kVK9 dcK9 pmK9 cdK9 ctK9 : Value} {odK9 anK9 : Option Addr} {slK9 : Array (Option Value)}
    {few : Addr} {ocew kVew dcew pmew cdew ctew : Value} {odew anew : Option Addr} {slew : Array (Option Value)}
    {fek : Addr} {ocek kVek dcek pmek cdek ctek : Value} {odek anek : Option Addr} {slek : Array (Option Value)}
    {feo : Addr} {oceo kVeo dceo pmeo cdeo cteo : Value} {odeo aneo : Option Addr} {sleo : Array (Option Value)}
    {fQ : Addr} {ocQ kVQ dcQ pmQ cdQ ctQ : Value} {odQ anQ : Option Addr} {slQ : Array (Option Value)}
    {CTT fTT : Addr} {nmTT qTT : Str} {NTT : Addr} {bsTT bmTT : List Value} {snTT : List Str} {subTT : List Value} {abTT : Bool} {colTT : Option Bool} {ddTT : Option Addr} {k0TT k1TT k2TT k3TT k5TT : Option Value} {ocTT : Value} {odTT anTT : Option Addr} {slTT : Array (Option Value)} {kVTT dcTT pmTT cdTT ctTT : Value}
    {CO CE : Addr}
    {foI : Addr} {ocoI kVoI dcoI pmoI cdoI ctoI : Value} {odoI anoI : Option Addr} {sloI : Array (Option Value)}
    {cLw Pt : Addr} {ddLw : Option Addr} {vsLw : Array Value} {slLw : Array (Option Value)} {fiLw : Str} {tfLw : Tok} {flLw : Int} {tgLw : Tok} {inLw : Bool} {txLw : Int} {ttLw : Tok}
    {Ch fh cdah cch : Addr} {nmh qh : Str} {Nh : Addr} {bsh bmh : List Value} {snh : List Str} {subh : List Value} {abh : Bool} {colh : Option Bool} {ddh : Option Addr} {k0h k1h k2h k3h k5h : Option Value} {och : Value} {odh : Option Addr} {doch pmh : Value} {anh : Option Addr} {cth : Value} {oslh : Array (Option Value)} {ph q1h q2h q3h q4h q5h : Pos} {cclh clh : Value} {cddh cldh : Option Addr} {ccsh cslh : Array (Option Value)} {vsh : Array Value} {fileh : Str} {tfh : Tok}
    {Cn fn cdan ccn : Addr} {nmn qn : Str} {Nn : Addr} {bsn bmn : List Value} {snn : List Str} {subn : List Value} {abn : Bool} {coln : Option Bool} {ddn : Option Addr} {k0n k1n k2n k3n k5n : Option Value} {ocn : Value} {odn : Option Addr} {docn pmn : Value} {ann : Option Addr} {ctn : Value} {osln : Array (Option Value)} {pn q1n q2n q3n q4n q5n : Pos} {ccln cln : Value} {cddn cldn : Option Addr} {ccsn csln : Array (Option Value)} {vsn : Array Value} {filen : Str} {tfn : Tok}
    {f0 : Addr} {od0 an0 : Option Addr} {sl0 : Array (Option Value)} {oc0 kV0 dc0 pm0 cd0 ct0 : Value}
    {f1 : Addr} {od1 an1 : Option Addr} {sl1 : Array (Option Value)} {oc1 kV1 dc1 pm1 cd1 ct1 : Value}
    {f2 : Addr} {od2 an2 : Option Addr} {sl2 : Array (Option Value)} {oc2 kV2 dc2 pm2 cd2 ct2 : Value}
    {f3 : Addr} {od3 an3 : Option Addr} {sl3 : Array (Option Value)} {oc3 kV3 dc3 pm3 cd3 ct3 : Value}
    {f4 : Addr} {od4 an4 : Option Addr} {sl4 : Array (Option Value)} {oc4 kV4 dc4 pm4 cd4 ct4 : Value}
    {f5 : Addr} {od5 an5 : Option Addr} {sl5 : Array (Option Value)} {oc5 kV5 dc5 pm5 cd5 ct5 : Value}
    {f6 : Addr} {od6 an6 : Option Addr} {sl6 : Array (Option Value)} {oc6 kV6 dc6 pm6 cd6 ct6 : Value}
    {f7 : Addr} {od7 an7 : Option Addr} {sl7 : Array (Option Value)} {oc7 kV7 dc7 pm7 cd7 ct7 : Value}
    {f8 : Addr} {od8 an8 : Option Addr} {sl8 : Array (Option Value)} {oc8 kV8 dc8 pm8 cd8 ct8 : Value}
    {f9 : Addr} {od9 an9 : Option Addr} {sl9 : Array (Option Value)} {oc9 kV9 dc9 pm9 cd9 ct9 : Value}
    {f10 : Addr} {od10 an10 : Option Addr} {sl10 : Array (Option Value)} {oc10 kV10 dc10 pm10 cd10 ct10 : Value}
    {f11 : Addr} {od11 an11 : Option Addr} {sl11 : Array (Option Value)} {oc11 kV11 dc11 pm11 cd11 ct11 : Value}
    {f12 : Addr} {od12 an12 : Option Addr} {sl12 : Array (Option Value)} {oc12 kV12 dc12 pm12 cd12 ct12 : Value}
    {f13 : Addr} {od13 an13 : Option Addr} {sl13 : Array (Option Value)} {oc13 kV13 dc13 pm13 cd13 ct13 : Value}
    {f14 : Addr} {od14 an14 : Option Addr} {sl14 : Array (Option Value)} {oc14 kV14 dc14 pm14 cd14 ct14 : Value}
    {f15 : Addr} {od15 an15 : Option Addr} {sl15 : Array (Option Value)} {oc15 kV15 dc15 pm15 cd15 ct15 : Value}
    {f16 : Addr} {od16 an16 : Option Addr} {sl16 : Array (Option Value)} {oc16 kV16 dc16 pm16 cd16 ct16 : Value}
    {f17 : Addr} {od17 an17 : Option Addr} {sl17 : Array (Option Value)} {oc17 kV17 dc17 pm17 cd17 ct17 : Value}
    {f18 : Addr} {od18 an18 : Option Addr} {sl18 : Array (Option Value)} {oc18 kV18 dc18 pm18 cd18 ct18 : Value}
    {f19 : Addr} {od19 an19 : Option Addr} {sl19 : Array (Option Value)} {oc19 kV19 dc19 pm19 cd19 ct19 : Value}
    {f20 : Addr} {od20 an20 : Option Addr} {sl20 : Array (Option Value)} {oc20 kV20 dc20 pm20 cd20 ct20 : Value}
    {f21 : Addr} {od21 an21 : Option Addr} {sl21 : Array (Option Value)} {oc21 kV21 dc21 pm21 cd21 ct21 : Value}
    {f22 : Addr} {od22 an22 : Option Addr} {sl22 : Array (Option Value)} {oc22 kV22 dc22 pm22 cd22 ct22 : Value}
    {f23 : Addr} {od23 an23 : Option Addr} {sl23 : Array (Option Value)} {oc23 kV23 dc23 pm23 cd23 ct23 : Value}
    {f24 : Addr} {od24 an24 : Option Addr} {sl24 : Array (Option Value)} {oc24 kV24 dc24 pm24 cd24 ct24 : Value}
    {f25 : Addr} {od25 an25 : Option Addr} {sl25 : Array (Option Value)} {oc25 kV25 dc25 pm25 cd25 ct25 : Value}
    {f26 : Addr} {od26 an26 : Option Addr} {sl26 : Array (Option Value)} {oc26 kV26 dc26 pm26 cd26 ct26 : Value}
    {f27 : Addr} {od27 an27 : Option Addr} {sl27 : Array (Option Value)} {oc27 kV27 dc27 pm27 cd27 ct27 : Value}
    {f28 : Addr} {od28 an28 : Option Addr} {sl28 : Array (Option Value)} {oc28 kV28 dc28 pm28 cd28 ct28 : Value}
    {f29 : Addr} {od29 an29 : Option Addr} {sl29 : Array (Option Value)} {oc29 kV29 dc29 pm29 cd29 ct29 : Value}
    {f30 : Addr} {od30 an30 : Option Addr} {sl30 : Array (Option Value)} {oc30 kV30 dc30 pm30 cd30 ct30 : Value}
    {f31 : Addr} {od31 an31 : Option Addr} {sl31 : Array (Option Value)} {oc31 kV31 dc31 pm31 cd31 ct31 : Value}
    {f32 : Addr} {od32 an32 : Option Addr} {sl32 : Array (Option Value)} {oc32 kV32 dc32 pm32 cd32 ct32 : Value}
    {f33 : Addr} {od33 an33 : Option Addr} {sl33 : Array (Option Value)} {oc33 kV33 dc33 pm33 cd33 ct33 : Value}
    {f34 : Addr} {od34 an34 : Option Addr} {sl34 : Array (Option Value)} {oc34 kV34 dc34 pm34 cd34 ct34 : Value}
    {f35 : Addr} {od35 an35 : Option Addr} {sl35 : Array (Option Value)} {oc35 kV35 dc35 pm35 cd35 ct35 : Value}
    {f36 : Addr} {od36 an36 : Option Addr} {sl36 : Array (Option Value)} {oc36 kV36 dc36 pm36 cd36 ct36 : Value}
    {f37 : Addr} {od37 an37 : Option Addr} {sl37 : Array (Option Value)} {oc37 kV37 dc37 pm37 cd37 ct37 : Value}
    {f38 : Addr} {od38 an38 : Option Addr} {sl38 : Array (Option Value)} {oc38 kV38 dc38 pm38 cd38 ct38 : Value}
    {f39 : Addr} {od39 an39 : Option Addr} {sl39 : Array (Option Value)} {oc39 kV39 dc39 pm39 cd39 ct39 : Value}
    {f40 : Addr} {od40 an40 : Option Addr} {sl40 : Array (Option Value)} {oc40 kV40 dc40 pm40 cd40 ct40 : Value}
    {f41 : Addr} {od41 an41 : Option Addr} {sl41 : Array (Option Value)} {oc41 kV41 dc41 pm41 cd41 ct41 : Value}
    {f42 : Addr} {od42 an42 : Option Addr} {sl42 : Array (Option Value)} {oc42 kV42 dc42 pm42 cd42 ct42 : Value}
    {f43 : Addr} {od43 an43 : Option Addr} {sl43 : Array (Option Value)} {oc43 kV43 dc43 pm43 cd43 ct43 : Value}
    {f44 : Addr} {od44 an44 : Option Addr} {sl44 : Array (Option Value)} {oc44 kV44 dc44 pm44 cd44 ct44 : Value}
    {f45 : Addr} {od45 an45 : Option Addr} {sl45 : Array (Option Value)} {oc45 kV45 dc45 pm45 cd45 ct45 : Value}
    {f46 : Addr} {od46 an46 : Option Addr} {sl46 : Array (Option Value)} {oc46 kV46 dc46 pm46 cd46 ct46 : Value}
    {f47 : Addr} {od47 an47 : Option Addr} {sl47 : Array (Option Value)} {oc47 kV47 dc47 pm47 cd47 ct47 : Value}
    {f48 : Addr} {od48 an48 : Option Addr} {sl48 : Array (Option Value)} {oc48 kV48 dc48 pm48 cd48 ct48 : Value}
    {f49 : Addr} {od49 an49 : Option Addr} {sl49 : Array (Option Value)} {oc49 kV49 dc49 pm49 cd49 ct49 : Value}
    {f50 : Addr} {od50 an50 : Option Addr} {sl50 : Array (Option Value)} {oc50 kV50 dc50 pm50 cd50 ct50 : Value}
    {f51 : Addr} {od51 an51 : Option Addr} {sl51 : Array (Option Value)} {oc51 kV51 dc51 pm51 cd51 ct51 : Value}
    {f52 : Addr} {od52 an52 : Option Addr} {sl52 : Array (Option Value)} {oc52 kV52 dc52 pm52 cd52 ct52 : Value}
    {f53 : Addr} {od53 an53 : Option Addr} {sl53 : Array (Option Value)} {oc53 kV53 dc53 pm53 cd53 ct53 : Value}
    {f54 : Addr} {od54 an54 : Option Addr} {sl54 : Array (Option Value)} {oc54 kV54 dc54 pm54 cd54 ct54 : Value}
    {f55 : Addr} {od55 an55 : Option Addr} {sl55 : Array (Option Value)} {oc55 kV55 dc55 pm55 cd55 ct55 : Value}
    {f56 : Addr} {od56 an56 : Option Addr} {sl56 : Array (Option Value)} {oc56 kV56 dc56 pm56 cd56 ct56 : Value}
    {f57 : Addr} {od57 an57 : Option Addr} {sl57 : Array (Option Value)} {oc57 kV57 dc57 pm57 cd57 ct57 : Value}
    {f58 : Addr} {od58 an58 : Option Addr} {sl58 : Array (Option Value)} {oc58 kV58 dc58 pm58 cd58 ct58 : Value}
    {f59 : Addr} {od59 an59 : Option Addr} {sl59 : Array (Option Value)} {oc59 kV59 dc59 pm59 cd59 ct59 : Value}
    {f60 : Addr} {od60 an60 : Option Addr} {sl60 : Array (Option Value)} {oc60 kV60 dc60 pm60 cd60 ct60 : Value}
    {f61 : Addr} {od61 an61 : Option Addr} {sl61 : Array (Option Value)} {oc61 kV61 dc61 pm61 cd61 ct61 : Value}
    {f62 : Addr} {od62 an62 : Option Addr} {sl62 : Array (Option Value)} {oc62 kV62 dc62 pm62 cd62 ct62 : Value}
    {f63 : Addr} {od63 an63 : Option Addr} {sl63 : Array (Option Value)} {oc63 kV63 dc63 pm63 cd63 ct63 : Value}
    {f64 : Addr} {od64 an64 : Option Addr} {sl64 : Array (Option Value)} {oc64 kV64 dc64 pm64 cd64 ct64 : Value}
    {f65 : Addr} {od65 an65 : Option Addr} {sl65 : Array (Option Value)} {oc65 kV65 dc65 pm65 cd65 ct65 : Value}
    {f66 : Addr} {od66 an66 : Option Addr} {sl66 : Array (Option Value)} {oc66 kV66 dc66 pm66 cd66 ct66 : Value}
    {f67 : Addr} {od67 an67 : Option Addr} {sl67 : Array (Option Value)} {oc67 kV67 dc67 pm67 cd67 ct67 : Value}
    {f68 : Addr} {od68 an68 : Option Addr} {sl68 : Array (Option Value)} {oc68 kV68 dc68 pm68 ct68 : Value}
    (w_aC : PySem.W.nsIn K mainGlobals "Web" = some (some (.ref C)))
    (w_aM : PySem.W.findIn K (.ref C) "__init__" = some (some (.ref fM)))
    (w_iM : PySem.W.isFn K (.ref fM) = true)
    (w_lM : K.lookup fM = some ⟨ocM, odM, .func (PySem.W.fnOf "__init__" "Web.__init__" (defArgs sWeb) (defBody sWeb) (defScope sWeb) .none kVM dcM pmM anM cdM ctM), slM⟩)
    (w_cM : PySem.W.codeIn K cdM "Web.__init__" = true)
    (w_kM : PySem.W.keepIn K (.ref fM) = true)
    (w_pg : PySem.W.plainGet K C Str.empty = true)
    (w_hd : PySem.W.hasDictIn K C = true)
    (w_po : PySem.W.plainOver K C = true)
    (w_sa : PySem.W.findIn K (.ref C) "__setattr__" = some (some (.builtin "object.__setattr__")))
    (w_mk : PySem.W.makesIn K C = true)
    (w_kc : PySem.W.keepIn K (.ref C) = true)
    (w_aO : PySem.W.nsIn K mainGlobals "MOST_HOUSES" = some (some (.int 40 tmW)))
    (w_n0 : PySem.W.findIn K (.ref C) "many" = some none)
    (w_n1 : PySem.W.findIn K (.ref C) "ties" = some none)
    (w_n2 : PySem.W.findIn K (.ref C) "_beside" = some none)
    (p_aC : PySem.W.nsIn K mainGlobals "Program" = some (some (.ref CP)))
    (p_aM : PySem.W.findIn K (.ref CP) "__init__" = some (some (.ref fM0)))
    (p_iM : PySem.W.isFn K (.ref fM0) = true)
    (p_lM : K.lookup fM0 = some ⟨ocM0, odM0, .func (PySem.W.fnOf "__init__" "Program.__init__" (defArgs sProg) (defBody sProg) (defScope sProg) .none kVM0 dcM0 pmM0 anM0 cdM0 ctM0), slM0⟩)
    (p_cM : PySem.W.codeIn K cdM0 "Program.__init__" = true)
    (p_kM : PySem.W.keepIn K (.ref fM0) = true)
    (p_pg : PySem.W.plainGet K CP Str.empty = true)
    (p_hd : PySem.W.hasDictIn K CP = true)
    (p_po : PySem.W.plainOver K CP = true)
    (p_sa : PySem.W.findIn K (.ref CP) "__setattr__" = some (some (.builtin "object.__setattr__")))
    (p_mk : PySem.W.makesIn K CP = true)
    (p_kc : PySem.W.keepIn K (.ref CP) = true)
    (aO : PySem.W.nsIn K mainGlobals "MOST_STARTS" = some (some (.int 4 tm)))
    (aO1 : PySem.W.nsIn K mainGlobals "MOST_IN_ONE" = some (some (.int 60 tm1)))
    (aO2 : PySem.W.nsIn K mainGlobals "MOST_DEEP" = some (some (.int 12 tm2)))
    (p_n0 : PySem.W.findIn K (.ref CP) "starts" = some none)
    (p_n1 : PySem.W.findIn K (.ref CP) "to" = some none)
    (p_n2 : PySem.W.findIn K (.ref CP) "say" = some none)
    (p_n3 : PySem.W.findIn K (.ref CP) "nexts" = some none)
    (wN : PySem.W.nsIn K mainGlobals "BadProgram" = some (some (.ref CB)))
    (wl : K.lookup CB = some (PySem.excClassObj nmB qB CB NB bsB bmB true snB subB abB colB ddB k0B k1B k2B k3B k5B "ValueError.__new__"))
    (wbm : PySem.HandSPX.refsVE bmB = true)
    (wi : PySem.W.findIn K (.ref CB) "__init__" = some (some (.ref fB)))
    (wt : PySem.W.typeIn K (.ref fB) = some (.type "function"))
    (wk : PySem.W.keepIn K (.ref CB) = true)
    (wb : PySem.W.subIn K (.ref CB) (.type "BaseException") = some true)
    (wy : PySem.W.typeIn K (.ref CB) = some (.type "type"))
    (ws : PySem.W.subIn K (.ref CB) (.ref CB) = some true)
    (wz : PySem.W.isClsIn K CB = true)
    (wsa : PySem.W.findIn K (.ref CB) "__setattr__" = some (some (.builtin "object.__setattr__")))
    (wp : PySem.W.findIn K (.ref CB) "part" = some none)
    (wga : PySem.W.findIn K (.ref CB) "__getattribute__" = some (some (.builtin "BaseException.__getattribute__")))
    (wgg : PySem.W.findIn K (.ref CB) "__getattr__" = some none)
    (whd : PySem.W.hasDictIn K CB = true)
    (wf : K.lookup fB = some ⟨ocB, odB, .func (PySem.W.fnOf "__init__" "BadProgram.__init__" (defArgs sPart) (defBody sPart) (defScope sPart) .none kVB dcB pmB anB cdB ctB), slB⟩)
    (wc : PySem.W.codeIn K cdB "BadProgram.__init__" = true)
    (wfk : PySem.W.keepIn K (.ref fB) = true)
    (gS : PySem.W.nsIn K mainGlobals "NOT_IN_STARTS" = some (some (.ref aS)))
    (oS : K.lookup aS = some ⟨.type "tuple", ddS, .seq itS nuS, slS⟩)
    (sS : itS.size ≤ 64)
    (vS : Vals (bS.map V.str) itS.toList)
    (gT : PySem.W.nsIn K mainGlobals "NOT_IN_SAYINGS" = some (some (.ref aT)))
    (oT : K.lookup aT = some ⟨.type "tuple", ddT, .seq itT nuT, slT⟩)
    (sT : itT.size ≤ 64)
    (vT : Vals (bT.map V.str) itT.toList)
    (gN : PySem.W.nsIn K mainGlobals "NOT_IN_NEXTS" = some (some (.ref aN)))
    (oN : K.lookup aN = some ⟨.type "tuple", ddN, .seq itN nuN, slN⟩)
    (sN : itN.size ≤ 64)
    (vN : Vals (bN.map V.str) itN.toList)
    (gP : PySem.W.nsIn K mainGlobals "PARTS" = some (some (.ref dP)))
    (oP : K.lookup dP = some ⟨.type "dict", none, .dict esP nuP, #[]⟩)
    (kP : PySem.W.KeysLit w.params esP.toList)
    (lP : (dP == sysModules) = false)
    (p0_0 : PySem.W.nsIn K dP "me" = some (some (.int 0 tz0)))
    (p0_1 : PySem.W.nsIn K dP "many" = some (some (.int 0 tz1)))
    (p0_2 : PySem.W.nsIn K dP "ties" = some (some (.int 0 tz2)))
    (p0_3 : PySem.W.nsIn K dP "round" = some (some (.int 0 tz3)))
    (p0_4 : PySem.W.nsIn K dP "other" = some (some (.int 0 tz4)))
    (p0_5 : PySem.W.nsIn K dP "heard" = some (some (.int 0 tz5)))
    (p0_6 : PySem.W.nsIn K dP "sum" = some (some (.int 0 tz6)))
    (p0_7 : PySem.W.nsIn K dP "least" = some (some (.int 0 tz7)))
    (p0_8 : PySem.W.nsIn K dP "most" = some (some (.int 0 tz8)))
    (p2_0 : PySem.W.nsIn K dP "add" = some (some (.int 2 ty0)))
    (p2_1 : PySem.W.nsIn K dP "sub" = some (some (.int 2 ty1)))
    (p2_2 : PySem.W.nsIn K dP "mul" = some (some (.int 2 ty2)))
    (p2_3 : PySem.W.nsIn K dP "min" = some (some (.int 2 ty3)))
    (p2_4 : PySem.W.nsIn K dP "max" = some (some (.int 2 ty4)))
    (p2_5 : PySem.W.nsIn K dP "less" = some (some (.int 2 ty5)))
    (p2_6 : PySem.W.nsIn K dP "same" = some (some (.int 2 ty6)))
    (p2_7 : PySem.W.nsIn K dP "and" = some (some (.int 2 ty7)))
    (p2_8 : PySem.W.nsIn K dP "or" = some (some (.int 2 ty8)))
    (p2_9 : PySem.W.nsIn K dP "rest" = some (some (.int 2 ty9)))
    (p3 : PySem.W.nsIn K dP "if" = some (some (.int 3 tx)))
    (pn_0 : PySem.W.nsIn K dP "Add" = some none)
    (pn_1 : PySem.W.nsIn K dP "0" = some none)
    (pn_2 : PySem.W.nsIn K dP "" = some none)
    (a0 : PySem.W.nsIn K mainGlobals "is_plain_int" = some (some (.ref f0)))
    (l0 : K.lookup f0 = some ⟨oc0, od0, .func (PySem.W.fnOf "is_plain_int" "is_plain_int" (defArgs sPlain) (defBody sPlain) (defScope sPlain) .none kV0 dc0 pm0 an0 cd0 ct0), sl0⟩)
    (c0 : PySem.W.codeIn K cd0 "is_plain_int" = true)
    (k0 : PySem.W.keepIn K (.ref f0) = true)
    (a1 : PySem.W.nsIn K mainGlobals "is_number_below" = some (some (.ref f1)))
    (l1 : K.lookup f1 = some ⟨oc1, od1, .func (PySem.W.fnOf "is_number_below" "is_number_below" (defArgs sNum) (defBody sNum) (defScope sNum) .none kV1 dc1 pm1 an1 cd1 ct1), sl1⟩)
    (c1 : PySem.W.codeIn K cd1 "is_number_below" = true)
    (k1 : PySem.W.keepIn K (.ref f1) = true)
    (a2 : PySem.W.nsIn K mainGlobals "is_small" = some (some (.ref f2)))
    (l2 : K.lookup f2 = some ⟨oc2, od2, .func (PySem.W.fnOf "is_small" "is_small" (defArgs sSmall) (defBody sSmall) (defScope sSmall) .none kV2 dc2 pm2 an2 cd2 ct2), sl2⟩)
    (c2 : PySem.W.codeIn K cd2 "is_small" = true)
    (k2 : PySem.W.keepIn K (.ref f2) = true)
    (a3 : PySem.W.nsIn K mainGlobals "is_ascending" = some (some (.ref f3)))
    (l3 : K.lookup f3 = some ⟨oc3, od3, .func (PySem.W.fnOf "is_ascending" "is_ascending" (defArgs sAsc) (defBody sAsc) (defScope sAsc) .none kV3 dc3 pm3 an3 cd3 ct3), sl3⟩)
    (c3 : PySem.W.codeIn K cd3 "is_ascending" = true)
    (k3 : PySem.W.keepIn K (.ref f3) = true)
    (a4 : PySem.W.nsIn K mainGlobals "is_tie" = some (some (.ref f4)))
    (l4 : K.lookup f4 = some ⟨oc4, od4, .func (PySem.W.fnOf "is_tie" "is_tie" (defArgs sTie) (defBody sTie) (defScope sTie) .none kV4 dc4 pm4 an4 cd4 ct4), sl4⟩)
    (c4 : PySem.W.codeIn K cd4 "is_tie" = true)
    (k4 : PySem.W.keepIn K (.ref f4) = true)
    (a5 : PySem.W.nsIn K mainGlobals "first_wrong_tie" = some (some (.ref f5)))
    (l5 : K.lookup f5 = some ⟨oc5, od5, .func (PySem.W.fnOf "first_wrong_tie" "first_wrong_tie" (defArgs sFirst) (defBody sFirst) (defScope sFirst) .none kV5 dc5 pm5 an5 cd5 ct5), sl5⟩)
    (c5 : PySem.W.codeIn K cd5 "first_wrong_tie" = true)
    (k5 : PySem.W.keepIn K (.ref f5) = true)
    (a6 : PySem.W.nsIn K mainGlobals "houses_beside" = some (some (.ref f6)))
    (l6 : K.lookup f6 = some ⟨oc6, od6, .func (PySem.W.fnOf "houses_beside" "houses_beside" (defArgs sBeside) (defBody sBeside) (defScope sBeside) .none kV6 dc6 pm6 an6 cd6 ct6), sl6⟩)
    (c6 : PySem.W.codeIn K cd6 "houses_beside" = true)
    (k6 : PySem.W.keepIn K (.ref f6) = true)
    (a7 : PySem.W.nsIn K mainGlobals "steps_from" = some (some (.ref f7)))
    (l7 : K.lookup f7 = some ⟨oc7, od7, .func (PySem.W.fnOf "steps_from" "steps_from" (defArgs sSteps) (defBody sSteps) (defScope sSteps) .none kV7 dc7 pm7 an7 cd7 ct7), sl7⟩)
    (c7 : PySem.W.codeIn K cd7 "steps_from" = true)
    (k7 : PySem.W.keepIn K (.ref f7) = true)
    (a8 : PySem.W.nsIn K mainGlobals "neighbours" = some (some (.ref f8)))
    (l8 : K.lookup f8 = some ⟨oc8, od8, .func (PySem.W.fnOf "neighbours" "neighbours" (defArgs sNbr) (defBody sNbr) (defScope sNbr) .none kV8 dc8 pm8 an8 cd8 ct8), sl8⟩)
    (c8 : PySem.W.codeIn K cd8 "neighbours" = true)
    (k8 : PySem.W.keepIn K (.ref f8) = true)
    (a9 : PySem.W.nsIn K mainGlobals "brought_back" = some (some (.ref f9)))
    (l9 : K.lookup f9 = some ⟨oc9, od9, .func (PySem.W.fnOf "brought_back" "brought_back" (defArgs sBB) (defBody sBB) (defScope sBB) .none kV9 dc9 pm9 an9 cd9 ct9), sl9⟩)
    (c9 : PySem.W.codeIn K cd9 "brought_back" = true)
    (k9 : PySem.W.keepIn K (.ref f9) = true)
    (a10 : PySem.W.nsIn K mainGlobals "sum_of" = some (some (.ref f10)))
    (l10 : K.lookup f10 = some ⟨oc10, od10, .func (PySem.W.fnOf "sum_of" "sum_of" (defArgs sO1) (defBody sO1) (defScope sO1) .none kV10 dc10 pm10 an10 cd10 ct10), sl10⟩)
    (c10 : PySem.W.codeIn K cd10 "sum_of" = true)
    (k10 : PySem.W.keepIn K (.ref f10) = true)
    (a11 : PySem.W.nsIn K mainGlobals "difference_of" = some (some (.ref f11)))
    (l11 : K.lookup f11 = some ⟨oc11, od11, .func (PySem.W.fnOf "difference_of" "difference_of" (defArgs sO2) (defBody sO2) (defScope sO2) .none kV11 dc11 pm11 an11 cd11 ct11), sl11⟩)
    (c11 : PySem.W.codeIn K cd11 "difference_of" = true)
    (k11 : PySem.W.keepIn K (.ref f11) = true)
    (a12 : PySem.W.nsIn K mainGlobals "product_of" = some (some (.ref f12)))
    (l12 : K.lookup f12 = some ⟨oc12, od12, .func (PySem.W.fnOf "product_of" "product_of" (defArgs sO3) (defBody sO3) (defScope sO3) .none kV12 dc12 pm12 an12 cd12 ct12), sl12⟩)
    (c12 : PySem.W.codeIn K cd12 "product_of" = true)
    (k12 : PySem.W.keepIn K (.ref f12) = true)
    (a13 : PySem.W.nsIn K mainGlobals "lesser_of" = some (some (.ref f13)))
    (l13 : K.lookup f13 = some ⟨oc13, od13, .func (PySem.W.fnOf "lesser_of" "lesser_of" (defArgs sO4) (defBody sO4) (defScope sO4) .none kV13 dc13 pm13 an13 cd13 ct13), sl13⟩)
    (c13 : PySem.W.codeIn K cd13 "lesser_of" = true)
    (k13 : PySem.W.keepIn K (.ref f13) = true)
    (a14 : PySem.W.nsIn K mainGlobals "greater_of" = some (some (.ref f14)))
    (l14 : K.lookup f14 = some ⟨oc14, od14, .func (PySem.W.fnOf "greater_of" "greater_of" (defArgs sO5) (defBody sO5) (defScope sO5) .none kV14 dc14 pm14 an14 cd14 ct14), sl14⟩)
    (c14 : PySem.W.codeIn K cd14 "greater_of" = true)
    (k14 : PySem.W.keepIn K (.ref f14) = true)
    (a15 : PySem.W.nsIn K mainGlobals "is_less" = some (some (.ref f15)))
    (l15 : K.lookup f15 = some ⟨oc15, od15, .func (PySem.W.fnOf "is_less" "is_less" (defArgs sO6) (defBody sO6) (defScope sO6) .none kV15 dc15 pm15 an15 cd15 ct15), sl15⟩)
    (c15 : PySem.W.codeIn K cd15 "is_less" = true)
    (k15 : PySem.W.keepIn K (.ref f15) = true)
    (a16 : PySem.W.nsIn K mainGlobals "is_same" = some (some (.ref f16)))
    (l16 : K.lookup f16 = some ⟨oc16, od16, .func (PySem.W.fnOf "is_same" "is_same" (defArgs sO7) (defBody sO7) (defScope sO7) .none kV16 dc16 pm16 an16 cd16 ct16), sl16⟩)
    (c16 : PySem.W.codeIn K cd16 "is_same" = true)
    (k16 : PySem.W.keepIn K (.ref f16) = true)
    (a17 : PySem.W.nsIn K mainGlobals "are_both" = some (some (.ref f17)))
    (l17 : K.lookup f17 = some ⟨oc17, od17, .func (PySem.W.fnOf "are_both" "are_both" (defArgs sO8) (defBody sO8) (defScope sO8) .none kV17 dc17 pm17 an17 cd17 ct17), sl17⟩)
    (c17 : PySem.W.codeIn K cd17 "are_both" = true)
    (k17 : PySem.W.keepIn K (.ref f17) = true)
    (a18 : PySem.W.nsIn K mainGlobals "is_either" = some (some (.ref f18)))
    (l18 : K.lookup f18 = some ⟨oc18, od18, .func (PySem.W.fnOf "is_either" "is_either" (defArgs sO9) (defBody sO9) (defScope sO9) .none kV18 dc18 pm18 an18 cd18 ct18), sl18⟩)
    (c18 : PySem.W.codeIn K cd18 "is_either" = true)
    (k18 : PySem.W.keepIn K (.ref f18) = true)
    (a19 : PySem.W.nsIn K mainGlobals "rest_of" = some (some (.ref f19)))
    (l19 : K.lookup f19 = some ⟨oc19, od19, .func (PySem.W.fnOf "rest_of" "rest_of" (defArgs sO10) (defBody sO10) (defScope sO10) .none kV19 dc19 pm19 an19 cd19 ct19), sl19⟩)
    (c19 : PySem.W.codeIn K cd19 "rest_of" = true)
    (k19 : PySem.W.keepIn K (.ref f19) = true)
    (a20 : PySem.W.nsIn K mainGlobals "come_to" = some (some (.ref f20)))
    (l20 : K.lookup f20 = some ⟨oc20, od20, .func (PySem.W.fnOf "come_to" "come_to" (defArgs sCT) (defBody sCT) (defScope sCT) .none kV20 dc20 pm20 an20 cd20 ct20), sl20⟩)
    (c20 : PySem.W.codeIn K cd20 "come_to" = true)
    (k20 : PySem.W.keepIn K (.ref f20) = true)
    (a21 : PySem.W.nsIn K mainGlobals "first_view" = some (some (.ref f21)))
    (l21 : K.lookup f21 = some ⟨oc21, od21, .func (PySem.W.fnOf "first_view" "first_view" (defArgs sFV) (defBody sFV) (defScope sFV) .none kV21 dc21 pm21 an21 cd21 ct21), sl21⟩)
    (c21 : PySem.W.codeIn K cd21 "first_view" = true)
    (k21 : PySem.W.keepIn K (.ref f21) = true)
    (a22 : PySem.W.nsIn K mainGlobals "starts_come_to" = some (some (.ref f22)))
    (l22 : K.lookup f22 = some ⟨oc22, od22, .func (PySem.W.fnOf "starts_come_to" "starts_come_to" (defArgs sSC) (defBody sSC) (defScope sSC) .none kV22 dc22 pm22 an22 cd22 ct22), sl22⟩)
    (c22 : PySem.W.codeIn K cd22 "starts_come_to" = true)
    (k22 : PySem.W.keepIn K (.ref f22) = true)
    (a23 : PySem.W.nsIn K mainGlobals "sayings_come_to" = some (some (.ref f23)))
    (l23 : K.lookup f23 = some ⟨oc23, od23, .func (PySem.W.fnOf "sayings_come_to" "sayings_come_to" (defArgs sSY) (defBody sSY) (defScope sSY) .none kV23 dc23 pm23 an23 cd23 ct23), sl23⟩)
    (c23 : PySem.W.codeIn K cd23 "sayings_come_to" = true)
    (k23 : PySem.W.keepIn K (.ref f23) = true)
    (a24 : PySem.W.nsIn K mainGlobals "nexts_come_to" = some (some (.ref f24)))
    (l24 : K.lookup f24 = some ⟨oc24, od24, .func (PySem.W.fnOf "nexts_come_to" "nexts_come_to" (defArgs sNX) (defBody sNX) (defScope sNX) .none kV24 dc24 pm24 an24 cd24 ct24), sl24⟩)
    (c24 : PySem.W.codeIn K cd24 "nexts_come_to" = true)
    (k24 : PySem.W.keepIn K (.ref f24) = true)
    (a25 : PySem.W.nsIn K mainGlobals "all_sayings" = some (some (.ref f25)))
    (l25 : K.lookup f25 = some ⟨oc25, od25, .func (PySem.W.fnOf "all_sayings" "all_sayings" (defArgs sAll) (defBody sAll) (defScope sAll) .none kV25 dc25 pm25 an25 cd25 ct25), sl25⟩)
    (c25 : PySem.W.codeIn K cd25 "all_sayings" = true)
    (k25 : PySem.W.keepIn K (.ref f25) = true)
    (a26 : PySem.W.nsIn K mainGlobals "said_to_each" = some (some (.ref f26)))
    (l26 : K.lookup f26 = some ⟨oc26, od26, .func (PySem.W.fnOf "said_to_each" "said_to_each" (defArgs sSE) (defBody sSE) (defScope sSE) .none kV26 dc26 pm26 an26 cd26 ct26), sl26⟩)
    (c26 : PySem.W.codeIn K cd26 "said_to_each" = true)
    (k26 : PySem.W.keepIn K (.ref f26) = true)
    (a27 : PySem.W.nsIn K mainGlobals "rows_behind" = some (some (.ref f27)))
    (l27 : K.lookup f27 = some ⟨oc27, od27, .func (PySem.W.fnOf "rows_behind" "rows_behind" (defArgs sRB) (defBody sRB) (defScope sRB) .none kV27 dc27 pm27 an27 cd27 ct27), sl27⟩)
    (c27 : PySem.W.codeIn K cd27 "rows_behind" = true)
    (k27 : PySem.W.keepIn K (.ref f27) = true)
    (a28 : PySem.W.nsIn K mainGlobals "round_by_round" = some (some (.ref f28)))
    (l28 : K.lookup f28 = some ⟨oc28, od28, .func (PySem.W.fnOf "round_by_round" "round_by_round" (defArgs sRR) (defBody sRR) (defScope sRR) .none kV28 dc28 pm28 an28 cd28 ct28), sl28⟩)
    (c28 : PySem.W.codeIn K cd28 "round_by_round" = true)
    (k28 : PySem.W.keepIn K (.ref f28) = true)
    (a29 : PySem.W.nsIn K mainGlobals "lockstep" = some (some (.ref f29)))
    (l29 : K.lookup f29 = some ⟨oc29, od29, .func (PySem.W.fnOf "lockstep" "lockstep" (defArgs sLk) (defBody sLk) (defScope sLk) .none kV29 dc29 pm29 an29 cd29 ct29), sl29⟩)
    (c29 : PySem.W.codeIn K cd29 "lockstep" = true)
    (k29 : PySem.W.keepIn K (.ref f29) = true)
    (a30 : PySem.W.nsIn K mainGlobals "is_neighbour" = some (some (.ref f30)))
    (l30 : K.lookup f30 = some ⟨oc30, od30, .func (PySem.W.fnOf "is_neighbour" "is_neighbour" (defArgs sIsNb) (defBody sIsNb) (defScope sIsNb) .none kV30 dc30 pm30 an30 cd30 ct30), sl30⟩)
    (c30 : PySem.W.codeIn K cd30 "is_neighbour" = true)
    (k30 : PySem.W.keepIn K (.ref f30) = true)
    (a31 : PySem.W.nsIn K mainGlobals "are_parents" = some (some (.ref f31)))
    (l31 : K.lookup f31 = some ⟨oc31, od31, .func (PySem.W.fnOf "are_parents" "are_parents" (defArgs sAreP) (defBody sAreP) (defScope sAreP) .none kV31 dc31 pm31 an31 cd31 ct31), sl31⟩)
    (c31 : PySem.W.codeIn K cd31 "are_parents" = true)
    (k31 : PySem.W.keepIn K (.ref f31) = true)
    (a32 : PySem.W.nsIn K mainGlobals "way_up" = some (some (.ref f32)))
    (l32 : K.lookup f32 = some ⟨oc32, od32, .func (PySem.W.fnOf "way_up" "way_up" (defArgs sUp) (defBody sUp) (defScope sUp) .none kV32 dc32 pm32 an32 cd32 ct32), sl32⟩)
    (c32 : PySem.W.codeIn K cd32 "way_up" = true)
    (k32 : PySem.W.keepIn K (.ref f32) = true)
    (a33 : PySem.W.nsIn K mainGlobals "leaders_by" = some (some (.ref f33)))
    (l33 : K.lookup f33 = some ⟨oc33, od33, .func (PySem.W.fnOf "leaders_by" "leaders_by" (defArgs sLds) (defBody sLds) (defScope sLds) .none kV33 dc33 pm33 an33 cd33 ct33), sl33⟩)
    (c33 : PySem.W.codeIn K cd33 "leaders_by" = true)
    (k33 : PySem.W.keepIn K (.ref f33) = true)
    (a34 : PySem.W.nsIn K mainGlobals "children_by" = some (some (.ref f34)))
    (l34 : K.lookup f34 = some ⟨oc34, od34, .func (PySem.W.fnOf "children_by" "children_by" (defArgs sChild) (defBody sChild) (defScope sChild) .none kV34 dc34 pm34 an34 cd34 ct34), sl34⟩)
    (c34 : PySem.W.codeIn K cd34 "children_by" = true)
    (k34 : PySem.W.keepIn K (.ref f34) = true)
    (a35 : PySem.W.nsIn K mainGlobals "crossed_by" = some (some (.ref f35)))
    (l35 : K.lookup f35 = some ⟨oc35, od35, .func (PySem.W.fnOf "crossed_by" "crossed_by" (defArgs sCross) (defBody sCross) (defScope sCross) .none kV35 dc35 pm35 an35 cd35 ct35), sl35⟩)
    (c35 : PySem.W.codeIn K cd35 "crossed_by" = true)
    (k35 : PySem.W.keepIn K (.ref f35) = true)
    (a36 : PySem.W.nsIn K mainGlobals "least_ties" = some (some (.ref f36)))
    (l36 : K.lookup f36 = some ⟨oc36, od36, .func (PySem.W.fnOf "least_ties" "least_ties" (defArgs sLeast) (defBody sLeast) (defScope sLeast) .none kV36 dc36 pm36 an36 cd36 ct36), sl36⟩)
    (c36 : PySem.W.codeIn K cd36 "least_ties" = true)
    (k36 : PySem.W.keepIn K (.ref f36) = true)
    (a37 : PySem.W.nsIn K mainGlobals "are_chosen" = some (some (.ref f37)))
    (l37 : K.lookup f37 = some ⟨oc37, od37, .func (PySem.W.fnOf "are_chosen" "are_chosen" (defArgs sAreC) (defBody sAreC) (defScope sAreC) .none kV37 dc37 pm37 an37 cd37 ct37), sl37⟩)
    (c37 : PySem.W.codeIn K cd37 "are_chosen" = true)
    (k37 : PySem.W.keepIn K (.ref f37) = true)
    (a38 : PySem.W.nsIn K mainGlobals "gamma" = some (some (.ref f38)))
    (l38 : K.lookup f38 = some ⟨oc38, od38, .func (PySem.W.fnOf "gamma" "gamma" (defArgs sGamma) (defBody sGamma) (defScope sGamma) .none kV38 dc38 pm38 an38 cd38 ct38), sl38⟩)
    (c38 : PySem.W.codeIn K cd38 "gamma" = true)
    (k38 : PySem.W.keepIn K (.ref f38) = true)
    (a39 : PySem.W.nsIn K mainGlobals "beside_left" = some (some (.ref f39)))
    (l39 : K.lookup f39 = some ⟨oc39, od39, .func (PySem.W.fnOf "beside_left" "beside_left" (defArgs sBesL) (defBody sBesL) (defScope sBesL) .none kV39 dc39 pm39 an39 cd39 ct39), sl39⟩)
    (c39 : PySem.W.codeIn K cd39 "beside_left" = true)
    (k39 : PySem.W.keepIn K (.ref f39) = true)
    (a40 : PySem.W.nsIn K mainGlobals "ball_within" = some (some (.ref f40)))
    (l40 : K.lookup f40 = some ⟨oc40, od40, .func (PySem.W.fnOf "ball_within" "ball_within" (defArgs sBall) (defBody sBall) (defScope sBall) .none kV40 dc40 pm40 an40 cd40 ct40), sl40⟩)
    (c40 : PySem.W.codeIn K cd40 "ball_within" = true)
    (k40 : PySem.W.keepIn K (.ref f40) = true)
    (a41 : PySem.W.nsIn K mainGlobals "reach_of" = some (some (.ref f41)))
    (l41 : K.lookup f41 = some ⟨oc41, od41, .func (PySem.W.fnOf "reach_of" "reach_of" (defArgs sReach) (defBody sReach) (defScope sReach) .none kV41 dc41 pm41 an41 cd41 ct41), sl41⟩)
    (c41 : PySem.W.codeIn K cd41 "reach_of" = true)
    (k41 : PySem.W.keepIn K (.ref f41) = true)
    (a42 : PySem.W.nsIn K mainGlobals "nearest_beside" = some (some (.ref f42)))
    (l42 : K.lookup f42 = some ⟨oc42, od42, .func (PySem.W.fnOf "nearest_beside" "nearest_beside" (defArgs sNear) (defBody sNear) (defScope sNear) .none kV42 dc42 pm42 an42 cd42 ct42), sl42⟩)
    (c42 : PySem.W.codeIn K cd42 "nearest_beside" = true)
    (k42 : PySem.W.keepIn K (.ref f42) = true)
    (a43 : PySem.W.nsIn K mainGlobals "leader_of" = some (some (.ref f43)))
    (l43 : K.lookup f43 = some ⟨oc43, od43, .func (PySem.W.fnOf "leader_of" "leader_of" (defArgs sLdOf) (defBody sLdOf) (defScope sLdOf) .none kV43 dc43 pm43 an43 cd43 ct43), sl43⟩)
    (c43 : PySem.W.codeIn K cd43 "leader_of" = true)
    (k43 : PySem.W.keepIn K (.ref f43) = true)
    (a44 : PySem.W.nsIn K mainGlobals "is_keeper" = some (some (.ref f44)))
    (l44 : K.lookup f44 = some ⟨oc44, od44, .func (PySem.W.fnOf "is_keeper" "is_keeper" (defArgs sIsK) (defBody sIsK) (defScope sIsK) .none kV44 dc44 pm44 an44 cd44 ct44), sl44⟩)
    (c44 : PySem.W.codeIn K cd44 "is_keeper" = true)
    (k44 : PySem.W.keepIn K (.ref f44) = true)
    (a45 : PySem.W.nsIn K mainGlobals "are_expressions" = some (some (.ref f45)))
    (l45 : K.lookup f45 = some ⟨oc45, od45, .func (PySem.W.fnOf "are_expressions" "are_expressions" (defArgs sAre) (defBody sAre) (defScope sAre) .none kV45 dc45 pm45 an45 cd45 ct45), sl45⟩)
    (c45 : PySem.W.codeIn K cd45 "are_expressions" = true)
    (k45 : PySem.W.keepIn K (.ref f45) = true)
    (a46 : PySem.W.nsIn K mainGlobals "is_expression" = some (some (.ref f46)))
    (l46 : K.lookup f46 = some ⟨oc46, od46, .func (PySem.W.fnOf "is_expression" "is_expression" (defArgs sIsEx) (defBody sIsEx) (defScope sIsEx) .none kV46 dc46 pm46 an46 cd46 ct46), sl46⟩)
    (c46 : PySem.W.codeIn K cd46 "is_expression" = true)
    (k46 : PySem.W.keepIn K (.ref f46) = true)
    (a47 : PySem.W.nsIn K mainGlobals "begins_well" = some (some (.ref f47)))
    (l47 : K.lookup f47 = some ⟨oc47, od47, .func (PySem.W.fnOf "begins_well" "begins_well" (defArgs sBegins) (defBody sBegins) (defScope sBegins) .none kV47 dc47 pm47 an47 cd47 ct47), sl47⟩)
    (c47 : PySem.W.codeIn K cd47 "begins_well" = true)
    (k47 : PySem.W.keepIn K (.ref f47) = true)
    (a48 : PySem.W.nsIn K mainGlobals "inner_parts" = some (some (.ref f48)))
    (l48 : K.lookup f48 = some ⟨oc48, od48, .func (PySem.W.fnOf "inner_parts" "inner_parts" (defArgs sInner) (defBody sInner) (defScope sInner) .none kV48 dc48 pm48 an48 cd48 ct48), sl48⟩)
    (c48 : PySem.W.codeIn K cd48 "inner_parts" = true)
    (k48 : PySem.W.keepIn K (.ref f48) = true)
    (a49 : PySem.W.nsIn K mainGlobals "_law_hand" = some (some (.ref f49)))
    (l49 : K.lookup f49 = some ⟨oc49, od49, .func (PySem.W.fnOf "_law_hand" "_law_hand" (defArgs sHand) (defBody sHand) (defScope sHand) .none kV49 dc49 pm49 an49 cd49 ct49), sl49⟩)
    (c49 : PySem.W.codeIn K cd49 "_law_hand" = true)
    (k49 : PySem.W.keepIn K (.ref f49) = true)
    (a50 : PySem.W.nsIn K mainGlobals "_law_draw" = some (some (.ref f50)))
    (l50 : K.lookup f50 = some ⟨oc50, od50, .func (PySem.W.fnOf "_law_draw" "_law_draw" (defArgs sDraw) (defBody sDraw) (defScope sDraw) .none kV50 dc50 pm50 an50 cd50 ct50), sl50⟩)
    (c50 : PySem.W.codeIn K cd50 "_law_draw" = true)
    (k50 : PySem.W.keepIn K (.ref f50) = true)
    (a51 : PySem.W.nsIn K mainGlobals "_law_is" = some (some (.ref f51)))
    (l51 : K.lookup f51 = some ⟨oc51, od51, .func (PySem.W.fnOf "_law_is" "_law_is" (defArgs sIs) (defBody sIs) (defScope sIs) .none kV51 dc51 pm51 an51 cd51 ct51), sl51⟩)
    (c51 : PySem.W.codeIn K cd51 "_law_is" = true)
    (k51 : PySem.W.keepIn K (.ref f51) = true)
    (a52 : PySem.W.nsIn K mainGlobals "_law_deep" = some (some (.ref f52)))
    (l52 : K.lookup f52 = some ⟨oc52, od52, .func (PySem.W.fnOf "_law_deep" "_law_deep" (defArgs sDeep) (defBody sDeep) (defScope sDeep) .none kV52 dc52 pm52 an52 cd52 ct52), sl52⟩)
    (c52 : PySem.W.codeIn K cd52 "_law_deep" = true)
    (k52 : PySem.W.keepIn K (.ref f52) = true)
    (a53 : PySem.W.nsIn K mainGlobals "_law_number" = some (some (.ref f53)))
    (l53 : K.lookup f53 = some ⟨oc53, od53, .func (PySem.W.fnOf "_law_number" "_law_number" (defArgs sLNum) (defBody sLNum) (defScope sLNum) .none kV53 dc53 pm53 an53 cd53 ct53), sl53⟩)
    (c53 : PySem.W.codeIn K cd53 "_law_number" = true)
    (k53 : PySem.W.keepIn K (.ref f53) = true)
    (a54 : PySem.W.nsIn K mainGlobals "_law_web" = some (some (.ref f54)))
    (l54 : K.lookup f54 = some ⟨oc54, od54, .func (PySem.W.fnOf "_law_web" "_law_web" (defArgs sLWeb) (defBody sLWeb) (defScope sLWeb) .none kV54 dc54 pm54 an54 cd54 ct54), sl54⟩)
    (c54 : PySem.W.codeIn K cd54 "_law_web" = true)
    (k54 : PySem.W.keepIn K (.ref f54) = true)
    (a55 : PySem.W.nsIn K mainGlobals "_law_beside" = some (some (.ref f55)))
    (l55 : K.lookup f55 = some ⟨oc55, od55, .func (PySem.W.fnOf "_law_beside" "_law_beside" (defArgs sLBes) (defBody sLBes) (defScope sLBes) .none kV55 dc55 pm55 an55 cd55 ct55), sl55⟩)
    (c55 : PySem.W.codeIn K cd55 "_law_beside" = true)
    (k55 : PySem.W.keepIn K (.ref f55) = true)
    (a56 : PySem.W.nsIn K mainGlobals "_law_off" = some (some (.ref f56)))
    (l56 : K.lookup f56 = some ⟨oc56, od56, .func (PySem.W.fnOf "_law_off" "_law_off" (defArgs sOff) (defBody sOff) (defScope sOff) .none kV56 dc56 pm56 an56 cd56 ct56), sl56⟩)
    (c56 : PySem.W.codeIn K cd56 "_law_off" = true)
    (k56 : PySem.W.keepIn K (.ref f56) = true)
    (a57 : PySem.W.nsIn K mainGlobals "_law_leader" = some (some (.ref f57)))
    (l57 : K.lookup f57 = some ⟨oc57, od57, .func (PySem.W.fnOf "_law_leader" "_law_leader" (defArgs sLLd) (defBody sLLd) (defScope sLLd) .none kV57 dc57 pm57 an57 cd57 ct57), sl57⟩)
    (c57 : PySem.W.codeIn K cd57 "_law_leader" = true)
    (k57 : PySem.W.keepIn K (.ref f57) = true)
    (a58 : PySem.W.nsIn K mainGlobals "_law_between" = some (some (.ref f58)))
    (l58 : K.lookup f58 = some ⟨oc58, od58, .func (PySem.W.fnOf "_law_between" "_law_between" (defArgs sBtw) (defBody sBtw) (defScope sBtw) .none kV58 dc58 pm58 an58 cd58 ct58), sl58⟩)
    (c58 : PySem.W.codeIn K cd58 "_law_between" = true)
    (k58 : PySem.W.keepIn K (.ref f58) = true)
    (a59 : PySem.W.nsIn K mainGlobals "_law_least_ties" = some (some (.ref f59)))
    (l59 : K.lookup f59 = some ⟨oc59, od59, .func (PySem.W.fnOf "_law_least_ties" "_law_least_ties" (defArgs sLLt) (defBody sLLt) (defScope sLLt) .none kV59 dc59 pm59 an59 cd59 ct59), sl59⟩)
    (c59 : PySem.W.codeIn K cd59 "_law_least_ties" = true)
    (k59 : PySem.W.keepIn K (.ref f59) = true)
    (a60 : PySem.W.nsIn K mainGlobals "_law_hung" = some (some (.ref f60)))
    (l60 : K.lookup f60 = some ⟨oc60, od60, .func (PySem.W.fnOf "_law_hung" "_law_hung" (defArgs sHung) (defBody sHung) (defScope sHung) .none kV60 dc60 pm60 an60 cd60 ct60), sl60⟩)
    (c60 : PySem.W.codeIn K cd60 "_law_hung" = true)
    (k60 : PySem.W.keepIn K (.ref f60) = true)
    (a61 : PySem.W.nsIn K mainGlobals "_law_grown" = some (some (.ref f61)))
    (l61 : K.lookup f61 = some ⟨oc61, od61, .func (PySem.W.fnOf "_law_grown" "_law_grown" (defArgs sGrown) (defBody sGrown) (defScope sGrown) .none kV61 dc61 pm61 an61 cd61 ct61), sl61⟩)
    (c61 : PySem.W.codeIn K cd61 "_law_grown" = true)
    (k61 : PySem.W.keepIn K (.ref f61) = true)
    (a62 : PySem.W.nsIn K mainGlobals "_law_keeper" = some (some (.ref f62)))
    (l62 : K.lookup f62 = some ⟨oc62, od62, .func (PySem.W.fnOf "_law_keeper" "_law_keeper" (defArgs sLKeep) (defBody sLKeep) (defScope sLKeep) .none kV62 dc62 pm62 an62 cd62 ct62), sl62⟩)
    (c62 : PySem.W.codeIn K cd62 "_law_keeper" = true)
    (k62 : PySem.W.keepIn K (.ref f62) = true)
    (a63 : PySem.W.nsIn K mainGlobals "_law_small_number" = some (some (.ref f63)))
    (l63 : K.lookup f63 = some ⟨oc63, od63, .func (PySem.W.fnOf "_law_small_number" "_law_small_number" (defArgs sSN) (defBody sSN) (defScope sSN) .none kV63 dc63 pm63 an63 cd63 ct63), sl63⟩)
    (c63 : PySem.W.codeIn K cd63 "_law_small_number" = true)
    (k63 : PySem.W.keepIn K (.ref f63) = true)
    (a64 : PySem.W.nsIn K mainGlobals "_law_expression" = some (some (.ref f64)))
    (l64 : K.lookup f64 = some ⟨oc64, od64, .func (PySem.W.fnOf "_law_expression" "_law_expression" (defArgs sEX) (defBody sEX) (defScope sEX) .none kV64 dc64 pm64 an64 cd64 ct64), sl64⟩)
    (c64 : PySem.W.codeIn K cd64 "_law_expression" = true)
    (k64 : PySem.W.keepIn K (.ref f64) = true)
    (a65 : PySem.W.nsIn K mainGlobals "_law_program" = some (some (.ref f65)))
    (l65 : K.lookup f65 = some ⟨oc65, od65, .func (PySem.W.fnOf "_law_program" "_law_program" (defArgs sPR) (defBody sPR) (defScope sPR) .none kV65 dc65 pm65 an65 cd65 ct65), sl65⟩)
    (c65 : PySem.W.codeIn K cd65 "_law_program" = true)
    (k65 : PySem.W.keepIn K (.ref f65) = true)
    (a66 : PySem.W.nsIn K mainGlobals "_law_word" = some (some (.ref f66)))
    (l66 : K.lookup f66 = some ⟨oc66, od66, .func (PySem.W.fnOf "_law_word" "_law_word" (defArgs sLW) (defBody sLW) (defScope sLW) .none kV66 dc66 pm66 an66 cd66 ct66), sl66⟩)
    (c66 : PySem.W.codeIn K cd66 "_law_word" = true)
    (k66 : PySem.W.keepIn K (.ref f66) = true)
    (a67 : PySem.W.nsIn K mainGlobals "_law_none" = some (some (.ref f67)))
    (l67 : K.lookup f67 = some ⟨oc67, od67, .func (PySem.W.fnOf "_law_none" "_law_none" (defArgs sNone) (defBody sNone) (defScope sNone) .none kV67 dc67 pm67 an67 cd67 ct67), sl67⟩)
    (c67 : PySem.W.codeIn K cd67 "_law_none" = true)
    (k67 : PySem.W.keepIn K (.ref f67) = true)
    (a68 : PySem.W.nsIn K mainGlobals "law" = some (some (.ref f68)))
    (l68 : K.lookup f68 = some ⟨oc68, od68, .func (PySem.W.fnOf "law" "law" (defArgs sLaw) (defBody sLaw) (defScope sLaw) .none kV68 dc68 pm68 an68 (.ref cLw) ct68), sl68⟩)
    (c68 : PySem.W.codeIn K (.ref cLw) "law" = true)
    (k68 : PySem.W.keepIn K (.ref f68) = true)
    (gO : PySem.W.nsIn K mainGlobals "OF_TWO" = some (some (.ref dO)))
    (oO : K.lookup dO = some ⟨.type "dict", none, .dict esO nuO, #[]⟩)
    (kO : PySem.W.KeysLit w.params esO.toList)
    (lO : (dO == sysModules) = false)
    (po_0 : PySem.W.nsIn K dO "add" = some (some (.ref f10)))
    (po_1 : PySem.W.nsIn K dO "sub" = some (some (.ref f11)))
    (po_2 : PySem.W.nsIn K dO "mul" = some (some (.ref f12)))
    (po_3 : PySem.W.nsIn K dO "min" = some (some (.ref f13)))
    (po_4 : PySem.W.nsIn K dO "max" = some (some (.ref f14)))
    (po_5 : PySem.W.nsIn K dO "less" = some (some (.ref f15)))
    (po_6 : PySem.W.nsIn K dO "same" = some (some (.ref f16)))
    (po_7 : PySem.W.nsIn K dO "and" = some (some (.ref f17)))
    (po_8 : PySem.W.nsIn K dO "or" = some (some (.ref f18)))
    (po_9 : PySem.W.nsIn K dO "rest" = some (some (.ref f19)))
    (q_aC : PySem.W.nsIn K mainGlobals "Keeper" = some (some (.ref CK)))
    (q_aM : PySem.W.findIn K (.ref CK) "__init__" = some (some (.ref fK)))
    (q_iM : PySem.W.isFn K (.ref fK) = true)
    (q_lM : K.lookup fK = some ⟨ocK9, odK9, .func (PySem.W.fnOf "__init__" "Keeper.__init__" (defArgs sKeep) (defBody sKeep) (defScope sKeep) .none kVK9 dcK9 pmK9 anK9 cdK9 ctK9), slK9⟩)
    (q_cM : PySem.W.codeIn K cdK9 "Keeper.__init__" = true)
    (q_kM : PySem.W.keepIn K (.ref fK) = true)
    (q_pg : PySem.W.plainGet K CK Str.empty = true)
    (q_hd : PySem.W.hasDictIn K CK = true)
    (q_po : PySem.W.plainOver K CK = true)
    (q_sa : PySem.W.findIn K (.ref CK) "__setattr__" = some (some (.builtin "object.__setattr__")))
    (q_mk : PySem.W.makesIn K CK = true)
    (q_kc : PySem.W.keepIn K (.ref CK) = true)
    (q_n0 : PySem.W.findIn K (.ref CK) "web" = some none)
    (q_n1 : PySem.W.findIn K (.ref CK) "parents" = some none)
    (q_n2 : PySem.W.findIn K (.ref CK) "chosen" = some none)
    (q_n3 : PySem.W.findIn K (.ref CK) "_leaders" = some none)
    (q_n4 : PySem.W.findIn K (.ref CK) "_children" = some none)
    (q_n5 : PySem.W.findIn K (.ref CK) "_across" = some none)
    (ewf : PySem.W.findIn K (.ref C) "__eq__" = some (some (.ref few)))
    (ewi : PySem.W.isFn K (.ref few) = true)
    (ewl : K.lookup few = some ⟨ocew, odew, .func (PySem.W.fnOf "__eq__" "Web.__eq__" (defArgs sEqW) (defBody sEqW) (defScope sEqW) .none kVew dcew pmew anew cdew ctew), slew⟩)
    (ewc : PySem.W.codeIn K cdew "Web.__eq__" = true)
    (ewk : PySem.W.keepIn K (.ref few) = true)
    (ewha : PySem.W.findIn K (.ref C) "__class__" = some (some (.builtin "object.__class__")))
    (ewhn : PySem.W.specialIn K (.builtin "object.__class__") "__get__" = some (some (.builtin "getset_descriptor.__get__")))
    (ewht : PySem.W.takesIn K (.builtin "object.__class__") = some true)
    (ewhm : PySem.W.mroIn K C (.type "object") = some true)
    (ewis : PySem.W.isClsIn K C = true)
    (ewty : PySem.W.typeIn K (.ref C) = some (.type "type"))
    (ewnf : PySem.W.notFirst K C (.type "tuple") = true)
    (ekf : PySem.W.findIn K (.ref CK) "__eq__" = some (some (.ref fek)))
    (eki : PySem.W.isFn K (.ref fek) = true)
    (ekl : K.lookup fek = some ⟨ocek, odek, .func (PySem.W.fnOf "__eq__" "Keeper.__eq__" (defArgs sEqK) (defBody sEqK) (defScope sEqK) .none kVek dcek pmek anek cdek ctek), slek⟩)
    (ekc : PySem.W.codeIn K cdek "Keeper.__eq__" = true)
    (ekk : PySem.W.keepIn K (.ref fek) = true)
    (ekha : PySem.W.findIn K (.ref CK) "__class__" = some (some (.builtin "object.__class__")))
    (ekhn : PySem.W.specialIn K (.builtin "object.__class__") "__get__" = some (some (.builtin "getset_descriptor.__get__")))
    (ekht : PySem.W.takesIn K (.builtin "object.__class__") = some true)
    (ekhm : PySem.W.mroIn K CK (.type "object") = some true)
    (ekis : PySem.W.isClsIn K CK = true)
    (ekty : PySem.W.typeIn K (.ref CK) = some (.type "type"))
    (eknf : PySem.W.notFirst K CK (.type "tuple") = true)
    (o_aC : PySem.W.nsIn K mainGlobals "Course" = some (some (.ref CO)))
    (o_pg : PySem.W.plainGet K CO Str.empty = true)
    (o_hd : PySem.W.hasDictIn K CO = true)
    (o_po : PySem.W.plainOver K CO = true)
    (o_sa : PySem.W.findIn K (.ref CO) "__setattr__" = some (some (.builtin "object.__setattr__")))
    (o_mk : PySem.W.makesIn K CO = true)
    (o_kc : PySem.W.keepIn K (.ref CO) = true)
    (o_n0 : PySem.W.findIn K (.ref CO) "program" = some none)
    (o_n1 : PySem.W.findIn K (.ref CO) "keeper" = some none)
    (o_n2 : PySem.W.findIn K (.ref CO) "goal" = some none)
    (o_n3 : PySem.W.findIn K (.ref CO) "_lock" = some none)
    (oIf : PySem.W.findIn K (.ref CO) "__init__" = some (some (.ref foI)))
    (oIi : PySem.W.isFn K (.ref foI) = true)
    (oIl : K.lookup foI = some ⟨ocoI, odoI, .func (PySem.W.fnOf "__init__" "Course.__init__" (defArgs sCrs) (defBody sCrs) (defScope sCrs) .none kVoI dcoI pmoI anoI cdoI ctoI), sloI⟩)
    (oIc : PySem.W.codeIn K cdoI "Course.__init__" = true)
    (oIk : PySem.W.keepIn K (.ref foI) = true)
    (eof : PySem.W.findIn K (.ref CO) "__eq__" = some (some (.ref feo)))
    (eoi : PySem.W.isFn K (.ref feo) = true)
    (eol : K.lookup feo = some ⟨oceo, odeo, .func (PySem.W.fnOf "__eq__" "Course.__eq__" (defArgs sEqC) (defBody sEqC) (defScope sEqC) .none kVeo dceo pmeo aneo cdeo cteo), sleo⟩)
    (eoc : PySem.W.codeIn K cdeo "Course.__eq__" = true)
    (eok : PySem.W.keepIn K (.ref feo) = true)
    (eoha : PySem.W.findIn K (.ref CO) "__class__" = some (some (.builtin "object.__class__")))
    (eohn : PySem.W.specialIn K (.builtin "object.__class__") "__get__" = some (some (.builtin "getset_descriptor.__get__")))
    (eoht : PySem.W.takesIn K (.builtin "object.__class__") = some true)
    (eohm : PySem.W.mroIn K CO (.type "object") = some true)
    (eois : PySem.W.isClsIn K CO = true)
    (eoty : PySem.W.typeIn K (.ref CO) = some (.type "type"))
    (eonf : PySem.W.notFirst K CO (.type "tuple") = true)
    (pe_f : PySem.W.findIn K (.ref CP) "__eq__" = some (some (.ref fQ)))
    (pe_i : PySem.W.isFn K (.ref fQ) = true)
    (pe_l : K.lookup fQ = some ⟨ocQ, odQ, .func (PySem.W.fnOf "__eq__" "Program.__eq__" (defArgs sEq) (defBody sEq) (defScope sEq) .none kVQ dcQ pmQ anQ cdQ ctQ), slQ⟩)
    (pe_c : PySem.W.codeIn K cdQ "Program.__eq__" = true)
    (pe_k : PySem.W.keepIn K (.ref fQ) = true)
    (pe_ha : PySem.W.findIn K (.ref CP) "__class__" = some (some (.builtin "object.__class__")))
    (pe_hm : PySem.W.mroIn K CP (.type "object") = some true)
    (pe_is : PySem.W.isClsIn K CP = true)
    (pe_ty : PySem.W.typeIn K (.ref CP) = some (.type "type"))
    (pe_nt : PySem.W.subIn K (.type "tuple") (.ref CP) = some false)
    (pe_nf : PySem.W.notFirst K CP (.type "tuple") = true)
    (twN : PySem.W.nsIn K mainGlobals "TooMany" = some (some (.ref CTT)))
    (twl : K.lookup CTT = some (PySem.excClassObj nmTT qTT CTT NTT bsTT bmTT true snTT subTT abTT colTT ddTT k0TT k1TT k2TT k3TT k5TT "ValueError.__new__"))
    (twbm : PySem.HandSPX.refsVE bmTT = true)
    (twi : PySem.W.findIn K (.ref CTT) "__init__" = some (some (.ref fTT)))
    (twt : PySem.W.typeIn K (.ref fTT) = some (.type "function"))
    (twk : PySem.W.keepIn K (.ref CTT) = true)
    (twb : PySem.W.subIn K (.ref CTT) (.type "BaseException") = some true)
    (twy : PySem.W.typeIn K (.ref CTT) = some (.type "type"))
    (tws : PySem.W.subIn K (.ref CTT) (.ref CTT) = some true)
    (twz : PySem.W.isClsIn K CTT = true)
    (twsa : PySem.W.findIn K (.ref CTT) "__setattr__" = some (some (.builtin "object.__setattr__")))
    (twp : PySem.W.findIn K (.ref CTT) "most" = some none)
    (twga : PySem.W.findIn K (.ref CTT) "__getattribute__" = some (some (.builtin "BaseException.__getattribute__")))
    (twgg : PySem.W.findIn K (.ref CTT) "__getattr__" = some none)
    (twhd : PySem.W.hasDictIn K CTT = true)
    (twf : K.lookup fTT = some ⟨ocTT, odTT, .func (PySem.W.fnOf "__init__" "TooMany.__init__" (defArgs sMost) (defBody sMost) (defScope sMost) .none kVTT dcTT pmTT anTT cdTT ctTT), slTT⟩)
    (twc : PySem.W.codeIn K cdTT "TooMany.__init__" = true)
    (twkf : PySem.W.keepIn K (.ref fTT) = true)
    (nk_NoneType : PySem.W.subIn K (.type "NoneType") (.ref CK) = some false)
    (nk_int : PySem.W.subIn K (.type "int") (.ref CK) = some false)
    (nk_bool : PySem.W.subIn K (.type "bool") (.ref CK) = some false)
    (nk_str : PySem.W.subIn K (.type "str") (.ref CK) = some false)
    (nk_tuple : PySem.W.subIn K (.type "tuple") (.ref CK) = some false)
    (nk_list : PySem.W.subIn K (.type "list") (.ref CK) = some false)
    (nk_dict : PySem.W.subIn K (.type "dict") (.ref CK) = some false)
    (nk_w : PySem.W.subIn K (.ref C) (.ref CK) = some false)
    (nk_p : PySem.W.subIn K (.ref CP) (.ref CK) = some false)
    (nk_ww : PySem.W.subIn K (.ref C) (.ref C) = some true)
    (nk_pp : PySem.W.subIn K (.ref CP) (.ref CP) = some true)
    (eN : PySem.W.nsIn K mainGlobals "RoundError" = some (some (.ref CE)))
    (eb : PySem.W.subIn K (.ref CE) (.type "BaseException") = some true)
    (ez : PySem.W.isClsIn K CE = true)
    (ey : PySem.W.typeIn K (.ref CE) = some (.type "type"))
    (hsp : PySem.W.specialIn K (.builtin "object.__class__") "__get__" = some (some (.builtin "getset_descriptor.__get__")))
    (htk : PySem.W.takesIn K (.builtin "object.__class__") = some true)
    (en_TT : PySem.W.subIn K (.ref CTT) (.ref CE) = some true)
    (xv_TT : PySem.W.subIn K (.ref CTT) (.type "ValueError") = some true)
    (nac_TT : PySem.W.findIn K (.ref CTT) "__class__" = some (some (.builtin "object.__class__")))
    (nmo_TT : PySem.W.mroIn K CTT (.type "object") = some true)
    (en_h : PySem.W.subIn K (.ref Ch) (.ref CE) = some true)
    (nga_h : PySem.W.findIn K (.ref Ch) "__getattribute__" = some (some (.builtin "BaseException.__getattribute__")))
    (ngg_h : PySem.W.findIn K (.ref Ch) "__getattr__" = some none)
    (nhd_h : PySem.W.hasDictIn K Ch = true)
    (nac_h : PySem.W.findIn K (.ref Ch) "__class__" = some (some (.builtin "object.__class__")))
    (nmo_h : PySem.W.mroIn K Ch (.type "object") = some true)
    (en_n : PySem.W.subIn K (.ref Cn) (.ref CE) = some true)
    (nga_n : PySem.W.findIn K (.ref Cn) "__getattribute__" = some (some (.builtin "BaseException.__getattribute__")))
    (ngg_n : PySem.W.findIn K (.ref Cn) "__getattr__" = some none)
    (nhd_n : PySem.W.hasDictIn K Cn = true)
    (nac_n : PySem.W.findIn K (.ref Cn) "__class__" = some (some (.builtin "object.__class__")))
    (nmo_n : PySem.W.mroIn K Cn (.type "object") = some true)
    (lo : K.lookup cLw = some ⟨.type "code", ddLw, .fields vsLw, slLw⟩)
    (lv : vsLw[11]? = some (.ref Pt))
    (lv11 : vsLw.getD 11 .none = .ref Pt)
    (lv18 : vsLw.getD 18 .none = .str fiLw tfLw)
    (lv7 : vsLw.getD 7 .none = .int flLw tgLw)
    (lv9 : vsLw.getD 9 .none = .bool inLw)
    (lv10 : vsLw.getD 10 .none = .int txLw ttLw)
    (lne : cLw ≠ Pt)
    (ln : K.lookup Pt = none)
    (cc_MOST_ON_COURSE : PySem.W.nsIn K mainGlobals "MOST_ON_COURSE" = some (some (.int 8 tc_MOST_ON_COURSE)))
    (cc_MOST_ROUNDS : PySem.W.nsIn K mainGlobals "MOST_ROUNDS" = some (some (.int 40 tc_MOST_ROUNDS)))
    (xN_h : PySem.W.nsIn K mainGlobals "NoHouse" = some (some (.ref Ch)))
    (xl_h : K.lookup Ch = some (PySem.excClassObj nmh qh Ch Nh bsh bmh true snh subh abh colh ddh k0h k1h k2h k3h k5h "ValueError.__new__"))
    (xi_h : PySem.W.findIn K (.ref Ch) "__init__" = some (some (.ref fh)))
    (xt_h : PySem.W.typeIn K (.ref fh) = some (.type "function"))
    (xk_h : PySem.W.keepIn K (.ref Ch) = true)
    (xb_h : PySem.W.subIn K (.ref Ch) (.type "BaseException") = some true)
    (xv_h : PySem.W.subIn K (.ref Ch) (.type "ValueError") = some true)
    (xy_h : PySem.W.typeIn K (.ref Ch) = some (.type "type"))
    (xm_h : PySem.W.mroIn K Ch (.ref Ch) = some true)
    (xs_h : PySem.W.subIn K (.ref Ch) (.ref Ch) = some true)
    (xz_h : PySem.W.isClsIn K Ch = true)
    (xsu_h : PySem.W.nsIn K mainGlobals "super" = some none)
    (xo_h : PySem.W.nsIn K cStatics "thirdparty.any" = some none)
    (xf_h : K.lookup fh = some ⟨och, odh, .func (PySem.W.ksFn "__init__" "NoHouse.__init__" (supAr ph) (supB q1h q2h q3h q4h q5h) supSc .none .none doch pmh anh (.ref cdah) cth cch), oslh⟩)
    (xc_h : PySem.W.codeIn K (.ref cdah) "NoHouse.__init__" = true)
    (xd_h : K.lookup cdah = some ⟨cclh, cddh, .fields vsh, ccsh⟩)
    (xe_h : K.lookup cch = some ⟨clh, cldh, .cell (some (.ref Ch)), cslh⟩)
    (xu_h : PySem.W.ks_superIn K Ch Ch "__init__" = some (some (.builtin "ValueError.__init__")))
    (yb_h : PySem.HandSPX.refsVE bmh = true)
    (yv_h : vsh[2]? = some (.str fileh tfh))
    (yf_h : ((l.prog.main.file : Str) == fileh) = true)
    (yt_h : (l.prog.main.scope.names.lookup ("super" : Str)).isSome = false)
    (yl_h : (q3h.endLine == q4h.line) = true)
    (xN_n : PySem.W.nsIn K mainGlobals "NoNumber" = some (some (.ref Cn)))
    (xl_n : K.lookup Cn = some (PySem.excClassObj nmn qn Cn Nn bsn bmn true snn subn abn coln ddn k0n k1n k2n k3n k5n "ValueError.__new__"))
    (xi_n : PySem.W.findIn K (.ref Cn) "__init__" = some (some (.ref fn)))
    (xt_n : PySem.W.typeIn K (.ref fn) = some (.type "function"))
    (xk_n : PySem.W.keepIn K (.ref Cn) = true)
    (xb_n : PySem.W.subIn K (.ref Cn) (.type "BaseException") = some true)
    (xv_n : PySem.W.subIn K (.ref Cn) (.type "ValueError") = some true)
    (xy_n : PySem.W.typeIn K (.ref Cn) = some (.type "type"))
    (xm_n : PySem.W.mroIn K Cn (.ref Cn) = some true)
    (xs_n : PySem.W.subIn K (.ref Cn) (.ref Cn) = some true)
    (xz_n : PySem.W.isClsIn K Cn = true)
    (xsu_n : PySem.W.nsIn K mainGlobals "super" = some none)
    (xo_n : PySem.W.nsIn K cStatics "thirdparty.any" = some none)
    (xf_n : K.lookup fn = some ⟨ocn, odn, .func (PySem.W.ksFn "__init__" "NoNumber.__init__" (supAr pn) (supB q1n q2n q3n q4n q5n) supSc .none .none docn pmn ann (.ref cdan) ctn ccn), osln⟩)
    (xc_n : PySem.W.codeIn K (.ref cdan) "NoNumber.__init__" = true)
    (xd_n : K.lookup cdan = some ⟨ccln, cddn, .fields vsn, ccsn⟩)
    (xe_n : K.lookup ccn = some ⟨cln, cldn, .cell (some (.ref Cn)), csln⟩)
    (xu_n : PySem.W.ks_superIn K Cn Cn "__init__" = some (some (.builtin "ValueError.__init__")))
    (yb_n : PySem.HandSPX.refsVE bmn = true)
    (yv_n : vsn[2]? = some (.str filen tfn))
    (yf_n : ((l.prog.main.file : Str) == filen) = true)
    (yt_n : (l.prog.main.scope.names.lookup ("super" : Str)).isSome = false)
    (yl_n : (q3n.endLine == q4n.line) = true)
    (xp_h_n : PySem.W.subIn K (.ref Ch) (.ref Cn) = some false)
    (xp_h_TT : PySem.W.subIn K (.ref Ch) (.ref CTT) = some false)
    (xp_n_h : PySem.W.subIn K (.ref Cn) (.ref Ch) = some false)
    (xp_n_TT : PySem.W.subIn K (.ref Cn) (.ref CTT) = some false)
    (xp_TT_h : PySem.W.subIn K (.ref CTT) (.ref Ch) = some false)
    (xp_TT_n : PySem.W.subIn K (.ref CTT) (.ref Cn) = some false)
    (zn_str : PySem.W.nsIn K mainGlobals "str" = some none)
    (zn_all : PySem.W.nsIn K mainGlobals "all" = some none)
    (zn_zip : PySem.W.nsIn K mainGlobals "zip" = some none)
    (zn_sum : PySem.W.nsIn K mainGlobals "sum" = some none)
    (zn_ValueError : PySem.W.nsIn K mainGlobals "ValueError" = some none)
    (z_len : PySem.W.nsIn K mainGlobals "len" = some none)
    (z_int : PySem.W.nsIn K mainGlobals "int" = some none)
    (z_list : PySem.W.nsIn K mainGlobals "list" = some none)
    (z_range : PySem.W.nsIn K mainGlobals "range" = some none)
    (z_min : PySem.W.nsIn K mainGlobals "min" = some none)
    (z_max : PySem.W.nsIn K mainGlobals "max" = some none)
    (z_tuple : PySem.W.nsIn K mainGlobals "tuple" = some none)
    (z_sorted : PySem.W.nsIn K mainGlobals "sorted" = some none)
    (z_set : PySem.W.nsIn K mainGlobals "set" = some none)
    (z_isinstance : PySem.W.nsIn K mainGlobals "isinstance" = some none)
    (z_enumerate : PySem.W.nsIn K mainGlobals "enumerate" = some none)
    (z_bool : PySem.W.nsIn K mainGlobals "bool" = some none)
    (own : LamX.OwnTab K fa h) : LamX.LawAtS l w K CX0 24 63 "script" mg fa h := by
  have e := hfa.symm.trans (PySem.W.mg_of X G a68)
  cases e
  have B : Bts mg := ⟨PySem.W.mg_none_of X G z_len, PySem.W.mg_none_of X G z_int, PySem.W.mg_none_of X G z_list, PySem.W.mg_none_of X G z_range, PySem.W.mg_none_of X G z_min, PySem.W.mg_none_of X G z_max, PySem.W.mg_none_of X G z_tuple, PySem.W.mg_none_of X G z_sorted, PySem.W.mg_none_of X G z_set, PySem.W.mg_none_of X G z_isinstance, PySem.W.mg_none_of X G z_enumerate, PySem.W.mg_none_of X G z_bool⟩
  have T : WTxt K mg C := ⟨⟨w_pg, w_hd, w_po, w_sa⟩, w_n0, w_n1, w_n2, PySem.W.mg_of X G w_aC, ⟨tmW, PySem.W.mg_of X G w_aO⟩⟩
  have FM := fun_mk (st := sWeb) w_lM w_cM w_kM
  have bM := FM.binds (ps := ["self", "many", "ties"]) fun _ _ _ _ _ _ us hl => match us, hl with | [_, _, _], _ => rfl
  have TP : PTxt K mg CP := ⟨⟨p_pg, p_hd, p_po, p_sa⟩, p_n0, p_n1, p_n2, p_n3, PySem.W.mg_of X G p_aC, ⟨aS, PySem.W.mg_of X G gS, ⟨_, _, _, oS, rfl, rfl, Nat.le_trans sS (by decide), vS⟩⟩, ⟨aT, PySem.W.mg_of X G gT, ⟨_, _, _, oT, rfl, rfl, Nat.le_trans sT (by decide), vT⟩⟩, ⟨aN, PySem.W.mg_of X G gN, ⟨_, _, _, oN, rfl, rfl, Nat.le_trans sN (by decide), vN⟩⟩⟩
  have PZ : ∀ s ∈ zeroL, ∃ t, PySem.W.nsIn K dP s = some (some (.int 0 t)) := by
    intro s hs
    simp only [zeroL, List.mem_cons, List.not_mem_nil, or_false] at hs
    rcases hs with rfl | rfl | rfl | rfl | rfl | rfl | rfl | rfl | rfl
    · exact ⟨_, p0_0⟩
    · exact ⟨_, p0_1⟩
    · exact ⟨_, p0_2⟩
    · exact ⟨_, p0_3⟩
    · exact ⟨_, p0_4⟩
    · exact ⟨_, p0_5⟩
    · exact ⟨_, p0_6⟩
    · exact ⟨_, p0_7⟩
    · exact ⟨_, p0_8⟩
  have PO2 : ∀ s ∈ opsL, ∃ t, PySem.W.nsIn K dP s = some (some (.int 2 t)) := by
    intro s hs
    simp only [opsL, List.mem_cons, List.not_mem_nil, or_false] at hs
    rcases hs with rfl | rfl | rfl | rfl | rfl | rfl | rfl | rfl | rfl | rfl
    · exact ⟨_, p2_0⟩
    · exact ⟨_, p2_1⟩
    · exact ⟨_, p2_2⟩
    · exact ⟨_, p2_3⟩
    · exact ⟨_, p2_4⟩
    · exact ⟨_, p2_5⟩
    · exact ⟨_, p2_6⟩
    · exact ⟨_, p2_7⟩
    · exact ⟨_, p2_8⟩
    · exact ⟨_, p2_9⟩
  have PN : ∀ s ∈ noneL, PySem.W.nsIn K dP s = some none := by
    intro s hs
    simp only [noneL, List.mem_cons, List.not_mem_nil, or_false] at hs
    rcases hs with rfl | rfl | rfl
    · exact pn_0
    · exact pn_1
    · exact pn_2
  have OO : Oth K w mg := ⟨PySem.W.mg_none_of X G zn_str, PySem.W.mg_none_of X G zn_all, PySem.W.mg_none_of X G zn_zip, ⟨dP, esP, nuP, ⟨oP, kP, lP⟩, PySem.W.mg_of X G gP, PZ, PO2, ⟨_, p3⟩, PN⟩, ⟨⟨_, PySem.W.mg_of X G aO1⟩, ⟨_, PySem.W.mg_of X G aO2⟩, ⟨_, PySem.W.mg_of X G aO⟩⟩⟩
  have FB0 := fun_mk (st := sPart) wf wc wfk
  have BT : BTxt K mg CB fB _ := ⟨⟨⟨nmB, qB, NB, bsB, bmB, snB, subB, abB, colB, ddB, k0B, k1B, k2B, k3B, k5B, wl, wbm⟩, wsa, wb, wy, wk⟩, wi, wt, FB0, FB0.binds (ps := ["self", "part"]) (fun _ _ _ _ _ _ us hl => match us, hl with | [_, _], _ => rfl), wp, PySem.W.mg_of X G wN, exm_me wb wz wy ws, ⟨wga, wgg, wb, whd⟩⟩
  have FM0 := fun_mk (st := sProg) p_lM p_cM p_kM
  have bM0 := FM0.binds (ps := ["self", "starts", "to", "say", "nexts"]) fun _ _ _ _ _ _ us hl => match us, hl with | [_, _, _, _, _], _ => rfl
  have SUh : SupC l.prog K mg Ch fh "NoHouse.__init__" := ⟨⟨nmh, qh, Nh, bsh, bmh, snh, subh, abh, colh, ddh, k0h, k1h, k2h, k3h, k5h, xl_h, yb_h⟩, xi_h, xt_h, xk_h, xb_h, xv_h, xy_h, xm_h, PySem.W.mg_none_of X G xsu_h, xo_h, xu_h, yt_h, ⟨och, odh, doch, pmh, anh, cdah, cch, cth, oslh, ph, q1h, q2h, q3h, q4h, q5h, cclh, clh, cddh, cldh, ccsh, cslh, vsh, fileh, tfh, xf_h, xc_h, xd_h, yv_h, yf_h, xe_h, yl_h⟩⟩
  have SUn : SupC l.prog K mg Cn fn "NoNumber.__init__" := ⟨⟨nmn, qn, Nn, bsn, bmn, snn, subn, abn, coln, ddn, k0n, k1n, k2n, k3n, k5n, xl_n, yb_n⟩, xi_n, xt_n, xk_n, xb_n, xv_n, xy_n, xm_n, PySem.W.mg_none_of X G xsu_n, xo_n, xu_n, yt_n, ⟨ocn, odn, docn, pmn, ann, cdan, ccn, ctn, osln, pn, q1n, q2n, q3n, q4n, q5n, ccln, cln, cddn, cldn, ccsn, csln, vsn, filen, tfn, xf_n, xc_n, xd_n, yv_n, yf_n, xe_n, yl_n⟩⟩
  have F0 := fun_mk (st := sPlain) l0 c0 k0
  have D_is_plain_int : Df K mg "is_plain_int" sPlain ["thing"] f0 _ := ⟨F0, PySem.W.mg_of X G a0, F0.binds (ps := ["thing"]) fun _ _ _ _ _ _ us hl => match us, hl with | [_], _ => rfl⟩
  have F1 := fun_mk (st := sNum) l1 c1 k1
  have D_is_number_below : Df K mg "is_number_below" sNum ["limit", "thing"] f1 _ := ⟨F1, PySem.W.mg_of X G a1, F1.binds (ps := ["limit", "thing"]) fun _ _ _ _ _ _ us hl => match us, hl with | [_, _], _ => rfl⟩
  have F2 := fun_mk (st := sSmall) l2 c2 k2
  have D_is_small : Df K mg "is_small" sSmall ["thing"] f2 _ := ⟨F2, PySem.W.mg_of X G a2, F2.binds (ps := ["thing"]) fun _ _ _ _ _ _ us hl => match us, hl with | [_], _ => rfl⟩
  have F3 := fun_mk (st := sAsc) l3 c3 k3
  have D_is_ascending : Df K mg "is_ascending" sAsc ["things"] f3 _ := ⟨F3, PySem.W.mg_of X G a3, F3.binds (ps := ["things"]) fun _ _ _ _ _ _ us hl => match us, hl with | [_], _ => rfl⟩
  have F4 := fun_mk (st := sTie) l4 c4 k4
  have D_is_tie : Df K mg "is_tie" sTie ["many", "thing"] f4 _ := ⟨F4, PySem.W.mg_of X G a4, F4.binds (ps := ["many", "thing"]) fun _ _ _ _ _ _ us hl => match us, hl with | [_, _], _ => rfl⟩
  have F5 := fun_mk (st := sFirst) l5 c5 k5
  have D_first_wrong_tie : Df K mg "first_wrong_tie" sFirst ["many", "ties"] f5 _ := ⟨F5, PySem.W.mg_of X G a5, F5.binds (ps := ["many", "ties"]) fun _ _ _ _ _ _ us hl => match us, hl with | [_, _], _ => rfl⟩
  have F6 := fun_mk (st := sBeside) l6 c6 k6
  have D_houses_beside : Df K mg "houses_beside" sBeside ["many", "ties"] f6 _ := ⟨F6, PySem.W.mg_of X G a6, F6.binds (ps := ["many", "ties"]) fun _ _ _ _ _ _ us hl => match us, hl with | [_, _], _ => rfl⟩
  have F7 := fun_mk (st := sSteps) l7 c7 k7
  have D_steps_from : Df K mg "steps_from" sSteps ["beside", "start"] f7 _ := ⟨F7, PySem.W.mg_of X G a7, F7.binds (ps := ["beside", "start"]) fun _ _ _ _ _ _ us hl => match us, hl with | [_, _], _ => rfl⟩
  have F8 := fun_mk (st := sNbr) l8 c8 k8
  have D_neighbours : Df K mg "neighbours" sNbr ["web", "house"] f8 _ := ⟨F8, PySem.W.mg_of X G a8, F8.binds (ps := ["web", "house"]) fun _ _ _ _ _ _ us hl => match us, hl with | [_, _], _ => rfl⟩
  have F9 := fun_mk (st := sBB) l9 c9 k9
  have D_brought_back : Df K mg "brought_back" sBB ["number"] f9 _ := ⟨F9, PySem.W.mg_of X G a9, F9.binds (ps := ["number"]) fun _ _ _ _ _ _ us hl => match us, hl with | [_], _ => rfl⟩
  have F10 := fun_mk (st := sO1) l10 c10 k10
  have D_sum_of : Df K mg "sum_of" sO1 ["one", "other"] f10 _ := ⟨F10, PySem.W.mg_of X G a10, F10.binds (ps := ["one", "other"]) fun _ _ _ _ _ _ us hl => match us, hl with | [_, _], _ => rfl⟩
  have F11 := fun_mk (st := sO2) l11 c11 k11
  have D_difference_of : Df K mg "difference_of" sO2 ["one", "other"] f11 _ := ⟨F11, PySem.W.mg_of X G a11, F11.binds (ps := ["one", "other"]) fun _ _ _ _ _ _ us hl => match us, hl with | [_, _], _ => rfl⟩
  have F12 := fun_mk (st := sO3) l12 c12 k12
  have D_product_of : Df K mg "product_of" sO3 ["one", "other"] f12 _ := ⟨F12, PySem.W.mg_of X G a12, F12.binds (ps := ["one", "other"]) fun _ _ _ _ _ _ us hl => match us, hl with | [_, _], _ => rfl⟩
  have F13 := fun_mk (st := sO4) l13 c13 k13
  have D_lesser_of : Df K mg "lesser_of" sO4 ["one", "other"] f13 _ := ⟨F13, PySem.W.mg_of X G a13, F13.binds (ps := ["one", "other"]) fun _ _ _ _ _ _ us hl => match us, hl with | [_, _], _ => rfl⟩
  have F14 := fun_mk (st := sO5) l14 c14 k14
  have D_greater_of : Df K mg "greater_of" sO5 ["one", "other"] f14 _ := ⟨F14, PySem.W.mg_of X G a14, F14.binds (ps := ["one", "other"]) fun _ _ _ _ _ _ us hl => match us, hl with | [_, _], _ => rfl⟩
  have F15 := fun_mk (st := sO6) l15 c15 k15
  have D_is_less : Df K mg "is_less" sO6 ["one", "other"] f15 _ := ⟨F15, PySem.W.mg_of X G a15, F15.binds (ps := ["one", "other"]) fun _ _ _ _ _ _ us hl => match us, hl with | [_, _], _ => rfl⟩
  have F16 := fun_mk (st := sO7) l16 c16 k16
  have D_is_same : Df K mg "is_same" sO7 ["one", "other"] f16 _ := ⟨F16, PySem.W.mg_of X G a16, F16.binds (ps := ["one", "other"]) fun _ _ _ _ _ _ us hl => match us, hl with | [_, _], _ => rfl⟩
  have F17 := fun_mk (st := sO8) l17 c17 k17
  have D_are_both : Df K mg "are_both" sO8 ["one", "other"] f17 _ := ⟨F17, PySem.W.mg_of X G a17, F17.binds (ps := ["one", "other"]) fun _ _ _ _ _ _ us hl => match us, hl with | [_, _], _ => rfl⟩
  have F18 := fun_mk (st := sO9) l18 c18 k18
  have D_is_either : Df K mg "is_either" sO9 ["one", "other"] f18 _ := ⟨F18, PySem.W.mg_of X G a18, F18.binds (ps := ["one", "other"]) fun _ _ _ _ _ _ us hl => match us, hl with | [_, _], _ => rfl⟩
  have F19 := fun_mk (st := sO10) l19 c19 k19
  have D_rest_of : Df K mg "rest_of" sO10 ["one", "other"] f19 _ := ⟨F19, PySem.W.mg_of X G a19, F19.binds (ps := ["one", "other"]) fun _ _ _ _ _ _ us hl => match us, hl with | [_, _], _ => rfl⟩
  have F20 := fun_mk (st := sCT) l20 c20 k20
  have D_come_to : Df K mg "come_to" sCT ["view", "expression"] f20 _ := ⟨F20, PySem.W.mg_of X G a20, F20.binds (ps := ["view", "expression"]) fun _ _ _ _ _ _ us hl => match us, hl with | [_, _], _ => rfl⟩
  have F21 := fun_mk (st := sFV) l21 c21 k21
  have D_first_view : Df K mg "first_view" sFV ["web", "house"] f21 _ := ⟨F21, PySem.W.mg_of X G a21, F21.binds (ps := ["web", "house"]) fun _ _ _ _ _ _ us hl => match us, hl with | [_, _], _ => rfl⟩
  have F22 := fun_mk (st := sSC) l22 c22 k22
  have D_starts_come_to : Df K mg "starts_come_to" sSC ["web", "program", "house"] f22 _ := ⟨F22, PySem.W.mg_of X G a22, F22.binds (ps := ["web", "program", "house"]) fun _ _ _ _ _ _ us hl => match us, hl with | [_, _, _], _ => rfl⟩
  have F23 := fun_mk (st := sSY) l23 c23 k23
  have D_sayings_come_to : Df K mg "sayings_come_to" sSY ["web", "program", "house", "at", "cells"] f23 _ := ⟨F23, PySem.W.mg_of X G a23, F23.binds (ps := ["web", "program", "house", "at", "cells"]) fun _ _ _ _ _ _ us hl => match us, hl with | [_, _, _, _, _], _ => rfl⟩
  have F24 := fun_mk (st := sNX) l24 c24 k24
  have D_nexts_come_to : Df K mg "nexts_come_to" sNX ["web", "program", "house", "at", "cells", "numbers"] f24 _ := ⟨F24, PySem.W.mg_of X G a24, F24.binds (ps := ["web", "program", "house", "at", "cells", "numbers"]) fun _ _ _ _ _ _ us hl => match us, hl with | [_, _, _, _, _, _], _ => rfl⟩
  have F25 := fun_mk (st := sAll) l25 c25 k25
  have D_all_sayings : Df K mg "all_sayings" sAll ["web", "program", "at", "rows"] f25 _ := ⟨F25, PySem.W.mg_of X G a25, F25.binds (ps := ["web", "program", "at", "rows"]) fun _ _ _ _ _ _ us hl => match us, hl with | [_, _, _, _], _ => rfl⟩
  have F26 := fun_mk (st := sSE) l26 c26 k26
  have D_said_to_each : Df K mg "said_to_each" sSE ["web", "said"] f26 _ := ⟨F26, PySem.W.mg_of X G a26, F26.binds (ps := ["web", "said"]) fun _ _ _ _ _ _ us hl => match us, hl with | [_, _], _ => rfl⟩
  have F27 := fun_mk (st := sRB) l27 c27 k27
  have D_rows_behind : Df K mg "rows_behind" sRB ["web", "program", "at", "rows", "said"] f27 _ := ⟨F27, PySem.W.mg_of X G a27, F27.binds (ps := ["web", "program", "at", "rows", "said"]) fun _ _ _ _ _ _ us hl => match us, hl with | [_, _, _, _, _], _ => rfl⟩
  have F28 := fun_mk (st := sRR) l28 c28 k28
  have D_round_by_round : Df K mg "round_by_round" sRR ["web", "program", "rounds"] f28 _ := ⟨F28, PySem.W.mg_of X G a28, F28.binds (ps := ["web", "program", "rounds"]) fun _ _ _ _ _ _ us hl => match us, hl with | [_, _, _], _ => rfl⟩
  have F29 := fun_mk (st := sLk) l29 c29 k29
  have D_lockstep : Df K mg "lockstep" sLk ["web", "program", "rounds"] f29 _ := ⟨F29, PySem.W.mg_of X G a29, F29.binds (ps := ["web", "program", "rounds"]) fun _ _ _ _ _ _ us hl => match us, hl with | [_, _, _], _ => rfl⟩
  have F30 := fun_mk (st := sIsNb) l30 c30 k30
  have D_is_neighbour : Df K mg "is_neighbour" sIsNb ["web", "house", "thing"] f30 _ := ⟨F30, PySem.W.mg_of X G a30, F30.binds (ps := ["web", "house", "thing"]) fun _ _ _ _ _ _ us hl => match us, hl with | [_, _, _], _ => rfl⟩
  have F31 := fun_mk (st := sAreP) l31 c31 k31
  have D_are_parents : Df K mg "are_parents" sAreP ["web", "thing"] f31 _ := ⟨F31, PySem.W.mg_of X G a31, F31.binds (ps := ["web", "thing"]) fun _ _ _ _ _ _ us hl => match us, hl with | [_, _], _ => rfl⟩
  have F32 := fun_mk (st := sUp) l32 c32 k32
  have D_way_up : Df K mg "way_up" sUp ["parents", "house"] f32 _ := ⟨F32, PySem.W.mg_of X G a32, F32.binds (ps := ["parents", "house"]) fun _ _ _ _ _ _ us hl => match us, hl with | [_, _], _ => rfl⟩
  have F33 := fun_mk (st := sLds) l33 c33 k33
  have D_leaders_by : Df K mg "leaders_by" sLds ["parents"] f33 _ := ⟨F33, PySem.W.mg_of X G a33, F33.binds (ps := ["parents"]) fun _ _ _ _ _ _ us hl => match us, hl with | [_], _ => rfl⟩
  have F34 := fun_mk (st := sChild) l34 c34 k34
  have D_children_by : Df K mg "children_by" sChild ["parents"] f34 _ := ⟨F34, PySem.W.mg_of X G a34, F34.binds (ps := ["parents"]) fun _ _ _ _ _ _ us hl => match us, hl with | [_], _ => rfl⟩
  have F35 := fun_mk (st := sCross) l35 c35 k35
  have D_crossed_by : Df K mg "crossed_by" sCross ["leaders", "tie"] f35 _ := ⟨F35, PySem.W.mg_of X G a35, F35.binds (ps := ["leaders", "tie"]) fun _ _ _ _ _ _ us hl => match us, hl with | [_, _], _ => rfl⟩
  have F36 := fun_mk (st := sLeast) l36 c36 k36
  have D_least_ties : Df K mg "least_ties" sLeast ["web", "leaders"] f36 _ := ⟨F36, PySem.W.mg_of X G a36, F36.binds (ps := ["web", "leaders"]) fun _ _ _ _ _ _ us hl => match us, hl with | [_, _], _ => rfl⟩
  have F37 := fun_mk (st := sAreC) l37 c37 k37
  have D_are_chosen : Df K mg "are_chosen" sAreC ["web", "leaders", "thing"] f37 _ := ⟨F37, PySem.W.mg_of X G a37, F37.binds (ps := ["web", "leaders", "thing"]) fun _ _ _ _ _ _ us hl => match us, hl with | [_, _, _], _ => rfl⟩
  have F38 := fun_mk (st := sGamma) l38 c38 k38
  have D_gamma : Df K mg "gamma" sGamma ["web", "k"] f38 _ := ⟨F38, PySem.W.mg_of X G a38, F38.binds (ps := ["web", "k"]) fun _ _ _ _ _ _ us hl => match us, hl with | [_, _], _ => rfl⟩
  have F39 := fun_mk (st := sBesL) l39 c39 k39
  have D_beside_left : Df K mg "beside_left" sBesL ["web", "left"] f39 _ := ⟨F39, PySem.W.mg_of X G a39, F39.binds (ps := ["web", "left"]) fun _ _ _ _ _ _ us hl => match us, hl with | [_, _], _ => rfl⟩
  have F40 := fun_mk (st := sBall) l40 c40 k40
  have D_ball_within : Df K mg "ball_within" sBall ["steps", "reach"] f40 _ := ⟨F40, PySem.W.mg_of X G a40, F40.binds (ps := ["steps", "reach"]) fun _ _ _ _ _ _ us hl => match us, hl with | [_, _], _ => rfl⟩
  have F41 := fun_mk (st := sReach) l41 c41 k41
  have D_reach_of : Df K mg "reach_of" sReach ["k", "steps"] f41 _ := ⟨F41, PySem.W.mg_of X G a41, F41.binds (ps := ["k", "steps"]) fun _ _ _ _ _ _ us hl => match us, hl with | [_, _], _ => rfl⟩
  have F42 := fun_mk (st := sNear) l42 c42 k42
  have D_nearest_beside : Df K mg "nearest_beside" sNear ["beside", "steps", "house"] f42 _ := ⟨F42, PySem.W.mg_of X G a42, F42.binds (ps := ["beside", "steps", "house"]) fun _ _ _ _ _ _ us hl => match us, hl with | [_, _, _], _ => rfl⟩
  have F43 := fun_mk (st := sLdOf) l43 c43 k43
  have D_leader_of : Df K mg "leader_of" sLdOf ["keeper", "house"] f43 _ := ⟨F43, PySem.W.mg_of X G a43, F43.binds (ps := ["keeper", "house"]) fun _ _ _ _ _ _ us hl => match us, hl with | [_, _], _ => rfl⟩
  have F44 := fun_mk (st := sIsK) l44 c44 k44
  have D_is_keeper : Df K mg "is_keeper" sIsK ["web", "thing"] f44 _ := ⟨F44, PySem.W.mg_of X G a44, F44.binds (ps := ["web", "thing"]) fun _ _ _ _ _ _ us hl => match us, hl with | [_, _], _ => rfl⟩
  have F45 := fun_mk (st := sAre) l45 c45 k45
  have D_are_expressions : Df K mg "are_expressions" sAre ["barred", "cells", "things"] f45 _ := ⟨F45, PySem.W.mg_of X G a45, F45.binds (ps := ["barred", "cells", "things"]) fun _ _ _ _ _ _ us hl => match us, hl with | [_, _, _], _ => rfl⟩
  have F46 := fun_mk (st := sIsEx) l46 c46 k46
  have D_is_expression : Df K mg "is_expression" sIsEx ["barred", "cells", "thing"] f46 _ := ⟨F46, PySem.W.mg_of X G a46, F46.binds (ps := ["barred", "cells", "thing"]) fun _ _ _ _ _ _ us hl => match us, hl with | [_, _, _], _ => rfl⟩
  have F47 := fun_mk (st := sBegins) l47 c47 k47
  have D_begins_well : Df K mg "begins_well" sBegins ["barred", "cells", "thing"] f47 _ := ⟨F47, PySem.W.mg_of X G a47, F47.binds (ps := ["barred", "cells", "thing"]) fun _ _ _ _ _ _ us hl => match us, hl with | [_, _, _], _ => rfl⟩
  have F48 := fun_mk (st := sInner) l48 c48 k48
  have D_inner_parts : Df K mg "inner_parts" sInner ["expression"] f48 _ := ⟨F48, PySem.W.mg_of X G a48, F48.binds (ps := ["expression"]) fun _ _ _ _ _ _ us hl => match us, hl with | [_], _ => rfl⟩
  have F49 := fun_mk (st := sHand) l49 c49 k49
  have D__law_hand : Df K mg "_law_hand" sHand ["script"] f49 _ := ⟨F49, PySem.W.mg_of X G a49, F49.binds (ps := ["script"]) fun _ _ _ _ _ _ us hl => match us, hl with | [_], _ => rfl⟩
  have F50 := fun_mk (st := sDraw) l50 c50 k50
  have D__law_draw : Df K mg "_law_draw" sDraw ["hand", "many"] f50 _ := ⟨F50, PySem.W.mg_of X G a50, F50.binds (ps := ["hand", "many"]) fun _ _ _ _ _ _ us hl => match us, hl with | [_, _], _ => rfl⟩
  have F51 := fun_mk (st := sIs) l51 c51 k51
  have D__law_is : Df K mg "_law_is" sIs ["told", "due"] f51 _ := ⟨F51, PySem.W.mg_of X G a51, F51.binds (ps := ["told", "due"]) fun _ _ _ _ _ _ us hl => match us, hl with | [_, _], _ => rfl⟩
  have F52 := fun_mk (st := sDeep) l52 c52 k52
  have D__law_deep : Df K mg "_law_deep" sDeep ["hand"] f52 _ := ⟨F52, PySem.W.mg_of X G a52, F52.binds (ps := ["hand"]) fun _ _ _ _ _ _ us hl => match us, hl with | [_], _ => rfl⟩
  have F53 := fun_mk (st := sLNum) l53 c53 k53
  have D__law_number : Df K mg "_law_number" sLNum ["thing", "least", "most"] f53 _ := ⟨F53, PySem.W.mg_of X G a53, F53.binds (ps := ["thing", "least", "most"]) fun _ _ _ _ _ _ us hl => match us, hl with | [_, _, _], _ => rfl⟩
  have F54 := fun_mk (st := sLWeb) l54 c54 k54
  have D__law_web : Df K mg "_law_web" sLWeb ["hand", "most"] f54 _ := ⟨F54, PySem.W.mg_of X G a54, F54.binds (ps := ["hand", "most"]) fun _ _ _ _ _ _ us hl => match us, hl with | [_, _], _ => rfl⟩
  have F55 := fun_mk (st := sLBes) l55 c55 k55
  have D__law_beside : Df K mg "_law_beside" sLBes ["web", "house"] f55 _ := ⟨F55, PySem.W.mg_of X G a55, F55.binds (ps := ["web", "house"]) fun _ _ _ _ _ _ us hl => match us, hl with | [_, _], _ => rfl⟩
  have F56 := fun_mk (st := sOff) l56 c56 k56
  have D__law_off : Df K mg "_law_off" sOff ["web", "house", "left"] f56 _ := ⟨F56, PySem.W.mg_of X G a56, F56.binds (ps := ["web", "house", "left"]) fun _ _ _ _ _ _ us hl => match us, hl with | [_, _, _], _ => rfl⟩
  have F57 := fun_mk (st := sLLd) l57 c57 k57
  have D__law_leader : Df K mg "_law_leader" sLLd ["parents", "house"] f57 _ := ⟨F57, PySem.W.mg_of X G a57, F57.binds (ps := ["parents", "house"]) fun _ _ _ _ _ _ us hl => match us, hl with | [_, _], _ => rfl⟩
  have F58 := fun_mk (st := sBtw) l58 c58 k58
  have D__law_between : Df K mg "_law_between" sBtw ["web", "parents"] f58 _ := ⟨F58, PySem.W.mg_of X G a58, F58.binds (ps := ["web", "parents"]) fun _ _ _ _ _ _ us hl => match us, hl with | [_, _], _ => rfl⟩
  have F59 := fun_mk (st := sLLt) l59 c59 k59
  have D__law_least_ties : Df K mg "_law_least_ties" sLLt ["web", "parents"] f59 _ := ⟨F59, PySem.W.mg_of X G a59, F59.binds (ps := ["web", "parents"]) fun _ _ _ _ _ _ us hl => match us, hl with | [_, _], _ => rfl⟩
  have F60 := fun_mk (st := sHung) l60 c60 k60
  have D__law_hung : Df K mg "_law_hung" sHung ["web", "off", "house", "lot"] f60 _ := ⟨F60, PySem.W.mg_of X G a60, F60.binds (ps := ["web", "off", "house", "lot"]) fun _ _ _ _ _ _ us hl => match us, hl with | [_, _, _, _], _ => rfl⟩
  have F61 := fun_mk (st := sGrown) l61 c61 k61
  have D__law_grown : Df K mg "_law_grown" sGrown ["web", "factor"] f61 _ := ⟨F61, PySem.W.mg_of X G a61, F61.binds (ps := ["web", "factor"]) fun _ _ _ _ _ _ us hl => match us, hl with | [_, _], _ => rfl⟩
  have F62 := fun_mk (st := sLKeep) l62 c62 k62
  have D__law_keeper : Df K mg "_law_keeper" sLKeep ["hand", "web"] f62 _ := ⟨F62, PySem.W.mg_of X G a62, F62.binds (ps := ["hand", "web"]) fun _ _ _ _ _ _ us hl => match us, hl with | [_, _], _ => rfl⟩
  have F63 := fun_mk (st := sSN) l63 c63 k63
  have D__law_small_number : Df K mg "_law_small_number" sSN ["hand"] f63 _ := ⟨F63, PySem.W.mg_of X G a63, F63.binds (ps := ["hand"]) fun _ _ _ _ _ _ us hl => match us, hl with | [_], _ => rfl⟩
  have F64 := fun_mk (st := sEX) l64 c64 k64
  have D__law_expression : Df K mg "_law_expression" sEX ["hand", "words", "cells", "left"] f64 _ := ⟨F64, PySem.W.mg_of X G a64, F64.binds (ps := ["hand", "words", "cells", "left"]) fun _ _ _ _ _ _ us hl => match us, hl with | [_, _, _, _], _ => rfl⟩
  have F65 := fun_mk (st := sPR) l65 c65 k65
  have D__law_program : Df K mg "_law_program" sPR ["hand"] f65 _ := ⟨F65, PySem.W.mg_of X G a65, F65.binds (ps := ["hand"]) fun _ _ _ _ _ _ us hl => match us, hl with | [_], _ => rfl⟩
  have F66 := fun_mk (st := sLW) l66 c66 k66
  have D__law_word : Df K mg "_law_word" sLW ["call"] f66 _ := ⟨F66, PySem.W.mg_of X G a66, F66.binds (ps := ["call"]) fun _ _ _ _ _ _ us hl => match us, hl with | [_], _ => rfl⟩
  have F67 := fun_mk (st := sNone) l67 c67 k67
  have D__law_none : Df K mg "_law_none" sNone ["hand", "least", "most"] f67 _ := ⟨F67, PySem.W.mg_of X G a67, F67.binds (ps := ["hand", "least", "most"]) fun _ _ _ _ _ _ us hl => match us, hl with | [_, _, _], _ => rfl⟩
  have DD : WDefs K mg := ⟨_, _, D_is_plain_int, _, _, D_is_number_below, _, _, D_is_tie, _, _, D_first_wrong_tie, _, _, D_houses_beside, _, _, D_steps_from⟩
  have DDP : PDefs K mg := ⟨_, _, D_is_plain_int, _, _, D_is_number_below, _, _, D_is_small, _, _, D_begins_well, _, _, D_inner_parts, _, _, D_is_expression, _, _, D_are_expressions⟩
  have GG : GDefs K mg := ⟨_, _, D_neighbours, _, _, D_is_neighbour, _, _, D_are_parents, _, _, D_way_up, _, _, D_leaders_by, _, _, D_children_by, _, _, D_crossed_by, _, _, D_least_ties, _, _, D_is_ascending, _, _, D_are_chosen⟩
  have RR : RDefs K mg := ⟨_, _, D_beside_left, _, _, D_ball_within, _, _, D_reach_of, _, _, D_nearest_beside⟩
  have RN : RDefsN K mg := ⟨_, _, D_brought_back, _, _, D_neighbours, _, _, D_first_view, _, _, D_come_to⟩
  have KD : KDefs K mg := ⟨_, _, D_starts_come_to, _, _, D_sayings_come_to, _, _, D_nexts_come_to, _, _, D_all_sayings, _, _, D_said_to_each, _, _, D_rows_behind, _, _, D_round_by_round⟩
  have NN : NDefs K mg := ⟨_, _, D__law_draw, _, _, D__law_off, _, _, D__law_hung, _, _, D__law_grown, _, _, D__law_beside, _, _, D__law_between, _, _, D__law_leader, _, _, D__law_least_ties⟩
  have UU : LDefs K mg := ⟨_, _, D__law_hand, _, _, D__law_web, _, _, D__law_keeper, _, _, D__law_program, _, _, D__law_expression, _, _, D__law_small_number, _, _, D__law_word, _, _, D__law_none, _, _, D__law_number, _, _, D__law_deep, _, _, D__law_is, _, _, D_gamma, _, _, D_leader_of, _, _, D_is_keeper, _, _, D_lockstep⟩
  have OT : ∀ base : Heap, OpsT l.prog w K mg base := fun base => by
    refine ⟨dO, esO, nuO, ⟨oO, kO, lO⟩, PySem.W.mg_of X G gO, fun s hs => ?_⟩
    rcases ops_cases hs with rfl | rfl | rfl | rfl | rfl | rfl | rfl | rfl | rfl | rfl
    · exact ⟨f10, _, po_0, ok_o1 F10 D_brought_back, k10, D_sum_of.b⟩
    · exact ⟨f11, _, po_1, ok_o2 F11 D_brought_back, k11, D_difference_of.b⟩
    · exact ⟨f12, _, po_2, ok_o3 F12 D_brought_back, k12, D_product_of.b⟩
    · exact ⟨f13, _, po_3, ok_o4 F13 B, k13, D_lesser_of.b⟩
    · exact ⟨f14, _, po_4, ok_o5 F14 B, k14, D_greater_of.b⟩
    · exact ⟨f15, _, po_5, ok_o6 F15 , k15, D_is_less.b⟩
    · exact ⟨f16, _, po_6, ok_o7 F16 , k16, D_is_same.b⟩
    · exact ⟨f17, _, po_7, ok_o8 F17 , k17, D_are_both.b⟩
    · exact ⟨f18, _, po_8, ok_o9 F18 , k18, D_is_either.b⟩
    · exact ⟨f19, _, po_9, ok_o10 F19 , k19, D_rest_of.b⟩
  have TK : KTxt K mg CK := ⟨⟨q_pg, q_hd, q_po, q_sa⟩, q_n0, q_n1, q_n2, q_n3, q_n4, q_n5, PySem.W.mg_of X G q_aC⟩
  have FK := fun_mk (st := sKeep) q_lM q_cM q_kM
  have bK := FK.binds (ps := ["self", "web", "parents", "chosen"]) fun _ _ _ _ _ _ us hl => match us, hl with | [_, _, _, _], _ => rfl
  have Few := fun_mk (st := sEqW) ewl ewc ewk
  have EQ1 : EqC K "Web.__eq__" sEqW C few _ := ⟨ewf, ewi, Few, Few.binds (ps := ["self", "other"]) (fun _ _ _ _ _ _ us hl => match us, hl with | [_, _], _ => rfl), ewha, ewhn, ewht, ewhm, ewis, ewty, ewnf⟩
  have Fek := fun_mk (st := sEqK) ekl ekc ekk
  have EQ2 : EqC K "Keeper.__eq__" sEqK CK fek _ := ⟨ekf, eki, Fek, Fek.binds (ps := ["self", "other"]) (fun _ _ _ _ _ _ us hl => match us, hl with | [_, _], _ => rfl), ekha, ekhn, ekht, ekhm, ekis, ekty, eknf⟩
  have Feo := fun_mk (st := sEqC) eol eoc eok
  have EQ5 : EqC K "Course.__eq__" sEqC CO feo _ := ⟨eof, eoi, Feo, Feo.binds (ps := ["self", "other"]) (fun _ _ _ _ _ _ us hl => match us, hl with | [_, _], _ => rfl), eoha, eohn, eoht, eohm, eois, eoty, eonf⟩
  have FQ0 := fun_mk (st := sEq) pe_l pe_c pe_k
  have EQ4 : EqT K CP fQ _ := ⟨pe_f, pe_i, FQ0, FQ0.binds (ps := ["self", "other"]) (fun _ _ _ _ _ _ us hl => match us, hl with | [_, _], _ => rfl), pe_ha, hsp, htk, pe_hm, pe_is, pe_ty, pe_nt, pe_nf⟩
  have FT0 := fun_mk (st := sMost) twf twc twkf
  have TM : MTxt K mg CTT fTT _ := ⟨⟨⟨nmTT, qTT, NTT, bsTT, bmTT, snTT, subTT, abTT, colTT, ddTT, k0TT, k1TT, k2TT, k3TT, k5TT, twl, twbm⟩, twsa, twb, twy, twk⟩, twi, twt, FT0, FT0.binds (ps := ["self", "most"]) (fun _ _ _ _ _ _ us hl => match us, hl with | [_, _], _ => rfl), twp, PySem.W.mg_of X G twN, ⟨twga, twgg, twb, twhd⟩⟩
  have TC : CTxt K mg CO := ⟨⟨o_pg, o_hd, o_po, o_sa⟩, o_n0, o_n1, o_n2, o_n3, PySem.W.mg_of X G o_aC⟩
  have FoI := fun_mk (st := sCrs) oIl oIc oIk
  have boI := FoI.binds (ps := ["self", "program", "keeper", "goal"]) fun _ _ _ _ _ _ us hl => match us, hl with | [_, _, _, _], _ => rfl
  have NK : NotK K C CP CK := ⟨fun t ht => by
    simp only [List.mem_cons, List.not_mem_nil, or_false] at ht
    rcases ht with rfl | rfl | rfl | rfl | rfl | rfl | rfl
    · exact kit_tyC ekis ekty nk_NoneType
    · exact kit_tyC ekis ekty nk_int
    · exact kit_tyC ekis ekty nk_bool
    · exact kit_tyC ekis ekty nk_str
    · exact kit_tyC ekis ekty nk_tuple
    · exact kit_tyC ekis ekty nk_list
    · exact kit_tyC ekis ekty nk_dict,
    kit_clsN ekis ekty nk_w nk_ww, kit_clsN ekis ekty nk_p nk_pp⟩
  have ERh : Er3 K mg CE Ch "NoHouse" := ⟨PySem.W.mg_of X G xN_h, exm_ot eb ez ey en_h, ⟨nga_h, ngg_h, xb_h, nhd_h, nac_h, hsp, htk, nmo_h⟩, xz_h, kit_ve xv_h⟩
  have ERn : Er3 K mg CE Cn "NoNumber" := ⟨PySem.W.mg_of X G xN_n, exm_ot eb ez ey en_n, ⟨nga_n, ngg_n, xb_n, nhd_n, nac_n, hsp, htk, nmo_n⟩, xz_n, kit_ve xv_n⟩
  have ERT : Er3 K mg CE CTT "TooMany" := ⟨PySem.W.mg_of X G twN, exm_ot eb ez ey en_TT, ⟨twga, twgg, twb, twhd, nac_TT, hsp, htk, nmo_TT⟩, twz, kit_ve xv_TT⟩
  refine ⟨PySem.W.fnOf "law" "law" (defArgs sLaw) (defBody sLaw) (defScope sLaw) .none kV68 dc68 pm68 an68 (.ref cLw) ct68, [(cLw, Pt)], spLaw K Pt, fun p hp => ?_, fun p hp => ?_, fun p hp => ?_, fun s v => .of_eq rfl, fun H a ns hl _ hT hS => ?_, fun base _ _ tb => ?_⟩
  · rw [List.mem_singleton.mp hp]
    exact own cLw Pt _ _ _ _ _ _ l68 rfl rfl lo lv
  · rw [List.mem_singleton.mp hp]
    exact ln
  · rw [List.mem_singleton.mp hp]
    exact ⟨_, vsLw, fiLw, tfLw, flLw, tgLw, inLw, txLw, ttLw, X _ _ lo, rfl, rfl, lv, lv11, lv18, lv7, lv9, lv10, lne⟩
  · refine ⟨a, ns, rfl, hS, hl, fun p hp => ?_, fun _ => rfl⟩
    rw [List.mem_singleton.mp hp]
    exact LamX.TabS.nil (hT (cLw, Pt) List.mem_cons_self)
  · exact ok_law B (PySem.W.mg_none_of X G zn_zip) (PySem.W.mg_none_of X G zn_all) (PySem.W.mg_none_of X G zn_sum) OO (OT base) ⟨_, PySem.W.mg_of X G cc_MOST_ON_COURSE⟩ ⟨_, PySem.W.mg_of X G cc_MOST_ROUNDS⟩ T ⟨w_mk, w_aM, w_iM, w_kc⟩ FM bM TK ⟨q_mk, q_aM, q_iM, q_kc⟩ FK bK TP ⟨p_mk, p_aM, p_iM, p_kc⟩ FM0 bM0 DDP BT TC ⟨o_mk, oIf, oIi, o_kc⟩ FoI boI EQ1 EQ2 EQ4 EQ5 NK (cerrOf ERh ERn ERT (kit_clsN xz_n xy_n xp_h_n xs_h) (kit_clsN twz twy xp_h_TT xs_h) (kit_clsN xz_h xy_h xp_n_h xs_n) (kit_clsN twz twy xp_n_TT xs_n) (kit_clsN xz_h xy_h xp_TT_h tws) (kit_clsN xz_n xy_n xp_TT_n tws) (PySem.W.mg_of X G eN) (PySem.W.mg_none_of X G zn_ValueError)) TM ⟨SUh, PySem.W.mg_of X G xN_h⟩ ⟨SUn, PySem.W.mg_of X G xN_n⟩ DD GG RR RN KD NN UU l68 c68 (tb (cLw, Pt) List.mem_cons_self)
theorem walk {l : PySem.W.OpenLaw} {q : Program} {loose : List Str} {XP : (Str → Option Value) → Heap → Prop} {YP : World → Heap → Prop} {d : DefRec} {K : Params → PySem.W.Frag} (hn : l.most = some 63) (hdf : d.params.defaults = []) (hrec : ((PyProof.Rows.recsOf q).any fun e => e.name == d.name) = true)
    (hY : ∀ (w : World) (h : Heap), YP w h → (K w.params).In h)
    (F : ∀ (w : World) (mg : Str → Option Value) (fa : Addr) (h : Heap), YP w h → (K w.params).In h → h.Ns mainGlobals mg → mg d.name = some (.ref fa) → LamX.OwnTab (K w.params) fa h → LamX.LawAtS l w (K w.params) CX0 24 63 "script" mg fa h) :
    PySem.W.WalkO q loose XP YP l.row.toRowW d [] (fun f vs => PySem.call f vs) :=
  LamX.walk_ofOwn (n := 63) (k := 24) (x := "script") (CX := fun _ => CX0) hn (by decide) hdf ⟨rfl, by decide, by decide⟩ hrec hY F fun _ _ _ _ _ z => z
end Q
open PySem PySem.W PyProof.Rows in
set_option maxRecDepth 100000 in
set_option maxHeartbeats 0 in
theorem PySem.Challenge.cw_sameround_k14_keepers_and_courses_refuse_holds : PySem.Challenge.rw_sameround_k14_keepers_and_courses_refuse.Holds := by
  w_on; o_law; k_head; (case hw => w_witness2)
  k_fill
  refine Q.walk (l := PySem.Challenge.rw_sameround_k14_keepers_and_courses_refuse) rfl rfl (by first | rfl | decide +kernel) (fun w h Y => PySem.W.km_in_of Y) ?F
  case F =>
    intro w mg fa h _ KX G hmg own
    refine' Q.all_mk KX G hmg ?w_aC ?w_aM ?w_iM ?w_lM ?w_cM ?w_kM ?w_pg ?w_hd ?w_po ?w_sa ?w_mk ?w_kc ?w_aO ?w_n0 ?w_n1 ?w_n2 ?p_aC ?p_aM ?p_iM ?p_lM ?p_cM ?p_kM ?p_pg ?p_hd ?p_po ?p_sa ?p_mk ?p_kc ?aO ?aO1 ?aO2 ?p_n0 ?p_n1 ?p_n2 ?p_n3 ?wN ?wl ?wbm ?wi ?wt ?wk ?wb ?wy ?ws ?wz ?wsa ?wp ?wga ?wgg ?whd ?wf ?wc ?wfk ?gS ?oS ?sS ?vS ?gT ?oT ?sT ?vT ?gN ?oN ?sN ?vN ?gP ?oP ?kP ?lP ?p0_0 ?p0_1 ?p0_2 ?p0_3 ?p0_4 ?p0_5 ?p0_6 ?p0_7 ?p0_8 ?p2_0 ?p2_1 ?p2_2 ?p2_3 ?p2_4 ?p2_5 ?p2_6 ?p2_7 ?p2_8 ?p2_9 ?p3 ?pn_0 ?pn_1 ?pn_2 ?a0 ?l0 ?c0 ?k0 ?a1 ?l1 ?c1 ?k1 ?a2 ?l2 ?c2 ?k2 ?a3 ?l3 ?c3 ?k3 ?a4 ?l4 ?c4 ?k4 ?a5 ?l5 ?c5 ?k5 ?a6 ?l6 ?c6 ?k6 ?a7 ?l7 ?c7 ?k7 ?a8 ?l8 ?c8 ?k8 ?a9 ?l9 ?c9 ?k9 ?a10 ?l10 ?c10 ?k10 ?a11 ?l11 ?c11 ?k11 ?a12 ?l12 ?c12 ?k12 ?a13 ?l13 ?c13 ?k13 ?a14 ?l14 ?c14 ?k14 ?a15 ?l15 ?c15 ?k15 ?a16 ?l16 ?c16 ?k16 ?a17 ?l17 ?c17 ?k17 ?a18 ?l18 ?c18 ?k18 ?a19 ?l19 ?c19 ?k19 ?a20 ?l20 ?c20 ?k20 ?a21 ?l21 ?c21 ?k21 ?a22 ?l22 ?c22 ?k22 ?a23 ?l23 ?c23 ?k23 ?a24 ?l24 ?c24 ?k24 ?a25 ?l25 ?c25 ?k25 ?a26 ?l26 ?c26 ?k26 ?a27 ?l27 ?c27 ?k27 ?a28 ?l28 ?c28 ?k28 ?a29 ?l29 ?c29 ?k29 ?a30 ?l30 ?c30 ?k30 ?a31 ?l31 ?c31 ?k31 ?a32 ?l32 ?c32 ?k32 ?a33 ?l33 ?c33 ?k33 ?a34 ?l34 ?c34 ?k34 ?a35 ?l35 ?c35 ?k35 ?a36 ?l36 ?c36 ?k36 ?a37 ?l37 ?c37 ?k37 ?a38 ?l38 ?c38 ?k38 ?a39 ?l39 ?c39 ?k39 ?a40 ?l40 ?c40 ?k40 ?a41 ?l41 ?c41 ?k41 ?a42 ?l42 ?c42 ?k42 ?a43 ?l43 ?c43 ?k43 ?a44 ?l44 ?c44 ?k44 ?a45 ?l45 ?c45 ?k45 ?a46 ?l46 ?c46 ?k46 ?a47 ?l47 ?c47 ?k47 ?a48 ?l48 ?c48 ?k48 ?a49 ?l49 ?c49 ?k49 ?a50 ?l50 ?c50 ?k50 ?a51 ?l51 ?c51 ?k51 ?a52 ?l52 ?c52 ?k52 ?a53 ?l53 ?c53 ?k53 ?a54 ?l54 ?c54 ?k54 ?a55 ?l55 ?c55 ?k55 ?a56 ?l56 ?c56 ?k56 ?a57 ?l57 ?c57 ?k57 ?a58 ?l58 ?c58 ?k58 ?a59 ?l59 ?c59 ?k59 ?a60 ?l60 ?c60 ?k60 ?a61 ?l61 ?c61 ?k61 ?a62 ?l62 ?c62 ?k62 ?a63 ?l63 ?c63 ?k63 ?a64 ?l64 ?c64 ?k64 ?a65 ?l65 ?c65 ?k65 ?a66 ?l66 ?c66 ?k66 ?a67 ?l67 ?c67 ?k67 ?a68 ?l68 ?c68 ?k68 ?gO ?oO ?kO ?lO ?po_0 ?po_1 ?po_2 ?po_3 ?po_4 ?po_5 ?po_6 ?po_7 ?po_8 ?po_9 ?q_aC ?q_aM ?q_iM ?q_lM ?q_cM ?q_kM ?q_pg ?q_hd ?q_po ?q_sa ?q_mk ?q_kc ?q_n0 ?q_n1 ?q_n2 ?q_n3 ?q_n4 ?q_n5 ?ewf ?ewi ?ewl ?ewc ?ewk ?ewha ?ewhn ?ewht ?ewhm ?ewis ?ewty ?ewnf ?ekf ?eki ?ekl ?ekc ?ekk ?ekha ?ekhn ?ekht ?ekhm ?ekis ?ekty ?eknf ?o_aC ?o_pg ?o_hd ?o_po ?o_sa ?o_mk ?o_kc ?o_n0 ?o_n1 ?o_n2 ?o_n3 ?oIf ?oIi ?oIl ?oIc ?oIk ?eof ?eoi ?eol ?eoc ?eok ?eoha ?eohn ?eoht ?eohm ?eois ?eoty ?eonf ?pe_f ?pe_i ?pe_l ?pe_c ?pe_k ?pe_ha ?pe_hm ?pe_is ?pe_ty ?pe_nt ?pe_nf ?twN ?twl ?twbm ?twi ?twt ?twk ?twb ?twy ?tws ?twz ?twsa ?twp ?twga ?twgg ?twhd ?twf ?twc ?twkf ?nk_NoneType ?nk_int ?nk_bool ?nk_str ?nk_tuple ?nk_list ?nk_dict ?nk_w ?nk_p ?nk_ww ?nk_pp ?eN ?eb ?ez ?ey ?hsp ?htk ?en_TT ?xv_TT ?nac_TT ?nmo_TT ?en_h ?nga_h ?ngg_h ?nhd_h ?nac_h ?nmo_h ?en_n ?nga_n ?ngg_n ?nhd_n ?nac_n ?nmo_n ?lo ?lv ?lv11 ?lv18 ?lv7 ?lv9 ?lv10 ?lne ?ln ?cc_MOST_ON_COURSE ?cc_MOST_ROUNDS ?xN_h ?xl_h ?xi_h ?xt_h ?xk_h ?xb_h ?xv_h ?xy_h ?xm_h ?xs_h ?xz_h ?xsu_h ?xo_h ?xf_h ?xc_h ?xd_h ?xe_h ?xu_h ?yb_h ?yv_h ?yf_h ?yt_h ?yl_h ?xN_n ?xl_n ?xi_n ?xt_n ?xk_n ?xb_n ?xv_n ?xy_n ?xm_n ?xs_n ?xz_n ?xsu_n ?xo_n ?xf_n ?xc_n ?xd_n ?xe_n ?xu_n ?yb_n ?yv_n ?yf_n ?yt_n ?yl_n ?xp_h_n ?xp_h_TT ?xp_n_h ?xp_n_TT ?xp_TT_h ?xp_TT_n ?zn_str ?zn_all ?zn_zip ?zn_sum ?zn_ValueError ?z_len ?z_int ?z_list ?z_range ?z_min ?z_max ?z_tuple ?z_sorted ?z_set ?z_isinstance ?z_enumerate ?z_bool own
    (case w_aC => k_is)
    (case w_aM => k_is)
    (case w_iM => k_is)
    (case w_lM => k_is)
    (case w_cM => k_is)
    (case w_kM => k_is)
    (case w_pg => k_is)
    (case w_hd => k_is)
    (case w_po => k_is)
    (case w_sa => k_is)
    (case w_mk => k_is)
    (case w_kc => k_is)
    (case w_aO => k_is)
    (case w_n0 => k_is)
    (case w_n1 => k_is)
    (case w_n2 => k_is)
    (case p_aC => k_is)
    (case p_aM => k_is)
    (case p_iM => k_is)
    (case p_lM => k_is)
    (case p_cM => k_is)
    (case p_kM => k_is)
    (case p_pg => k_is)
    (case p_hd => k_is)
    (case p_po => k_is)
    (case p_sa => k_is)
    (case p_mk => k_is)
    (case p_kc => k_is)
    (case aO => k_is)
    (case aO1 => k_is)
    (case aO2 => k_is)
    (case p_n0 => k_is)
    (case p_n1 => k_is)
    (case p_n2 => k_is)
    (case p_n3 => k_is)
    (case wN => k_is)
    (case wl => k_is)
    (case wbm => decide +kernel)
    (case wi => k_is)
    (case wt => k_is)
    (case wk => k_is)
    (case wb => k_is)
    (case wy => k_is)
    (case ws => k_is)
    (case wz => k_is)
    (case wsa => k_is)
    (case wp => k_is)
    (case wga => k_is)
    (case wgg => k_is)
    (case whd => k_is)
    (case wf => k_is)
    (case wc => k_is)
    (case wfk => k_is)
    (case gS => k_is)
    (case oS => k_is)
    (case sS => decide)
    (case vS => (repeat (first | exact .nil | refine .cons ⟨_, rfl⟩ ?_)))
    (case gT => k_is)
    (case oT => k_is)
    (case sT => decide)
    (case vT => (repeat (first | exact .nil | refine .cons ⟨_, rfl⟩ ?_)))
    (case gN => k_is)
    (case oN => k_is)
    (case sN => decide)
    (case vN => (repeat (first | exact .nil | refine .cons ⟨_, rfl⟩ ?_)))
    (case gP => k_is)
    (case oP => k_is)
    (case kP => (repeat (first | exact trivial | refine ⟨⟨_, _, rfl, rfl⟩, ?_⟩)))
    (case lP => decide +kernel)
    (case p0_0 => k_is)
    (case p0_1 => k_is)
    (case p0_2 => k_is)
    (case p0_3 => k_is)
    (case p0_4 => k_is)
    (case p0_5 => k_is)
    (case p0_6 => k_is)
    (case p0_7 => k_is)
    (case p0_8 => k_is)
    (case p2_0 => k_is)
    (case p2_1 => k_is)
    (case p2_2 => k_is)
    (case p2_3 => k_is)
    (case p2_4 => k_is)
    (case p2_5 => k_is)
    (case p2_6 => k_is)
    (case p2_7 => k_is)
    (case p2_8 => k_is)
    (case p2_9 => k_is)
    (case p3 => k_is)
    (case pn_0 => k_is)
    (case pn_1 => k_is)
    (case pn_2 => k_is)
    (case a0 => k_is)
    (case l0 => k_is)
    (case c0 => k_is)
    (case k0 => k_is)
    (case a1 => k_is)
    (case l1 => k_is)
    (case c1 => k_is)
    (case k1 => k_is)
    (case a2 => k_is)
    (case l2 => k_is)
    (case c2 => k_is)
    (case k2 => k_is)
    (case a3 => k_is)
    (case l3 => k_is)
    (case c3 => k_is)
    (case k3 => k_is)
    (case a4 => k_is)
    (case l4 => k_is)
    (case c4 => k_is)
    (case k4 => k_is)
    (case a5 => k_is)
    (case l5 => k_is)
    (case c5 => k_is)
    (case k5 => k_is)
    (case a6 => k_is)
    (case l6 => k_is)
    (case c6 => k_is)
    (case k6 => k_is)
    (case a7 => k_is)
    (case l7 => k_is)
    (case c7 => k_is)
    (case k7 => k_is)
    (case a8 => k_is)
    (case l8 => k_is)
    (case c8 => k_is)
    (case k8 => k_is)
    (case a9 => k_is)
    (case l9 => k_is)
    (case c9 => k_is)
    (case k9 => k_is)
    (case a10 => k_is)
    (case l10 => k_is)
    (case c10 => k_is)
    (case k10 => k_is)
    (case a11 => k_is)
    (case l11 => k_is)
    (case c11 => k_is)
    (case k11 => k_is)
    (case a12 => k_is)
    (case l12 => k_is)
    (case c12 => k_is)
    (case k12 => k_is)
    (case a13 => k_is)
    (case l13 => k_is)
    (case c13 => k_is)
    (case k13 => k_is)
    (case a14 => k_is)
    (case l14 => k_is)
    (case c14 => k_is)
    (case k14 => k_is)
    (case a15 => k_is)
    (case l15 => k_is)
    (case c15 => k_is)
    (case k15 => k_is)
    (case a16 => k_is)
    (case l16 => k_is)
    (case c16 => k_is)
    (case k16 => k_is)
    (case a17 => k_is)
    (case l17 => k_is)
    (case c17 => k_is)
    (case k17 => k_is)
    (case a18 => k_is)
    (case l18 => k_is)
    (case c18 => k_is)
    (case k18 => k_is)
    (case a19 => k_is)
    (case l19 => k_is)
    (case c19 => k_is)
    (case k19 => k_is)
    (case a20 => k_is)
    (case l20 => k_is)
    (case c20 => k_is)
    (case k20 => k_is)
    (case a21 => k_is)
    (case l21 => k_is)
    (case c21 => k_is)
    (case k21 => k_is)
    (case a22 => k_is)
    (case l22 => k_is)
    (case c22 => k_is)
    (case k22 => k_is)
    (case a23 => k_is)
    (case l23 => k_is)
    (case c23 => k_is)
    (case k23 => k_is)
    (case a24 => k_is)
    (case l24 => k_is)
    (case c24 => k_is)
    (case k24 => k_is)
    (case a25 => k_is)
    (case l25 => k_is)
    (case c25 => k_is)
    (case k25 => k_is)
    (case a26 => k_is)
    (case l26 => k_is)
    (case c26 => k_is)
    (case k26 => k_is)
    (case a27 => k_is)
    (case l27 => k_is)
    (case c27 => k_is)
    (case k27 => k_is)
    (case a28 => k_is)
    (case l28 => k_is)
    (case c28 => k_is)
    (case k28 => k_is)
    (case a29 => k_is)
    (case l29 => k_is)
    (case c29 => k_is)
    (case k29 => k_is)
    (case a30 => k_is)
    (case l30 => k_is)
    (case c30 => k_is)
    (case k30 => k_is)
    (case a31 => k_is)
    (case l31 => k_is)
    (case c31 => k_is)
    (case k31 => k_is)
    (case a32 => k_is)
    (case l32 => k_is)
    (case c32 => k_is)
    (case k32 => k_is)
    (case a33 => k_is)
    (case l33 => k_is)
    (case c33 => k_is)
    (case k33 => k_is)
    (case a34 => k_is)
    (case l34 => k_is)
    (case c34 => k_is)
    (case k34 => k_is)
    (case a35 => k_is)
    (case l35 => k_is)
    (case c35 => k_is)
    (case k35 => k_is)
    (case a36 => k_is)
    (case l36 => k_is)
    (case c36 => k_is)
    (case k36 => k_is)
    (case a37 => k_is)
    (case l37 => k_is)
    (case c37 => k_is)
    (case k37 => k_is)
    (case a38 => k_is)
    (case l38 => k_is)
    (case c38 => k_is)
    (case k38 => k_is)
    (case a39 => k_is)
    (case l39 => k_is)
    (case c39 => k_is)
    (case k39 => k_is)
    (case a40 => k_is)
    (case l40 => k_is)
    (case c40 => k_is)
    (case k40 => k_is)
    (case a41 => k_is)
    (case l41 => k_is)
    (case c41 => k_is)
    (case k41 => k_is)
    (case a42 => k_is)
    (case l42 => k_is)
    (case c42 => k_is)
    (case k42 => k_is)
    (case a43 => k_is)
    (case l43 => k_is)
    (case c43 => k_is)
    (case k43 => k_is)
    (case a44 => k_is)
    (case l44 => k_is)
    (case c44 => k_is)
    (case k44 => k_is)
    (case a45 => k_is)
    (case l45 => k_is)
    (case c45 => k_is)
    (case k45 => k_is)
    (case a46 => k_is)
    (case l46 => k_is)
    (case c46 => k_is)
    (case k46 => k_is)
    (case a47 => k_is)
    (case l47 => k_is)
    (case c47 => k_is)
    (case k47 => k_is)
    (case a48 => k_is)
    (case l48 => k_is)
    (case c48 => k_is)
    (case k48 => k_is)
    (case a49 => k_is)
    (case l49 => k_is)
    (case c49 => k_is)
    (case k49 => k_is)
    (case a50 => k_is)
    (case l50 => k_is)
    (case c50 => k_is)
    (case k50 => k_is)
    (case a51 => k_is)
    (case l51 => k_is)
    (case c51 => k_is)
    (case k51 => k_is)
    (case a52 => k_is)
    (case l52 => k_is)
    (case c52 => k_is)
    (case k52 => k_is)
    (case a53 => k_is)
    (case l53 => k_is)
    (case c53 => k_is)
    (case k53 => k_is)
    (case a54 => k_is)
    (case l54 => k_is)
    (case c54 => k_is)
    (case k54 => k_is)
    (case a55 => k_is)
    (case l55 => k_is)
    (case c55 => k_is)
    (case k55 => k_is)
    (case a56 => k_is)
    (case l56 => k_is)
    (case c56 => k_is)
    (case k56 => k_is)
    (case a57 => k_is)
    (case l57 => k_is)
    (case c57 => k_is)
    (case k57 => k_is)
    (case a58 => k_is)
    (case l58 => k_is)
    (case c58 => k_is)
    (case k58 => k_is)
    (case a59 => k_is)
    (case l59 => k_is)
    (case c59 => k_is)
    (case k59 => k_is)
    (case a60 => k_is)
    (case l60 => k_is)
    (case c60 => k_is)
    (case k60 => k_is)
    (case a61 => k_is)
    (case l61 => k_is)
    (case c61 => k_is)
    (case k61 => k_is)
    (case a62 => k_is)
    (case l62 => k_is)
    (case c62 => k_is)
    (case k62 => k_is)
    (case a63 => k_is)
    (case l63 => k_is)
    (case c63 => k_is)
    (case k63 => k_is)
    (case a64 => k_is)
    (case l64 => k_is)
    (case c64 => k_is)
    (case k64 => k_is)
    (case a65 => k_is)
    (case l65 => k_is)
    (case c65 => k_is)
    (case k65 => k_is)
    (case a66 => k_is)
    (case l66 => k_is)
    (case c66 => k_is)
    (case k66 => k_is)
    (case a67 => k_is)
    (case l67 => k_is)
    (case c67 => k_is)
    (case k67 => k_is)
    (case a68 => k_is)
    (case l68 => k_is)
    (case c68 => k_is)
    (case k68 => k_is)
    (case gO => k_is)
    (case oO => k_is)
    (case kO => (repeat (first | exact trivial | refine ⟨⟨_, _, rfl, rfl⟩, ?_⟩)))
    (case lO => decide +kernel)
    (case po_0 => k_is)
    (case po_1 => k_is)
    (case po_2 => k_is)
    (case po_3 => k_is)
    (case po_4 => k_is)
    (case po_5 => k_is)
    (case po_6 => k_is)
    (case po_7 => k_is)
    (case po_8 => k_is)
    (case po_9 => k_is)
    (case q_aC => k_is)
    (case q_aM => k_is)
    (case q_iM => k_is)
    (case q_lM => k_is)
    (case q_cM => k_is)
    (case q_kM => k_is)
    (case q_pg => k_is)
    (case q_hd => k_is)
    (case q_po => k_is)
    (case q_sa => k_is)
    (case q_mk => k_is)
    (case q_kc => k_is)
    (case q_n0 => k_is)
    (case q_n1 => k_is)
    (case q_n2 => k_is)
    (case q_n3 => k_is)
    (case q_n4 => k_is)
    (case q_n5 => k_is)
    (case ewf => k_is)
    (case ewi => k_is)
    (case ewl => k_is)
    (case ewc => k_is)
    (case ewk => k_is)
    (case ewha => k_is)
    (case ewhn => k_is)
    (case ewht => k_is)
    (case ewhm => k_is)
    (case ewis => k_is)
    (case ewty => k_is)
    (case ewnf => k_is)
    (case ekf => k_is)
    (case eki => k_is)
    (case ekl => k_is)
    (case ekc => k_is)
    (case ekk => k_is)
    (case ekha => k_is)
    (case ekhn => k_is)
    (case ekht => k_is)
    (case ekhm => k_is)
    (case ekis => k_is)
    (case ekty => k_is)
    (case eknf => k_is)
    (case o_aC => k_is)
    (case o_pg => k_is)
    (case o_hd => k_is)
    (case o_po => k_is)
    (case o_sa => k_is)
    (case o_mk => k_is)
    (case o_kc => k_is)
    (case o_n0 => k_is)
    (case o_n1 => k_is)
    (case o_n2 => k_is)
    (case o_n3 => k_is)
    (case oIf => k_is)
    (case oIi => k_is)
    (case oIl => k_is)
    (case oIc => k_is)
    (case oIk => k_is)
    (case eof => k_is)
    (case eoi => k_is)
    (case eol => k_is)
    (case eoc => k_is)
    (case eok => k_is)
    (case eoha => k_is)
    (case eohn => k_is)
    (case eoht => k_is)
    (case eohm => k_is)
    (case eois => k_is)
    (case eoty => k_is)
    (case eonf => k_is)
    (case pe_f => k_is)
    (case pe_i => k_is)
    (case pe_l => k_is)
    (case pe_c => k_is)
    (case pe_k => k_is)
    (case pe_ha => k_is)
    (case pe_hm => k_is)
    (case pe_is => k_is)
    (case pe_ty => k_is)
    (case pe_nt => k_is)
    (case pe_nf => k_is)
    (case twN => k_is)
    (case twl => k_is)
    (case twbm => decide +kernel)
    (case twi => k_is)
    (case twt => k_is)
    (case twk => k_is)
    (case twb => k_is)
    (case twy => k_is)
    (case tws => k_is)
    (case twz => k_is)
    (case twsa => k_is)
    (case twp => k_is)
    (case twga => k_is)
    (case twgg => k_is)
    (case twhd => k_is)
    (case twf => k_is)
    (case twc => k_is)
    (case twkf => k_is)
    (case nk_NoneType => k_is)
    (case nk_int => k_is)
    (case nk_bool => k_is)
    (case nk_str => k_is)
    (case nk_tuple => k_is)
    (case nk_list => k_is)
    (case nk_dict => k_is)
    (case nk_w => k_is)
    (case nk_p => k_is)
    (case nk_ww => k_is)
    (case nk_pp => k_is)
    (case eN => k_is)
    (case eb => k_is)
    (case ez => k_is)
    (case ey => k_is)
    (case hsp => k_is)
    (case htk => k_is)
    (case en_TT => k_is)
    (case xv_TT => k_is)
    (case nac_TT => k_is)
    (case nmo_TT => k_is)
    (case lo => k_is)
    (case cc_MOST_ON_COURSE => k_is)
    (case cc_MOST_ROUNDS => k_is)
    (case xN_h => k_is)
    (case xl_h => k_is)
    (case xi_h => k_is)
    (case xt_h => k_is)
    (case xk_h => k_is)
    (case xb_h => k_is)
    (case xv_h => k_is)
    (case xy_h => k_is)
    (case xm_h => k_is)
    (case xs_h => k_is)
    (case xz_h => k_is)
    (case xsu_h => k_is)
    (case xo_h => k_is)
    (case xf_h => k_is)
    (case xc_h => k_is)
    (case xd_h => k_is)
    (case xe_h => k_is)
    (case xu_h => ks_is)
    (case yb_h => decide +kernel)
    (case yv_h => rfl)
    (case yf_h => decide +kernel)
    (case yt_h => decide +kernel)
    (case yl_h => decide +kernel)
    (case xN_n => k_is)
    (case xl_n => k_is)
    (case xi_n => k_is)
    (case xt_n => k_is)
    (case xk_n => k_is)
    (case xb_n => k_is)
    (case xv_n => k_is)
    (case xy_n => k_is)
    (case xm_n => k_is)
    (case xs_n => k_is)
    (case xz_n => k_is)
    (case xsu_n => k_is)
    (case xo_n => k_is)
    (case xf_n => k_is)
    (case xc_n => k_is)
    (case xd_n => k_is)
    (case xe_n => k_is)
    (case xu_n => ks_is)
    (case yb_n => decide +kernel)
    (case yv_n => rfl)
    (case yf_n => decide +kernel)
    (case yt_n => decide +kernel)
    (case yl_n => decide +kernel)
    (case xp_h_n => k_is)
    (case xp_h_TT => k_is)
    (case xp_n_h => k_is)
    (case xp_n_TT => k_is)
    (case xp_TT_h => k_is)
    (case xp_TT_n => k_is)
    (case zn_str => k_is)
    (case zn_all => k_is)
    (case zn_zip => k_is)
    (case zn_sum => k_is)
    (case zn_ValueError => k_is)
    (case z_len => k_is)
    (case z_int => k_is)
    (case z_list => k_is)
    (case z_range => k_is)
    (case z_min => k_is)
    (case z_max => k_is)
    (case z_tuple => k_is)
    (case z_sorted => k_is)
    (case z_set => k_is)
    (case z_isinstance => k_is)
    (case z_enumerate => k_is)
    (case z_bool => k_is)
    (case en_h => k_is)
    (case nga_h => k_is)
    (case ngg_h => k_is)
    (case nhd_h => k_is)
    (case nac_h => k_is)
    (case nmo_h => k_is)
    (case en_n => k_is)
    (case nga_n => k_is)
    (case ngg_n => k_is)
    (case nhd_n => k_is)
    (case nac_n => k_is)
    (case nmo_n => k_is)
    (case lv => rfl)
    (case lv11 => rfl)
    (case lv18 => rfl)
    (case lv7 => rfl)
    (case lv9 => rfl)
    (case lv10 => rfl)
    (case lne => decide)
    (case ln => first | rfl | decide +kernel)

