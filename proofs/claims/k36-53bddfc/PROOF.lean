import PyProof.Rows.All
import Wide.All
import OpenK.AllK
import Wide.FinOn
import HandS.ForMost
import HandS.ForExc
import HandS.Codes
import HandS.TupSets
import HandS.TupLe
import HandS.TupAny
import HandS.IsInst
import HandS.Wide
import HandS.ExcInit
import HandS.ExcField
import HandS.Zip
import HandS.Walk
import HandS.Rev
import HandS.RaiseMore
import HandS.Style
import HandS.Strs
import HandS.TryOnly
import HandS.CallSlots
import HandS.TupMul
import KE.KExcSuper
import KE.RegKSuper
import HandS.ExcIs
import KE.KIsAll
import KE.KExcIs
import HandS.HotCalls
import HandS.SortInts
import PySem.Challenge.RW_sameround_k36_links_rows_and_disks_refus
set_option Elab.async false
set_option linter.all false
set_option maxRecDepth 100000
set_option maxHeartbeats 8000000
namespace QR
/-- parcels, written and read: the mathematics alone -/
inductive T where
  | non
  | bl (b : Bool)
  | int (i : Int)
  | str (z : List Nat)
  | tup (l : List T)
inductive R where
  | ok (t : T) (h : Nat)
  | no (p : Nat)
def isSg (b : Int) : Bool := decide (32 ≤ b) && decide (b ≤ 126) && !decide (b = 37)
def vlq (n : Nat) : List Int := if n < 128 then [(n : Int)] else ((128 + n % 128 : Nat) : Int) :: vlq (n / 128)
termination_by n
decreasing_by omega
theorem vlq_lt {n : Nat} (h : n < 128) : vlq n = [(n : Int)] := by rw [vlq, if_pos h]
theorem vlq_ge {n : Nat} (h : ¬ n < 128) : vlq n = ((128 + n % 128 : Nat) : Int) :: vlq (n / 128) := by rw [vlq, if_neg h]
def encA : T → List Int
  | .non => [0]
  | .bl b => [if b = true then 2 else 1]
  | .int i => if 0 ≤ i then 3 :: vlq i.toNat else 4 :: vlq (-1 - i).toNat
  | .str z => 5 :: (vlq z.length ++ z.map fun c : Nat => (c : Int))
  | .tup _ => []
def enc : Nat → T → List Int
  | 0, t => encA t
  | d + 1, t => match t with
    | .tup l => 6 :: (vlq l.length ++ (l.map (enc d)).flatten)
    | t => encA t
def okA : T → Prop
  | .str z => 1 ≤ z.length ∧ z.length ≤ 20 ∧ ∀ c ∈ z, isSg (c : Int) = true
  | .tup _ => False
  | _ => True
def OkT : Nat → T → Prop
  | 0, t => okA t
  | d + 1, t => match t with
    | .tup l => ∀ t ∈ l, OkT d t
    | t => okA t
theorem OkT.more {d : Nat} : ∀ {t : T}, OkT d t → OkT (d + 1) t := by
  induction d with
  | zero => intro t h; cases t <;> first | exact h | exact h.elim
  | succ d ih => intro t h; cases t with
    | tup l => exact fun t ht => ih (h t ht)
    | _ => exact h
theorem OkT.enc {d : Nat} : ∀ {t : T}, OkT d t → enc (d + 1) t = enc d t := by
  induction d with
  | zero => intro t h; cases t <;> first | rfl | exact h.elim
  | succ d ih => intro t h; cases t with
    | tup l =>
      show 6 :: (vlq l.length ++ (l.map (QR.enc (d + 1))).flatten) = 6 :: (vlq l.length ++ (l.map (QR.enc d)).flatten)
      rw [List.map_congr_left fun t ht => ih (h t ht)]
    | _ => rfl
theorem OkT.up {d : Nat} {t : T} (h : OkT d t) : ∀ k, OkT (d + k) t ∧ QR.enc (d + k) t = QR.enc d t
  | 0 => ⟨h, rfl⟩
  | k + 1 => by
    obtain ⟨h1, h2⟩ := h.up k
    exact ⟨h1.more, h1.enc.trans h2⟩
/-! ### whole numbers -/
def scan : List Int → Nat
  | [] => 0
  | b :: l => if 128 ≤ b then scan l + 1 else 0
def val (l : List Int) : Int := l.foldr (fun b n => n * 128 + b % 128) 0
theorem val_cons (b : Int) (l : List Int) : val (b :: l) = val l * 128 + b % 128 := rfl
theorem val_nn : ∀ l, 0 ≤ val l
  | [] => Int.le_refl _
  | b :: l => by
    rw [val_cons]
    have := val_nn l
    have := Int.emod_nonneg b (show (128 : Int) ≠ 0 by decide)
    omega
theorem scan_le : ∀ l, scan l ≤ l.length
  | [] => Nat.le_refl _
  | b :: l => by
    unfold scan
    have := scan_le l
    split
    · rw [List.length_cons]; omega
    · exact Nat.zero_le _
theorem scan_big : ∀ {l : List Int} {i : Nat}, i < scan l → ∃ b, l[i]? = some b ∧ 128 ≤ b
  | [], i, h => absurd h (by simp [scan])
  | b :: l, i, h => by
    unfold scan at h
    split at h
    · rename_i c
      cases i with
      | zero => exact ⟨b, rfl, c⟩
      | succ i => exact scan_big (l := l) (by omega)
    · omega
theorem scan_at : ∀ {l : List Int} {b : Int}, l[scan l]? = some b → b < 128
  | [], b, h => by simp [scan] at h
  | a :: l, b, h => by
    unfold scan at h
    split at h
    · exact scan_at (l := l) (by simpa using h)
    · rename_i c
      have : a = b := by simpa using h
      omega
/-- what is the first small one -/
theorem scan_is : ∀ {l : List Int} {i : Nat}, i ≤ l.length → (∀ k, k < i → ∃ b, l[k]? = some b ∧ 128 ≤ b) → (∀ b, l[i]? = some b → b < 128) → scan l = i
  | [], i, h, _, _ => by
    have : i = 0 := by simpa using h
    rw [this]; rfl
  | b :: l, 0, _, _, h => by
    have := h b rfl
    unfold scan
    rw [if_neg (by omega)]
  | b :: l, i + 1, hl, hb, h => by
    obtain ⟨b', e, c⟩ := hb 0 (by omega)
    have e : b = b' := by simpa using e
    unfold scan
    rw [if_pos (by omega), scan_is (l := l) (i := i) (by simpa using hl) (fun k hk => hb (k + 1) (by omega)) (fun b hb' => h b hb')]
/-- a whole number from place a on: its value, and the place behind it -/
def rdW (r : List Int) (a : Nat) : Option (Int × Nat) :=
  match r[a + scan (r.drop a)]? with
  | none => none
  | some b => if b = 0 ∧ 0 < scan (r.drop a) then none else some (val ((r.drop a).take (scan (r.drop a) + 1)), a + scan (r.drop a) + 1)
theorem rdW_nn {r : List Int} {a h : Nat} {n : Int} (e : rdW r a = some (n, h)) : 0 ≤ n ∧ a < h ∧ h ≤ r.length := by
  unfold rdW at e
  split at e
  · cases e
  · rename_i b hb
    have := (List.getElem?_eq_some_iff.mp hb).1
    split at e
    · cases e
    · cases e
      exact ⟨val_nn _, by omega, by omega⟩
theorem vlq_len (n : Nat) : 0 < (vlq n).length := by
  rw [vlq]
  split <;> simp
theorem vlq_fact : ∀ (n : Nat) (post : List Int), scan (vlq n ++ post) + 1 = (vlq n).length ∧ (∃ b, (vlq n ++ post)[scan (vlq n ++ post)]? = some b ∧ (b = 0 → n = 0)) ∧ val (vlq n) = (n : Int) := by
  intro n
  induction n using Nat.strongRecOn with
  | _ n ih =>
    intro post
    by_cases c : n < 128
    · rw [vlq_lt c]
      have e : scan ([(n : Int)] ++ post) = 0 := by
        show scan ((n : Int) :: post) = 0
        unfold scan
        rw [if_neg (by omega)]
      refine ⟨by rw [e]; rfl, ⟨n, by rw [e]; rfl, fun z => by omega⟩, ?_⟩
      show (0 : Int) * 128 + (n : Int) % 128 = n
      omega
    · obtain ⟨h1, ⟨b, h2, h3⟩, h4⟩ := ih (n / 128) (by omega) post
      rw [vlq_ge c]
      have e : scan (((128 + n % 128 : Nat) : Int) :: vlq (n / 128) ++ post) = scan (vlq (n / 128) ++ post) + 1 := by
        show scan (((128 + n % 128 : Nat) : Int) :: (vlq (n / 128) ++ post)) = _
        rw [scan, if_pos (by omega)]
      refine ⟨by rw [e, h1]; rfl, ⟨b, by rw [e]; exact h2, fun z => by have := h3 z; omega⟩, ?_⟩
      rw [val_cons, h4]
      omega
theorem rdW_vlq (pre post : List Int) (n : Nat) : rdW (pre ++ (vlq n ++ post)) pre.length = some ((n : Int), pre.length + (vlq n).length) := by
  obtain ⟨h1, ⟨b, h2, h3⟩, h4⟩ := vlq_fact n post
  have ed : (pre ++ (vlq n ++ post)).drop pre.length = vlq n ++ post := List.drop_left
  unfold rdW
  rw [ed, List.getElem?_append_right (by omega), Nat.add_sub_cancel_left, h2]
  show (if b = 0 ∧ 0 < scan (vlq n ++ post) then none else some (val ((vlq n ++ post).take (scan (vlq n ++ post) + 1)), pre.length + scan (vlq n ++ post) + 1)) = _
  rw [h1, if_neg]
  · rw [List.take_left, h4]
    rw [Nat.add_assoc, h1]
  · rintro ⟨z, y⟩
    have := h3 z
    subst this
    have : (vlq 0).length = 1 := by rw [vlq_lt (by decide)]; rfl
    omega
/-! ### signs, tuples, parcels -/
def rdS (r : List Int) : Nat → Nat → List Nat → R
  | 0, h, acc => .ok (.str acc) h
  | m + 1, h, acc => match r[h]? with
    | none => .no h
    | some b => if isSg b = true then rdS r m (h + 1) (acc ++ [b.toNat]) else .no h
def rdL (f : Nat → R) : Nat → Nat → Nat → List T → R
  | _, 0, h, acc => .ok (.tup acc) h
  | 0, _ + 1, h, _ => .no h
  | k + 1, m + 1, h, acc => match f h with
    | .no p => .no p
    | .ok t h' => rdL f k m h' (acc ++ [t])
def rdB (r : List Int) (g : Nat → Nat → R) (s : Int) (a : Nat) : R := match rdW r (a + 1) with
  | none => .no (a + 1)
  | some (n, h) => if s = 3 then .ok (.int n) h else if s = 4 then .ok (.int (-1 - n)) h else if s = 5 then (if 1 ≤ n ∧ n ≤ 20 then rdS r n.toNat h [] else .no (a + 1)) else g n.toNat h
def rdG (r : List Int) (g : Nat → Nat → R) (z : Bool) (a : Nat) : R := match r[a]? with
  | none => .no a
  | some s => if 6 < s ∨ (s = 6 ∧ z = true) then .no a else if s = 0 then .ok .non (a + 1) else if s = 1 then .ok (.bl false) (a + 1) else if s = 2 then .ok (.bl true) (a + 1) else rdB r g s a
def rdP (r : List Int) : Nat → Nat → R
  | 0 => rdG r (fun _ h => .no h) true
  | d + 1 => rdG r (fun n h => rdL (rdP r d) (r.length + 1) n h []) false
def Fwd (r : List Int) (a : Nat) (x : R) : Prop := ∀ t h, x = .ok t h → a < h ∧ h ≤ r.length
theorem rdS_fwd {r : List Int} : ∀ (m h : Nat) (acc : List Nat) {a : Nat}, a < h → h ≤ r.length → Fwd r a (rdS r m h acc)
  | 0, h, acc, a, h1, h2 => fun t h' e => by cases e; exact ⟨h1, h2⟩
  | m + 1, h, acc, a, h1, h2 => by
    unfold rdS
    split
    · exact fun t h' e => by cases e
    · rename_i b hb
      have := (List.getElem?_eq_some_iff.mp hb).1
      split
      · exact rdS_fwd m (h + 1) _ (by omega) (by omega)
      · exact fun t h' e => by cases e
theorem rdL_fwd {r : List Int} {f : Nat → R} (hf : ∀ a, Fwd r a (f a)) : ∀ (k m h : Nat) (acc : List T) {a : Nat}, a < h → h ≤ r.length → Fwd r a (rdL f k m h acc)
  | k, 0, h, acc, a, h1, h2 => fun t h' e => by
    have e : R.ok (.tup acc) h = .ok t h' := by cases k <;> exact e
    cases e; exact ⟨h1, h2⟩
  | 0, m + 1, h, acc, a, h1, h2 => fun t h' e => by cases e
  | k + 1, m + 1, h, acc, a, h1, h2 => by
    unfold rdL
    split
    · exact fun t h' e => by cases e
    · rename_i t h' e
      obtain ⟨z1, z2⟩ := hf h t h' e
      exact rdL_fwd hf k m h' _ (by omega) z2
theorem rdG_fwd {r : List Int} {g : Nat → Nat → R} {z : Bool} {a : Nat} (hg : ∀ n h, a < h → h ≤ r.length → Fwd r a (g n h)) : Fwd r a (rdG r g z a) := by
  unfold rdG
  split
  · exact fun t h e => by cases e
  · rename_i s hs
    have hl := (List.getElem?_eq_some_iff.mp hs).1
    have one : ∀ {t' : T}, Fwd r a (.ok t' (a + 1)) := fun {t'} t h e => by cases e; exact ⟨by omega, by omega⟩
    split
    · exact fun t h e => by cases e
    split
    · exact one
    split
    · exact one
    split
    · exact one
    unfold rdB
    split
    · exact fun t h e => by cases e
    · rename_i n h hw
      obtain ⟨w1, w2, w3⟩ := rdW_nn hw
      have two : ∀ {t' : T}, Fwd r a (.ok t' h) := fun {t'} t h e => by cases e; exact ⟨by omega, w3⟩
      split
      · exact two
      split
      · exact two
      split
      · split
        · exact rdS_fwd _ _ _ (by omega) w3
        · exact fun t h e => by cases e
      · exact hg _ _ (by omega) w3
theorem rdP_fwd {r : List Int} : ∀ (d a : Nat), Fwd r a (rdP r d a)
  | 0, a => rdG_fwd fun n h _ _ t h' e => by cases e
  | d + 1, a => rdG_fwd fun n h h1 h2 => rdL_fwd (rdP_fwd d) _ _ _ _ h1 h2
/-! ### there and back -/
theorem at_pre {pre post : List Int} {b : Int} : (pre ++ b :: post)[pre.length]? = some b := by
  rw [List.getElem?_append_right (Nat.le_refl _), Nat.sub_self]
  rfl
theorem at_pre2 {pre l post : List Int} {b : Int} : (pre ++ (b :: l ++ post))[pre.length]? = some b := at_pre
theorem rdS_enc {pre post : List Int} : ∀ (z : List Nat) (pre : List Int) (acc : List Nat), (∀ c ∈ z, isSg (c : Int) = true) →
    rdS (pre ++ ((z.map fun c : Nat => (c : Int)) ++ post)) z.length pre.length acc = .ok (.str (acc ++ z)) (pre.length + z.length)
  | [], pre, acc, _ => by
    show R.ok (.str acc) pre.length = _
    rw [List.append_nil]
    rfl
  | c :: z, pre, acc, h => by
    have ih := rdS_enc (post := post) (pre := pre) z (pre ++ [(c : Int)]) (acc ++ [c]) (fun x hx => h x (List.mem_cons_of_mem _ hx))
    show rdS (pre ++ ((c : Int) :: ((z.map fun c : Nat => (c : Int)) ++ post))) (z.length + 1) pre.length acc = _
    unfold rdS
    rw [at_pre]
    show (if isSg (c : Int) = true then _ else _) = _
    rw [if_pos (h c List.mem_cons_self), Int.toNat_natCast]
    rw [List.append_assoc, List.length_append] at ih
    have e : pre ++ ([(c : Int)] ++ ((z.map fun c : Nat => (c : Int)) ++ post)) = pre ++ ((c : Int) :: ((z.map fun c : Nat => (c : Int)) ++ post)) := rfl
    rw [e] at ih
    refine ih.trans ?_
    rw [List.append_assoc]
    show R.ok (.str (acc ++ (c :: z))) (pre.length + 1 + z.length) = R.ok _ (pre.length + (z.length + 1))
    congr 1
    omega
theorem enc_pos : ∀ {d : Nat} {t : T}, OkT d t → 0 < (enc d t).length
  | 0, t, h => by
    cases t with
    | tup l => exact h.elim
    | int i => show 0 < (if 0 ≤ i then _ else _ : List Int).length; split <;> simp
    | _ => simp [enc, encA]
  | d + 1, t, h => by
    cases t with
    | tup l => simp [enc]
    | int i => show 0 < (if 0 ≤ i then _ else _ : List Int).length; split <;> simp
    | _ => simp [enc, encA]
theorem flat_len {d : Nat} : ∀ {l : List T}, (∀ t ∈ l, OkT d t) → l.length ≤ ((l.map (enc d)).flatten).length
  | [], _ => Nat.le_refl _
  | t :: l, h => by
    have := flat_len (l := l) fun x hx => h x (List.mem_cons_of_mem _ hx)
    have := enc_pos (h t List.mem_cons_self)
    rw [List.map_cons, List.flatten_cons, List.length_append, List.length_cons]
    omega
theorem rdL_enc {d : Nat} {post : List Int} (H : ∀ t, OkT d t → ∀ pre post : List Int, rdP (pre ++ (enc d t ++ post)) d pre.length = .ok t (pre.length + (enc d t).length)) :
    ∀ (l : List T) (pre : List Int) (k : Nat) (acc : List T), (∀ t ∈ l, OkT d t) → l.length ≤ k →
      rdL (rdP (pre ++ ((l.map (enc d)).flatten ++ post)) d) k l.length pre.length acc = .ok (.tup (acc ++ l)) (pre.length + ((l.map (enc d)).flatten).length)
  | [], pre, k, acc, _, _ => by
    rw [List.append_nil]
    cases k <;> rfl
  | t :: l, pre, 0, acc, _, hk => by simp at hk
  | t :: l, pre, k + 1, acc, h, hk => by
    have ih := rdL_enc (post := post) H l (pre ++ enc d t) k (acc ++ [t]) (fun x hx => h x (List.mem_cons_of_mem _ hx)) (by simpa using hk)
    have e : pre ++ (((t :: l).map (enc d)).flatten ++ post) = pre ++ (enc d t ++ ((l.map (enc d)).flatten ++ post)) := by
      rw [List.map_cons, List.flatten_cons, List.append_assoc]
    rw [e]
    show (match rdP (pre ++ (enc d t ++ ((l.map (enc d)).flatten ++ post))) d pre.length with
      | .no p => R.no p
      | .ok t' h' => rdL (rdP (pre ++ (enc d t ++ ((l.map (enc d)).flatten ++ post))) d) k l.length h' (acc ++ [t'])) = _
    rw [H t (h t List.mem_cons_self)]
    rw [List.append_assoc, List.length_append] at ih
    refine ih.trans ?_
    rw [List.append_assoc, List.map_cons, List.flatten_cons, List.length_append, Nat.add_assoc]
    rfl
theorem rdG_s {r : List Int} {g : Nat → Nat → R} {z : Bool} {a : Nat} {s : Int} (h : r[a]? = some s) (h1 : ¬ (6 < s ∨ (s = 6 ∧ z = true))) (h2 : 2 < s) : rdG r g z a = rdB r g s a := by
  unfold rdG
  rw [h]
  show (if 6 < s ∨ (s = 6 ∧ z = true) then _ else _) = _
  rw [if_neg h1, if_neg (by omega), if_neg (by omega), if_neg (by omega)]
theorem rdG_encA {t : T} (ok : okA t) {g : Nat → Nat → R} {z : Bool} (pre post : List Int) : rdG (pre ++ (encA t ++ post)) g z pre.length = .ok t (pre.length + (encA t).length) := by
  have step : ∀ (s : Int) (l : List Int), pre ++ (s :: l ++ post) = (pre ++ [s]) ++ (l ++ post) := fun s l => by
    rw [List.append_assoc]
    rfl
  have ln : ∀ s : Int, (pre ++ [s]).length = pre.length + 1 := fun s => by rw [List.length_append]; rfl
  cases t with
  | tup l => exact ok.elim
  | non =>
    unfold rdG
    show (match (pre ++ (0 :: post))[pre.length]? with | none => _ | some s => _) = _
    rw [at_pre]
    rfl
  | bl b =>
    unfold rdG
    show (match (pre ++ ((if b = true then 2 else 1) :: post))[pre.length]? with | none => _ | some s => _) = _
    rw [at_pre]
    cases b <;> rfl
  | int i =>
    by_cases c : 0 ≤ i
    · have e : encA (.int i) = 3 :: vlq i.toNat := if_pos c
      rw [e, rdG_s (s := 3) at_pre2 (by omega) (by omega), step]
      unfold rdB
      have w := rdW_vlq (pre ++ [3]) post i.toNat
      rw [ln] at w
      rw [w]
      show R.ok (.int ((i.toNat : Nat) : Int)) _ = _
      rw [Int.toNat_of_nonneg c]
      show R.ok _ _ = R.ok _ _
      rw [List.length_cons]
      congr 1
      omega
    · have e : encA (.int i) = 4 :: vlq (-1 - i).toNat := if_neg c
      rw [e, rdG_s (s := 4) at_pre2 (by omega) (by omega), step]
      unfold rdB
      have w := rdW_vlq (pre ++ [4]) post (-1 - i).toNat
      rw [ln] at w
      rw [w]
      show R.ok (.int (-1 - (((-1 - i).toNat : Nat) : Int))) _ = _
      rw [Int.toNat_of_nonneg (by omega), show (-1 - (-1 - i) : Int) = i by omega]
      show R.ok _ _ = R.ok _ _
      rw [List.length_cons]
      congr 1
      omega
  | str zz =>
    obtain ⟨l1, l2, sg⟩ := ok
    have e : encA (.str zz) = 5 :: (vlq zz.length ++ zz.map fun c : Nat => (c : Int)) := rfl
    rw [e, rdG_s (s := 5) at_pre2 (by omega) (by omega), step]
    unfold rdB
    have w := rdW_vlq (pre ++ [5]) ((zz.map fun c : Nat => (c : Int)) ++ post) zz.length
    rw [ln] at w
    rw [List.append_assoc (vlq zz.length), w]
    show (if 1 ≤ ((zz.length : Nat) : Int) ∧ ((zz.length : Nat) : Int) ≤ 20 then rdS _ ((zz.length : Nat) : Int).toNat _ [] else _) = _
    rw [if_pos (by omega), Int.toNat_natCast]
    have s := rdS_enc (post := post) (pre := pre) zz ((pre ++ [5]) ++ vlq zz.length) [] sg
    rw [List.append_assoc (pre ++ [5]), List.length_append, ln] at s
    rw [s, List.nil_append]
    show R.ok _ _ = R.ok _ _
    rw [List.length_cons, List.length_append, List.length_map]
    congr 1
    omega
theorem rdP_enc : ∀ (d : Nat) (t : T), OkT d t → ∀ pre post : List Int, rdP (pre ++ (enc d t ++ post)) d pre.length = .ok t (pre.length + (enc d t).length)
  | 0, t, h, pre, post => rdG_encA h pre post
  | d + 1, t, h, pre, post => by
    have atom : okA t → enc (d + 1) t = encA t → rdP (pre ++ (enc (d + 1) t ++ post)) (d + 1) pre.length = .ok t (pre.length + (enc (d + 1) t).length) := fun ok e => by
      rw [e]
      exact rdG_encA ok pre post
    cases t with
    | tup l =>
      have e : enc (d + 1) (.tup l) = 6 :: (vlq l.length ++ (l.map (enc d)).flatten) := rfl
      have hl : ∀ t ∈ l, OkT d t := h
      have ln : (pre ++ [(6 : Int)]).length = pre.length + 1 := by rw [List.length_append]; rfl
      have step : pre ++ (enc (d + 1) (.tup l) ++ post) = (pre ++ [6]) ++ (vlq l.length ++ ((l.map (enc d)).flatten ++ post)) := by
        rw [e, List.append_assoc]
        show pre ++ (6 :: (vlq l.length ++ (l.map (enc d)).flatten ++ post)) = pre ++ (6 :: (vlq l.length ++ ((l.map (enc d)).flatten ++ post)))
        rw [List.append_assoc]
      have step2 : (pre ++ [6]) ++ (vlq l.length ++ ((l.map (enc d)).flatten ++ post)) = ((pre ++ [6]) ++ vlq l.length) ++ ((l.map (enc d)).flatten ++ post) := by
        rw [List.append_assoc (pre ++ [6])]
      have fl := flat_len hl
      have L := rdL_enc (post := post) (rdP_enc d) l ((pre ++ [6]) ++ vlq l.length) (((pre ++ [6]) ++ (vlq l.length ++ ((l.map (enc d)).flatten ++ post))).length + 1) [] hl (by
        rw [List.length_append, List.length_append (as := vlq l.length), List.length_append (as := (l.map (enc d)).flatten)]
        omega)
      have ln2 : ((pre ++ [(6 : Int)]) ++ vlq l.length).length = pre.length + 1 + (vlq l.length).length := by rw [List.length_append, ln]
      rw [← step2, ln2, List.nil_append] at L
      show rdG _ _ false pre.length = _
      have a6 : (pre ++ (enc (d + 1) (.tup l) ++ post))[pre.length]? = some 6 := at_pre
      rw [rdG_s a6 (by rintro (z | ⟨_, z⟩); exact absurd z (by decide); cases z) (by decide), step]
      unfold rdB
      have w := rdW_vlq (pre ++ [6]) ((l.map (enc d)).flatten ++ post) l.length
      rw [ln] at w
      rw [w]
      show rdL _ _ ((l.length : Nat) : Int).toNat _ [] = _
      rw [Int.toNat_natCast, L, e]
      show R.ok _ _ = R.ok _ _
      rw [List.length_cons, List.length_append (as := vlq l.length)]
      congr 1
      omega
    | non => exact atom trivial rfl
    | bl b => exact atom trivial rfl
    | int i => exact atom trivial rfl
    | str z => exact atom h rfl
/-! ### marks, seals -/
def mkF (bs : List Int) : Int := bs.foldl (fun n b => (n * 1000003 + b + 1) % 2305843009213693951) 1
theorem mkF_snoc (bs : List Int) (b : Int) : mkF (bs ++ [b]) = (mkF bs * 1000003 + b + 1) % 2305843009213693951 := by
  unfold mkF
  rw [List.foldl_append]
  rfl
theorem mkF_b (bs : List Int) : 0 ≤ mkF bs ∧ mkF bs < 2305843009213693951 := by
  rcases List.eq_nil_or_concat bs with rfl | ⟨l, b, rfl⟩
  · exact ⟨by decide, by decide⟩
  · rw [List.concat_eq_append, mkF_snoc]
    exact ⟨Int.emod_nonneg _ (by decide), Int.emod_lt_of_pos _ (by decide)⟩
def sealL (bs : List Int) : List Int := [mkF bs % 4294967296 % 256, mkF bs % 4294967296 / 256 % 256, mkF bs % 4294967296 / 65536 % 256, mkF bs % 4294967296 / 16777216 % 256]
theorem sealL_b {bs : List Int} : ∀ b ∈ sealL bs, 0 ≤ b ∧ b < 256 := by
  intro b hb
  unfold sealL at hb
  simp only [List.mem_cons, List.not_mem_nil, or_false] at hb
  rcases hb with rfl | rfl | rfl | rfl <;> exact ⟨Int.emod_nonneg _ (by decide), Int.emod_lt_of_pos _ (by decide)⟩
def rdAll (r : List Int) : R := match rdP r 20 0 with
  | .ok t h => if h = r.length then .ok t h else .no h
  | .no p => .no p
def unsT (r : List Int) : T := if 4 ≤ r.length ∧ r.drop (r.length - 4) = sealL (r.take (r.length - 4)) then
    match rdAll (r.take (r.length - 4)) with
    | .ok t _ => .tup [t]
    | .no _ => .tup []
  else .tup []
theorem rdAll_enc {t : T} (h : OkT 20 t) : rdAll (enc 20 t) = .ok t (enc 20 t).length := by
  have := rdP_enc 20 t h [] []
  rw [List.nil_append, List.append_nil] at this
  unfold rdAll
  rw [show (0 : Nat) = ([] : List Int).length from rfl, this]
  show (if ([] : List Int).length + (enc 20 t).length = (enc 20 t).length then _ else _) = _
  rw [if_pos (by simp)]
  congr 1
  simp
theorem unsT_sealed {t : T} (h : OkT 20 t) : unsT (enc 20 t ++ sealL (enc 20 t)) = .tup [t] := by
  have l4 : (sealL (enc 20 t)).length = 4 := rfl
  have e : (enc 20 t ++ sealL (enc 20 t)).length - 4 = (enc 20 t).length := by rw [List.length_append, l4]; omega
  unfold unsT
  rw [e, List.drop_left, List.take_left, if_pos ⟨by rw [List.length_append, l4]; omega, rfl⟩, rdAll_enc h]
/-! ### how long -/
theorem vlq_small : ∀ (k n : Nat), n < 128 ^ (k + 1) → (vlq n).length ≤ k + 1
  | 0, n, h => by
    rw [vlq_lt (by simpa using h)]
    simp
  | k + 1, n, h => by
    by_cases c : n < 128
    · rw [vlq_lt c]; simp
    · rw [vlq_ge c, List.length_cons]
      have := vlq_small k (n / 128) (Nat.div_lt_of_lt_mul (by rw [Nat.pow_succ, Nat.mul_comm] at h; exact h))
      omega
theorem vlq_b : ∀ (n : Nat), ∀ b ∈ vlq n, 0 ≤ b ∧ b < 256 := by
  intro n
  induction n using Nat.strongRecOn with
  | _ n ih =>
    intro b hb
    by_cases c : n < 128
    · rw [vlq_lt c] at hb
      have := List.mem_singleton.mp hb
      omega
    · rw [vlq_ge c] at hb
      rcases List.mem_cons.mp hb with rfl | hb
      · omega
      · exact ih _ (by omega) b hb
theorem encA_b {t : T} (h : okA t) : ∀ b ∈ encA t, 0 ≤ b ∧ b < 256 := by
  intro b hb
  cases t with
  | tup l => exact h.elim
  | non => have := List.mem_singleton.mp hb; omega
  | bl c => cases c <;> (have := List.mem_singleton.mp hb; simp at this; omega)
  | int i =>
    by_cases c : 0 ≤ i
    · rw [show encA (.int i) = 3 :: vlq i.toNat from if_pos c] at hb
      rcases List.mem_cons.mp hb with rfl | hb
      · omega
      · exact vlq_b _ b hb
    · rw [show encA (.int i) = 4 :: vlq (-1 - i).toNat from if_neg c] at hb
      rcases List.mem_cons.mp hb with rfl | hb
      · omega
      · exact vlq_b _ b hb
  | str z =>
    rcases List.mem_cons.mp hb with rfl | hb
    · omega
    · rcases List.mem_append.mp hb with hb | hb
      · exact vlq_b _ b hb
      · obtain ⟨c, hc, rfl⟩ := List.mem_map.mp hb
        have := h.2.2 c hc
        simp only [isSg, Bool.and_eq_true, decide_eq_true_eq] at this
        omega
theorem enc_b : ∀ {d : Nat} {t : T}, OkT d t → ∀ b ∈ enc d t, 0 ≤ b ∧ b < 256
  | 0, t, h => encA_b h
  | d + 1, t, h => by
    cases t with
    | tup l =>
      intro b hb
      rcases List.mem_cons.mp hb with rfl | hb
      · omega
      · rcases List.mem_append.mp hb with hb | hb
        · exact vlq_b _ b hb
        · obtain ⟨x, hx, hb⟩ := List.mem_flatten.mp hb
          obtain ⟨t, ht, rfl⟩ := List.mem_map.mp hx
          exact enc_b (h t ht) b hb
    | non => exact encA_b (t := .non) trivial
    | bl b => exact encA_b (t := .bl b) trivial
    | int i => exact encA_b (t := .int i) trivial
    | str z => exact encA_b (t := .str z) h
end QR

namespace QR
/-! what is read is what would be written -/
def Byt (r : List Int) : Prop := ∀ b ∈ r, 0 ≤ b ∧ b < 256
theorem wback : ∀ {l : List Int}, Byt l → ∀ b, l[scan l]? = some b → ¬ (b = 0 ∧ 0 < scan l) → l.take (scan l + 1) = vlq (val (l.take (scan l + 1))).toNat
  | [], _, b, e, _ => by simp at e
  | x :: l, hb, b, e, nz => by
    have hx := hb x List.mem_cons_self
    by_cases c : 128 ≤ x
    · have es : scan (x :: l) = scan l + 1 := by rw [scan, if_pos c]
      rw [es] at e nz ⊢
      have e' : l[scan l]? = some b := by simpa using e
      have ih := wback (l := l) (fun y hy => hb y (List.mem_cons_of_mem _ hy)) b e' (fun z => nz ⟨z.1, by omega⟩)
      have bn : b ≠ 0 := fun z => nz ⟨z, by omega⟩
      rw [List.take_succ_cons, val_cons]
      have v0 := val_nn (l.take (scan l + 1))
      revert ih v0
      have eb : (l.take (scan l + 1))[scan l]? = some b := by rw [List.getElem?_take, if_pos (by omega)]; exact e'
      revert eb
      generalize l.take (scan l + 1) = tl
      intro eb ih v0
      have vn : val tl ≠ 0 := fun z => by
        rw [z] at ih
        rw [ih, vlq_lt (by decide)] at eb
        have : scan l = 0 := by
          have := (List.getElem?_eq_some_iff.mp eb).1
          simp at this
          omega
        rw [this] at eb
        have : (0 : Int) = b := by simpa using eb
        omega
      have n1 : (val tl * 128 + x % 128).toNat = (val tl).toNat * 128 + (x % 128).toNat := by
        have := Int.emod_nonneg x (show (128 : Int) ≠ 0 by decide)
        omega
      have x1 : x % 128 = x - 128 := by omega
      rw [n1, vlq_ge (by omega), show ((val tl).toNat * 128 + (x % 128).toNat) / 128 = (val tl).toNat by omega, ← ih]
      congr 1
      omega
    · have es : scan (x :: l) = 0 := by rw [scan, if_neg c]
      rw [es]
      show [x] = vlq (val [x]).toNat
      have : val [x] = x := by
        show (0 : Int) * 128 + x % 128 = x
        omega
      rw [this, vlq_lt (by omega)]
      congr 1
      omega
theorem byt_drop {r : List Int} (h : Byt r) (a : Nat) : Byt (r.drop a) := fun b hb => h b (List.mem_of_mem_drop hb)
theorem rdW_back {r : List Int} {a h : Nat} {n : Int} (hb : Byt r) (e : rdW r a = some (n, h)) : r.drop a = vlq n.toNat ++ r.drop h := by
  unfold rdW at e
  split at e
  · cases e
  · rename_i b hbb
    split at e
    · cases e
    · rename_i nz
      cases e
      rw [← wback (byt_drop hb a) b (by rw [List.getElem?_drop]; exact hbb) nz]
      have e2 : r.drop (a + scan (r.drop a) + 1) = (r.drop a).drop (scan (r.drop a) + 1) := by rw [List.drop_drop]; congr 1
      rw [e2, List.take_append_drop]
theorem drop_at {r : List Int} {a : Nat} {b : Int} (h : r[a]? = some b) : r.drop a = b :: r.drop (a + 1) := by
  obtain ⟨l, e⟩ := List.getElem?_eq_some_iff.mp h
  rw [List.drop_eq_getElem_cons l, e]
theorem sg_nat {b : Int} (h : isSg b = true) : ((b.toNat : Nat) : Int) = b := by
  simp only [isSg, Bool.and_eq_true, decide_eq_true_eq] at h
  omega
theorem rdS_back {r : List Int} : ∀ (m h : Nat) (acc : List Nat) {t : T} {h' : Nat}, rdS r m h acc = .ok t h' → ∃ z : List Nat, t = .str (acc ++ z) ∧ z.length = m ∧ (∀ c ∈ z, isSg (c : Int) = true) ∧ r.drop h = (z.map fun c : Nat => (c : Int)) ++ r.drop h'
  | 0, h, acc, t, h', e => by
    cases e
    exact ⟨[], by rw [List.append_nil], rfl, fun c hc => by simp at hc, rfl⟩
  | m + 1, h, acc, t, h', e => by
    unfold rdS at e
    split at e
    · cases e
    · rename_i b hb
      split at e
      · rename_i sg
        obtain ⟨z, e1, e2, e3, e4⟩ := rdS_back m (h + 1) (acc ++ [b.toNat]) e
        refine ⟨b.toNat :: z, by rw [e1, List.append_assoc]; rfl, by rw [List.length_cons, e2], fun c hc => ?_, ?_⟩
        · rcases List.mem_cons.mp hc with rfl | hc
          · rw [sg_nat sg]
            exact sg
          · exact e3 c hc
        · rw [drop_at hb, e4, List.map_cons, sg_nat sg]
          rfl
      · cases e
theorem rdL_back {r : List Int} {f : Nat → R} {d : Nat} (H : ∀ a t h, f a = .ok t h → OkT d t ∧ r.drop a = enc d t ++ r.drop h) : ∀ (k m h : Nat) (acc : List T) {t : T} {h' : Nat}, rdL f k m h acc = .ok t h' →
    ∃ l : List T, t = .tup (acc ++ l) ∧ l.length = m ∧ (∀ t ∈ l, OkT d t) ∧ r.drop h = (l.map (enc d)).flatten ++ r.drop h'
  | k, 0, h, acc, t, h', e => by
    have e : R.ok (.tup acc) h = .ok t h' := by cases k <;> exact e
    cases e
    exact ⟨[], by rw [List.append_nil], rfl, fun c hc => by simp at hc, rfl⟩
  | 0, m + 1, h, acc, t, h', e => by cases e
  | k + 1, m + 1, h, acc, t, h', e => by
    unfold rdL at e
    split at e
    · cases e
    · rename_i t1 h1 e1
      obtain ⟨o1, d1⟩ := H h t1 h1 e1
      obtain ⟨l, z1, z2, z3, z4⟩ := rdL_back H k m h1 (acc ++ [t1]) e
      refine ⟨t1 :: l, by rw [z1, List.append_assoc]; rfl, by rw [List.length_cons, z2], fun c hc => ?_, ?_⟩
      · rcases List.mem_cons.mp hc with rfl | hc
        · exact o1
        · exact z3 c hc
      · rw [d1, z4, List.map_cons, List.flatten_cons, List.append_assoc]
theorem okT_atom' {d : Nat} {t : T} (h : okA t) : OkT d t ∧ enc d t = encA t := by
  cases d with
  | zero => exact ⟨h, rfl⟩
  | succ d => cases t with
    | tup l => exact h.elim
    | non => exact ⟨h, rfl⟩
    | bl b => exact ⟨h, rfl⟩
    | int i => exact ⟨h, rfl⟩
    | str z => exact ⟨h, rfl⟩
theorem rdG_back {r : List Int} (hb : Byt r) {g : Nat → Nat → R} {z : Bool} {d a : Nat} (hg : z = false → ∀ n h t h', rdW r (a + 1) = some (n, h) → g n.toNat h = .ok t h' → OkT d t ∧ 6 :: r.drop (a + 1) = enc d t ++ r.drop h') {t : T} {h' : Nat} (e : rdG r g z a = .ok t h') : OkT d t ∧ r.drop a = enc d t ++ r.drop h' := by
  unfold rdG at e
  split at e
  · cases e
  · rename_i s hs
    have hs' := drop_at hs
    have sb := hb s (List.mem_of_getElem? hs)
    have one : ∀ {t' : T} {x : Int}, okA t' → encA t' = [x] → s = x → R.ok t' (a + 1) = .ok t h' → OkT d t ∧ r.drop a = enc d t ++ r.drop h' := fun {t' x} o ex es e => by
      cases e
      obtain ⟨o1, o2⟩ := okT_atom' (d := d) o
      refine ⟨o1, ?_⟩
      rw [hs', o2, ex, es]
      rfl
    split at e
    · cases e
    rename_i n6
    split at e
    · rename_i c
      exact one (t' := .non) trivial rfl c e
    split at e
    · rename_i c
      exact one (t' := .bl false) trivial rfl c e
    split at e
    · rename_i c
      exact one (t' := .bl true) trivial rfl c e
    unfold rdB at e
    split at e
    · cases e
    · rename_i n h hw
      obtain ⟨w1, w2, w3⟩ := rdW_nn hw
      have wb := rdW_back hb hw
      split at e
      · rename_i c
        cases e
        obtain ⟨o1, o2⟩ := okT_atom' (d := d) (t := .int n) trivial
        refine ⟨o1, ?_⟩
        rw [hs', o2, show encA (.int n) = 3 :: vlq n.toNat from if_pos w1, wb, c]
        rfl
      split at e
      · rename_i c
        cases e
        obtain ⟨o1, o2⟩ := okT_atom' (d := d) (t := .int (-1 - n)) trivial
        refine ⟨o1, ?_⟩
        rw [hs', o2, show encA (.int (-1 - n)) = 4 :: vlq (-1 - (-1 - n)).toNat from if_neg (by omega), wb, c, show (-1 - (-1 - n)) = n by omega]
        rfl
      split at e
      · rename_i c
        split at e
        · rename_i c2
          obtain ⟨zz, e1, e2, e3, e4⟩ := rdS_back _ _ _ e
          rw [List.nil_append] at e1
          subst e1
          obtain ⟨o1, o2⟩ := okT_atom' (d := d) (t := .str zz) ⟨by omega, by omega, e3⟩
          refine ⟨o1, ?_⟩
          rw [hs', o2, wb, e4, c, show encA (.str zz) = 5 :: (vlq zz.length ++ zz.map fun c : Nat => (c : Int)) from rfl, e2]
          simp
        · cases e
      · have s6 : s = 6 := by omega
        cases zz : z with
        | true => exact absurd (.inr ⟨s6, zz⟩) n6
        | false =>
          obtain ⟨o1, o2⟩ := hg zz n h t h' hw e
          refine ⟨o1, ?_⟩
          rw [hs', s6]
          exact o2
theorem rdP_back {r : List Int} (hb : Byt r) : ∀ (d a : Nat) (t : T) (h : Nat), rdP r d a = .ok t h → OkT d t ∧ r.drop a = enc d t ++ r.drop h
  | 0, a, t, h, e => rdG_back hb (fun z => by cases z) e
  | d + 1, a, t, h, e => by
    refine rdG_back hb (fun _ n h1 t1 h2 hw e2 => ?_) e
    obtain ⟨l, z1, z2, z3, z4⟩ := rdL_back (rdP_back hb d) _ _ _ _ e2
    rw [List.nil_append] at z1
    subst z1
    refine ⟨z3, ?_⟩
    rw [rdW_back hb hw, z4, show enc (d + 1) (.tup l) = 6 :: (vlq l.length ++ (l.map (enc d)).flatten) from rfl, z2]
    simp
theorem rdAll_back {r : List Int} (hb : Byt r) {t : T} {h : Nat} (e : rdAll r = .ok t h) : OkT 20 t ∧ enc 20 t = r := by
  unfold rdAll at e
  split at e
  · rename_i t1 h1 e1
    split at e
    · rename_i c
      cases e
      obtain ⟨o1, o2⟩ := rdP_back hb 20 0 t h e1
      refine ⟨o1, ?_⟩
      rw [c, List.drop_length, List.append_nil] at o2
      exact o2.symm
    · cases e
  · cases e
end QR

namespace Q
open PySem L2 QR
def top (i : Nat) : Stmt := PySem.Challenge.pw_sameround_k36_links_rows_and_disks_refus.main.body.getD i (.Pass ⟨0, 0, 0, 0⟩)
/-- what the built-in names still are -/
structure Bts (mg : Str → Option Value) : Prop where
  len : mg "len" = none
  int : mg "int" = none
  list : mg "list" = none
  range : mg "range" = none
  min : mg "min" = none
  tuple : mg "tuple" = none
  isinstance : mg "isinstance" = none
  bool : mg "bool" = none
  str : mg "str" = none
  repr : mg "repr" = none
  sum : mg "sum" = none
  abs : mg "abs" = none
  ord : mg "ord" = none
  reversed : mg "reversed" = none
  all : mg "all" = none
  zip : mg "zip" = none
structure Df (K : PySem.W.Frag) (mg : Str → Option Value) (x : Str) (st : Stmt) (ps : List Str) (f : Addr) (fd : FuncData) : Prop where
  F : Fun K x x st f fd
  m : mg x = some (.ref f)
  b : Binds K fd ps []
theorem Df.k {K : PySem.W.Frag} {mg : Str → Option Value} {x : Str} {st : Stmt} {ps : List Str} {f : Addr} {fd : FuncData} (D : Df K mg x st ps f fd) : PySem.W.keepIn K (.ref f) = true := D.F.kp
def KTup (K : PySem.W.Frag) (a : Addr) (xs : List V) : Prop := ∃ (o : Obj) (its : Array Value) (n : Nat), K.lookup a = some o ∧ o.cls = .type "tuple" ∧ o.data = .seq its n ∧ its.size ≤ sizeLine ∧ Vals xs its.toList
theorem KTup.sq {K : PySem.W.Frag} {a : Addr} {xs : List V} (h : KTup K a xs) (H : Hp) : SqT K H a xs := .inr h
def sbS : Str := " !\"#$"
def saS : Str := "&'()*+,-./0123456789:;<=>?@ABCDEFGHIJKLMNOPQRSTUVWXYZ[\\]^_`abcdefghijklmnopqrstuvwxyz{|}~"
/-- the constants of rows -/
structure Cst (mg : Str → Option Value) : Prop where
  bytes : ∃ t, mg "BYTES" = some (.int 256 t)
  deep : ∃ t, mg "MOST_DEEP" = some (.int 20 t)
  signs : ∃ t, mg "MOST_SIGNS" = some (.int 20 t)
  from0 : ∃ t, mg "FROM_0_ON" = some (.int 3 t)
  below : ∃ t, mg "BELOW_0" = some (.int 4 t)
  strg : ∃ t, mg "STRING" = some (.int 5 t)
  tupl : ∃ t, mg "TUPLE" = some (.int 6 t)
  first : ∃ t, mg "FIRST_SIGN" = some (.int 32 t)
  nosg : ∃ t, mg "NO_SIGN" = some (.int 37 t)
  last : ∃ t, mg "LAST_SIGN" = some (.int 126 t)
  factor : ∃ t, mg "MARK_FACTOR" = some (.int 1000003 t)
  marks : ∃ t, mg "MARKS" = some (.int 2305843009213693951 t)
  seals : ∃ t, mg "SEALS" = some (.int 4294967296 t)
  slen : ∃ t, mg "SEAL_LENGTH" = some (.int 4 t)
  sb : ∃ t, mg "SIGNS_BELOW" = some (.str sbS t)
  sa : ∃ t, mg "SIGNS_ABOVE" = some (.str saS t)
/-! ### heaps -/
theorem sN {H : Hp} {q : Addr} {o : HO} (n : H q = none) : Same H (upd H q o) := fun b u e => by
  rw [upd_ne (ne_of_none e n)]; exact e
theorem sT {H H1 H2 : Hp} (a : Same H H1) (b : Same H1 H2) : Same H H2 := fun c o h => b c o (a c o h)
theorem sR {H : Hp} : Same H H := fun _ _ e => e
/-- new at q, or over a thing that was not there at the start -/
theorem sNew {H H1 : Hp} {p : Addr} {o : HO} (s : Same H H1) (n : H p = none) : Same H (upd H1 p o) := fun b u e => by
  rw [upd_ne (ne_of_none e n)]; exact s b u e
theorem sNo {H H1 : Hp} {p : Addr} (s : Same H H1) (n : H1 p = none) : H p = none := by
  cases e : H p with
  | none => rfl
  | some o =>
    rw [s _ _ e] at n
    cases n
/-- all stands but what is at l -/
def Bu (l : Addr) (H H' : Hp) : Prop := ∀ b o, H b = some o → b ≠ l → H' b = some o
theorem Bu.rf {l : Addr} {H : Hp} : Bu l H H := fun _ _ e _ => e
theorem Bu.at {l : Addr} {H H1 : Hp} {o : HO} (h : Bu l H H1) : Bu l H (upd H1 l o) := fun b u e n => by
  rw [upd_ne n]; exact h b u e n
theorem Bu.st {l : Addr} {H H1 H2 : Hp} (h : Bu l H H1) (s : Same H1 H2) : Bu l H H2 := fun b u e n => s _ _ (h b u e n)
theorem Bu.tr {l : Addr} {H H1 H2 : Hp} (h : Bu l H H1) (g : Bu l H1 H2) : Bu l H H2 := fun b u e n => g b u (h b u e n) n
theorem Bu.of {l : Addr} {H H1 : Hp} (s : Same H H1) : Bu l H H1 := fun b u e _ => s b u e
theorem Bu.new {l : Addr} {H H1 : Hp} (h : Bu l H H1) (n : H l = none) : Same H H1 := fun b u e => h b u e (ne_of_none e n)
/-- tuples stand -/
def Tk (H H' : Hp) : Prop := ∀ b xs, H b = some (.tup xs) → H' b = some (.tup xs)
theorem Tk.of {H H' : Hp} (s : Same H H') : Tk H H' := fun b xs e => s _ _ e
theorem Tk.bu {H H' : Hp} {l : Addr} {xs : List V} (h : Bu l H H') (e : H l = some (.lst xs)) : Tk H H' := fun b ys e2 => h b _ e2 (ne_of e2 e (fun z => by cases z))
theorem Tk.tr {H H1 H2 : Hp} (h : Tk H H1) (g : Tk H1 H2) : Tk H H2 := fun b xs e => g b xs (h b xs e)
theorem size_ok {n : Nat} (h : n ≤ 20000) : n < sizeLine := Nat.lt_of_lt_of_le (show n < 20001 by omega) (by decide)
/-! ### parcels that stand in the heap -/
def sOf (z : List Nat) : Str := ⟨z.toArray⟩
def RepA (t : T) (v : V) : Prop := match t with
  | .non => v = .non
  | .bl b => v = .bl b
  | .int i => v = .int i
  | .str z => v = .str (sOf z) ∧ z.length ≤ 9000
  | .tup _ => False
def Rep (H : Hp) : Nat → T → V → Prop
  | 0, t, v => RepA t v
  | d + 1, t, v => match t with
    | .tup l => ∃ a xs, v = .ref a ∧ H a = some (.tup xs) ∧ xs.length = l.length ∧ xs.length ≤ 9000 ∧ ∀ (i : Nat) (x : V) (t : T), xs[i]? = some x → l[i]? = some t → Rep H d t x
    | t => RepA t v
theorem Rep.tk {H H' : Hp} (k : Tk H H') : ∀ {d : Nat} {t : T} {v : V}, Rep H d t v → Rep H' d t v
  | 0, t, v, h => h
  | d + 1, t, v, h => by
    cases t with
    | tup l =>
      obtain ⟨a, xs, e, h1, h2, h3, h4⟩ := h
      exact ⟨a, xs, e, k _ _ h1, h2, h3, fun i x t hx ht => Rep.tk k (h4 i x t hx ht)⟩
    | _ => exact h
theorem Rep.same {H H' : Hp} {d : Nat} {t : T} {v : V} (h : Rep H d t v) (s : Same H H') : Rep H' d t v := h.tk (.of s)
theorem Rep.atom {H : Hp} {t : T} {v : V} (h : RepA t v) : ∀ {d : Nat}, Rep H d t v
  | 0 => h
  | d + 1 => by
    cases t with
    | tup l => exact h.elim
    | _ => exact h
theorem Rep.more {H : Hp} : ∀ {d : Nat} {t : T} {v : V}, Rep H d t v → Rep H (d + 1) t v
  | 0, t, v, h => Rep.atom h
  | d + 1, t, v, h => by
    cases t with
    | tup l =>
      obtain ⟨a, xs, e, h1, h2, h3, h4⟩ := h
      exact ⟨a, xs, e, h1, h2, h3, fun i x t hx ht => (h4 i x t hx ht).more⟩
    | _ => exact h
theorem Rep.up {H : Hp} {d : Nat} {t : T} {v : V} (h : Rep H d t v) : ∀ k, Rep H (d + k) t v
  | 0 => h
  | k + 1 => (h.up k).more
/-- what a parcel's value is -/
theorem Rep.cases {H : Hp} {d : Nat} {t : T} {v : V} (h : Rep H d t v) : (t = .non ∧ v = .non) ∨ (∃ b, t = .bl b ∧ v = .bl b) ∨ (∃ i, t = .int i ∧ v = .int i) ∨ (∃ z, t = .str z ∧ v = .str (sOf z) ∧ z.length ≤ 9000) ∨
    ∃ d' l a xs, d = d' + 1 ∧ t = .tup l ∧ v = .ref a ∧ H a = some (.tup xs) ∧ xs.length = l.length ∧ xs.length ≤ 9000 ∧ ∀ (i : Nat) (x : V) (t : T), xs[i]? = some x → l[i]? = some t → Rep H d' t x := by
  cases d with
  | zero =>
    cases t with
    | non => exact .inl ⟨rfl, h⟩
    | bl b => exact .inr (.inl ⟨b, rfl, h⟩)
    | int i => exact .inr (.inr (.inl ⟨i, rfl, h⟩))
    | str z => exact .inr (.inr (.inr (.inl ⟨z, rfl, h⟩)))
    | tup l => exact h.elim
  | succ d =>
    cases t with
    | non => exact .inl ⟨rfl, h⟩
    | bl b => exact .inr (.inl ⟨b, rfl, h⟩)
    | int i => exact .inr (.inr (.inl ⟨i, rfl, h⟩))
    | str z => exact .inr (.inr (.inr (.inl ⟨z, rfl, h⟩)))
    | tup l =>
      obtain ⟨a, xs, h⟩ := h
      exact .inr (.inr (.inr (.inr ⟨d, l, a, xs, rfl, rfl, h⟩)))
/-- a row: a tuple of bytes -/
structure RowAt (H : Hp) (q : Addr) (bs : List Int) : Prop where
  at_ : H q = some (.tup (bs.map V.int))
  b : ∀ b ∈ bs, 0 ≤ b ∧ b < 256
  few : bs.length ≤ 9000
theorem RowAt.tk {H H' : Hp} {q : Addr} {bs : List Int} (h : RowAt H q bs) (k : Tk H H') : RowAt H' q bs := ⟨k _ _ h.at_, h.b, h.few⟩
theorem RowAt.same {H H' : Hp} {q : Addr} {bs : List Int} (h : RowAt H q bs) (s : Same H H') : RowAt H' q bs := h.tk (.of s)
theorem at_ints {bs : List Int} {i : Nat} {x : V} (h : (bs.map V.int)[i]? = some x) : ∃ b, bs[i]? = some b ∧ x = .int b := by
  rw [List.getElem?_map] at h
  cases e : bs[i]? with
  | none => rw [e] at h; cases h
  | some b => rw [e] at h; exact ⟨b, rfl, (Option.some.inj h).symm⟩
theorem take_more {α : Type} {l : List α} {i : Nat} {x : α} (h : l[i]? = some x) : l.take (i + 1) = l.take i ++ [x] := by
  rw [List.take_add_one, h]
  rfl
abbrev sPlain : Stmt := top 10
abbrev sNum : Stmt := top 11
abbrev sIsRow : Stmt := top 35
abbrev sIsSg : Stmt := top 36
abbrev sSgOf : Stmt := top 37
abbrev sMkOf : Stmt := top 47
abbrev sMark : Stmt := top 48
abbrev sSeal : Stmt := top 49
abbrev kInt (K : PySem.W.Frag) (t : Value) (b : Bool) : Prop := PySem.W.kitOne K t (.type "int") = some b
abbrev kBool (K : PySem.W.Frag) (t : Value) (b : Bool) : Prop := PySem.W.kitOne K t (.type "bool") = some b
def spPlain (K : PySem.W.Frag) : Sp := fun vs H Q _ => ∃ (v : V) (t : Value) (b c : Bool), vs = [v] ∧ TyX K H v t ∧ kInt K t b ∧ kBool K t c ∧ Q (.bl (b && !c)) H
def NoInt (K : PySem.W.Frag) (H : Hp) (v : V) : Prop := ∃ (t : Value) (b c : Bool), TyX K H v t ∧ kInt K t b ∧ kBool K t c ∧ (b && !c) = false
def spNum (K : PySem.W.Frag) : Sp := fun vs H Q _ => ∃ (n : Int) (v : V), vs = [.int n, v] ∧ ((∃ i : Int, v = .int i ∧ Q (.bl (decide (0 ≤ i) && decide (i < n))) H) ∨ (NoInt K H v ∧ Q (.bl false) H))
theorem kInt_int {K : PySem.W.Frag} : kInt K (.type "int") true := kit_ty (by decide +kernel)
theorem kBool_int {K : PySem.W.Frag} : kBool K (.type "int") false := kit_ty (by decide +kernel)
/-- a byte -/
def isB : V → Bool
  | .int i => decide (0 ≤ i) && decide (i < 256)
  | _ => false
/-- None, a flag, a number -/
def Sc (v : V) : Prop := v = .non ∨ (∃ b, v = .bl b) ∨ ∃ i, v = .int i
def spIsRow (K : PySem.W.Frag) : Sp := fun vs H Q _ => ∃ v : V, vs = [v] ∧ ((∃ q xs, v = .ref q ∧ H q = some (.tup xs) ∧ xs.length ≤ 9000 ∧ (∀ x ∈ xs, Sc x) ∧ ∀ H', Same H H' → Q (.bl (xs.all isB)) H') ∨
  (∃ t, TyX K H v t ∧ PySem.W.kitOne K t (.type "tuple") = some false ∧ Q (.bl false) H))
theorem all_isB {bs : List Int} (h : ∀ b ∈ bs, 0 ≤ b ∧ b < 256) : (bs.map V.int).all isB = true := by
  rw [List.all_eq_true]
  intro x hx
  obtain ⟨b, hb, rfl⟩ := List.mem_map.mp hx
  obtain ⟨h1, h2⟩ := h b hb
  show (decide (0 ≤ b) && decide (b < 256)) = true
  rw [decide_eq_true h1, decide_eq_true h2]
  rfl
theorem sc_ints (bs : List Int) : ∀ x ∈ bs.map V.int, Sc x := fun x hx => by
  obtain ⟨b, _, rfl⟩ := List.mem_map.mp hx
  exact .inr (.inr ⟨b, rfl⟩)
def spIsSg : Sp := fun vs H Q _ => ∃ b : Int, vs = [.int b] ∧ Q (.bl (isSg b)) H
def spSgOf : Sp := fun vs H Q _ => ∃ b : Int, vs = [.int b] ∧ isSg b = true ∧ Q (.str (sOf [b.toNat])) H
def spMkOf (K : PySem.W.Frag) : Sp := fun vs H Q _ => ∃ (q : Addr) (bs : List Int), vs = [.ref q] ∧ H q = some (.tup (bs.map V.int)) ∧ Q (.int (mkF bs)) H
def spMark (K : PySem.W.Frag) : Sp := fun vs H Q _ => ∃ (q : Addr) (bs : List Int), vs = [.ref q] ∧ RowAt H q bs ∧ ∀ H', Same H H' → Q (.int (mkF bs)) H'
def spSeal : Sp := fun vs H Q _ => ∃ (q : Addr) (bs : List Int), vs = [.ref q] ∧ H q = some (.tup (bs.map V.int)) ∧ ∀ z H', Same H H' → H' z = some (.tup ((sealL bs).map V.int)) → Q (.ref z) H'
theorem sg_lo : ∀ k : Nat, k < 5 → sbS.cps.toList[k]? = some (32 + k) := by decide +kernel
theorem sg_hi : ∀ k : Nat, k < 89 → saS.cps.toList[k]? = some (38 + k) := by decide +kernel
theorem sg_b {b : Int} (h : isSg b = true) : 32 ≤ b ∧ b ≤ 126 ∧ b ≠ 37 := by
  simp only [isSg, Bool.and_eq_true, decide_eq_true_eq, Bool.not_eq_true', decide_eq_false_iff_not] at h
  exact ⟨h.1.1, h.1.2, h.2⟩
/-- what is left, what is written of a seal -/
def lf (m : Int) : Nat → Int
  | 0 => m
  | i + 1 => lf m i / 256
def sl (m : Int) : Nat → List Int
  | 0 => []
  | i + 1 => sl m i ++ [lf m i % 256]
theorem sl_len (m : Int) : ∀ i, (sl m i).length = i
  | 0 => rfl
  | i + 1 => by
    show (sl m i ++ [_]).length = _
    rw [List.length_append, sl_len m i]
    rfl
theorem sl_seal (bs : List Int) : sl (mkF bs % 4294967296) 4 = sealL bs := by
  unfold sealL
  show [mkF bs % 4294967296 % 256, mkF bs % 4294967296 / 256 % 256, mkF bs % 4294967296 / 256 / 256 % 256, mkF bs % 4294967296 / 256 / 256 / 256 % 256] = _
  rw [Int.ediv_ediv_of_nonneg (by decide), Int.ediv_ediv_of_nonneg (by decide)]
  rfl
section
variable {P : Program} {w : World} {K : PySem.W.Frag} {mg : Str → Option Value} {base : Heap}
theorem Sc.ni {H : Hp} {v : V} (h : Sc v) : (∃ i, v = .int i) ∨ NoInt K H v := by
  rcases h with rfl | ⟨b, rfl⟩ | h
  · exact .inr ⟨.type "NoneType", false, false, .base .non, kit_ty (by decide +kernel), kit_ty (by decide +kernel), rfl⟩
  · exact .inr ⟨.type "bool", true, true, .base (.bl _), kit_ty (by decide +kernel), kit_ty (by decide +kernel), rfl⟩
  · exact .inl h
theorem scPlain : FnScope ["thing"] ["thing"] (defScope sPlain) := ⟨rfl, rfl, rfl, by decide +kernel, rfl, by decide +kernel, by decide +kernel⟩
theorem ok_plain {f : Addr} {fd : FuncData} (D : Df K mg "is_plain_int" sPlain ["thing"] f fd) (B : Bts mg) : FnOk P w K mg base CX0 1 f fd ["thing"] (spPlain K) := by
  refine D.F.ok scPlain (fun vs H Q E h => ?_) (fun cdv A outer s H vs Q E hr h => ?_)
  · obtain ⟨v, t, b, c, rfl, _⟩ := h
    rfl
  · obtain ⟨v, t, b, c, rfl, ty, kb, kc, k⟩ := h
    refine ⟨_, pss_one (ps_ret (pe_and (pe_callB call_isi (by rfl) B.isinstance PyProof.Rows.boot_isinstance (pa_cons (pv 0) (pa_cons (pe_bltn (v := .ty "int") rfl B.int PyProof.Rows.boot_int rfl) pa_nil)))
      (pe_one (pe_not (pe_callB call_isi (by rfl) B.isinstance PyProof.Rows.boot_isinstance (pa_cons (pv 0) (pa_cons (pe_bltn (v := .ty "bool") rfl B.bool (by decide +kernel) rfl) pa_nil))))))), ?_⟩
    refine ⟨_, rfl, v, .ty "int", t, .type "int", b, rfl, .ty _, ty, kb, _, rfl, ?_⟩
    cases b with
    | false => exact iteF k
    | true => exact iteT ⟨_, rfl, v, .ty "bool", t, .type "bool", c, rfl, .ty _, ty, kc, _, rfl, k⟩
theorem scNum : FnScope ["limit", "thing"] ["limit", "thing"] (defScope sNum) := ⟨rfl, rfl, rfl, by decide +kernel, rfl, by decide +kernel, by decide +kernel⟩
theorem ok_num {f fP : Addr} {fd fdP : FuncData} (D : Df K mg "is_number_below" sNum ["limit", "thing"] f fd) (B : Bts mg) (DP : Df K mg "is_plain_int" sPlain ["thing"] fP fdP) : FnOk P w K mg base CX0 2 f fd ["limit", "thing"] (spNum K) := by
  have GP : FnOk P w K mg base CX0 1 fP fdP ["thing"] (spPlain K) := ok_plain DP B
  refine D.F.ok scNum (fun vs H Q E h => ?_) (fun cdv A outer s H vs Q E hr h => ?_)
  · obtain ⟨n, v, rfl, _⟩ := h
    rfl
  · obtain ⟨n, v, rfl, h⟩ := h
    refine ⟨_, pss_one (ps_ret (pe_and (pe_call GP hr rfl DP.m DP.k DP.b .nil pass0 (pa_cons (pv 1) pa_nil)) (pe_one (pe_chain op_le op_lt pe_int (pv 1) (pv 0))))), ?_⟩
    rcases h with ⟨i, rfl, k⟩ | ⟨⟨t, b, c, ty, kb, kc, e⟩, k⟩
    · refine ⟨_, rfl, .int i, .type "int", true, false, rfl, .base (.int _), kInt_int, kBool_int, _, rfl, iteT ?_⟩
      refine ⟨_, rfl, _, _, rfl, rfl, _, rfl, ?_⟩
      by_cases c : (0 : Int) ≤ i
      · rw [decide_eq_true c] at k ⊢
        exact iteT ⟨_, rfl, _, _, rfl, rfl, k⟩
      · rw [decide_eq_false c] at k ⊢
        exact iteF k
    · refine ⟨_, rfl, v, t, b, c, rfl, ty, kb, kc, _, rfl, ?_⟩
      rw [e]
      exact iteF k
theorem scIsRow : FnScope ["thing", "part"] ["thing"] (defScope sIsRow) := ⟨rfl, rfl, rfl, by decide +kernel, rfl, by decide +kernel, by decide +kernel⟩
theorem ok_isrow {f fP fN : Addr} {fd fdP fdN : FuncData} (D : Df K mg "is_row" sIsRow ["thing"] f fd) (B : Bts mg) (C : Cst mg) (DP : Df K mg "is_plain_int" sPlain ["thing"] fP fdP) (DN : Df K mg "is_number_below" sNum ["limit", "thing"] fN fdN) : FnOk P w K mg base CX0 3 f fd ["thing"] (spIsRow K) := by
  have GN : FnOk P w K mg base CX0 2 fN fdN ["limit", "thing"] (spNum K) := ok_num DN B DP
  obtain ⟨tb, hb⟩ := C.bytes
  refine D.F.ok scIsRow (fun vs H Q E h => ?_) (fun cdv A outer s H vs Q E hr h => ?_)
  · obtain ⟨v, rfl, _⟩ := h
    rfl
  · obtain ⟨v, rfl, h⟩ := h
    have nd := scIsRow.nd
    refine ⟨_, pss_one (ps_ret (pe_and (pe_callB call_isi (by rfl) B.isinstance PyProof.Rows.boot_isinstance (pa_cons (pv 0) (pa_cons (pe_bltn (v := .ty "tuple") rfl B.tuple PyProof.Rows.boot_tuple rfl) pa_nil)))
      (pe_one (pe_callB (cr_all rfl) (by rfl) B.all PyProof.Rows.boot_all (pa_cons (pe_lc (own := [("part", 1)]) (g := gName 1) (tt := tYes) rfl nd (pi_tup (pv 0))
        (blkOk_by (N := ["thing", "part"]) (sc := defScope sIsRow) (by decide +kernel)) (fun _ _ _ _ _ => pg_name (i := 1) nd rfl (.inl rfl)) (fun _ _ _ _ _ => pts_nil)
        (fun _ _ _ _ _ => pe_call GN hr rfl DN.m DN.k DN.b .nil pass0 (pa_cons (pe_glob (v := .int 256) rfl hb ⟨_, rfl⟩) (pa_cons (pv 1) pa_nil)))) pa_nil))))), ?_⟩
    rcases h with ⟨q, xs, rfl, hq, few, sc, k⟩ | ⟨t, ty, kt, k⟩
    · refine ⟨_, rfl, .ref q, .ty "tuple", .type "tuple", .type "tuple", true, rfl, .ty _, .base (.tup hq), kit_ty (by decide +kernel), _, rfl, iteT ?_⟩
      refine ⟨_, rfl, q, rfl, ⟨_, SqT.of hq⟩, fun D hD => lc_tup (K := K) (a := q) (xs := xs) (fun i H' => H' D = some (.lst (((xs.take i).map isB).map V.bl)) ∧ Same H H') ?_ ?_ ?_ ?_⟩
      · exact ⟨upd_same, sN hD⟩
      · rintro i H' hi ⟨_, s1⟩
        exact SqT.of (s1 _ _ hq)
      · rintro i x H' hx ⟨eD, s1⟩
        have hm := sc x (List.mem_of_getElem? hx)
        have hi := (List.getElem?_eq_some_iff.mp hx).1
        have fin : ∀ b, b = isB x → ∃ acc, H' D = some (.lst acc) ∧ acc.length < sizeLine ∧ (upd H' D (.lst (acc ++ [.bl b]))) D = some (.lst (((xs.take (i + 1)).map isB).map V.bl)) ∧ Same H (upd H' D (.lst (acc ++ [.bl b]))) := fun b hb => by
          refine ⟨_, eD, ?_, ?_, sNew s1 hD⟩
          · rw [List.length_map, List.length_map, List.length_take]
            exact size_ok (by omega)
          · rw [upd_same, take_more hx, List.map_append, List.map_append, hb]
            rfl
        refine ⟨rfl, ?_⟩
        rcases hm.ni (K := K) (H := H') with ⟨j, rfl⟩ | ni
        · exact ⟨_, rfl, 256, .int j, rfl, .inl ⟨j, rfl, fin _ rfl⟩⟩
        · refine ⟨_, rfl, 256, x, rfl, .inr ⟨ni, fin _ ?_⟩⟩
          rcases hm with rfl | ⟨b, rfl⟩ | ⟨j, rfl⟩
          · rfl
          · rfl
          · obtain ⟨t, b, c, ty, kb, kc, e⟩ := ni
            cases ty with
            | base ty =>
              cases ty
              rw [show b = true from (Option.some.inj (kInt_int.symm.trans kb)).symm, show c = false from (Option.some.inj (kBool_int.symm.trans kc)).symm] at e
              cases e
      · rintro H' ⟨eD, s1⟩
        rw [List.take_length] at eD
        refine ⟨D, _, rfl, SqL.of eD, ?_⟩
        have e : (xs.map isB).all id = xs.all isB := by rw [List.all_map]; rfl
        rw [e]
        exact k _ s1
    · exact ⟨_, rfl, v, .ty "tuple", t, .type "tuple", false, rfl, .ty _, ty, kt, _, rfl, iteF k⟩
theorem scIsSg : FnScope ["number"] ["number"] (defScope sIsSg) := ⟨rfl, rfl, rfl, by decide +kernel, rfl, by decide +kernel, by decide +kernel⟩
theorem ok_issg {f : Addr} {fd : FuncData} (D : Df K mg "is_sign" sIsSg ["number"] f fd) (C : Cst mg) : FnOk P w K mg base CX0 1 f fd ["number"] spIsSg := by
  obtain ⟨t1, h1⟩ := C.first
  obtain ⟨t2, h2⟩ := C.last
  obtain ⟨t3, h3⟩ := C.nosg
  refine D.F.ok scIsSg (fun vs H Q E h => ?_) (fun cdv A outer s H vs Q E hr h => ?_)
  · obtain ⟨b, rfl, _⟩ := h
    rfl
  · obtain ⟨b, rfl, k⟩ := h
    refine ⟨_, pss_one (ps_ret (pe_and (pe_chain op_le op_le (pe_glob (v := .int 32) rfl h1 ⟨_, rfl⟩) (pv 0) (pe_glob (v := .int 126) rfl h2 ⟨_, rfl⟩)) (pe_one (pe_cmpR op_ne (pv 0) (pe_glob (v := .int 37) rfl h3 ⟨_, rfl⟩) (nomark _))))), ?_⟩
    unfold isSg at k
    refine ⟨_, rfl, _, _, rfl, rfl, _, rfl, ?_⟩
    by_cases c : (32 : Int) ≤ b
    · rw [decide_eq_true c] at k ⊢
      refine iteT ⟨_, _, rfl, rfl, _, rfl, ?_⟩
      by_cases c2 : b ≤ 126
      · rw [decide_eq_true c2] at k ⊢
        refine iteT ⟨_, rfl, rfl, ?_⟩
        have e : decide (V.int b = V.int 37) = decide (b = 37) := by
          by_cases c3 : b = 37
          · rw [c3, decide_eq_true rfl, decide_eq_true rfl]
          · rw [decide_eq_false c3, decide_eq_false fun z => c3 (V.int.inj z)]
        rw [e]
        exact k
      · rw [decide_eq_false c2] at k ⊢
        exact iteF k
    · rw [decide_eq_false c] at k ⊢
      exact iteF ⟨_, rfl, iteF k⟩
theorem scSgOf : FnScope ["number"] ["number"] (defScope sSgOf) := ⟨rfl, rfl, rfl, by decide +kernel, rfl, by decide +kernel, by decide +kernel⟩
theorem ok_sgof {f : Addr} {fd : FuncData} (D : Df K mg "sign_of" sSgOf ["number"] f fd) (C : Cst mg) : FnOk P w K mg base CX0 1 f fd ["number"] spSgOf := by
  obtain ⟨t1, h1⟩ := C.first
  obtain ⟨t3, h3⟩ := C.nosg
  obtain ⟨t4, h4⟩ := C.sb
  obtain ⟨t5, h5⟩ := C.sa
  refine D.F.ok scSgOf (fun vs H Q E h => ?_) (fun cdv A outer s H vs Q E hr h => ?_)
  · obtain ⟨b, rfl, _⟩ := h
    rfl
  · obtain ⟨b, rfl, sg, k⟩ := h
    obtain ⟨b1, b2, b3⟩ := sg_b sg
    refine ⟨_, pss_cons (ps_if (pt_cmpR op_lt (pv 0) (pe_glob (v := .int 37) rfl h3 ⟨_, rfl⟩) (nomark _))
        (pss_one (ps_ret (pe_ix ix_str (pe_glob (v := .str sbS) rfl h4 ⟨_, rfl⟩) (pe_op op_sub (pv 0) (pe_glob (v := .int 32) rfl h1 ⟨_, rfl⟩)) (fun _ _ => rfl)))) pss_nil)
      (pss_one (ps_ret (pe_ix ix_str (pe_glob (v := .str saS) rfl h5 ⟨_, rfl⟩) (pe_op op_sub (pe_op op_sub (pv 0) (pe_glob (v := .int 37) rfl h3 ⟨_, rfl⟩)) pe_int) (fun _ _ => rfl)))), ?_⟩
    refine ⟨_, rfl, _, _, rfl, rfl, _, rfl, ite2 (fun c => ?_) (fun c => ?_)⟩
    · have c : b < 37 := of_decide_eq_true c
      refine ⟨_, rfl, _, _, rfl, rfl, sbS, b - 32, b.toNat, rfl, rfl, by decide +kernel, ?_, k⟩
      rw [show b - 32 = (((b.toNat - 32 : Nat)) : Int) by omega]
      refine atI_nat ?_
      rw [sg_lo _ (by omega), show 32 + (b.toNat - 32) = b.toNat by omega]
    · have c : ¬ b < 37 := fun z => c (decide_eq_true z)
      refine ⟨_, rfl, _, _, rfl, rfl, _, _, rfl, rfl, saS, b - 37 - 1, b.toNat, rfl, rfl, by decide +kernel, ?_, k⟩
      rw [show b - 37 - 1 = (((b.toNat - 38 : Nat)) : Int) by omega]
      refine atI_nat ?_
      rw [sg_hi _ (by omega), show 38 + (b.toNat - 38) = b.toNat by omega]
theorem scMkOf : FnScope ["row", "number", "byte"] ["row"] (defScope sMkOf) := ⟨rfl, rfl, rfl, by decide +kernel, rfl, by decide +kernel, by decide +kernel⟩
theorem ok_mkof {f : Addr} {fd : FuncData} (D : Df K mg "mark_of" sMkOf ["row"] f fd) (C : Cst mg) : FnOk P w K mg base CX0 1 f fd ["row"] (spMkOf K) := by
  obtain ⟨t1, h1⟩ := C.factor
  obtain ⟨t2, h2⟩ := C.marks
  refine D.F.ok scMkOf (fun vs H Q E h => ?_) (fun cdv A outer s H vs Q E hr h => ?_)
  · obtain ⟨q, bs, rfl, _⟩ := h
    rfl
  · obtain ⟨q, bs, rfl, hq, k⟩ := h
    have nd := scMkOf.nd
    refine ⟨_, pss_cons (ps_set (i := 1) nd rfl (.inl rfl) pe_int)
      (pss_cons (ps_for PassesOwn.never rfl (pi_tup (pv 0)) (pg_name (i := 2) nd rfl (.inl rfl))
        (pss_one (ps_set (i := 1) nd rfl (.inl rfl) (pe_op op_mod (pe_op op_add (pe_op op_add (pe_op op_mul (pv 1) (pe_glob (v := .int 1000003) rfl h1 ⟨_, rfl⟩)) (pv 2)) pe_int) (pe_glob (v := .int 2305843009213693951) rfl h2 ⟨_, rfl⟩)))))
      (pss_one (ps_ret (pv 1)))), ?_⟩
    refine ⟨_, rfl, q, rfl, ⟨_, SqT.of hq⟩, for_tup (K := K) (a := q) (xs := bs.map V.int) (fun i σ H' => ∃ x2, σ = [some (.ref q), some (.int (mkF (bs.take i))), x2] ∧ H' = H) ?_ ?_ ?_ ?_⟩
    · exact ⟨none, rfl, rfl⟩
    · rintro i σ H' hi ⟨x2, rfl, rfl⟩
      exact SqT.of hq
    · rintro i x σ H' hx ⟨x2, rfl, rfl⟩
      obtain ⟨b, hb, rfl⟩ := at_ints hx
      refine ⟨_, rfl, _, _, rfl, rfl, .inr ⟨by decide, by decide⟩, _, rfl, _, _, rfl, rfl, _, _, rfl, rfl, _, _, rfl, rfl, (by decide : (0 : Int) < 2305843009213693951), some (.int b), ?_, rfl⟩
      rw [take_more hb, mkF_snoc]
      rfl
    · rintro σ H' ⟨x2, rfl, rfl⟩
      rw [List.length_map, List.take_length]
      exact ⟨_, rfl, k⟩
theorem scMark : FnScope ["row"] ["row"] (defScope sMark) := ⟨rfl, rfl, rfl, by decide +kernel, rfl, by decide +kernel, by decide +kernel⟩
theorem ok_mark {f fR fM : Addr} {fd fdR fdM : FuncData} (D : Df K mg "mark" sMark ["row"] f fd) (C : Cst mg) (DR : Df K mg "is_row" sIsRow ["thing"] fR fdR) (DM : Df K mg "mark_of" sMkOf ["row"] fM fdM) (GR : FnOk P w K mg base CX0 3 fR fdR ["thing"] (spIsRow K)) : FnOk P w K mg base CX0 4 f fd ["row"] (spMark K) := by
  have GM : FnOk P w K mg base CX0 1 fM fdM ["row"] (spMkOf K) := ok_mkof DM C
  refine D.F.ok scMark (fun vs H Q E h => ?_) (fun cdv A outer s H vs Q E hr h => ?_)
  · obtain ⟨q, bs, rfl, _⟩ := h
    rfl
  · obtain ⟨q, bs, rfl, hq, k⟩ := h
    have hr1 : Room 1 _ := hr.mono (by decide)
    refine ⟨_, pss_cons (ps_if (pt_not (pt_val (pe_call GR hr rfl DR.m DR.k DR.b .nil pass0 (pa_cons (pv 0) pa_nil)))) pss_never pss_nil)
      (pss_one (ps_ret (pe_call GM hr1 rfl DM.m DM.k DM.b .nil pass0 (pa_cons (pv 0) pa_nil)))), ?_⟩
    refine ⟨_, rfl, .ref q, rfl, .inl ⟨q, _, rfl, hq.at_, by rw [List.length_map]; exact hq.few, sc_ints bs, fun H1 s1 => ?_⟩⟩
    rw [all_isB hq.b]
    refine ⟨_, rfl, iteF ⟨_, rfl, q, bs, rfl, s1 _ _ hq.at_, k _ s1⟩⟩
theorem scSeal : FnScope ["row", "left", "seal", "_"] ["row"] (defScope sSeal) := ⟨rfl, rfl, rfl, by decide +kernel, rfl, by decide +kernel, by decide +kernel⟩
theorem ok_seal {f fM : Addr} {fd fdM : FuncData} (D : Df K mg "seal_of" sSeal ["row"] f fd) (B : Bts mg) (C : Cst mg) (DM : Df K mg "mark_of" sMkOf ["row"] fM fdM) : FnOk P w K mg base CX0 2 f fd ["row"] spSeal := by
  have GM : FnOk P w K mg base CX0 1 fM fdM ["row"] (spMkOf K) := ok_mkof DM C
  obtain ⟨t1, h1⟩ := C.seals
  obtain ⟨t2, h2⟩ := C.slen
  obtain ⟨t3, h3⟩ := C.bytes
  refine D.F.ok scSeal (fun vs H Q E h => ?_) (fun cdv A outer s H vs Q E hr h => ?_)
  · obtain ⟨q, bs, rfl, _⟩ := h
    rfl
  · obtain ⟨q, bs, rfl, hq, k⟩ := h
    have nd := scSeal.nd
    refine ⟨_, pss_cons (ps_set (i := 1) nd rfl (.inl rfl) (pe_op op_mod (pe_call GM hr rfl DM.m DM.k DM.b .nil pass0 (pa_cons (pv 0) pa_nil)) (pe_glob (v := .int 4294967296) rfl h1 ⟨_, rfl⟩)))
      (pss_cons (ps_set (i := 2) nd rfl (.inl rfl) (pe_lst pa_nil))
      (pss_cons (ps_for PassesOwn.never rfl (pi_range1 rfl B.range (pa_cons (pe_glob (v := .int 4) rfl h2 ⟨_, rfl⟩) pa_nil)) (pg_name (i := 3) nd rfl (.inl rfl))
        (pss_cons (ps_expr (pe_bm PySem.F.plainAttrs_list PySem.F.slot_list_append PySem.F.type_list_append mt_append (pv 2) (pa_cons (pe_op op_mod (pv 1) (pe_glob (v := .int 256) rfl h3 ⟨_, rfl⟩)) pa_nil)))
        (pss_one (ps_set (i := 1) nd rfl (.inl rfl) (pe_op op_fdiv (pv 1) (pe_glob (v := .int 256) rfl h3 ⟨_, rfl⟩))))))
      (pss_one (ps_ret (pe_callTy call_tuple_of (by rfl) B.tuple PyProof.Rows.boot_tuple (pa_cons (pv 2) pa_nil)))))), ?_⟩
    refine ⟨_, rfl, q, bs, rfl, hq, _, _, rfl, rfl, (by decide : (0 : Int) < 4294967296), Nat.zero_le _, fun l hl => ?_⟩
    refine ⟨4, rfl, by decide, by decide, for_range (lo := 0) (n := 4) (fun i σ H' => ∃ x3, σ = [some (.ref q), some (.int (lf (mkF bs % 4294967296) i)), some (.ref l), x3] ∧ H' l = some (.lst ((sl (mkF bs % 4294967296) i).map V.int)) ∧ Same H H') ?_ ?_ ?_⟩
    · exact ⟨none, rfl, upd_same, sN hl⟩
    · rintro i σ H' hi ⟨x3, rfl, e, s1⟩
      refine ⟨_, rfl, .inl ⟨rfl, _, SqL.of e⟩, _, rfl, _, _, rfl, rfl, (by decide : (0 : Int) < 256), l, _, _, rfl, rfl, e, ?_, ?_⟩
      · rw [List.length_map, sl_len]
        exact size_ok (by omega)
      · refine ⟨_, rfl, _, _, rfl, rfl, ⟨by decide, by decide⟩, _, rfl, ?_, sNew s1 hl⟩
        rw [upd_same]
        show _ = some (HO.lst ((sl (mkF bs % 4294967296) i ++ [_]).map V.int))
        rw [List.map_append]
        rfl
    · rintro σ H' ⟨x3, rfl, e, s1⟩
      refine ⟨_, rfl, l, _, rfl, .inl ⟨SqL.of e, fun z hz => k z _ (sT s1 (sN hz)) ?_⟩⟩
      rw [upd_same, sl_seal]
end
end Q

namespace L2
open PySem PySem.Spec PyProof.Rows
section
variable {X : Cx}
/-- t.index(x), t of flat things, the first place -/
theorem mt_tidx : MtR X "tuple.index" (fun x xs H Q => ∃ (p : Addr) (ys : List V) (y : V) (j : Nat) (z : V), x = .ref p ∧ xs = [y] ∧ SqT X.K H p ys ∧ flatV y = true ∧ ys.all flatV = true ∧ ys[j]? = some z ∧ eqV z y = true ∧ (∀ (m : Nat) (z' : V), m < j → ys[m]? = some z' → eqV z' y = false) ∧ Q (.int (j : Nat)) H) := by
  intro pins s σ H x xs v us Q I rx rs h
  obtain ⟨p, ys, y, j, z, rfl, rfl, hq, fy, fys, hz, hzj, hno, q⟩ := h
  cases rx
  cases rs with
  | cons ry rt =>
    rename_i uy ut
    cases rt
    obtain ⟨its, r, pl, hsz⟩ := I.tuple hq
    obtain ⟨⟨cls, dd, dt, sl⟩, ho, hc, n, hd⟩ := pl
    simp only at hc hd
    subst hc
    subst hd
    have hvl := r.length
    obtain ⟨u, hu, ru⟩ := r.get hz
    obtain ⟨hjl, hje⟩ := List.getElem?_eq_some_iff.mp hu
    have hj : j < its.toArray.size := by simpa using hjl
    refine call_meets PySem.F.slot_tuple_index ⟨_, ho, rfl⟩ PySem.F.entry_tuple_index (PySem.F.args_tuple_index_2 _ _) (TI.tuple_indexAt p its.toArray n dd sl uy (eqU y) j hj ?_ ?_)
      ⟨ho, fun w hw => mem_eqAt ry fy r fys w (by simpa using hw), ⟨.int (j : Nat), H, I.tok _, ⟨_, rfl⟩, q⟩⟩
    · have e1 : its.toArray[j] = u := by simpa using hje
      rw [e1, eqU_of ru (flat_at fys hz)]
      exact hzj
    · intro m hm hmj
      have hml : m < its.length := by simpa using hm
      have hmy : m < ys.length := by omega
      have hy' : ys[m]? = some ys[m] := List.getElem?_eq_getElem hmy
      obtain ⟨u2, hu2, ru2⟩ := r.get hy'
      obtain ⟨_, hme⟩ := List.getElem?_eq_some_iff.mp hu2
      have e1 : its.toArray[m] = u2 := by simpa using hme
      rw [e1, eqU_of ru2 (flat_at fys hy')]
      exact hno m _ hmj hy'
/-- x is True, x is False, of any x -/
theorem op_is_xb : OpR X (compareOp .Is) (fun x y H Q => ((∃ i : Int, x = .int i) ∨ (∃ z : Str, x = .str z) ∨ ∃ a : Addr, x = .ref a) ∧ ∃ b : Bool, y = .bl b ∧ Q (.bl false) H) := by
  intro pins s σ H x y v u Q I rx ry h
  obtain ⟨hx, b, rfl, q⟩ := h
  cases (show u = Value.bool b from ry)
  rcases hx with ⟨i, rfl⟩ | ⟨z, rfl⟩ | ⟨a, rfl⟩
  · obtain ⟨t, rfl⟩ := rx
    exact wpAny_is_other rfl (fun z => nomatch z) ⟨.bl false, H, I, rfl, q⟩
  · obtain ⟨t, rfl⟩ := rx
    exact wpAny_is_other rfl (fun z => nomatch z) ⟨.bl false, H, I, rfl, q⟩
  · cases rx
    exact wpAny_is_other rfl (fun z => nomatch z) ⟨.bl false, H, I, rfl, q⟩
end
end L2
namespace Q
open PySem L2 QR
abbrev sIsStr : Stmt := top 38
abbrev sIPW : Stmt := top 39
abbrev sIsPar : Stmt := top 40
abbrev sWW : Stmt := top 41
abbrev sWP : Stmt := top 42
abbrev sRowOf : Stmt := top 43
abbrev sSealed : Stmt := top 50
structure Bare (K : PySem.W.Frag) (mg : Str → Option Value) : Prop where
  ex : ∃ a, mg "BARE" = some (.ref a) ∧ KTup K a [.non, .bl false, .bl true] ∧ ∃ o, K.lookup a = some o ∧ o.cls = .type "tuple" ∧ o.dict = none
theorem enc_atom {d : Nat} {t : T} (h : okA t) : enc d t = encA t := by
  cases d with
  | zero => rfl
  | succ d => cases t with
    | tup l => exact h.elim
    | _ => rfl
theorem okT_atom {d : Nat} {z : List Nat} (h : OkT d (.str z)) : okA (.str z) := by
  cases d <;> exact h
def spIsStr : Sp := fun vs H Q _ => ∃ z : List Nat, vs = [.str (sOf z)] ∧ okA (.str z) ∧ ∀ H', Same H H' → Q (.bl true) H'
def spIPW (d : Nat) : Sp := fun vs H Q _ => ∃ (t : T) (v : V), vs = [.int (d : Int), v] ∧ Rep H d t v ∧ OkT d t ∧ ∀ H', Same H H' → Q (.bl true) H'
def spIsPar : Sp := fun vs H Q _ => ∃ (t : T) (v : V), vs = [v] ∧ Rep H 20 t v ∧ OkT 20 t ∧ ∀ H', Same H H' → Q (.bl true) H'
def spWW : Sp := fun vs H Q _ => ∃ (l : Addr) (n : Int) (acc : List V), vs = [.ref l, .int n] ∧ H l = some (.lst acc) ∧ 0 ≤ n ∧ acc.length + (vlq n.toNat).length ≤ 9000 ∧ ∀ H', Bu l H H' → H' l = some (.lst (acc ++ (vlq n.toNat).map V.int)) → Q .non H'
def spWP (d : Nat) : Sp := fun vs H Q _ => ∃ (l : Addr) (t : T) (v : V) (acc : List V), vs = [.ref l, v] ∧ H l = some (.lst acc) ∧ Rep H d t v ∧ OkT d t ∧ acc.length + (enc d t).length ≤ 9000 ∧ ∀ H', Bu l H H' → H' l = some (.lst (acc ++ (enc d t).map V.int)) → Q .non H'
def spRowOf : Sp := fun vs H Q _ => ∃ (t : T) (v : V), vs = [v] ∧ Rep H 20 t v ∧ OkT 20 t ∧ (enc 20 t).length ≤ 8000 ∧ ∀ q H', Same H H' → RowAt H' q (enc 20 t) → Q (.ref q) H'
def spSealed : Sp := fun vs H Q _ => ∃ (t : T) (v : V), vs = [v] ∧ Rep H 20 t v ∧ OkT 20 t ∧ (enc 20 t).length ≤ 8000 ∧ ∀ q H', Same H H' → RowAt H' q (enc 20 t ++ sealL (enc 20 t)) → Q (.ref q) H'
theorem sOf_len (z : List Nat) : (sOf z).length = z.length := by
  show z.toArray.size = _
  exact List.size_toArray
theorem sOf_at {z : List Nat} {i c : Nat} (h : (sOf z).cps[i]? = some c) : z[i]? = some c := by
  have h : z.toArray[i]? = some c := h
  rwa [List.getElem?_toArray] at h
theorem flat_take {d : Nat} (l : List T) (i : Nat) : (((l.take i).map (enc d)).flatten).length ≤ ((l.map (enc d)).flatten).length := by
  have e : l.map (enc d) = (l.take i).map (enc d) ++ (l.drop i).map (enc d) := by rw [← List.map_append, List.take_append_drop]
  rw [e, List.flatten_append, List.length_append]
  omega
/-- t + u, the whole or a new one -/
def rCatS : R2 := fun x y H Q => ∃ a b xs ys, x = .ref a ∧ y = .ref b ∧ H a = some (.tup xs) ∧ H b = some (.tup ys) ∧ xs.length + ys.length ≤ sizeLine ∧ ∀ z H', Same H H' → H' z = some (.tup (xs ++ ys)) → Q (.ref z) H'
theorem op_catS {X : Cx} : OpR X (binaryOp .Add) rCatS := by
  intro pins s σ H x y v u Q I rx ry h
  obtain ⟨a, b, xs, ys, rfl, rfl, ha, hb, hz, k⟩ := h
  refine op_catA pins s σ H _ _ v u Q I rx ry ⟨a, b, xs, ys, rfl, rfl, SqT.of ha, SqT.of hb, hz, fun e => ?_, fun _ e => ?_, fun _ _ p hp => k p _ (sN hp) upd_same⟩
  · exact k b H (fun _ _ e => e) (by rw [hb, e]; rfl)
  · exact k a H (fun _ _ e => e) (by rw [ha, e, List.append_nil])
section
variable {P : Program} {w : World} {K : PySem.W.Frag} {mg : Str → Option Value} {base : Heap}
theorem scIsStr : FnScope ["thing", "sign"] ["thing"] (defScope sIsStr) := ⟨rfl, rfl, rfl, by decide +kernel, rfl, by decide +kernel, by decide +kernel⟩
theorem ok_isstr {f fS : Addr} {fd fdS : FuncData} (D : Df K mg "is_string" sIsStr ["thing"] f fd) (B : Bts mg) (C : Cst mg) (DS : Df K mg "is_sign" sIsSg ["number"] fS fdS) : FnOk P w K mg base CX0 2 f fd ["thing"] spIsStr := by
  have GS : FnOk P w K mg base CX0 1 fS fdS ["number"] spIsSg := ok_issg DS C
  obtain ⟨t1, h1⟩ := C.signs
  refine D.F.ok scIsStr (fun vs H Q E h => ?_) (fun cdv A outer s H vs Q E hr h => ?_)
  · obtain ⟨z, rfl, _⟩ := h
    rfl
  · obtain ⟨z, rfl, ⟨z1, z2, zs⟩, k⟩ := h
    have nd := scIsStr.nd
    refine ⟨_, pss_cons (ps_if (PW.pt (pw_or (pt_not (pt_val (pe_callB call_isi (by rfl) B.isinstance PyProof.Rows.boot_isinstance (pa_cons (pv 0) (pa_cons (pe_bltn (v := .ty "str") rfl B.str PyProof.Rows.boot_str rfl) pa_nil)))))
        (pw_or1 (pt_not (pt_chain op_le op_le pe_int (pe_callB call_len_str (by rfl) B.len PySem.boot_len (pa_cons (pv 0) pa_nil)) (pe_glob (v := .int 20) rfl h1 ⟨_, rfl⟩)))))) pss_never pss_nil)
      (pss_one (ps_ret (pe_callB (cr_all rfl) (by rfl) B.all PyProof.Rows.boot_all (pa_cons (pe_lc (own := [("sign", 1)]) (g := gName 1) (tt := tYes) rfl nd (pi_str (pv 0))
        (blkOk_by (N := ["thing", "sign"]) (sc := defScope sIsStr) (by decide +kernel)) (fun _ _ _ _ _ => pg_name (i := 1) nd rfl (.inl rfl)) (fun _ _ _ _ _ => pts_nil)
        (fun _ _ _ _ _ => pe_call GS hr rfl DS.m DS.k DS.b .nil pass0 (pa_cons (pe_callB call_ord (by rfl) B.ord (by decide +kernel) (pa_cons (pv 1) pa_nil)) pa_nil))) pa_nil)))), ?_⟩
    have ez := sOf_len z
    refine ⟨_, rfl, .str (sOf z), .ty "str", .type "str", .type "str", true, rfl, .ty _, .base (.str _), kit_ty (by decide +kernel), _, rfl, iteF ?_⟩
    refine ⟨_, rfl, sOf z, rfl, by rw [ez]; exact Nat.le_of_lt (size_ok (by omega)), _, _, rfl, rfl, _, rfl, ?_⟩
    rw [ez]
    refine ite2 (fun _ => ?_) (fun c => absurd (decide_eq_true (by omega)) c)
    refine ⟨_, _, rfl, rfl, _, rfl, ite2 (fun c => ?_) (fun _ => ?_)⟩
    · rw [decide_eq_true (by omega)] at c
      cases c
    refine ⟨_, rfl, sOf z, rfl, fun D hD => lc_it (walk_str (z := sOf z)) (fun i H' => H' D = some (.lst ((List.replicate i true).map V.bl)) ∧ i ≤ z.length ∧ Same H H') ?_ ?_ ?_ ?_⟩
    · exact ⟨upd_same, Nat.zero_le _, sN hD⟩
    · rintro i H' hi _
      trivial
    · rintro i x H1 H' hi ⟨eD, il, s1⟩ ⟨rfl, c, hc, rfl⟩
      have hc := sOf_at hc
      refine ⟨rfl, ?_⟩
      refine ⟨_, rfl, _, rfl, rfl, (c : Int), rfl, ?_⟩
      rw [zs c (List.mem_of_getElem? hc)]
      refine ⟨_, eD, ?_, ?_, (List.getElem?_eq_some_iff.mp hc).1, sNew s1 hD⟩
      · rw [List.length_map, List.length_replicate]
        exact size_ok (by omega)
      · rw [upd_same, List.replicate_succ', List.map_append]
        rfl
    · rintro H' ⟨eD, _, s1⟩
      refine ⟨D, _, rfl, SqL.of eD, ?_⟩
      have e : (List.replicate (sOf z).cps.size true).all id = true := by
        rw [List.all_eq_true]
        intro x hx
        rw [(List.mem_replicate.mp hx).2]
        rfl
      rw [e]
      exact k _ s1
theorem scIPW : FnScope ["deep", "thing", "part"] ["deep", "thing"] (defScope sIPW) := ⟨rfl, rfl, rfl, by decide +kernel, rfl, by decide +kernel, by decide +kernel⟩
theorem ok_ipw {f fT fS : Addr} {fd fdT fdS : FuncData} (D : Df K mg "is_parcel_within" sIPW ["deep", "thing"] f fd) (B : Bts mg) (C : Cst mg) (DT : Df K mg "is_string" sIsStr ["thing"] fT fdT) (DS : Df K mg "is_sign" sIsSg ["number"] fS fdS) : ∀ d, FnOk P w K mg base CX0 (d + 3) f fd ["deep", "thing"] (spIPW d) := by
  have GT : FnOk P w K mg base CX0 2 fT fdT ["thing"] spIsStr := ok_isstr DT B C DS
  have main : ∀ d, (∀ d', d = d' + 1 → FnOk P w K mg base CX0 (d' + 3) f fd ["deep", "thing"] (spIPW d')) → FnOk P w K mg base CX0 (d + 3) f fd ["deep", "thing"] (spIPW d) := by
    intro d IH
    have IH' : FnOk P w K mg base CX0 (d + 2) f fd ["deep", "thing"] (fun vs H Q E => 0 < d ∧ spIPW (d - 1) vs H Q E) := by
      cases d with
      | zero => exact ⟨fun vs H Q E h => absurd h.1 (by decide), fun A outer s H args us vs Q E hr e0 hb r h => absurd h.1 (by decide)⟩
      | succ d => exact (IH d rfl).imp fun vs H Q E h => h.2
    refine D.F.ok scIPW (fun vs H Q E h => ?_) (fun cdv A outer s H vs Q E hr h => ?_)
    · obtain ⟨t, v, rfl, _⟩ := h
      rfl
    · obtain ⟨t, v, rfl, rep, ok, k⟩ := h
      have nd := scIPW.nd
      have hr2 : Room 2 _ := hr.mono (by omega)
      refine ⟨_, pss_cons (ps_if (pt_val (pe_callB call_isi (by rfl) B.isinstance PyProof.Rows.boot_isinstance (pa_cons (pv 1) (pa_cons (pe_bltn (v := .ty "tuple") rfl B.tuple PyProof.Rows.boot_tuple rfl) pa_nil))))
          (pss_one (ps_ret (pe_and (pe_cmpR op_gt (pv 0) pe_int (nomark _)) (pe_one (pe_callB (cr_all rfl) (by rfl) B.all PyProof.Rows.boot_all (pa_cons (pe_lc (own := [("part", 2)]) (g := gName 2) (tt := tYes) rfl nd (pi_tup (pv 1))
            (blkOk_by (N := ["deep", "thing", "part"]) (sc := defScope sIPW) (by decide +kernel)) (fun _ _ _ _ _ => pg_name (i := 2) nd rfl (.inl rfl)) (fun _ _ _ _ _ => pts_nil)
            (fun _ _ _ _ _ => pe_call IH' hr rfl D.m D.k D.b .nil pass0 (pa_cons (pe_op op_sub (pv 0) pe_int) (pa_cons (pv 2) pa_nil)))) pa_nil)))))) pss_nil)
        (pss_one (ps_ret (pe_or (pe_cmp (pc_isN (pv 1)) rfl) (pe_or (pe_callB call_isi (by rfl) B.isinstance PyProof.Rows.boot_isinstance (pa_cons (pv 1) (pa_cons (pe_bltn (v := .ty "int") rfl B.int PyProof.Rows.boot_int rfl) pa_nil)))
          (pe_one (pe_call GT hr2 rfl DT.m DT.k DT.b .nil pass0 (pa_cons (pv 1) pa_nil))))))), ?_⟩
      rcases rep.cases with ⟨rfl, rfl⟩ | ⟨b, rfl, rfl⟩ | ⟨i, rfl, rfl⟩ | ⟨z, rfl, rfl, zl⟩ | ⟨d', l, a, xs, rfl, rfl, rfl, ha, hl, few, hk⟩
      · refine ⟨_, rfl, .non, .ty "tuple", .type "NoneType", .type "tuple", false, rfl, .ty _, .base .non, kit_ty (by decide +kernel), _, rfl, iteF ?_⟩
        exact ⟨_, rfl, _, rfl, iteT (k _ sR)⟩
      · refine ⟨_, rfl, .bl b, .ty "tuple", .type "bool", .type "tuple", false, rfl, .ty _, .base (.bl _), kit_ty (by decide +kernel), _, rfl, iteF ?_⟩
        refine ⟨_, rfl, _, rfl, iteF ?_⟩
        exact ⟨_, rfl, .bl b, .ty "int", .type "bool", .type "int", true, rfl, .ty _, .base (.bl _), kit_ty (by decide +kernel), _, rfl, iteT (k _ sR)⟩
      · refine ⟨_, rfl, .int i, .ty "tuple", .type "int", .type "tuple", false, rfl, .ty _, .base (.int _), kit_ty (by decide +kernel), _, rfl, iteF ?_⟩
        refine ⟨_, rfl, _, rfl, iteF ?_⟩
        exact ⟨_, rfl, .int i, .ty "int", .type "int", .type "int", true, rfl, .ty _, .base (.int _), kit_ty (by decide +kernel), _, rfl, iteT (k _ sR)⟩
      · refine ⟨_, rfl, .str (sOf z), .ty "tuple", .type "str", .type "tuple", false, rfl, .ty _, .base (.str _), kit_ty (by decide +kernel), _, rfl, iteF ?_⟩
        refine ⟨_, rfl, _, rfl, iteF ?_⟩
        refine ⟨_, rfl, .str (sOf z), .ty "int", .type "str", .type "int", false, rfl, .ty _, .base (.str _), kit_ty (by decide +kernel), _, rfl, iteF ?_⟩
        exact ⟨_, rfl, z, rfl, okT_atom ok, k⟩
      · have okl : ∀ t ∈ l, OkT d' t := ok
        refine ⟨_, rfl, .ref a, .ty "tuple", .type "tuple", .type "tuple", true, rfl, .ty _, .base (.tup ha), kit_ty (by decide +kernel), _, rfl, iteT ?_⟩
        refine ⟨_, rfl, _, _, rfl, rfl, _, rfl, ite2 (fun _ => ?_) (fun c => absurd (decide_eq_true (by omega)) c)⟩
        refine ⟨_, rfl, a, rfl, ⟨_, SqT.of ha⟩, fun D hD => lc_tup (K := K) (a := a) (xs := xs) (fun i H' => H' D = some (.lst ((List.replicate i true).map V.bl)) ∧ Same H H') ?_ ?_ ?_ ?_⟩
        · exact ⟨upd_same, sN hD⟩
        · rintro i H' hi ⟨_, s1⟩
          exact SqT.of (s1 _ _ ha)
        · rintro i x H' hx ⟨eD, s1⟩
          have hi := (List.getElem?_eq_some_iff.mp hx).1
          have hil : i < l.length := by omega
          have ht : l[i]? = some l[i] := List.getElem?_eq_getElem hil
          refine ⟨rfl, ?_⟩
          refine ⟨_, rfl, _, _, rfl, rfl, _, rfl, by omega, l[i], x, ?_, (hk i x _ hx ht).same s1, okl _ (List.mem_of_getElem? ht), fun H2 s2 => ⟨_, s2 _ _ eD, ?_, ?_, sNew (sT s1 s2) hD⟩⟩
          · show [V.int (((d' + 1 : Nat) : Int) - 1), x] ++ [] = [V.int ((d' + 1 - 1 : Nat) : Int), x]
            rw [show (((d' + 1 : Nat) : Int) - 1) = ((d' + 1 - 1 : Nat) : Int) by omega]
            rfl
          · rw [List.length_map, List.length_replicate]
            exact size_ok (by omega)
          · rw [upd_same, List.replicate_succ', List.map_append]
            rfl
        · rintro H' ⟨eD, s1⟩
          refine ⟨D, _, rfl, SqL.of eD, ?_⟩
          have e : (List.replicate xs.length true).all id = true := by
            rw [List.all_eq_true]
            intro x hx
            rw [(List.mem_replicate.mp hx).2]
            rfl
          rw [e]
          exact k _ s1
  intro d
  induction d with
  | zero => exact main 0 fun d' e => by omega
  | succ d ih =>
    refine main (d + 1) fun d' e => ?_
    obtain rfl : d' = d := by omega
    exact ih
theorem scIsPar : FnScope ["thing"] ["thing"] (defScope sIsPar) := ⟨rfl, rfl, rfl, by decide +kernel, rfl, by decide +kernel, by decide +kernel⟩
theorem ok_ispar {f fI fT fS : Addr} {fd fdI fdT fdS : FuncData} (D : Df K mg "is_parcel" sIsPar ["thing"] f fd) (B : Bts mg) (C : Cst mg) (DI : Df K mg "is_parcel_within" sIPW ["deep", "thing"] fI fdI) (DT : Df K mg "is_string" sIsStr ["thing"] fT fdT) (DS : Df K mg "is_sign" sIsSg ["number"] fS fdS) : FnOk P w K mg base CX0 24 f fd ["thing"] spIsPar := by
  have GI : FnOk P w K mg base CX0 23 fI fdI ["deep", "thing"] (spIPW 20) := ok_ipw DI B C DT DS 20
  obtain ⟨t1, h1⟩ := C.deep
  refine D.F.ok scIsPar (fun vs H Q E h => ?_) (fun cdv A outer s H vs Q E hr h => ?_)
  · obtain ⟨t, v, rfl, _⟩ := h
    rfl
  · obtain ⟨t, v, rfl, rep, ok, k⟩ := h
    refine ⟨_, pss_one (ps_ret (pe_call GI hr rfl DI.m DI.k DI.b .nil pass0 (pa_cons (pe_glob (v := .int 20) rfl h1 ⟨_, rfl⟩) (pa_cons (pv 0) pa_nil)))), ?_⟩
    exact ⟨_, rfl, t, v, rfl, rep, ok, k⟩
theorem scWW : FnScope ["row", "number"] ["row", "number"] (defScope sWW) := ⟨rfl, rfl, rfl, by decide +kernel, rfl, by decide +kernel, by decide +kernel⟩
theorem ok_ww {f : Addr} {fd : FuncData} (D : Df K mg "write_whole" sWW ["row", "number"] f fd) : FnOk P w K mg base CX0 1 f fd ["row", "number"] spWW := by
  refine D.F.ok scWW (fun vs H Q E h => ?_) (fun cdv A outer s H vs Q E hr h => ?_)
  · obtain ⟨l, n, acc, rfl, _⟩ := h
    rfl
  · obtain ⟨l, n, acc, rfl, hl, n0, few, k⟩ := h
    have nd := scWW.nd
    refine ⟨_, pss_cons (ps_while PassesOwn.never (pt_cmpR op_ge (pv 1) pe_int (nomark _))
        (pss_cons (ps_expr (pe_bm PySem.F.plainAttrs_list PySem.F.slot_list_append PySem.F.type_list_append mt_append (pv 0) (pa_cons (pe_op op_add pe_int (pe_op op_mod (pv 1) pe_int)) pa_nil)))
        (pss_one (ps_set (i := 1) nd rfl (.inl rfl) (pe_op op_fdiv (pv 1) pe_int)))))
      (pss_one (ps_expr (pe_bm PySem.F.plainAttrs_list PySem.F.slot_list_append PySem.F.type_list_append mt_append (pv 0) (pa_cons (pv 1) pa_nil)))), ?_⟩
    have W0 : ∀ {a b : List V}, a ++ b = acc ++ (vlq n.toNat).map V.int → a.length < sizeLine := fun {a b} e => by
      have := congrArg List.length e
      rw [List.length_append, List.length_append, List.length_map] at this
      exact size_ok (by omega)
    refine ⟨fun m σ H' => ∃ acc' : List V, σ = [some (.ref l), some (.int (m : Int))] ∧ H' l = some (.lst acc') ∧ Bu l H H' ∧ acc' ++ (vlq m).map V.int = acc ++ (vlq n.toNat).map V.int, ⟨n.toNat, acc, ?_, hl, .rf, rfl⟩, ?_⟩
    · rw [Int.toNat_of_nonneg n0]
      rfl
    · rintro m σ H' ⟨acc', rfl, el, b1, e⟩
      refine ⟨_, rfl, _, _, rfl, rfl, _, rfl, ite2 (fun c => ?_) (fun c => ?_)⟩
      · have c : ¬ m < 128 := by
          have c : (128 : Int) ≤ (m : Int) := of_decide_eq_true c
          omega
        refine ⟨fun σ' H' => ∃ acc' : List V, σ' = [some (.ref l), some (.int ((m / 128 : Nat) : Int))] ∧ H' l = some (.lst acc') ∧ Bu l H H' ∧ acc' ++ (vlq (m / 128)).map V.int = acc ++ (vlq n.toNat).map V.int, fun σ' H' h => ⟨m / 128, by omega, h⟩, ?_⟩
        refine ⟨_, rfl, .inl ⟨rfl, _, SqL.of el⟩, _, rfl, _, _, rfl, rfl, (by decide : (0 : Int) < 128), _, _, rfl, rfl, l, _, _, rfl, rfl, el, W0 e, ?_⟩
        refine ⟨_, rfl, _, _, rfl, rfl, ⟨by decide, by decide⟩, _, ?_, upd_same, b1.at, ?_⟩
        · show [some (V.ref l), some (V.int ((m : Int) / 128))] = _
          rw [show ((m : Int) / 128) = ((m / 128 : Nat) : Int) by omega]
        · rw [vlq_ge c, List.map_cons] at e
          rw [List.append_assoc, ← e]
          show _ ++ (V.int (128 + (m : Int) % 128) :: _) = _
          rw [show (128 + (m : Int) % 128) = ((128 + m % 128 : Nat) : Int) by omega]
          rfl
      · have c : m < 128 := by
          have c : ¬ (128 : Int) ≤ (m : Int) := fun z => c (decide_eq_true z)
          omega
        rw [vlq_lt c] at e
        refine ⟨_, rfl, .inl ⟨rfl, _, SqL.of el⟩, _, rfl, l, _, _, rfl, rfl, el, W0 e, ?_⟩
        refine k _ b1.at ?_
        rw [upd_same, ← e]
        rfl
end
end Q

namespace Q
open PySem L2 QR
theorem encA_int {i : Int} (h : 0 ≤ i) : encA (.int i) = 3 :: vlq i.toNat := if_pos h
theorem encA_neg {i : Int} (h : ¬ 0 ≤ i) : encA (.int i) = 4 :: vlq (-1 - i).toNat := if_neg h
theorem room_one {a b : Nat} (h : a + b ≤ 9000) (c : 0 < b) : a < sizeLine := size_ok (by omega)
section
variable {P : Program} {w : World} {K : PySem.W.Frag} {mg : Str → Option Value} {base : Heap}
theorem scWP : FnScope ["row", "parcel", "part", "sign"] ["row", "parcel"] (defScope sWP) := ⟨rfl, rfl, rfl, by decide +kernel, rfl, by decide +kernel, by decide +kernel⟩
theorem ok_wp {f fW : Addr} {fd fdW : FuncData} (D : Df K mg "write_parcel" sWP ["row", "parcel"] f fd) (B : Bts mg) (C : Cst mg) (BA : Bare K mg) (DW : Df K mg "write_whole" sWW ["row", "number"] fW fdW) : ∀ d, FnOk P w K mg base CX0 (d + 2) f fd ["row", "parcel"] (spWP d) := by
  have GW : FnOk P w K mg base CX0 1 fW fdW ["row", "number"] spWW := ok_ww DW
  obtain ⟨t3, h3⟩ := C.from0
  obtain ⟨t4, h4⟩ := C.below
  obtain ⟨t5, h5⟩ := C.strg
  obtain ⟨t6, h6⟩ := C.tupl
  obtain ⟨aB, hB, kB, oB, lB, cB, dB⟩ := BA.ex
  have main : ∀ d, FnOk P w K mg base CX0 (d + 1) f fd ["row", "parcel"] (fun vs H Q E => 0 < d ∧ spWP (d - 1) vs H Q E) → FnOk P w K mg base CX0 (d + 2) f fd ["row", "parcel"] (spWP d) := by
    intro d IH
    refine D.F.ok scWP (fun vs H Q E h => ?_) (fun cdv A outer s H vs Q E hr h => ?_)
    · obtain ⟨l, t, v, acc, rfl, _⟩ := h
      rfl
    · obtain ⟨l, t, v, acc, rfl, hl, rep, ok, few, k⟩ := h
      have nd := scWP.nd
      have hr1 : Room 1 _ := hr.mono (by omega)
      refine ⟨_, pss_one (ps_if (PW.pt (pw_or (pt_cmp (pc_isN (pv 1))) (pw_or (pt_cmpR (OpR.or op_is_bl op_is_xb) (pv 1) pe_bl (nomark _)) (pw_or1 (pt_cmpR (OpR.or op_is_bl op_is_xb) (pv 1) pe_bl (nomark _))))))
          (pss_one (ps_expr (pe_bm PySem.F.plainAttrs_list PySem.F.slot_list_append PySem.F.type_list_append mt_append (pv 0) (pa_cons (pe_bm PySem.F.plainAttrs_tuple PySem.F.slot_tuple_index PySem.F.type_tuple_index mt_tidx (pe_glob (v := .ref aB) rfl hB rfl) (pa_cons (pv 1) pa_nil)) pa_nil))))
          (pss_one (ps_if (pt_val (pe_callB call_isi (by rfl) B.isinstance PyProof.Rows.boot_isinstance (pa_cons (pv 1) (pa_cons (pe_bltn (v := .ty "str") rfl B.str PyProof.Rows.boot_str rfl) pa_nil))))
            (pss_cons (ps_expr (pe_bm PySem.F.plainAttrs_list PySem.F.slot_list_append PySem.F.type_list_append mt_append (pv 0) (pa_cons (pe_glob (v := .int 5) rfl h5 ⟨_, rfl⟩) pa_nil)))
            (pss_cons (ps_expr (pe_call GW hr1 rfl DW.m DW.k DW.b .nil pass0 (pa_cons (pv 0) (pa_cons (pe_callB call_len_str (by rfl) B.len PySem.boot_len (pa_cons (pv 1) pa_nil)) pa_nil))))
            (pss_one (ps_expr (pe_bm PySem.F.plainAttrs_list PySem.F.slot_list_extend PySem.F.type_list_extend mt_extend (pv 0) (pa_cons (pe_lc (own := [("sign", 3)]) (g := gName 3) (tt := tYes) rfl nd (pi_str (pv 1))
              (blkOk_by (N := ["row", "parcel", "part", "sign"]) (sc := defScope sWP) (by decide +kernel)) (fun _ _ _ _ _ => pg_name (i := 3) nd rfl (.inl rfl)) (fun _ _ _ _ _ => pts_nil)
              (fun _ _ _ _ _ => pe_callB call_ord (by rfl) B.ord (by decide +kernel) (pa_cons (pv 3) pa_nil))) pa_nil))))))
            (pss_one (ps_if (pt_val (pe_callB call_isi (by rfl) B.isinstance PyProof.Rows.boot_isinstance (pa_cons (pv 1) (pa_cons (pe_bltn (v := .ty "tuple") rfl B.tuple PyProof.Rows.boot_tuple rfl) pa_nil))))
              (pss_cons (ps_expr (pe_bm PySem.F.plainAttrs_list PySem.F.slot_list_append PySem.F.type_list_append mt_append (pv 0) (pa_cons (pe_glob (v := .int 6) rfl h6 ⟨_, rfl⟩) pa_nil)))
              (pss_cons (ps_expr (pe_call GW hr1 rfl DW.m DW.k DW.b .nil pass0 (pa_cons (pv 0) (pa_cons (pe_callB call_len_seq (by rfl) B.len PySem.boot_len (pa_cons (pv 1) pa_nil)) pa_nil))))
              (pss_one (ps_for PassesOwn.never rfl (pi_tup (pv 1)) (pg_name (i := 2) nd rfl (.inl rfl)) (pss_one (ps_expr (pe_call IH hr rfl D.m D.k D.b .nil pass0 (pa_cons (pv 0) (pa_cons (pv 2) pa_nil)))))))))
              (pss_one (ps_if (pt_cmpR op_ge (pv 1) pe_int (nomark _))
                (pss_cons (ps_expr (pe_bm PySem.F.plainAttrs_list PySem.F.slot_list_append PySem.F.type_list_append mt_append (pv 0) (pa_cons (pe_glob (v := .int 3) rfl h3 ⟨_, rfl⟩) pa_nil)))
                (pss_one (ps_expr (pe_call GW hr1 rfl DW.m DW.k DW.b .nil pass0 (pa_cons (pv 0) (pa_cons (pv 1) pa_nil))))))
                (pss_cons (ps_expr (pe_bm PySem.F.plainAttrs_list PySem.F.slot_list_append PySem.F.type_list_append mt_append (pv 0) (pa_cons (pe_glob (v := .int 4) rfl h4 ⟨_, rfl⟩) pa_nil)))
                (pss_one (ps_expr (pe_call GW hr1 rfl DW.m DW.k DW.b .nil pass0 (pa_cons (pv 0) (pa_cons (pe_op op_sub (pe_un un_neg pe_int) (pv 1)) pa_nil))))))))))))), ?_⟩
      have apnd : ∀ {ys zs : List Int}, acc ++ [V.int (ys.headD 0)] ++ zs.map V.int = acc ++ (ys.headD 0 :: zs).map V.int := fun {ys zs} => by
        rw [List.append_assoc]
        rfl
      have rs : Same H H := sR
      rcases rep.cases with ⟨rfl, rfl⟩ | ⟨b, rfl, rfl⟩ | ⟨i, rfl, rfl⟩ | ⟨z, rfl, rfl, zl⟩ | ⟨d', ls, a, xs, rfl, rfl, rfl, ha, hll, lfew, hk⟩
      · rw [enc_atom (t := .non) trivial] at few k
        refine ⟨_, rfl, _, rfl, iteT ?_⟩
        refine ⟨_, rfl, .inl ⟨rfl, _, SqL.of hl⟩, .inr (.inl ⟨rfl, oB, lB, cB, dB⟩), _, rfl, aB, _, .non, 0, .non, rfl, rfl, kB.sq _, rfl, rfl, rfl, rfl, fun m z hm => by omega, l, _, _, rfl, rfl, hl, room_one few (by decide), ?_⟩
        exact k _ Bu.rf.at upd_same
      · rw [enc_atom (t := .bl b) trivial] at few k
        refine ⟨_, rfl, _, rfl, iteF ?_⟩
        refine ⟨_, rfl, .inl ⟨b, false, rfl, rfl, _, rfl, ?_⟩⟩
        cases b with
        | false =>
          refine iteT ?_
          refine ⟨_, rfl, .inl ⟨rfl, _, SqL.of hl⟩, .inr (.inl ⟨rfl, oB, lB, cB, dB⟩), _, rfl, aB, _, .bl false, 1, .bl false, rfl, rfl, kB.sq _, rfl, rfl, rfl, rfl, fun m z hm e => ?_, l, _, _, rfl, rfl, hl, room_one few (by decide), ?_⟩
          · obtain rfl : m = 0 := by omega
            cases e
            rfl
          exact k _ Bu.rf.at upd_same
        | true =>
          refine iteF ?_
          refine ⟨_, rfl, .inl ⟨true, true, rfl, rfl, _, rfl, iteT ?_⟩⟩
          refine ⟨_, rfl, .inl ⟨rfl, _, SqL.of hl⟩, .inr (.inl ⟨rfl, oB, lB, cB, dB⟩), _, rfl, aB, _, .bl true, 2, .bl true, rfl, rfl, kB.sq _, rfl, rfl, rfl, rfl, fun m z hm e => ?_, l, _, _, rfl, rfl, hl, room_one few (by decide), ?_⟩
          · rcases (show m = 0 ∨ m = 1 by omega) with rfl | rfl <;> (cases e; rfl)
          exact k _ Bu.rf.at upd_same
      · rw [enc_atom (t := .int i) trivial] at few k
        refine ⟨_, rfl, _, rfl, iteF ?_⟩
        refine ⟨_, rfl, .inr ⟨.inl ⟨i, rfl⟩, false, rfl, _, rfl, iteF ?_⟩⟩
        refine ⟨_, rfl, .inr ⟨.inl ⟨i, rfl⟩, true, rfl, _, rfl, iteF ?_⟩⟩
        refine ⟨_, rfl, .int i, .ty "str", .type "int", .type "str", false, rfl, .ty _, .base (.int _), kit_ty (by decide +kernel), _, rfl, iteF ?_⟩
        refine ⟨_, rfl, .int i, .ty "tuple", .type "int", .type "tuple", false, rfl, .ty _, .base (.int _), kit_ty (by decide +kernel), _, rfl, iteF ?_⟩
        refine ⟨_, rfl, _, _, rfl, rfl, _, rfl, ite2 (fun c => ?_) (fun c => ?_)⟩
        · have c : 0 ≤ i := of_decide_eq_true c
          rw [encA_int c] at few k
          rw [List.length_cons] at few
          refine ⟨_, rfl, .inl ⟨rfl, _, SqL.of hl⟩, l, _, _, rfl, rfl, hl, room_one few (by omega), ?_⟩
          refine ⟨_, rfl, _, rfl, l, i, _, rfl, upd_same, c, ?_, fun H' b1 e => ?_⟩
          · rw [List.length_append, List.length_singleton]
            omega
          · refine k H' (Bu.rf.at.tr b1) ?_
            rw [e, List.append_assoc]
            rfl
        · have c : ¬ 0 ≤ i := fun z => c (decide_eq_true z)
          rw [encA_neg c] at few k
          rw [List.length_cons] at few
          refine ⟨_, rfl, .inl ⟨rfl, _, SqL.of hl⟩, l, _, _, rfl, rfl, hl, room_one few (by omega), ?_⟩
          refine ⟨_, rfl, _, rfl, _, rfl, _, _, rfl, rfl, l, -1 - i, _, rfl, upd_same, by omega, ?_, fun H' b1 e => ?_⟩
          · rw [List.length_append, List.length_singleton]
            omega
          · refine k H' (Bu.rf.at.tr b1) ?_
            rw [e, List.append_assoc]
            rfl
      · have okz := okT_atom ok
        rw [enc_atom okz] at few k
        have ee : encA (.str z) = 5 :: (vlq z.length ++ z.map fun c : Nat => (c : Int)) := rfl
        rw [ee] at few k
        rw [List.length_cons, List.length_append, List.length_map] at few
        refine ⟨_, rfl, _, rfl, iteF ?_⟩
        refine ⟨_, rfl, .inr ⟨.inr (.inl ⟨_, rfl⟩), false, rfl, _, rfl, iteF ?_⟩⟩
        refine ⟨_, rfl, .inr ⟨.inr (.inl ⟨_, rfl⟩), true, rfl, _, rfl, iteF ?_⟩⟩
        refine ⟨_, rfl, .str (sOf z), .ty "str", .type "str", .type "str", true, rfl, .ty _, .base (.str _), kit_ty (by decide +kernel), _, rfl, iteT ?_⟩
        refine ⟨_, rfl, .inl ⟨rfl, _, SqL.of hl⟩, l, _, _, rfl, rfl, hl, room_one few (by omega), ?_⟩
        have ez := sOf_len z
        refine ⟨_, rfl, _, rfl, sOf z, rfl, by rw [ez]; exact Nat.le_of_lt (size_ok (by omega)), l, (z.length : Int), acc ++ [.int 5], ?_, upd_same, by omega, ?_, fun H2 b2 e2 => ?_⟩
        · rw [ez]
          rfl
        · rw [List.length_append, List.length_singleton, Int.toNat_natCast]
          omega
        · rw [Int.toNat_natCast] at e2
          have b02 : Bu l H H2 := Bu.rf.at.tr b2
          refine ⟨_, rfl, .inl ⟨rfl, _, SqL.of e2⟩, _, rfl, sOf z, rfl, fun D hD => lc_it (walk_str (z := sOf z)) (fun i H' => H' D = some (.lst ((z.take i).map fun c => V.int ((c : Nat) : Int))) ∧ i ≤ z.length ∧ Same H2 H') ?_ ?_ ?_ ?_⟩
          · exact ⟨upd_same, Nat.zero_le _, sN hD⟩
          · rintro i H' hi _
            trivial
          · rintro i x H1 H' hi ⟨eD, il, s1⟩ ⟨rfl, c, hc, rfl⟩
            have hc := sOf_at hc
            refine ⟨rfl, ?_⟩
            refine ⟨_, rfl, _, rfl, rfl, _, eD, ?_, ?_, (List.getElem?_eq_some_iff.mp hc).1, sNew s1 hD⟩
            · rw [List.length_map, List.length_take]
              exact size_ok (by omega)
            · rw [upd_same, take_more hc, List.map_append]
              rfl
          · rintro H3 ⟨eD, _, s3⟩
            have esz : (sOf z).cps.size = z.length := ez
            rw [esz, List.take_length] at eD
            refine ⟨l, D, _, _, rfl, rfl, s3 _ _ e2, eD, ?_, ?_⟩
            · simp only [List.length_append, List.length_map, List.length_singleton]
              exact Nat.le_of_lt (size_ok (by omega))
            · refine k _ (b02.st s3).at ?_
              rw [upd_same]
              simp only [List.map_cons, List.map_append, List.append_assoc, List.cons_append, List.nil_append, List.map_map]
              rfl
      · have okl : ∀ t ∈ ls, OkT d' t := ok
        have ee : enc (d' + 1) (.tup ls) = 6 :: (vlq ls.length ++ (ls.map (enc d')).flatten) := rfl
        rw [ee] at few k
        rw [List.length_cons, List.length_append] at few
        refine ⟨_, rfl, _, rfl, iteF ?_⟩
        refine ⟨_, rfl, .inr ⟨.inr (.inr ⟨_, rfl⟩), false, rfl, _, rfl, iteF ?_⟩⟩
        refine ⟨_, rfl, .inr ⟨.inr (.inr ⟨_, rfl⟩), true, rfl, _, rfl, iteF ?_⟩⟩
        refine ⟨_, rfl, .ref a, .ty "str", .type "tuple", .type "str", false, rfl, .ty _, .base (.tup ha), kit_ty (by decide +kernel), _, rfl, iteF ?_⟩
        refine ⟨_, rfl, .ref a, .ty "tuple", .type "tuple", .type "tuple", true, rfl, .ty _, .base (.tup ha), kit_ty (by decide +kernel), _, rfl, iteT ?_⟩
        refine ⟨_, rfl, .inl ⟨rfl, _, SqL.of hl⟩, l, _, _, rfl, rfl, hl, room_one few (by omega), ?_⟩
        have b01 : Bu l H (upd H l (.lst (acc ++ [.int 6]))) := Bu.rf.at
        have tk : ∀ {H' : Hp}, Bu l H H' → Tk H H' := fun b => Tk.bu b hl
        refine ⟨_, rfl, _, rfl, a, xs, rfl, .inr (SqT.of (tk b01 _ _ ha)), l, (ls.length : Int), acc ++ [.int 6], ?_, upd_same, by omega, ?_, fun H2 b2 e2 => ?_⟩
        · rw [hll]
          rfl
        · rw [List.length_append, List.length_singleton, Int.toNat_natCast]
          omega
        rw [Int.toNat_natCast] at e2
        have b02 := b01.tr b2
        refine ⟨_, rfl, a, rfl, ⟨_, SqT.of (tk b02 _ _ ha)⟩, for_tup (K := K) (a := a) (xs := xs) (fun i σ H' => ∃ x2 x3, σ = [some (.ref l), some (.ref a), x2, x3] ∧ Bu l H H' ∧ H' l = some (.lst (acc ++ [.int 6] ++ (vlq ls.length).map V.int ++ (((ls.take i).map (enc d')).flatten).map V.int))) ?_ ?_ ?_ ?_⟩
        · refine ⟨none, none, rfl, b02, ?_⟩
          rw [e2]
          simp
        · rintro i σ H' hi ⟨x2, x3, rfl, b, e⟩
          exact SqT.of (tk b _ _ ha)
        · rintro i x σ H' hx ⟨x2, x3, rfl, b, e⟩
          have hi := (List.getElem?_eq_some_iff.mp hx).1
          have hil : i < ls.length := by omega
          have ht : ls[i]? = some ls[i] := List.getElem?_eq_getElem hil
          have ft := flat_take (d := d') ls (i + 1)
          rw [take_more ht, List.map_append, List.flatten_append, List.length_append] at ft
          have e1 : (([ls[i]].map (enc d')).flatten) = enc d' ls[i] := by simp
          rw [e1] at ft
          refine ⟨_, rfl, _, rfl, by omega, l, ls[i], x, _, rfl, e, (hk i x _ hx ht).tk (tk b), okl _ (List.mem_of_getElem? ht), ?_, fun H3 b3 e3 => ⟨_, x3, rfl, b.tr b3, ?_⟩⟩
          · simp only [List.length_append, List.length_map, List.length_singleton, Nat.add_sub_cancel]
            omega
          · rw [show H3 l = some (.lst (acc ++ [.int 6] ++ (vlq ls.length).map V.int ++ (((ls.take i).map (enc d')).flatten).map V.int ++ (enc d' ls[i]).map V.int)) from e3, take_more ht, List.map_append, List.flatten_append, e1, List.map_append, ← List.append_assoc]
        · rintro σ H' ⟨x2, x3, rfl, b, e⟩
          refine k H' b ?_
          rw [e, hll, List.take_length]
          simp only [List.map_cons, List.map_append, List.append_assoc, List.cons_append, List.nil_append]
  intro d
  induction d with
  | zero => exact main 0 ⟨fun vs H Q E h => absurd h.1 (by decide), fun A outer s H args us vs Q E hr e0 hb r h => absurd h.1 (by decide)⟩
  | succ d ih => exact main (d + 1) (ih.imp fun vs H Q E h => h.2)
theorem scRowOf : FnScope ["parcel", "row"] ["parcel"] (defScope sRowOf) := ⟨rfl, rfl, rfl, by decide +kernel, rfl, by decide +kernel, by decide +kernel⟩
theorem ok_rowof {f fP fI fT fS fV fW : Addr} {fd fdP fdI fdT fdS fdV fdW : FuncData} (D : Df K mg "row_of" sRowOf ["parcel"] f fd) (B : Bts mg) (C : Cst mg) (BA : Bare K mg) (DP : Df K mg "is_parcel" sIsPar ["thing"] fP fdP) (DI : Df K mg "is_parcel_within" sIPW ["deep", "thing"] fI fdI) (DT : Df K mg "is_string" sIsStr ["thing"] fT fdT) (DS : Df K mg "is_sign" sIsSg ["number"] fS fdS)
    (DV : Df K mg "write_parcel" sWP ["row", "parcel"] fV fdV) (DW : Df K mg "write_whole" sWW ["row", "number"] fW fdW) : FnOk P w K mg base CX0 25 f fd ["parcel"] spRowOf := by
  have GP : FnOk P w K mg base CX0 24 fP fdP ["thing"] spIsPar := ok_ispar DP B C DI DT DS
  have GV : FnOk P w K mg base CX0 22 fV fdV ["row", "parcel"] (spWP 20) := ok_wp DV B C BA DW 20
  refine D.F.ok scRowOf (fun vs H Q E h => ?_) (fun cdv A outer s H vs Q E hr h => ?_)
  · obtain ⟨t, v, rfl, _⟩ := h
    rfl
  · obtain ⟨t, v, rfl, rep, ok, few, k⟩ := h
    have nd := scRowOf.nd
    have hr2 : Room 22 _ := hr.mono (by decide)
    refine ⟨_, pss_cons (ps_if (pt_not (pt_val (pe_call GP hr rfl DP.m DP.k DP.b .nil pass0 (pa_cons (pv 0) pa_nil)))) pss_never pss_nil)
      (pss_cons (ps_set (i := 1) nd rfl (.inl rfl) (pe_lst pa_nil))
      (pss_cons (ps_expr (pe_call GV hr2 rfl DV.m DV.k DV.b .nil pass0 (pa_cons (pv 1) (pa_cons (pv 0) pa_nil))))
      (pss_one (ps_ret (pe_callTy call_tuple_of (by rfl) B.tuple PyProof.Rows.boot_tuple (pa_cons (pv 1) pa_nil)))))), ?_⟩
    refine ⟨_, rfl, t, v, rfl, rep, ok, fun H1 s1 => ⟨_, rfl, iteF ?_⟩⟩
    refine ⟨Nat.zero_le _, fun l hl => ?_⟩
    have s2 := sT s1 (sN (o := .lst []) hl)
    refine ⟨_, rfl, _, rfl, l, t, v, [], rfl, upd_same, rep.same s2, ok, by rw [List.length_nil]; omega, fun H3 b3 e3 => ?_⟩
    rw [List.nil_append] at e3
    have s3 : Same H H3 := fun b o e => b3 b o (s2 b o e) (ne_of_none e (sNo s1 hl))
    refine ⟨_, rfl, l, _, rfl, .inl ⟨SqL.of e3, fun q hq => k q _ (sT s3 (sN hq)) ⟨upd_same, enc_b ok, by omega⟩⟩⟩
theorem scSealed : FnScope ["parcel", "row"] ["parcel"] (defScope sSealed) := ⟨rfl, rfl, rfl, by decide +kernel, rfl, by decide +kernel, by decide +kernel⟩
theorem ok_sealed {f fR fS fM : Addr} {fd fdR fdS fdM : FuncData} (D : Df K mg "sealed" sSealed ["parcel"] f fd) (B : Bts mg) (C : Cst mg) (DR : Df K mg "row_of" sRowOf ["parcel"] fR fdR) (GR : FnOk P w K mg base CX0 25 fR fdR ["parcel"] spRowOf) (DS : Df K mg "seal_of" sSeal ["row"] fS fdS) (DM : Df K mg "mark_of" sMkOf ["row"] fM fdM) : FnOk P w K mg base CX0 26 f fd ["parcel"] spSealed := by
  have GS : FnOk P w K mg base CX0 2 fS fdS ["row"] spSeal := ok_seal DS B C DM
  refine D.F.ok scSealed (fun vs H Q E h => ?_) (fun cdv A outer s H vs Q E hr h => ?_)
  · obtain ⟨t, v, rfl, _⟩ := h
    rfl
  · obtain ⟨t, v, rfl, rep, ok, few, k⟩ := h
    have nd := scSealed.nd
    have hr2 : Room 2 _ := hr.mono (by decide)
    refine ⟨_, pss_cons (ps_set (i := 1) nd rfl (.inl rfl) (pe_call GR hr rfl DR.m DR.k DR.b .nil pass0 (pa_cons (pv 0) pa_nil)))
      (pss_one (ps_ret (pe_op op_catS (pv 1) (pe_call GS hr2 rfl DS.m DS.k DS.b .nil pass0 (pa_cons (pv 1) pa_nil))))), ?_⟩
    refine ⟨_, rfl, t, v, rfl, rep, ok, few, fun q H1 s1 hq => ?_⟩
    refine ⟨_, rfl, _, rfl, q, _, rfl, hq.at_, fun z H2 s2 hz => ⟨q, z, _, _, rfl, rfl, s2 _ _ hq.at_, hz, ?_, fun y H3 s3 hy => ?_⟩⟩
    · rw [List.length_map, List.length_map]
      exact Nat.le_of_lt (size_ok (by show _ + 4 ≤ _; omega))
    · refine k y H3 (sT s1 (sT s2 s3)) ⟨by rw [List.map_append]; exact hy, fun b hb => ?_, ?_⟩
      · rcases List.mem_append.mp hb with hb | hb
        · exact enc_b ok b hb
        · exact sealL_b b hb
      · rw [List.length_append]
        show _ + 4 ≤ _
        omega
end
end Q

namespace Q
open PySem L2 QR
abbrev sPlace : Stmt := inClass (top 6) 0
abbrev sRInit : Stmt := inClass (top 44) 0
abbrev sDue : Stmt := inClass (top 44) 1
abbrev sRW : Stmt := inClass (top 44) 2
abbrev sRS : Stmt := inClass (top 44) 3
abbrev sRT : Stmt := inClass (top 44) 4
abbrev sRP : Stmt := inClass (top 44) 5
def xdB (p : Int) : HO := .xd [("place", .int p)]
def spPlace (CB : Addr) : Sp := fun vs H Q _ => ∃ (a : Addr) (y : V), vs = [.ref a, y] ∧ H a = some (exo a CB none) ∧ ∀ d, H d = none → d ≠ a → Q .non (upd (upd H d (exd d [("place", y)])) a (exo a CB (some d)))
/-- what the top says of BadRow -/
structure BTxt (K : PySem.W.Frag) (mg : Str → Option Value) (CB fI : Addr) (fd : FuncData) : Prop where
  ox : OexC K CB
  iC : PySem.W.findIn K (.ref CB) "__init__" = some (some (.ref fI))
  tI : PySem.W.typeIn K (.ref fI) = some (.type "function")
  F : Fun K "__init__" "BadRow.__init__" sPlace fI fd
  b : Binds K fd ["self", "place"] []
  no : PySem.W.findIn K (.ref CB) "place" = some none
  g : mg "BadRow" = some (.ref CB)
  ex : PySem.W.exmOne K (.ref CB) (.ref CB) = some true
  xf : XfC K CB
/-- what it says of RowReader -/
structure RTxt (K : PySem.W.Frag) (mg : Str → Option Value) (CR : Addr) : Prop where
  cl : Cls K CR
  nR : NoAttr K CR "row"
  nA : NoAttr K CR "at"
  mgC : mg "RowReader" = some (.ref CR)
/-- its methods -/
structure RDefs (K : PySem.W.Frag) (CR : Addr) where
  fI : Addr
  dI : FuncData
  FI : Fun K "__init__" "RowReader.__init__" sRInit fI dI
  bI : Binds K dI ["self", "row"] []
  mM : Mk K CR fI
  fD : Addr
  dD : FuncData
  FD : Fun K "due_byte" "RowReader.due_byte" sDue fD dD
  bD : Binds K dD ["self"] []
  mD : Meth K CR "due_byte" fD
  fW : Addr
  dW : FuncData
  FW : Fun K "read_whole" "RowReader.read_whole" sRW fW dW
  bW : Binds K dW ["self"] []
  mW : Meth K CR "read_whole" fW
  fS : Addr
  dS : FuncData
  FS : Fun K "read_string" "RowReader.read_string" sRS fS dS
  bS : Binds K dS ["self"] []
  mS : Meth K CR "read_string" fS
  fT : Addr
  dT : FuncData
  FT : Fun K "read_tuple" "RowReader.read_tuple" sRT fT dT
  bT : Binds K dT ["self", "deep"] []
  mT : Meth K CR "read_tuple" fT
  fP : Addr
  dP : FuncData
  FP : Fun K "read_parcel" "RowReader.read_parcel" sRP fP dP
  bP : Binds K dP ["self", "deep"] []
  mP : Meth K CR "read_parcel" fP
def rf (q : Addr) (a : Nat) : List (Str × V) := [("row", .ref q), ("at", .int (a : Int))]
theorem put_at (q : Addr) (a b : Nat) : putF "at" (.int (b : Int)) (rf q a) = rf q b := by
  unfold rf putF
  rw [if_neg (by decide +kernel)]
  unfold putF
  rw [if_pos rfl]
/-- a reader of the row at q, at place a -/
structure RdIn (CR : Addr) (H : Hp) (rd dx q : Addr) (bs : List Int) (a : Nat) : Prop where
  at_ : H rd = some (.ins CR dx (rf q a))
  row : RowAt H q bs
  le : a ≤ bs.length
theorem RdIn.tk {CR : Addr} {H H' : Hp} {rd dx q : Addr} {bs : List Int} {a : Nat} (h : RdIn CR H rd dx q bs a) (b : Bu rd H H') : Tk H H' := fun c ys e => b c _ e (ne_of e h.at_ (fun z => by cases z))
theorem RdIn.go {CR : Addr} {H H' : Hp} {rd dx q : Addr} {bs : List Int} {a c : Nat} (h : RdIn CR H rd dx q bs a) (b : Bu rd H H') (e : H' rd = some (.ins CR dx (rf q c))) (l : c ≤ bs.length) : RdIn CR H' rd dx q bs c :=
  ⟨e, h.row.tk (h.tk b), l⟩
theorem RdIn.put {CR : Addr} {H : Hp} {rd dx q : Addr} {bs : List Int} {a c : Nat} (h : RdIn CR H rd dx q bs a) (l : c ≤ bs.length) : RdIn CR (upd H rd (.ins CR dx (putF "at" (.int (c : Int)) (rf q a)))) rd dx q bs c := by
  rw [put_at]
  exact h.go Bu.rf.at upd_same l
/-- what comes of a reading -/
def Out (CB CR rd dx q : Addr) (D : Nat) (x : R) (H : Hp) (Q : VK) (E : XK) : Prop :=
  (∀ t h v H', x = .ok t h → Bu rd H H' → H' rd = some (.ins CR dx (rf q h)) → Rep H' D t v → Q v H') ∧ ∀ p d H', x = .no p → Bu rd H H' → H' d = some (xdB (p : Int)) → E (.ref CB) (some d) H'
theorem Out.from {CB CR rd dx q : Addr} {D : Nat} {x : R} {H H1 : Hp} {Q : VK} {E : XK} (h : Out CB CR rd dx q D x H Q E) (b : Bu rd H H1) : Out CB CR rd dx q D x H1 Q E :=
  ⟨fun t h' v H' e b' e2 r => h.1 t h' v H' e (b.tr b') e2 r, fun p d H' e b' e2 => h.2 p d H' e (b.tr b') e2⟩
def spDue (CB CR : Addr) : Sp := fun vs H Q E => ∃ (rd dx q : Addr) (bs : List Int) (a : Nat), vs = [.ref rd] ∧ RdIn CR H rd dx q bs a ∧ (∀ b, bs[a]? = some b → Q (.int b) H) ∧ (bs[a]? = none → ∀ d H', Same H H' → H' d = some (xdB (a : Int)) → E (.ref CB) (some d) H')
def spRW (CB CR : Addr) : Sp := fun vs H Q E => ∃ (rd dx q : Addr) (bs : List Int) (a : Nat), vs = [.ref rd] ∧ RdIn CR H rd dx q bs a ∧ (∀ n h H', rdW bs a = some (n, h) → Bu rd H H' → H' rd = some (.ins CR dx (rf q h)) → Q (.int n) H') ∧
  (rdW bs a = none → ∀ d H', Bu rd H H' → H' d = some (xdB (a : Int)) → E (.ref CB) (some d) H')
def strR (bs : List Int) (a : Nat) : R := match rdW bs a with
  | none => .no a
  | some (n, h) => if 1 ≤ n ∧ n ≤ 20 then rdS bs n.toNat h [] else .no a
def tupR (bs : List Int) (d a : Nat) : R := match rdW bs a with
  | none => .no a
  | some (n, h) => rdL (rdP bs d) (bs.length + 1) n.toNat h []
def spRS (CB CR : Addr) : Sp := fun vs H Q E => ∃ (rd dx q : Addr) (bs : List Int) (a : Nat), vs = [.ref rd] ∧ RdIn CR H rd dx q bs a ∧ Out CB CR rd dx q 0 (strR bs a) H Q E
def spRT (CB CR : Addr) (d : Nat) : Sp := fun vs H Q E => ∃ (rd dx q : Addr) (bs : List Int) (a : Nat), vs = [.ref rd, .int (d : Int)] ∧ RdIn CR H rd dx q bs a ∧ Out CB CR rd dx q (d + 1) (tupR bs d a) H Q E
def spRP (CB CR : Addr) (d : Nat) : Sp := fun vs H Q E => ∃ (rd dx q : Addr) (bs : List Int) (a : Nat), vs = [.ref rd, .int (d : Int)] ∧ RdIn CR H rd dx q bs a ∧ Out CB CR rd dx q d (rdP bs d a) H Q E
def spRInit (CR : Addr) : Sp := fun vs H Q _ => ∃ (rd dx q : Addr), vs = [.ref rd, .ref q] ∧ H rd = some (.ins CR dx []) ∧ ∀ H', Bu rd H H' → H' rd = some (.ins CR dx (rf q 0)) → Q .non H'
/-- t[lo:hi], as it stands -/
def rSlX : V → Option Int → Option Int → Hp → VK → Prop := fun x lo hi H Q => ∃ a xs, x = .ref a ∧ H a = some (.tup xs) ∧ ∀ z H', Same H H' → H' z = some (.tup (cutV xs lo hi)) → Q (.ref z) H'
theorem sl_X {X : Cx} : SlR X rSlX := by
  intro pins s σ H x v vl vu lo hi sl Q I rx hs pl pu h
  obtain ⟨a, xs, rfl, ha, k⟩ := h
  refine sl_tupA pins s σ H _ v vl vu lo hi sl Q I rx hs pl pu ⟨a, xs, rfl, SqT.of ha, fun e => k a H (fun _ _ e => e) ?_, fun _ p hp => k p _ (sN hp) upd_same⟩
  unfold cutV
  rw [e.1, e.2, List.drop_zero, Nat.sub_zero, List.take_length]
  exact ha
theorem cut_nat (xs : List V) {a b : Nat} (h : a ≤ b) (l : b ≤ xs.length) : cutV xs (some (a : Int)) (some (b : Int)) = (xs.drop a).take (b - a) := by
  unfold cutV
  rw [HT.sIx_nat, HT.sIx_nat, Nat.min_eq_left (show a ≤ xs.length by omega), Nat.min_eq_left l]
theorem at_row {bs : List Int} {a : Nat} {b : Int} (h : bs[a]? = some b) : atI (bs.map V.int) (a : Int) = some (V.int b) := atI_nat (by rw [List.getElem?_map, h]; rfl)
theorem join_signs : ∀ acc : List Nat, TL.joinL [] (acc.map fun c => [c]) = acc
  | [] => rfl
  | [_] => rfl
  | c :: d :: r => by
    have ih := join_signs (d :: r)
    show [c] ++ ([] ++ TL.joinL [] ((d :: r).map fun c => [c])) = _
    rw [ih]
    rfl
theorem join_sOf (acc : List Nat) : Txt.join (SX.S []) (acc.map fun c => sOf [c]) = sOf acc := by
  have e : (acc.map fun c => sOf [c]) = (acc.map fun c => [c]).map SX.S := by rw [List.map_map]; rfl
  rw [e, SX.join_S, join_signs]
  rfl
section
variable {P : Program} {w : World} {K : PySem.W.Frag} {mg : Str → Option Value} {base : Heap}
theorem scPlace : FnScope ["self", "place"] ["self", "place"] (defScope sPlace) := ⟨rfl, rfl, rfl, by decide +kernel, rfl, by decide +kernel, by decide +kernel⟩
theorem ok_place {CB fI : Addr} {fd : FuncData} (T : BTxt K mg CB fI fd) : FnOk P w K mg base CX0 1 fI fd ["self", "place"] (spPlace CB) := by
  refine T.F.ok scPlace (fun vs H Q E h => ?_) (fun cdv A outer s H vs Q E hr h => ?_)
  · obtain ⟨a, y, rfl, _⟩ := h
    rfl
  · obtain ⟨a, y, rfl, e, k⟩ := h
    refine ⟨_, pss_one (ps_ost (pv 0) (pv 1)), ?_⟩
    exact ⟨_, rfl, _, rfl, a, CB, rfl, T.ox, T.no, .inl ⟨e, fun d n ne => k d n ne⟩⟩
/-- raise BadRow(y) -/
theorem bad_raise {CB : Addr} {H1 : Hp} {y : V} {E : XK} (k : ∀ d H', Same H1 H' → H' d = some (.xd [("place", y)]) → E (.ref CB) (some d) H') :
    [y].length ≤ 1000 ∧ ∀ a, H1 a = none → spPlace CB (.ref a :: ([y] ++ [])) (upd H1 a (exo a CB none)) (fun v H2 => v = .non ∧ ∃ (d : Addr) (fs : List (Str × V)), H2 a = some (exo a CB (some d)) ∧ H2 d = some (exd d fs) ∧ H1 d = none ∧ E (.ref CB) (some d) (upd (del H2 a) d (.xd fs))) (fun _ _ _ => False) := by
  refine ⟨(by show 1 ≤ 1000; decide), fun a ha => ⟨a, y, rfl, upd_same, fun d hd hda => ⟨rfl, d, _, upd_same, ?_, ?_, k d _ (fun b o e => ?_) upd_same⟩⟩⟩
  · rw [upd_ne hda, upd_same]
  · rw [upd_ne hda] at hd
    exact hd
  · have nba : b ≠ a := ne_of_none e ha
    rw [upd_ne hda] at hd
    have nbd : b ≠ d := ne_of_none e hd
    rw [upd_ne nbd, del_ne nba, upd_ne nba, upd_ne nbd, upd_ne nba]
    exact e
theorem scRInit : FnScope ["self", "row"] ["self", "row"] (defScope sRInit) := ⟨rfl, rfl, rfl, by decide +kernel, rfl, by decide +kernel, by decide +kernel⟩
theorem ok_rinit {CR : Addr} (T : RTxt K mg CR) (M : RDefs K CR) : FnOk P w K mg base CX0 1 M.fI M.dI ["self", "row"] (spRInit CR) := by
  refine M.FI.ok scRInit (fun vs H Q E h => ?_) (fun cdv A outer s H vs Q E hr h => ?_)
  · obtain ⟨rd, dx, q, rfl, _⟩ := h
    rfl
  · obtain ⟨rd, dx, q, rfl, e, k⟩ := h
    refine ⟨_, pss_cons (ps_fld (pv 0) (pv 1) rfl) (pss_one (ps_fld (pv 0) pe_int rfl)), ?_⟩
    refine ⟨_, rfl, _, rfl, rd, CR, dx, _, rfl, e, T.cl, T.nR, (by show 0 < 1000; decide), ?_⟩
    refine ⟨_, rfl, rd, CR, dx, _, rfl, upd_same, T.cl, T.nA, (by show 1 < 1000; decide), ?_⟩
    refine k _ Bu.rf.at.at ?_
    rw [upd_same]
    show some (HO.ins CR dx (putF "at" (.int ((0 : Nat) : Int)) [("row", V.ref q)])) = _
    unfold putF
    rw [if_neg (by decide +kernel)]
    rfl
theorem scDue : FnScope ["self"] ["self"] (defScope sDue) := ⟨rfl, rfl, rfl, by decide +kernel, rfl, by decide +kernel, by decide +kernel⟩
theorem ok_due {CR CB fB : Addr} {dB : FuncData} (T : RTxt K mg CR) (M : RDefs K CR) (B : Bts mg) (BT : BTxt K mg CB fB dB) : FnOk P w K mg base (L2.CX P w) 3 M.fD M.dD ["self"] (spDue CB CR) := by
  have GI : FnOk P w K mg base CX0 1 fB dB ["self", "place"] (spPlace CB) := ok_place BT
  refine M.FD.okX scDue (fun vs H Q E h => ?_) (fun cdv A outer s H vs Q E hr h => ?_)
  · obtain ⟨rd, dx, q, bs, a, rfl, _⟩ := h
    rfl
  · obtain ⟨rd, dx, q, bs, a, rfl, ri, k1, k2⟩ := h
    refine ⟨_, pss_cons (ps_if (pt_cmpR op_eq (pe_fld (pv 0) rfl) (pe_callB call_len_seq (by rfl) B.len PySem.boot_len (pa_cons (pe_fld (pv 0) rfl) pa_nil)) (nomark _)) (pss_one (ps_raise rfl (takes_of rfl rfl rfl rfl) (pmk_oex BT.ox BT.iC BT.tI GI hr BT.b .nil pass0 rfl BT.g (pa_cons (pe_fld (pv 0) rfl) pa_nil)))) pss_nil)
      (pss_one (ps_ret (pe_ix ix_tup (pe_fld (pv 0) rfl) (pe_fld (pv 0) rfl) (fun _ _ => rfl)))), ?_⟩
    refine ⟨_, rfl, rd, CR, dx, _, _, rfl, ri.at_, T.cl, T.nA, rfl, _, rfl, rd, CR, dx, _, _, rfl, ri.at_, T.cl, T.nR, rfl, q, _, rfl, .inr (SqT.of ri.row.at_), rfl, _, rfl, ?_⟩
    rw [List.length_map]
    refine ite2 (fun c => ?_) (fun c => ?_)
    · have c : a = bs.length := by
        have z := V.int.inj (of_decide_eq_true c)
        omega
      refine ⟨_, rfl, rd, CR, dx, _, _, rfl, ri.at_, T.cl, T.nA, rfl, bad_raise fun d H' s1 e => k2 (List.getElem?_eq_none (by omega)) d H' s1 e⟩
    · have c : a < bs.length := by
        have z : ¬ a = bs.length := fun z => c (decide_eq_true (by rw [z]))
        have := ri.le
        omega
      exact ⟨_, rfl, rd, CR, dx, _, _, rfl, ri.at_, T.cl, T.nR, rfl, _, rfl, rd, CR, dx, _, _, rfl, ri.at_, T.cl, T.nA, rfl, q, _, _, _, rfl, rfl, SqT.of ri.row.at_, at_row (List.getElem?_eq_getElem c), k1 _ (List.getElem?_eq_getElem c)⟩
theorem scRW : FnScope ["self", "start", "number", "byte"] ["self"] (defScope sRW) := ⟨rfl, rfl, rfl, by decide +kernel, rfl, by decide +kernel, by decide +kernel⟩
theorem ok_rw {CR CB fB : Addr} {dB : FuncData} (T : RTxt K mg CR) (M : RDefs K CR) (B : Bts mg) (BT : BTxt K mg CB fB dB) : FnOk P w K mg base (L2.CX P w) 3 M.fW M.dW ["self"] (spRW CB CR) := by
  have GI : FnOk P w K mg base CX0 1 fB dB ["self", "place"] (spPlace CB) := ok_place BT
  refine M.FW.okX scRW (fun vs H Q E h => ?_) (fun cdv A outer s H vs Q E hr h => ?_)
  · obtain ⟨rd, dx, q, bs, a, rfl, _⟩ := h
    rfl
  · obtain ⟨rd, dx, q, bs, a, rfl, ri, k1, k2⟩ := h
    have nd := scRW.nd
    refine ⟨_, pss_cons (ps_set (i := 1) nd rfl (.inl rfl) (pe_fld (pv 0) rfl))
      (pss_cons (ps_while (passes_of rfl) (PW.pt (pw_and (pt_cmpR op_lt (pe_fld (pv 0) rfl) (pe_callB call_len_seq (by rfl) B.len PySem.boot_len (pa_cons (pe_fld (pv 0) rfl) pa_nil)) (nomark _)) (pw_and1 (pt_cmpR op_ge (pe_ix ix_tup (pe_fld (pv 0) rfl) (pe_fld (pv 0) rfl) (fun _ _ => rfl)) pe_int (nomark _)))))
        (pss_one (ps_fldaug (pv 0) pe_int in_add)))
      (pss_cons (ps_if (pt_cmpR op_eq (pe_fld (pv 0) rfl) (pe_callB call_len_seq (by rfl) B.len PySem.boot_len (pa_cons (pe_fld (pv 0) rfl) pa_nil)) (nomark _)) (pss_one (ps_raise rfl (takes_of rfl rfl rfl rfl) (pmk_oex BT.ox BT.iC BT.tI GI hr BT.b .nil pass0 rfl BT.g (pa_cons (pv 1) pa_nil)))) pss_nil)
      (pss_cons (ps_fldaug (pv 0) pe_int in_add)
      (pss_cons (ps_if (PW.pt (pw_and (pt_cmpR op_eq (pe_ix ix_tup (pe_fld (pv 0) rfl) (pe_op op_sub (pe_fld (pv 0) rfl) pe_int) (fun _ _ => rfl)) pe_int (nomark _)) (pw_and1 (pt_cmpR op_gt (pe_op op_sub (pe_fld (pv 0) rfl) (pv 1)) pe_int (nomark _))))) (pss_one (ps_raise rfl (takes_of rfl rfl rfl rfl) (pmk_oex BT.ox BT.iC BT.tI GI hr BT.b .nil pass0 rfl BT.g (pa_cons (pv 1) pa_nil)))) pss_nil)
      (pss_cons (ps_set (i := 2) nd rfl (.inl rfl) pe_int)
      (pss_cons (ps_for (passes_of rfl) rfl (RT.pi_revA rfl B.reversed (pe_slice sl_X (pe_fld (pv 0) rfl) (po_some (pv 1)) (po_some (pe_fld (pv 0) rfl)))) (pg_name (i := 3) nd rfl (.inl rfl))
        (pss_one (ps_set (i := 2) nd rfl (.inl rfl) (pe_op op_add (pe_op op_mul (pv 2) pe_int) (pe_op op_mod (pv 3) pe_int)))))
      (pss_one (ps_ret (pv 2))))))))), ?_⟩
    refine ⟨_, rfl, rd, CR, dx, _, _, rfl, ri.at_, T.cl, T.nA, rfl, ?_⟩
    have sl0 := scan_le (bs.drop a)
    rw [List.length_drop] at sl0
    refine ⟨fun m σ H' => ∃ i : Nat, σ = [some (.ref rd), some (.int (a : Int)), none, none] ∧ RdIn CR H' rd dx q bs (a + i) ∧ Bu rd H H' ∧ i ≤ scan (bs.drop a) ∧ m = bs.length - (a + i), ⟨_, 0, rfl, ri, .rf, Nat.zero_le _, rfl⟩, ?_⟩
    rintro m σ H1 ⟨i, rfl, r1, b1, hi, rfl⟩
    have flds : ∀ {H2 : Hp} {c : Nat}, RdIn CR H2 rd dx q bs c → H2 rd = some (.ins CR dx (rf q c)) := fun r => r.at_
    refine ⟨_, rfl, rd, CR, dx, _, _, rfl, r1.at_, T.cl, T.nA, rfl, _, rfl, rd, CR, dx, _, _, rfl, r1.at_, T.cl, T.nR, rfl, q, _, rfl, .inr (SqT.of r1.row.at_), _, _, rfl, rfl, _, rfl, ?_⟩
    rw [List.length_map]
    rcases Nat.lt_or_ge i (scan (bs.drop a)) with c | c
    · obtain ⟨b, e, c2⟩ := scan_big c
      rw [List.getElem?_drop] at e
      refine ite2 (fun _ => ?_) (fun c3 => absurd (decide_eq_true (by have := (List.getElem?_eq_some_iff.mp e).1; omega)) c3)
      refine ⟨_, rfl, rd, CR, dx, _, _, rfl, r1.at_, T.cl, T.nR, rfl, _, rfl, rd, CR, dx, _, _, rfl, r1.at_, T.cl, T.nA, rfl, q, _, _, _, rfl, rfl, SqT.of r1.row.at_, at_row e, _, _, rfl, rfl, _, rfl, ?_⟩
      rw [decide_eq_true c2]
      refine iteT ⟨fun σ' H' => ∃ j : Nat, σ' = [some (.ref rd), some (.int (a : Int)), none, none] ∧ RdIn CR H' rd dx q bs (a + j) ∧ Bu rd H H' ∧ j ≤ scan (bs.drop a) ∧ j = i + 1, fun σ' H' ⟨j, e1, e2, e3, e4, e5⟩ => ⟨_, by have := ri.le; omega, j, e1, e2, e3, e4, rfl⟩, ?_⟩
      refine ⟨_, rfl, rd, CR, dx, _, _, rfl, r1.at_, T.cl, T.nA, rfl, _, _, rfl, rfl, dx, _, r1.at_, (by show 2 < 1000; decide), i + 1, rfl, ?_, b1.at, by omega, rfl⟩
      have z := r1.put (c := a + (i + 1)) (by have := ri.le; omega)
      have ec : ((a + i : Nat) : Int) + 1 = ((a + (i + 1) : Nat) : Int) := by omega
      rw [← ec] at z
      exact z
    · obtain rfl : i = scan (bs.drop a) := by omega
      clear c hi
      have rdw := k1
      by_cases c : a + scan (bs.drop a) = bs.length
      · refine ite2 (fun c3 => ?_) (fun _ => ?_)
        · have := of_decide_eq_true c3
          omega
        refine iteF ?_
        refine ⟨_, rfl, rd, CR, dx, _, _, rfl, r1.at_, T.cl, T.nA, rfl, _, rfl, rd, CR, dx, _, _, rfl, r1.at_, T.cl, T.nR, rfl, q, _, rfl, .inr (SqT.of r1.row.at_), rfl, _, rfl, ?_⟩
        rw [List.length_map, c, decide_eq_true rfl]
        refine iteT ⟨_, rfl, bad_raise fun d H' s1 e => k2 ?_ d H' (b1.st s1) e⟩
        unfold rdW
        rw [List.getElem?_eq_none (by omega)]
      · have lt : a + scan (bs.drop a) < bs.length := by have := ri.le; omega
        have eb : bs[a + scan (bs.drop a)]? = some bs[a + scan (bs.drop a)] := List.getElem?_eq_getElem lt
        have small : bs[a + scan (bs.drop a)] < 128 := by
          refine scan_at (l := bs.drop a) ?_
          rw [List.getElem?_drop]
          exact eb
        have wr : rdW bs a = if bs[a + scan (bs.drop a)] = 0 ∧ 0 < scan (bs.drop a) then none else some (val ((bs.drop a).take (scan (bs.drop a) + 1)), a + scan (bs.drop a) + 1) := by
          unfold rdW
          rw [eb]
        revert small eb wr
        generalize bs[a + scan (bs.drop a)] = b
        intro eb small wr
        refine ite2 (fun _ => ?_) (fun c3 => absurd (decide_eq_true (by omega)) c3)
        refine ⟨_, rfl, rd, CR, dx, _, _, rfl, r1.at_, T.cl, T.nR, rfl, _, rfl, rd, CR, dx, _, _, rfl, r1.at_, T.cl, T.nA, rfl, q, _, _, _, rfl, rfl, SqT.of r1.row.at_, at_row eb, _, _, rfl, rfl, _, rfl, ?_⟩
        rw [decide_eq_false (show ¬ (128 : Int) ≤ b by omega)]
        refine iteF ?_
        refine ⟨_, rfl, rd, CR, dx, _, _, rfl, r1.at_, T.cl, T.nA, rfl, _, rfl, rd, CR, dx, _, _, rfl, r1.at_, T.cl, T.nR, rfl, q, _, rfl, .inr (SqT.of r1.row.at_), rfl, _, rfl, ?_⟩
        rw [List.length_map, decide_eq_false fun z => c (by have := V.int.inj z; omega)]
        refine iteF ?_
        refine ⟨_, rfl, rd, CR, dx, _, _, rfl, r1.at_, T.cl, T.nA, rfl, _, _, rfl, rfl, dx, _, r1.at_, (by show 2 < 1000; decide), ?_⟩
        have r2 := r1.put (c := a + scan (bs.drop a) + 1) (by omega)
        have ec : ((a + scan (bs.drop a) : Nat) : Int) + 1 = ((a + scan (bs.drop a) + 1 : Nat) : Int) := by omega
        rw [← ec] at r2
        have b2 : Bu rd H (upd H1 rd (.ins CR dx (putF "at" (.int (((a + scan (bs.drop a) : Nat) : Int) + 1)) (rf q (a + scan (bs.drop a)))))) := b1.at
        show tSeq _ _ _ _ (upd H1 rd (.ins CR dx (putF "at" (.int (((a + scan (bs.drop a) : Nat) : Int) + 1)) (rf q (a + scan (bs.drop a))))))
        revert r2 b2
        generalize (upd H1 rd (.ins CR dx (putF "at" (.int (((a + scan (bs.drop a) : Nat) : Int) + 1)) (rf q (a + scan (bs.drop a)))))) = H2
        intro r2 b2
        have ea : atI (bs.map V.int) (((a + scan (bs.drop a) + 1 : Nat) : Int) - 1) = some (V.int b) := by
          rw [show (((a + scan (bs.drop a) + 1 : Nat) : Int) - 1) = ((a + scan (bs.drop a) : Nat) : Int) by omega]
          exact at_row eb
        refine ⟨_, rfl, rd, CR, dx, _, _, rfl, r2.at_, T.cl, T.nR, rfl, _, rfl, rd, CR, dx, _, _, rfl, r2.at_, T.cl, T.nA, rfl, _, _, rfl, rfl, q, _, _, _, rfl, rfl, SqT.of r2.row.at_, ea, rfl, _, rfl, ?_⟩
        refine ite2 (fun z => ?u1) (fun z => ?u2)
        case' u1 =>
          have z : b = 0 := V.int.inj (of_decide_eq_true z)
          refine ⟨_, rfl, rd, CR, dx, _, _, rfl, r2.at_, T.cl, T.nA, rfl, _, rfl, _, _, rfl, rfl, _, _, rfl, rfl, _, rfl, ?_⟩
          refine ite2 (fun z2 => ?u3) (fun z2 => ?u4)
          case' u3 =>
            have z2 : (1 : Int) < ((a + scan (bs.drop a) + 1 : Nat) : Int) - (a : Int) := of_decide_eq_true z2
            exact ⟨_, rfl, bad_raise fun d H' s1 e => k2 (by rw [wr, if_pos ⟨z, by omega⟩]) d H' (b2.st s1) e⟩
          case' u4 => have nb : ¬ (b = 0 ∧ 0 < scan (bs.drop a)) := fun y => z2 (decide_eq_true (by omega))
        case' u2 =>
          have nb : ¬ (b = 0 ∧ 0 < scan (bs.drop a)) := fun y => z (decide_eq_true (by rw [y.1]))
        all_goals
          rw [if_neg nb] at wr
          have lc : ((bs.map V.int).drop a).take (a + scan (bs.drop a) + 1 - a) = ((bs.drop a).take (scan (bs.drop a) + 1)).map V.int := by
            rw [← List.map_drop, ← List.map_take, show a + scan (bs.drop a) + 1 - a = scan (bs.drop a) + 1 by omega]
          refine ⟨_, rfl, rd, CR, dx, _, _, rfl, r2.at_, T.cl, T.nR, rfl, _, rfl, _, rfl, _, rfl, rd, CR, dx, _, _, rfl, r2.at_, T.cl, T.nA, rfl, _, rfl, q, _, rfl, r2.row.at_, fun y H3 s3 hy => ?_⟩
          rw [cut_nat _ (by omega) (by rw [List.length_map]; omega), lc] at hy
          refine ⟨y, _, rfl, .inr ⟨SqT.of hy, RT.for_ItvT (K := K) (a := y) (xs := ((bs.drop a).take (scan (bs.drop a) + 1)).map V.int) (fun j σ H' => ∃ x3, σ = [some (.ref rd), some (.int (a : Int)), some (.int (val (((bs.drop a).take (scan (bs.drop a) + 1)).drop (scan (bs.drop a) + 1 - j)))), x3] ∧ H' = H3) ?_ ?_ ?_ ?_⟩⟩
          · refine ⟨none, ?_, rfl⟩
            rw [Nat.sub_zero, List.drop_eq_nil_of_le (by rw [List.length_take]; omega)]
            rfl
          · rintro j σ H' ⟨x3, rfl, rfl⟩
            exact SqT.of hy
          · rintro j x σ H' hj hx ⟨x3, rfl, rfl⟩
            have ln : (((bs.drop a).take (scan (bs.drop a) + 1)).map V.int).length = scan (bs.drop a) + 1 := by
              rw [List.length_map, List.length_take, List.length_drop]
              omega
            rw [ln] at hj hx
            obtain ⟨b', hb', rfl⟩ := at_ints hx
            refine ⟨_, rfl, _, _, rfl, rfl, .inr ⟨by decide, by decide⟩, _, rfl, _, _, rfl, rfl, (by decide : (0 : Int) < 128), _, _, rfl, rfl, some (.int b'), ?_, rfl⟩
            have e1 : ((bs.drop a).take (scan (bs.drop a) + 1)).drop (scan (bs.drop a) + 1 - (j + 1)) = b' :: ((bs.drop a).take (scan (bs.drop a) + 1)).drop (scan (bs.drop a) + 1 - j) := by
              obtain ⟨l1, e1⟩ := List.getElem?_eq_some_iff.mp hb'
              rw [show scan (bs.drop a) + 1 - (j + 1) = scan (bs.drop a) + 1 - 1 - j by omega, List.drop_eq_getElem_cons l1, e1, show scan (bs.drop a) + 1 - 1 - j + 1 = scan (bs.drop a) + 1 - j by omega]
            rw [e1, val_cons]
            rfl
          · rintro σ H' ⟨x3, rfl, rfl⟩
            have ln : (((bs.drop a).take (scan (bs.drop a) + 1)).map V.int).length = scan (bs.drop a) + 1 := by
              rw [List.length_map, List.length_take, List.length_drop]
              omega
            rw [ln, Nat.sub_self, List.drop_zero]
            exact ⟨_, rfl, k1 _ _ _ wr (b2.st s3) (s3 _ _ r2.at_)⟩
end
end Q

namespace Q
open PySem L2 QR
theorem rdS_at {r : List Int} {m h : Nat} {acc : List Nat} {b : Int} (e : r[h]? = some b) : rdS r (m + 1) h acc = if isSg b = true then rdS r m (h + 1) (acc ++ [b.toNat]) else .no h := by
  rw [rdS, e]
theorem rdS_no {r : List Int} {m h : Nat} {acc : List Nat} (e : r[h]? = none) : rdS r (m + 1) h acc = .no h := by
  rw [rdS, e]
theorem lens1 : ∀ acc : List Nat, ((acc.map fun c => sOf [c]).map (·.length)).sum = acc.length
  | [] => rfl
  | c :: r => by
    rw [List.map_cons, List.map_cons, List.sum_cons, lens1 r, List.length_cons]
    show 1 + r.length = _
    omega
section
variable {P : Program} {w : World} {K : PySem.W.Frag} {mg : Str → Option Value} {base : Heap}
theorem scRS : FnScope ["self", "start", "many", "signs", "_", "number"] ["self"] (defScope sRS) := ⟨rfl, rfl, rfl, by decide +kernel, rfl, by decide +kernel, by decide +kernel⟩
theorem ok_rs {CR CB fB fS fG : Addr} {dB dS dG : FuncData} (T : RTxt K mg CR) (M : RDefs K CR) (B : Bts mg) (C : Cst mg) (BT : BTxt K mg CB fB dB) (DS : Df K mg "is_sign" sIsSg ["number"] fS dS) (DG : Df K mg "sign_of" sSgOf ["number"] fG dG) : FnOk P w K mg base (L2.CX P w) 4 M.fS M.dS ["self"] (spRS CB CR) := by
  have GI : FnOk P w K mg base CX0 1 fB dB ["self", "place"] (spPlace CB) := ok_place BT
  have GD : FnOk P w K mg base (L2.CX P w) 3 M.fD M.dD ["self"] (spDue CB CR) := ok_due T M B BT
  have GW : FnOk P w K mg base (L2.CX P w) 3 M.fW M.dW ["self"] (spRW CB CR) := ok_rw T M B BT
  have GS : FnOk P w K mg base CX0 1 fS dS ["number"] spIsSg := ok_issg DS C
  have GG : FnOk P w K mg base CX0 1 fG dG ["number"] spSgOf := ok_sgof DG C
  obtain ⟨t1, h1⟩ := C.signs
  refine M.FS.okX scRS (fun vs H Q E h => ?_) (fun cdv A outer s H vs Q E hr h => ?_)
  · obtain ⟨rd, dx, q, bs, a, rfl, _⟩ := h
    rfl
  · obtain ⟨rd, dx, q, bs, a, rfl, ri, k⟩ := h
    have nd := scRS.nd
    have hr1 : Room 1 _ := hr.mono (by decide)
    have hr2 : Room 2 _ := hr.mono (by decide)
    refine ⟨_, pss_cons (ps_set (i := 1) nd rfl (.inl rfl) (pe_fld (pv 0) rfl))
      (pss_cons (ps_set (i := 2) nd rfl (.inl rfl) (pe_meth0 (pv 0) T.cl M.mW GW hr M.bW .nil (passes_call (takes_of rfl rfl rfl rfl) fun _ _ _ _ h => h)))
      (pss_cons (ps_if (pt_not (pt_chain op_le op_le pe_int (pv 2) (pe_glob (v := .int 20) rfl h1 ⟨_, rfl⟩))) (pss_one (ps_raise rfl (takes_of rfl rfl rfl rfl) (pmk_oex BT.ox BT.iC BT.tI GI hr2 BT.b .nil pass0 rfl BT.g (pa_cons (pv 1) pa_nil)))) pss_nil)
      (pss_cons (ps_set (i := 3) nd rfl (.inl rfl) (pe_lst pa_nil))
      (pss_cons (ps_for (passes_of rfl) rfl (pi_range1 rfl B.range (pa_cons (pv 2) pa_nil)) (pg_name (i := 4) nd rfl (.inl rfl))
        (pss_cons (ps_set (i := 5) nd rfl (.inl rfl) (pe_meth0 (pv 0) T.cl M.mD GD hr M.bD .nil (passes_call (takes_of rfl rfl rfl rfl) fun _ _ _ _ h => h)))
        (pss_cons (ps_if (pt_not (pt_val (pe_call GS hr1 rfl DS.m DS.k DS.b .nil pass0 (pa_cons (pv 5) pa_nil)))) (pss_one (ps_raise rfl (takes_of rfl rfl rfl rfl) (pmk_oex BT.ox BT.iC BT.tI GI hr2 BT.b .nil pass0 rfl BT.g (pa_cons (pe_fld (pv 0) rfl) pa_nil)))) pss_nil)
        (pss_cons (ps_expr (pe_bm PySem.F.plainAttrs_list PySem.F.slot_list_append PySem.F.type_list_append mt_append (pv 3) (pa_cons (pe_call GG hr1 rfl DG.m DG.k DG.b .nil pass0 (pa_cons (pv 5) pa_nil)) pa_nil)))
        (pss_one (ps_fldaug (pv 0) pe_int in_add))))))
      (pss_one (ps_ret (pe_join pe_str (pv 3)))))))), ?_⟩
    refine ⟨_, rfl, rd, CR, dx, _, _, rfl, ri.at_, T.cl, T.nA, rfl, ?_⟩
    refine ⟨_, rfl, rd, dx, _, rfl, ri.at_, rfl, rd, dx, q, bs, a, rfl, ri, fun n h H1 wr b1 e1 => ?_, fun wr d H' b e => k.2 a d H' (by unfold strR; rw [wr]) b e⟩
    obtain ⟨n0, ah, hl⟩ := rdW_nn wr
    have r1 := ri.go b1 e1 hl
    have eR : strR bs a = if 1 ≤ n ∧ n ≤ 20 then rdS bs n.toNat h [] else .no a := by
      unfold strR
      rw [wr]
    refine ⟨_, rfl, _, _, rfl, rfl, _, rfl, ?_⟩
    by_cases c : 1 ≤ n ∧ n ≤ 20
    · rw [if_pos c] at eR
      refine ite2 (fun _ => ?_) (fun z => absurd (decide_eq_true c.1) z)
      refine ⟨_, _, rfl, rfl, _, rfl, ite2 (fun z => ?_) (fun _ => ?_)⟩
      · rw [decide_eq_true c.2] at z
        cases z
      refine ⟨Nat.zero_le _, fun l hl0 => ?_⟩
      have lrd : l ≠ rd := fun z => by rw [z, e1] at hl0; cases hl0
      have b2 : Bu rd H (upd H1 l (.lst [])) := b1.st (sN hl0)
      have r2 : RdIn CR (upd H1 l (.lst [])) rd dx q bs h := r1.go (Bu.of (sN hl0)) ((sN hl0) _ _ e1) hl
      have nl : H l = none := by
        cases e : H l with
        | none => rfl
        | some o =>
          have := b1 _ _ e lrd
          rw [this] at hl0
          cases hl0
      have upb : ∀ {H2 : Hp} {o : HO}, Bu rd H H2 → Bu rd H (upd H2 l o) := fun b x u e n => by
        rw [upd_ne (ne_of_none e nl)]
        exact b x u e n
      refine ⟨_, rfl, n, rfl, by omega, by omega, for_range (lo := 0) (n := n.toNat) (fun i σ H' => ∃ (x4 x5 : Option V) (acc : List Nat), σ = [some (.ref rd), some (.int (a : Int)), some (.int n), some (.ref l), x4, x5] ∧ RdIn CR H' rd dx q bs (h + i) ∧ Bu rd H H' ∧ H' l = some (.lst (acc.map fun c => V.str (sOf [c]))) ∧ acc.length = i ∧ i ≤ n.toNat ∧ rdS bs (n.toNat - i) (h + i) acc = strR bs a) ?_ ?_ ?_⟩
      · exact ⟨none, none, [], rfl, r2, b2, upd_same, rfl, Nat.zero_le _, eR.symm⟩
      · rintro i σ H3 hi ⟨x4, x5, acc, rfl, r3, b3, e3, la, il, tgt⟩
        refine ⟨_, rfl, rd, dx, _, rfl, r3.at_, rfl, rd, dx, q, bs, h + i, rfl, r3, fun b eb => ?_, fun eb d H' s e => ?_⟩
        · refine ⟨_, rfl, b, rfl, ?_⟩
          rw [show n.toNat - i = (n.toNat - (i + 1)) + 1 by omega, rdS_at eb] at tgt
          cases sg : isSg b with
          | false =>
            rw [sg, if_neg Bool.false_ne_true] at tgt
            refine ⟨_, rfl, iteT ?_⟩
            exact ⟨_, rfl, rd, CR, dx, _, _, rfl, r3.at_, T.cl, T.nA, rfl, bad_raise fun d H' s e => k.2 (h + i) d H' tgt.symm (b3.st s) e⟩
          | true =>
            rw [sg, if_pos rfl] at tgt
            have lt := (List.getElem?_eq_some_iff.mp eb).1
            refine ⟨_, rfl, iteF ?_⟩
            refine ⟨_, rfl, .inl ⟨rfl, _, SqL.of e3⟩, _, rfl, b, rfl, sg, l, _, _, rfl, rfl, e3, ?_, ?_⟩
            · rw [List.length_map, la]
              exact size_ok (by omega)
            · have r4 : RdIn CR (upd H3 l (.lst ((acc.map fun c => V.str (sOf [c])) ++ [.str (sOf [b.toNat])]))) rd dx q bs (h + i) := by
                refine ⟨?_, r3.row.tk fun c xs e => ?_, r3.le⟩
                · rw [upd_ne lrd.symm]
                  exact r3.at_
                · rw [upd_ne (ne_of e e3 (fun z => by cases z))]
                  exact e
              refine ⟨_, rfl, rd, CR, dx, _, _, rfl, r4.at_, T.cl, T.nA, rfl, _, _, rfl, rfl, dx, _, r4.at_, (by show 2 < 1000; decide), _, _, acc ++ [b.toNat], rfl, ?_, (upb b3).at, ?_, ?_, by omega, ?_⟩
              · have z := r4.put (c := h + (i + 1)) (by omega)
                have ec : ((h + i : Nat) : Int) + 1 = ((h + (i + 1) : Nat) : Int) := by omega
                rw [← ec] at z
                exact z
              · rw [upd_ne lrd, upd_same, List.map_append]
                rfl
              · rw [List.length_append, la]
                rfl
              · exact tgt
        · rw [show n.toNat - i = (n.toNat - (i + 1)) + 1 by omega, rdS_no eb] at tgt
          exact k.2 (h + i) d H' tgt.symm (b3.st s) e
      · rintro σ H3 ⟨x4, x5, acc, rfl, r3, b3, e3, la, il, tgt⟩
        rw [Nat.sub_self] at tgt
        have tgt : R.ok (.str acc) (h + n.toNat) = strR bs a := tgt
        have lens := lens1 acc
        refine ⟨⟨_, rfl⟩, _, rfl, SX.S [], l, acc.map fun c => sOf [c], rfl, rfl, .inl (SqL.of (by rw [e3, List.map_map]; rfl)), ?_, ?_⟩
        · rw [lens, la]
          show n.toNat + (acc.map fun c => sOf [c]).length * 0 ≤ _
          omega
        · rw [join_sOf]
          exact k.1 (.str acc) (h + n.toNat) _ H3 tgt.symm b3 r3.at_ ⟨rfl, by omega⟩
    · rw [if_neg c] at eR
      by_cases c1 : 1 ≤ n
      · refine ite2 (fun _ => ?_) (fun z => absurd (decide_eq_true c1) z)
        refine ⟨_, _, rfl, rfl, _, rfl, ite2 (fun z => ?_) (fun z => ?_)⟩
        · exact ⟨_, rfl, bad_raise fun d H' s e => k.2 a d H' eR (b1.st s) e⟩
        · rw [decide_eq_false (show ¬ n ≤ 20 by omega)] at z
          exact absurd rfl z
      · refine ite2 (fun z => absurd (of_decide_eq_true z) c1) (fun _ => ?_)
        refine ⟨_, rfl, iteT ?_⟩
        exact ⟨_, rfl, bad_raise fun d H' s e => k.2 a d H' eR (b1.st s) e⟩
theorem scRT : FnScope ["self", "deep", "many", "parts"] ["self", "deep"] (defScope sRT) := ⟨rfl, rfl, rfl, by decide +kernel, rfl, by decide +kernel, by decide +kernel⟩
theorem ok_rt {CR CB fB : Addr} {dB : FuncData} {d : Nat} (T : RTxt K mg CR) (M : RDefs K CR) (B : Bts mg) (BT : BTxt K mg CB fB dB) (GP : FnOk P w K mg base (L2.CX P w) (2 * d + 5) M.fP M.dP ["self", "deep"] (spRP CB CR d)) : FnOk P w K mg base (L2.CX P w) (2 * d + 6) M.fT M.dT ["self", "deep"] (spRT CB CR d) := by
  have GW : FnOk P w K mg base (L2.CX P w) 3 M.fW M.dW ["self"] (spRW CB CR) := ok_rw T M B BT
  refine M.FT.okX scRT (fun vs H Q E h => ?_) (fun cdv A outer s H vs Q E hr h => ?_)
  · obtain ⟨rd, dx, q, bs, a, rfl, _⟩ := h
    rfl
  · obtain ⟨rd, dx, q, bs, a, rfl, ri, k⟩ := h
    have nd := scRT.nd
    have hr3 : Room 3 _ := hr.mono (by omega)
    refine ⟨_, pss_cons (ps_set (i := 2) nd rfl (.inl rfl) (pe_meth0 (pv 0) T.cl M.mW GW hr3 M.bW .nil (passes_call (takes_of rfl rfl rfl rfl) fun _ _ _ _ h => h)))
      (pss_cons (ps_set (i := 3) nd rfl (.inl rfl) (pe_lst pa_nil))
      (pss_cons (ps_while (passes_of rfl) (pt_cmpR op_lt (pe_callB call_len_seq (by rfl) B.len PySem.boot_len (pa_cons (pv 3) pa_nil)) (pv 2) (nomark _))
        (pss_one (ps_expr (pe_bm PySem.F.plainAttrs_list PySem.F.slot_list_append PySem.F.type_list_append mt_append (pv 3) (pa_cons (pe_meth (pv 0) T.cl M.mP GP hr M.bP .nil (passes_call (takes_of rfl rfl rfl rfl) fun _ _ _ _ h => h) (pa_cons (pv 1) pa_nil)) pa_nil)))))
      (pss_one (ps_ret (pe_callTy call_tuple_of (by rfl) B.tuple PyProof.Rows.boot_tuple (pa_cons (pv 3) pa_nil)))))), ?_⟩
    refine ⟨_, rfl, rd, dx, _, rfl, ri.at_, rfl, rd, dx, q, bs, a, rfl, ri, fun n h H1 wr b1 e1 => ?_, fun wr d H' b e => k.2 a d H' (by unfold tupR; rw [wr]) b e⟩
    obtain ⟨n0, ah, hl⟩ := rdW_nn wr
    have r1 := ri.go b1 e1 hl
    have eR : tupR bs d a = rdL (rdP bs d) (bs.length + 1) n.toNat h [] := by
      unfold tupR
      rw [wr]
    refine ⟨Nat.zero_le _, fun l hl0 => ?_⟩
    have lrd : l ≠ rd := fun z => by rw [z, e1] at hl0; cases hl0
    have b2 : Bu rd H (upd H1 l (.lst [])) := b1.st (sN hl0)
    have r2 : RdIn CR (upd H1 l (.lst [])) rd dx q bs h := r1.go (Bu.of (sN hl0)) ((sN hl0) _ _ e1) hl
    have nl : H l = none := by
      cases e : H l with
      | none => rfl
      | some o =>
        have := b1 _ _ e lrd
        rw [this] at hl0
        cases hl0
    have upb : ∀ {H2 : Hp} {o : HO}, Bu rd H H2 → Bu rd H (upd H2 l o) := fun b x u e n => by
      rw [upd_ne (ne_of_none e nl)]
      exact b x u e n
    refine ⟨fun m σ H' => ∃ (h' fu : Nat) (ts : List QR.T) (xs : List V), σ = [some (.ref rd), some (.int (d : Int)), some (.int n), some (.ref l)] ∧ RdIn CR H' rd dx q bs h' ∧ Bu rd H H' ∧ H' l = some (.lst xs) ∧ xs.length = ts.length ∧ (∀ (i : Nat) (x : V) (t : QR.T), xs[i]? = some x → ts[i]? = some t → Rep H' d t x) ∧
      ts.length ≤ n.toNat ∧ ts.length ≤ h' ∧ bs.length + 1 ≤ fu + h' ∧ rdL (rdP bs d) fu (n.toNat - ts.length) h' ts = tupR bs d a ∧ m = bs.length - h', ⟨_, h, bs.length + 1, [], [], rfl, r2, b2, upd_same, rfl, fun i x t hx => by simp at hx, Nat.zero_le _, Nat.zero_le _, by omega, eR.symm, rfl⟩, ?_⟩
    rintro m σ H3 ⟨h', fu, ts, xs, rfl, r3, b3, e3, lx, reps, tn, th, fl, tgt, rfl⟩
    refine ⟨_, rfl, l, _, rfl, .inl (SqL.of e3), _, rfl, _, _, rfl, rfl, _, rfl, ite2 (fun c => ?_) (fun c => ?_)⟩
    · have c : ts.length < n.toNat := by
        have c : ((xs.length : Nat) : Int) < n := of_decide_eq_true c
        omega
      refine ⟨fun σ' H' => ∃ (h2 fu : Nat) (ts : List QR.T) (xs : List V), σ' = [some (.ref rd), some (.int (d : Int)), some (.int n), some (.ref l)] ∧ RdIn CR H' rd dx q bs h2 ∧ Bu rd H H' ∧ H' l = some (.lst xs) ∧ xs.length = ts.length ∧ (∀ (i : Nat) (x : V) (t : QR.T), xs[i]? = some x → ts[i]? = some t → Rep H' d t x) ∧
        ts.length ≤ n.toNat ∧ ts.length ≤ h2 ∧ bs.length + 1 ≤ fu + h2 ∧ rdL (rdP bs d) fu (n.toNat - ts.length) h2 ts = tupR bs d a ∧ h' < h2, fun σ' H' ⟨h2, fu, ts, xs, z1, z2, z3, z4, z5, z6, z7, z8, z9, z10, z11⟩ => ⟨bs.length - h2, by have := z2.le; omega, h2, fu, ts, xs, z1, z2, z3, z4, z5, z6, z7, z8, z9, z10, rfl⟩, ?_⟩
      have le3 := r3.le
      obtain ⟨fu, rfl⟩ : ∃ f0, fu = f0 + 1 := ⟨fu - 1, by omega⟩
      have un : rdL (rdP bs d) (fu + 1) (n.toNat - ts.length) h' ts = match rdP bs d h' with
        | .no p => .no p
        | .ok t h2 => rdL (rdP bs d) fu (n.toNat - (ts.length + 1)) h2 (ts ++ [t]) := by
        rw [show n.toNat - ts.length = (n.toNat - (ts.length + 1)) + 1 by omega]
        rfl
      rw [un] at tgt
      refine ⟨_, rfl, .inl ⟨rfl, _, SqL.of e3⟩, _, rfl, rd, dx, _, rfl, r3.at_, rfl, _, rfl, rd, dx, q, bs, h', rfl, r3, fun t h2 v H4 e4 b4 a4 rp => ?_, fun p dd H4 e4 b4 a4 => ?_⟩
      · obtain ⟨f1, f2⟩ := rdP_fwd d h' t h2 e4
        rw [e4] at tgt
        have l4 := b4 _ _ e3 lrd
        have tk4 := r3.tk b4
        refine ⟨l, _, _, rfl, rfl, l4, by rw [lx]; exact size_ok (by have := r3.row.few; omega), ?_⟩
        have tk5 : Tk H4 (upd H4 l (.lst (xs ++ [v]))) := fun c ys e => by
          rw [upd_ne (ne_of e l4 (fun z => by cases z))]
          exact e
        refine ⟨h2, fu, ts ++ [t], xs ++ [v], rfl, ⟨by rw [upd_ne lrd.symm]; exact a4, (r3.row.tk tk4).tk tk5, f2⟩, upb (b3.tr b4), upd_same, by rw [List.length_append, List.length_append, lx]; rfl, fun i x t' hx ht => ?_, by rw [List.length_append]; show _ + 1 ≤ _; omega, by rw [List.length_append]; show _ + 1 ≤ _; omega, by omega, by rw [List.length_append]; exact tgt, f1⟩
        by_cases hi : i < xs.length
        · rw [List.getElem?_append_left hi] at hx
          rw [List.getElem?_append_left (by omega)] at ht
          exact ((reps i x t' hx ht).tk tk4).tk tk5
        · rw [List.getElem?_append_right (by omega)] at hx
          rw [List.getElem?_append_right (by omega)] at ht
          have z1 : i - xs.length = 0 := by
            have := (List.getElem?_eq_some_iff.mp hx).1
            have : i - xs.length < 1 := this
            omega
          rw [z1] at hx
          rw [← lx, z1] at ht
          cases hx
          cases ht
          exact rp.tk tk5
      · rw [e4] at tgt
        exact k.2 p dd H4 tgt.symm (b3.tr b4) a4
    · have c : n.toNat - ts.length = 0 := by
        have c : ¬ ((xs.length : Nat) : Int) < n := fun z => c (decide_eq_true z)
        omega
      have tgt : R.ok (.tup ts) h' = tupR bs d a := by
        rw [c] at tgt
        rw [← tgt]
        cases fu <;> rfl
      refine ⟨_, rfl, l, _, rfl, .inl ⟨SqL.of e3, fun z hz => ?_⟩⟩
      have s4 := sN (o := .tup xs) hz
      refine k.1 (.tup ts) h' _ _ tgt.symm (b3.st s4) (s4 _ _ r3.at_) ⟨z, xs, rfl, upd_same, lx, ?_, fun i x t hx ht => (reps i x t hx ht).same s4⟩
      have := r3.row.few
      have := r3.le
      omega
theorem scRP : FnScope ["self", "deep", "sort"] ["self", "deep"] (defScope sRP) := ⟨rfl, rfl, rfl, by decide +kernel, rfl, by decide +kernel, by decide +kernel⟩
theorem ok_rp {CR CB fB fS fG : Addr} {dB dS dG : FuncData} (T : RTxt K mg CR) (M : RDefs K CR) (B : Bts mg) (C : Cst mg) (BA : Bare K mg) (BT : BTxt K mg CB fB dB) (DS : Df K mg "is_sign" sIsSg ["number"] fS dS) (DG : Df K mg "sign_of" sSgOf ["number"] fG dG) : ∀ d, FnOk P w K mg base (L2.CX P w) (2 * d + 5) M.fP M.dP ["self", "deep"] (spRP CB CR d) := by
  have GI : FnOk P w K mg base CX0 1 fB dB ["self", "place"] (spPlace CB) := ok_place BT
  have GD : FnOk P w K mg base (L2.CX P w) 3 M.fD M.dD ["self"] (spDue CB CR) := ok_due T M B BT
  have GW : FnOk P w K mg base (L2.CX P w) 3 M.fW M.dW ["self"] (spRW CB CR) := ok_rw T M B BT
  have GS : FnOk P w K mg base (L2.CX P w) 4 M.fS M.dS ["self"] (spRS CB CR) := ok_rs T M B C BT DS DG
  obtain ⟨t3, h3⟩ := C.from0
  obtain ⟨t4, h4⟩ := C.below
  obtain ⟨t5, h5⟩ := C.strg
  obtain ⟨t6, h6⟩ := C.tupl
  obtain ⟨aB, hB, kB, oB, lB, cB, dB0⟩ := BA.ex
  have main : ∀ d, FnOk P w K mg base (L2.CX P w) (2 * d + 4) M.fT M.dT ["self", "deep"] (fun vs H Q E => 0 < d ∧ spRT CB CR (d - 1) vs H Q E) → FnOk P w K mg base (L2.CX P w) (2 * d + 5) M.fP M.dP ["self", "deep"] (spRP CB CR d) := by
    intro d GT
    refine M.FP.okX scRP (fun vs H Q E h => ?_) (fun cdv A outer s H vs Q E hr h => ?_)
    · obtain ⟨rd, dx, q, bs, a, rfl, _⟩ := h
      rfl
    · obtain ⟨rd, dx, q, bs, a, rfl, ri, k⟩ := h
      have nd := scRP.nd
      have hr2 : Room 2 _ := hr.mono (by omega)
      have hr3 : Room 3 _ := hr.mono (by omega)
      have hr4 : Room 4 _ := hr.mono (by omega)
      refine ⟨_, pss_cons (ps_set (i := 2) nd rfl (.inl rfl) (pe_meth0 (pv 0) T.cl M.mD GD hr3 M.bD .nil (passes_call (takes_of rfl rfl rfl rfl) fun _ _ _ _ h => h)))
        (pss_cons (ps_if (PW.pt (pw_or (pt_cmpR op_gt (pv 2) (pe_glob (v := .int 6) rfl h6 ⟨_, rfl⟩) (nomark _)) (pw_or1 (PW.pt (pw_and (pt_cmpR op_eq (pv 2) (pe_glob (v := .int 6) rfl h6 ⟨_, rfl⟩) (nomark _)) (pw_and1 (pt_cmpR op_eq (pv 1) pe_int (nomark _)))))))) (pss_one (ps_raise rfl (takes_of rfl rfl rfl rfl) (pmk_oex BT.ox BT.iC BT.tI GI hr2 BT.b .nil pass0 rfl BT.g (pa_cons (pe_fld (pv 0) rfl) pa_nil)))) pss_nil)
        (pss_cons (ps_fldaug (pv 0) pe_int in_add)
        (pss_cons (ps_if (pt_cmpR op_eq (pv 2) (pe_glob (v := .int 3) rfl h3 ⟨_, rfl⟩) (nomark _)) (pss_one (ps_ret (pe_meth0 (pv 0) T.cl M.mW GW hr3 M.bW .nil (passes_call (takes_of rfl rfl rfl rfl) fun _ _ _ _ h => h)))) pss_nil)
        (pss_cons (ps_if (pt_cmpR op_eq (pv 2) (pe_glob (v := .int 4) rfl h4 ⟨_, rfl⟩) (nomark _)) (pss_one (ps_ret (pe_op op_sub (pe_un un_neg pe_int) (pe_meth0 (pv 0) T.cl M.mW GW hr3 M.bW .nil (passes_call (takes_of rfl rfl rfl rfl) fun _ _ _ _ h => h))))) pss_nil)
        (pss_cons (ps_if (pt_cmpR op_eq (pv 2) (pe_glob (v := .int 5) rfl h5 ⟨_, rfl⟩) (nomark _)) (pss_one (ps_ret (pe_meth0 (pv 0) T.cl M.mS GS hr4 M.bS .nil (passes_call (takes_of rfl rfl rfl rfl) fun _ _ _ _ h => h)))) pss_nil)
        (pss_cons (ps_if (pt_cmpR op_eq (pv 2) (pe_glob (v := .int 6) rfl h6 ⟨_, rfl⟩) (nomark _)) (pss_one (ps_ret (pe_meth (pv 0) T.cl M.mT GT hr M.bT .nil (passes_call (takes_of rfl rfl rfl rfl) fun _ _ _ _ h => h) (pa_cons (pe_op op_sub (pv 1) pe_int) pa_nil)))) pss_nil)
        (pss_one (ps_ret (pe_ix ix_tup (pe_glob (v := .ref aB) rfl hB rfl) (pv 2) (fun _ _ => rfl)))))))))), ?_⟩
      have eP : ∃ g : Nat → Nat → R, rdP bs d a = rdG bs g (decide (d = 0)) a ∧ (0 < d → ∀ n h, g n h = rdL (rdP bs (d - 1)) (bs.length + 1) n h []) := by
        cases d with
        | zero => exact ⟨_, rfl, fun z => absurd z (by decide)⟩
        | succ d => exact ⟨_, rfl, fun _ n h => rfl⟩
      obtain ⟨g, eP, eg⟩ := eP
      rw [eP] at k
      refine ⟨_, rfl, rd, dx, _, rfl, ri.at_, rfl, rd, dx, q, bs, a, rfl, ri, fun b eb => ?_, fun eb dd H' s1 e => k.2 a dd H' (by unfold rdG; rw [eb]) (Bu.of s1) e⟩
      have lt := (List.getElem?_eq_some_iff.mp eb).1
      obtain ⟨b0, b256⟩ := ri.row.b b (List.mem_of_getElem? eb)
      have eG : rdG bs g (decide (d = 0)) a = if 6 < b ∨ (b = 6 ∧ decide (d = 0) = true) then .no a else if b = 0 then .ok .non (a + 1) else if b = 1 then .ok (.bl false) (a + 1) else if b = 2 then .ok (.bl true) (a + 1) else rdB bs g b a := by
        unfold rdG
        rw [eb]
      rw [eG] at k
      have dint : ∀ i j : Int, decide (V.int i = V.int j) = decide (i = j) := fun i j => by
        by_cases c : i = j
        · rw [c, decide_eq_true rfl, decide_eq_true rfl]
        · rw [decide_eq_false c, decide_eq_false fun z => c (V.int.inj z)]
      -- what is refused
      have bad : (6 < b ∨ (b = 6 ∧ decide (d = 0) = true)) → ∀ dd H', Same H H' → H' dd = some (xdB (a : Int)) → E (.ref CB) (some dd) H' := fun c dd H' s e => k.2 a dd H' (if_pos c) (Bu.of s) e
      refine ⟨_, rfl, _, _, rfl, rfl, _, rfl, ?_⟩
      refine ite2 (fun c => ?_) (fun c => ?_)
      · exact ⟨_, rfl, rd, CR, dx, _, _, rfl, ri.at_, T.cl, T.nA, rfl, bad_raise fun dd H' s e => bad (.inl (of_decide_eq_true c)) dd H' s e⟩
      have c6 : ¬ 6 < b := fun z => c (decide_eq_true z)
      clear c
      refine ⟨_, rfl, rfl, _, rfl, ?_⟩
      rw [dint]
      refine ite2 (fun c => ?v1) (fun c => ?v2)
      case' v1 =>
        refine ⟨_, rfl, rfl, _, rfl, ?_⟩
        rw [dint]
        refine ite2 (fun c2 => ?v3) (fun c2 => ?v4)
        case' v3 =>
          have c2 : (d : Int) = 0 := of_decide_eq_true c2
          exact ⟨_, rfl, rd, CR, dx, _, _, rfl, ri.at_, T.cl, T.nA, rfl, bad_raise fun dd H' s e => bad (.inr ⟨of_decide_eq_true c, decide_eq_true (by omega)⟩) dd H' s e⟩
        case' v4 => have ok6 : ¬ (b = 6 ∧ decide (d = 0) = true) := fun y => c2 (decide_eq_true (by have := of_decide_eq_true y.2; omega))
      case' v2 => have ok6 : ¬ (b = 6 ∧ decide (d = 0) = true) := fun y => c (decide_eq_true y.1)
      all_goals
        rw [if_neg (show ¬ (6 < b ∨ (b = 6 ∧ decide (d = 0) = true)) from fun y => y.elim c6 ok6)] at k
        refine ⟨_, rfl, rd, CR, dx, _, _, rfl, ri.at_, T.cl, T.nA, rfl, _, _, rfl, rfl, dx, _, ri.at_, (by show 2 < 1000; decide), ?_⟩
        have r20 := ri.put (c := a + 1) (by omega)
        have b2 : Bu rd H (upd H rd (.ins CR dx (putF "at" (.int ((a : Int) + 1)) (rf q a)))) := Bu.rf.at
        show tSeq _ _ _ _ (upd H rd (.ins CR dx (putF "at" (.int ((a : Int) + 1)) (rf q a))))
        have r2 : RdIn CR (upd H rd (.ins CR dx (putF "at" (.int ((a : Int) + 1)) (rf q a)))) rd dx q bs (a + 1) := r20
        clear r20
        revert b2 r2
        generalize (upd H rd (.ins CR dx (putF "at" (.int ((a : Int) + 1)) (rf q a)))) = H2
        intro b2 r2
        have k' := k.from b2
        refine ⟨_, rfl, rfl, _, rfl, ?_⟩
        rw [dint]
        refine ite2 (fun y => ?_) (fun y3 => ?_)
        · obtain rfl : b = 3 := of_decide_eq_true y
          have eB : rdB bs g 3 a = match rdW bs (a + 1) with
            | none => .no (a + 1)
            | some (n, h) => .ok (.int n) h := by
            unfold rdB
            cases rdW bs (a + 1) <;> rfl
          refine ⟨_, rfl, rd, dx, _, rfl, r2.at_, rfl, rd, dx, q, bs, a + 1, rfl, r2, fun n h H3 wr b3 e3 => k'.1 (.int n) h _ H3 (by show rdB bs g 3 a = _; rw [eB, wr]) b3 e3 (Rep.atom (t := .int n) (v := .int n) rfl), fun wr dd H3 b3 e3 => k'.2 (a + 1) dd H3 (by show rdB bs g 3 a = _; rw [eB, wr]) b3 e3⟩
        refine ⟨_, rfl, rfl, _, rfl, ?_⟩
        rw [dint]
        refine ite2 (fun y => ?_) (fun y4 => ?_)
        · obtain rfl : b = 4 := of_decide_eq_true y
          have eB : rdB bs g 4 a = match rdW bs (a + 1) with
            | none => .no (a + 1)
            | some (n, h) => .ok (.int (-1 - n)) h := by
            unfold rdB
            cases rdW bs (a + 1) <;> rfl
          refine ⟨_, rfl, _, rfl, rd, dx, _, rfl, r2.at_, rfl, rd, dx, q, bs, a + 1, rfl, r2, fun n h H3 wr b3 e3 => ⟨_, _, rfl, rfl, k'.1 (.int (-1 - n)) h _ H3 (by show rdB bs g 4 a = _; rw [eB, wr]) b3 e3 (Rep.atom (t := .int (-1 - n)) (v := .int (-1 - n)) rfl)⟩, fun wr dd H3 b3 e3 => k'.2 (a + 1) dd H3 (by show rdB bs g 4 a = _; rw [eB, wr]) b3 e3⟩
        refine ⟨_, rfl, rfl, _, rfl, ?_⟩
        rw [dint]
        refine ite2 (fun y => ?_) (fun y5 => ?_)
        · obtain rfl : b = 5 := of_decide_eq_true y
          have eB : rdB bs g 5 a = strR bs (a + 1) := by
            unfold rdB strR
            cases rdW bs (a + 1) <;> rfl
          refine ⟨_, rfl, rd, dx, _, rfl, r2.at_, rfl, rd, dx, q, bs, a + 1, rfl, r2, fun t h v H3 e b3 e3 rp => k'.1 t h v H3 (by show rdB bs g 5 a = _; rw [eB, e]) b3 e3 (.atom ?_), fun p dd H3 e b3 e3 => k'.2 p dd H3 (by show rdB bs g 5 a = _; rw [eB, e]) b3 e3⟩
          exact rp
        refine ⟨_, rfl, rfl, _, rfl, ?_⟩
        rw [dint]
        refine ite2 (fun y => ?_) (fun y6 => ?_)
        · obtain rfl : b = 6 := of_decide_eq_true y
          have d0 : 0 < d := by
            refine Nat.pos_of_ne_zero fun z => ok6 ⟨rfl, decide_eq_true z⟩
          have eB : rdB bs g 6 a = tupR bs (d - 1) (a + 1) := by
            unfold rdB tupR
            cases rdW bs (a + 1) with
            | none => rfl
            | some p => exact eg d0 _ _
          refine ⟨_, rfl, rd, dx, _, rfl, r2.at_, rfl, _, rfl, _, _, rfl, rfl, d0, rd, dx, q, bs, a + 1, ?_, r2, fun t h v H3 e b3 e3 rp => k'.1 t h v H3 (by show rdB bs g 6 a = _; rw [eB, e]) b3 e3 ?_, fun p dd H3 e b3 e3 => k'.2 p dd H3 (by show rdB bs g 6 a = _; rw [eB, e]) b3 e3⟩
          · show [V.ref rd, V.int ((d : Int) - 1)] = _
            rw [show ((d : Int) - 1) = ((d - 1 : Nat) : Int) by omega]
          · rw [show d - 1 + 1 = d by omega] at rp
            exact rp
        have n3 : b ≠ 3 := fun z => y3 (decide_eq_true z)
        have n4 : b ≠ 4 := fun z => y4 (decide_eq_true z)
        have n5 : b ≠ 5 := fun z => y5 (decide_eq_true z)
        have n6 : b ≠ 6 := fun z => y6 (decide_eq_true z)
        rcases (show b = 0 ∨ b = 1 ∨ b = 2 by omega) with rfl | rfl | rfl
        · exact ⟨_, rfl, aB, _, 0, .non, rfl, rfl, kB.sq _, atI_nat (j := 0) rfl, k'.1 .non (a + 1) _ _ rfl .rf r2.at_ (Rep.atom (t := .non) (v := .non) rfl)⟩
        · exact ⟨_, rfl, aB, _, 1, .bl false, rfl, rfl, kB.sq _, atI_nat (j := 1) rfl, k'.1 (.bl false) (a + 1) _ _ rfl .rf r2.at_ (Rep.atom (t := .bl false) (v := .bl false) rfl)⟩
        · exact ⟨_, rfl, aB, _, 2, .bl true, rfl, rfl, kB.sq _, atI_nat (j := 2) rfl, k'.1 (.bl true) (a + 1) _ _ rfl .rf r2.at_ (Rep.atom (t := .bl true) (v := .bl true) rfl)⟩
  intro d
  induction d with
  | zero => exact main 0 ⟨fun vs H Q E h => absurd h.1 (by decide), fun A outer s H args us vs Q E hr e0 hb r h => absurd h.1 (by decide)⟩
  | succ d ih => exact main (d + 1) ((ok_rt T M B BT ih).imp fun vs H Q E h => h.2)
end
end Q

namespace Q
open PySem L2 QR
abbrev sRAll : Stmt := top 45
abbrev sUns : Stmt := top 51
theorem lay_ints : ∀ l : List Int, PyData.canLayAll0 (l.map PyData.int) = true
  | [] => by simp [PyData.canLayAll0]
  | a :: r => by
    have ih := lay_ints r
    simp only [List.map_cons, PyData.canLayAll0, PyData.canLay0, ih, Bool.and_self]
theorem eqv_ints : ∀ x y : List Int, PyData.eqvAll (x.map PyData.int) (y.map PyData.int) = decide (x = y)
  | [], [] => by simp [PyData.eqvAll]
  | [], _ :: _ => by simp [PyData.eqvAll]
  | _ :: _, [] => by simp [PyData.eqvAll]
  | a :: x, b :: y => by
    have ih := eqv_ints x y
    simp only [List.map_cons, PyData.eqvAll, PyData.eqv, ih]
    by_cases c : a = b
    · subst c
      simp
    · simp [c]
theorem dp_ints {K : PySem.W.Frag} {H : Hp} : ∀ l : List Int, DpAll K H (l.map V.int) (l.map PyData.int)
  | [] => .nil
  | a :: r => .cons (.int a) (dp_ints r)
theorem depth_ints : ∀ l : List Int, PyData.depthAll (l.map PyData.int) = 0
  | [] => by simp [PyData.depthAll]
  | a :: r => by
    have ih := depth_ints r
    rw [List.map_cons]
    simp only [PyData.depthAll, PyData.depth, ih]
    rfl
theorem shaped_ints (l : List Int) : SeqAt.shaped (.tuple (l.map PyData.int)) = true := by
  unfold SeqAt.shaped
  have h := depth_ints l
  refine Bool.and_eq_true_iff.mpr ⟨?_, decide_eq_true ?_⟩
  · simp only [PyData.canLay0, lay_ints]
  · simp only [PyData.depth, h]
    decide
/-- t == u, t != u: tuples of whole numbers -/
def rEqI (f : Bool → Bool) : R2 := fun x y H Q => ∃ (a b : Addr) (ns ms : List Int), x = .ref a ∧ y = .ref b ∧ H a = some (.tup (ns.map V.int)) ∧ H b = some (.tup (ms.map V.int)) ∧ Q (.bl (f (decide (ns = ms)))) H
theorem op_neI {X : Cx} (hu : X.A.units + 64 < cLine) : OpR X (compareOp .NotEq) (rEqI fun b => !b) := by
  intro pins s σ H x y v u Q I rx ry h
  obtain ⟨a, b, ns, ms, rfl, rfl, ha, hb, k⟩ := h
  refine op_neD hu pins s σ H _ _ v u Q I rx ry ⟨_, _, .tup (SqT.of ha) (dp_ints ns), .tup (SqT.of hb) (dp_ints ms), shaped_ints ns, shaped_ints ms, ?_⟩
  simp only [PyData.eqv, eqv_ints]
  exact k
theorem op_eqI {X : Cx} (hu : X.A.units + 64 < cLine) : OpR X (compareOp .Eq) (rEqI fun b => b) := by
  intro pins s σ H x y v u Q I rx ry h
  obtain ⟨a, b, ns, ms, rfl, rfl, ha, hb, k⟩ := h
  refine op_eqD hu pins s σ H _ _ v u Q I rx ry ⟨_, _, .tup (SqT.of ha) (dp_ints ns), .tup (SqT.of hb) (dp_ints ms), shaped_ints ns, shaped_ints ms, ?_⟩
  simp only [PyData.eqv, eqv_ints]
  exact k
theorem cut_h4 (xs : List V) : cutV xs none (some (-4)) = xs.take (xs.length - 4) := by
  have e : HT.sIx xs.length xs.length (some (-4)) = xs.length - 4 := by
    show (if (-4 : Int) < 0 then ((-4 : Int) + (xs.length : Int)).toNat else min (-4 : Int).toNat xs.length) = _
    rw [if_pos (by decide)]
    omega
  unfold cutV
  rw [HT.sIx_none, e, List.drop_zero, Nat.sub_zero]
theorem cut_t4 (xs : List V) : cutV xs (some (-4)) none = xs.drop (xs.length - 4) := by
  have e : HT.sIx xs.length 0 (some (-4)) = xs.length - 4 := by
    show (if (-4 : Int) < 0 then ((-4 : Int) + (xs.length : Int)).toNat else min (-4 : Int).toNat xs.length) = _
    rw [if_pos (by decide)]
    omega
  unfold cutV
  rw [HT.sIx_none, e, List.take_of_length_le (by rw [List.length_drop]; omega)]
theorem RowAt.sub {H : Hp} {q : Addr} {bs cs : List Int} (h : ∀ b ∈ bs, 0 ≤ b ∧ b < 256) (l : bs.length ≤ 9000) (e : H q = some (.tup (cs.map V.int))) (s : ∀ b ∈ cs, b ∈ bs) (k : cs.length ≤ bs.length) : RowAt H q cs := ⟨e, fun b hb => h b (s b hb), by omega⟩
def spRAll (CB : Addr) : Sp := fun vs H Q E => ∃ (q : Addr) (bs : List Int), vs = [.ref q] ∧ RowAt H q bs ∧ (∀ t h v H', rdAll bs = .ok t h → Same H H' → Rep H' 20 t v → Q v H') ∧ ∀ p d H', rdAll bs = .no p → Same H H' → H' d = some (xdB (p : Int)) → E (.ref CB) (some d) H'
/-- what unsealed is asked of -/
def UnsIn (K : PySem.W.Frag) (H : Hp) (v : V) (t : T) : Prop := (∃ q bs, v = .ref q ∧ RowAt H q bs ∧ t = unsT bs) ∨ (∃ q xs, v = .ref q ∧ H q = some (.tup xs) ∧ xs.length ≤ 9000 ∧ (∀ x ∈ xs, Sc x) ∧ xs.all isB = false ∧ t = .tup []) ∨
  (∃ ty, TyX K H v ty ∧ PySem.W.kitOne K ty (.type "tuple") = some false ∧ t = .tup [])
def spUns (K : PySem.W.Frag) : Sp := fun vs H Q _ => ∃ (v : V) (t : T), vs = [v] ∧ UnsIn K H v t ∧ ∀ u H', Same H H' → Rep H' 22 t u → Q u H'
theorem rep_nil {H : Hp} {a : Addr} {d : Nat} (h : H a = some (.tup [])) : Rep H (d + 1) (.tup []) (.ref a) := ⟨a, [], rfl, h, rfl, Nat.zero_le _, fun i x t hx => by simp at hx⟩
theorem rep_one {H : Hp} {a : Addr} {d : Nat} {t : T} {v : V} (h : H a = some (.tup [v])) (r : Rep H d t v) : Rep H (d + 1) (.tup [t]) (.ref a) := ⟨a, [v], rfl, h, rfl, (by show 1 ≤ 9000; decide), fun i x t' hx ht => by
  cases i with
  | zero =>
    cases hx
    cases ht
    exact r
  | succ i => simp at hx⟩
section
variable {P : Program} {w : World} {K : PySem.W.Frag} {mg : Str → Option Value} {base : Heap}
theorem scRAll : FnScope ["row", "reader", "parcel"] ["row"] (defScope sRAll) := ⟨rfl, rfl, rfl, by decide +kernel, rfl, by decide +kernel, by decide +kernel⟩
theorem ok_rall {f CR CB fB fS fG : Addr} {fd dB dS dG : FuncData} (D : Df K mg "read_whole_row" sRAll ["row"] f fd) (T : RTxt K mg CR) (M : RDefs K CR) (B : Bts mg) (C : Cst mg) (BA : Bare K mg) (BT : BTxt K mg CB fB dB) (DS : Df K mg "is_sign" sIsSg ["number"] fS dS) (DG : Df K mg "sign_of" sSgOf ["number"] fG dG) : FnOk P w K mg base (L2.CX P w) 46 f fd ["row"] (spRAll CB) := by
  have GI : FnOk P w K mg base CX0 1 fB dB ["self", "place"] (spPlace CB) := ok_place BT
  have GN : FnOk P w K mg base CX0 1 M.fI M.dI ["self", "row"] (spRInit CR) := ok_rinit T M
  have GP : FnOk P w K mg base (L2.CX P w) 45 M.fP M.dP ["self", "deep"] (spRP CB CR 20) := ok_rp T M B C BA BT DS DG 20
  obtain ⟨t1, h1⟩ := C.deep
  refine D.F.okX scRAll (fun vs H Q E h => ?_) (fun cdv A outer s H vs Q E hr h => ?_)
  · obtain ⟨q, bs, rfl, _⟩ := h
    rfl
  · obtain ⟨q, bs, rfl, hq, k1, k2⟩ := h
    have nd := scRAll.nd
    have hr2 : Room 2 _ := hr.mono (by decide)
    refine ⟨_, pss_cons (ps_set (i := 1) nd rfl (.inl rfl) (pe_make M.mM GN hr2 rfl T.mgC M.bI .nil pass0 (pa_cons (pv 0) pa_nil)))
      (pss_cons (ps_set (i := 2) nd rfl (.inl rfl) (pe_meth (pv 1) T.cl M.mP GP hr M.bP .nil (passes_call (takes_of rfl rfl rfl rfl) fun _ _ _ _ h => h) (pa_cons (pe_glob (v := .int 20) rfl h1 ⟨_, rfl⟩) pa_nil)))
      (pss_cons (ps_if (pt_cmpR op_lt (pe_fld (pv 1) rfl) (pe_callB call_len_seq (by rfl) B.len PySem.boot_len (pa_cons (pv 0) pa_nil)) (nomark _)) (pss_one (ps_raise rfl (takes_of rfl rfl rfl rfl) (pmk_oex BT.ox BT.iC BT.tI GI hr2 BT.b .nil pass0 rfl BT.g (pa_cons (pe_fld (pv 1) rfl) pa_nil)))) pss_nil)
      (pss_one (ps_ret (pv 2))))), ?_⟩
    refine ⟨_, rfl, fun rd dx nr ndx nex => ?_⟩
    have s0 : Same H (upd (upd H dx (.own rd)) rd (.ins CR dx [])) := sNew (sNew sR ndx) nr
    refine ⟨rd, dx, q, rfl, upd_same, fun H1 b1 e1 => ⟨rfl, ?_⟩⟩
    have s1 : Same H H1 := fun b o e => b1 b o (s0 b o e) (ne_of_none e nr)
    have ri : RdIn CR H1 rd dx q bs 0 := ⟨e1, hq.same s1, Nat.zero_le _⟩
    refine ⟨_, rfl, rd, dx, _, rfl, e1, rfl, rd, dx, q, bs, 0, rfl, ri, fun t h v H2 e b2 e2 rp => ?_, fun p d H2 e b2 e2 => ?_⟩
    · obtain ⟨f1, f2⟩ := rdP_fwd 20 0 t h e
      have s2 : Same H H2 := fun b o e => b2 b o (s1 b o e) (ne_of_none e nr)
      refine ⟨_, rfl, rd, CR, dx, _, _, rfl, e2, T.cl, T.nA, rfl, _, rfl, q, _, rfl, .inr (SqT.of (s2 _ _ hq.at_)), _, _, rfl, rfl, _, rfl, ?_⟩
      rw [List.length_map]
      have eA : rdAll bs = if h = bs.length then .ok t h else .no h := by
        unfold rdAll
        rw [e]
      refine ite2 (fun c => ?_) (fun c => ?_)
      · have c : (h : Int) < (bs.length : Int) := of_decide_eq_true c
        rw [if_neg (by omega)] at eA
        exact ⟨_, rfl, rd, CR, dx, _, _, rfl, e2, T.cl, T.nA, rfl, bad_raise fun d H' s e => k2 h d H' eA (sT s2 s) e⟩
      · have c : ¬ (h : Int) < (bs.length : Int) := fun z => c (decide_eq_true z)
        rw [if_pos (by omega)] at eA
        exact ⟨_, rfl, k1 t h v H2 eA s2 rp⟩
    · have s2 : Same H H2 := fun b o e => b2 b o (s1 b o e) (ne_of_none e nr)
      refine k2 p d H2 ?_ s2 e2
      unfold rdAll
      rw [e]
theorem scUns : FnScope ["row", "inner"] ["row"] (defScope sUns) := ⟨rfl, rfl, rfl, by decide +kernel, rfl, by decide +kernel, by decide +kernel⟩
theorem ok_uns {f CB fB fR fS fM fA : Addr} {fd dB dR dS dM dA : FuncData} (D : Df K mg "unsealed" sUns ["row"] f fd) (B : Bts mg) (C : Cst mg) (BT : BTxt K mg CB fB dB) (DR : Df K mg "is_row" sIsRow ["thing"] fR dR) (GR : FnOk P w K mg base CX0 3 fR dR ["thing"] (spIsRow K)) (DS : Df K mg "seal_of" sSeal ["row"] fS dS) (DM : Df K mg "mark_of" sMkOf ["row"] fM dM)
    (DA : Df K mg "read_whole_row" sRAll ["row"] fA dA) (GA : FnOk P w K mg base (L2.CX P w) 46 fA dA ["row"] (spRAll CB)) : FnOk P w K mg base CX0 47 f fd ["row"] (spUns K) := by
  have GS : FnOk P w K mg base CX0 2 fS dS ["row"] spSeal := ok_seal DS B C DM
  obtain ⟨t1, h1⟩ := C.slen
  refine D.F.ok scUns (fun vs H Q E h => ?_) (fun cdv A outer s H vs Q E hr h => ?_)
  · obtain ⟨v, t, rfl, _⟩ := h
    rfl
  · obtain ⟨v, t, rfl, hin, k⟩ := h
    have nd := scUns.nd
    have hr2 : Room 2 _ := hr.mono (by decide)
    have hr3 : Room 3 _ := hr.mono (by decide)
    have hu := hr.units
    refine ⟨_, pss_cons (ps_if (pt_not (pt_val (pe_call GR hr3 rfl DR.m DR.k DR.b .nil pass0 (pa_cons (pv 0) pa_nil)))) (pss_one (ps_ret (pe_tup pa_nil))) pss_nil)
      (pss_cons (ps_set (i := 1) nd rfl (.inl rfl) (pe_slice sl_X (pv 0) po_none (po_some (pe_un un_neg (pe_glob (v := .int 4) rfl h1 ⟨_, rfl⟩)))))
      (pss_cons (ps_if (pt_cmpR (op_neI hu) (pe_slice sl_X (pv 0) (po_some (pe_un un_neg (pe_glob (v := .int 4) rfl h1 ⟨_, rfl⟩))) po_none) (pe_call GS hr2 rfl DS.m DS.k DS.b .nil pass0 (pa_cons (pv 1) pa_nil)) (nomark _)) (pss_one (ps_ret (pe_tup pa_nil))) pss_nil)
      (pss_one (ps_try_only (tb := fun W => tRet (tTup (tCons (tCallS (spRAll CB) (WE W) (tCons (tVar 1) tNil)) tNil))) (ts := fun a cls d => tRet (tTup tNil)) rfl rfl ⟨rfl, by decide, .inl BT.g⟩ takes0
        (fun W pn xe tk _ => pss_one (ps_ret (pe_tup (pa_cons (by exact (pe_callS GA hr rfl DA.m DA.k DA.b (fun σ => passAt tk σ) (by exact (pa_cons (pv 1) pa_nil)))) pa_nil)))) (fun a oe cls d pn _ _ => pss_one (ps_ret (pe_tup pa_nil))))))), ?_⟩
    have none : ∀ {H'}, Same H H' → t = .tup [] → ∀ a, H' a = Option.none → Q (.ref a) (upd H' a (.tup [])) := fun s e a ha => k _ _ (sT s (sN ha)) (by rw [e]; exact rep_nil upd_same)
    rcases hin with ⟨q, bs, rfl, hq, rfl⟩ | ⟨q, xs, rfl, hq, few, sc, nb, et⟩ | ⟨ty, ht, kt, et⟩
    · refine ⟨_, rfl, .ref q, rfl, .inl ⟨q, _, rfl, hq.at_, by rw [List.length_map]; exact hq.few, sc_ints bs, fun H1 s1 => ?_⟩⟩
      rw [all_isB hq.b]
      refine ⟨_, rfl, iteF ?_⟩
      refine ⟨_, rfl, _, rfl, _, rfl, q, _, rfl, s1 _ _ hq.at_, fun z H2 s2 hz => ?_⟩
      rw [cut_h4, List.length_map, ← List.map_take] at hz
      have s02 := sT s1 s2
      refine ⟨_, rfl, _, rfl, _, rfl, q, _, rfl, s02 _ _ hq.at_, fun y H3 s3 hy => ?_⟩
      rw [cut_t4, List.length_map, ← List.map_drop] at hy
      refine ⟨_, rfl, z, _, rfl, s3 _ _ hz, fun u H4 s4 hu4 => ?_⟩
      have s04 := sT s02 (sT s3 s4)
      refine ⟨y, u, _, _, rfl, rfl, s4 _ _ hy, hu4, _, rfl, ?_⟩
      have hz4 := s4 _ _ (s3 _ _ hz)
      by_cases c : bs.drop (bs.length - 4) = sealL (bs.take (bs.length - 4))
      · rw [decide_eq_true c]
        have l4 : 4 ≤ bs.length := by
          have := congrArg List.length c
          rw [List.length_drop] at this
          have e4 : (sealL (bs.take (bs.length - 4))).length = 4 := rfl
          omega
        have eU : unsT bs = match rdAll (bs.take (bs.length - 4)) with
          | .ok t _ => .tup [t]
          | .no _ => .tup [] := by
          unfold unsT
          rw [if_pos ⟨l4, c⟩]
          all_goals (cases rdAll (bs.take (bs.length - 4)) <;> rfl)
        refine iteF ⟨_, rfl, z, bs.take (bs.length - 4), rfl, .sub hq.b hq.few hz4 (fun b hb => List.mem_of_mem_take hb) (by rw [List.length_take]; omega), fun t h v H5 e s5 rp => ?_, fun p d H5 e s5 e5 => ?_⟩
        · refine ⟨(by show 1 ≤ sizeLine; decide), fun a ha => k _ _ (sT s04 (sT s5 (sN ha))) ?_⟩
          rw [eU, e]
          exact (rep_one upd_same (rp.same (sN ha))).more
        · refine ⟨true, BT.ex, fun _ a ha => ?_, fun q => nomatch q⟩
          refine ⟨Nat.zero_le _, fun b hb => none (sT s04 s5) ?_ b hb⟩
          rw [eU, e]
      · rw [decide_eq_false c]
        refine iteT ⟨Nat.zero_le _, fun b hb => none s04 ?_ b hb⟩
        unfold unsT
        rw [if_neg fun z => c z.2]
    · refine ⟨_, rfl, .ref q, rfl, .inl ⟨q, xs, rfl, hq, few, sc, fun H1 s1 => ?_⟩⟩
      rw [nb]
      exact ⟨_, rfl, iteT ⟨Nat.zero_le _, fun b hb => none s1 et b hb⟩⟩
    · refine ⟨_, rfl, v, rfl, .inr ⟨ty, ht, kt, ?_⟩⟩
      exact ⟨_, rfl, iteT ⟨Nat.zero_le _, fun b hb => none sR et b hb⟩⟩
end
end Q

namespace Q
open PySem L2 QR
abbrev sPool : Stmt := top 67
abbrev sDraw : Stmt := top 68
abbrev sIs : Stmt := top 9999
abbrev sLW : Stmt := top 9999
abbrev sLB : Stmt := top 9999
abbrev sLNum : Stmt := top 9999
abbrev sLPar : Stmt := top 9999
abbrev sSame : Stmt := top 62
theorem sq_same {K : PySem.W.Frag} {H H' : Hp} {a : Addr} {xs : List V} (h : SqL K H a xs) (s : Same H H') : SqL K H' a xs :=
  h.elim (fun h => .inl (h.elim (fun h => .inl (s _ _ h)) fun ⟨o, h⟩ => .inr ⟨o, s _ _ h⟩)) fun h => .inr h
/-- the drawing pool at p, its great numbers at l -/
structure PoolX (H : Hp) (p l : Addr) (seed cnt : Int) (cs : List Int) : Prop where
  at_ : H p = some (.lst [.int seed, .int cnt, .ref l])
  lst : H l = some (.lst (cs.map V.int))
  ne : l ≠ p
  s0 : 0 ≤ seed
  s1 : seed < 2147483647
def PoolAt (H : Hp) (p l : Addr) : Prop := ∃ seed cnt cs, PoolX H p l seed cnt cs
/-- all stands but the pool -/
def Kp (p l : Addr) (H H' : Hp) : Prop := ∀ b o, H b = some o → b ≠ p → b ≠ l → H' b = some o
theorem Kp.rf {p l : Addr} {H : Hp} : Kp p l H H := fun _ _ e _ _ => e
theorem Kp.tr {p l : Addr} {H H1 H2 : Hp} (h : Kp p l H H1) (g : Kp p l H1 H2) : Kp p l H H2 := fun b o e n m => g b o (h b o e n m) n m
theorem Kp.st {p l : Addr} {H H1 H2 : Hp} (h : Kp p l H H1) (s : Same H1 H2) : Kp p l H H2 := fun b o e n m => s b o (h b o e n m)
theorem Kp.of {p l : Addr} {H H1 : Hp} (s : Same H H1) : Kp p l H H1 := fun b o e _ _ => s b o e
theorem Kp.atp {p l : Addr} {H H1 : Hp} {o : HO} (h : Kp p l H H1) : Kp p l H (upd H1 p o) := fun b u e n m => by rw [upd_ne n]; exact h b u e n m
theorem Kp.atl {p l : Addr} {H H1 : Hp} {o : HO} (h : Kp p l H H1) : Kp p l H (upd H1 l o) := fun b u e n m => by rw [upd_ne m]; exact h b u e n m
/-- over a thing that is new -/
theorem Kp.new {p l q : Addr} {H H1 : Hp} {o : HO} (h : Kp p l H H1) (n : H q = none) : Kp p l H (upd H1 q o) := fun b u e n1 n2 => by
  rw [upd_ne (ne_of_none e n)]
  exact h b u e n1 n2
theorem PoolAt.tk {H H' : Hp} {p l : Addr} (g : PoolAt H p l) (k : Kp p l H H') : Tk H H' := fun b xs e => by
  obtain ⟨seed, cnt, cs, x⟩ := g
  exact k b _ e (ne_of e x.at_ (fun z => by cases z)) (ne_of e x.lst (fun z => by cases z))
theorem PoolAt.same {H H' : Hp} {p l : Addr} (g : PoolAt H p l) (s : Same H H') : PoolAt H' p l := by
  obtain ⟨seed, cnt, cs, x⟩ := g
  exact ⟨seed, cnt, cs, s _ _ x.at_, s _ _ x.lst, x.ne, x.s0, x.s1⟩
theorem PoolAt.none {H : Hp} {p l q : Addr} (g : PoolAt H p l) (n : H q = Option.none) : q ≠ p ∧ q ≠ l := by
  obtain ⟨seed, cnt, cs, x⟩ := g
  exact ⟨fun e => (by rw [e, x.at_] at n; cases n), fun e => (by rw [e, x.lst] at n; cases n)⟩
theorem PoolAt.upd {H : Hp} {p l q : Addr} {o : HO} (g : PoolAt H p l) (n1 : q ≠ p) (n2 : q ≠ l) : PoolAt (L2.upd H q o) p l := by
  obtain ⟨seed, cnt, cs, x⟩ := g
  exact ⟨seed, cnt, cs, by rw [upd_ne n1.symm]; exact x.at_, by rw [upd_ne n2.symm]; exact x.lst, x.ne, x.s0, x.s1⟩
def spPool (K : PySem.W.Frag) : Sp := fun vs H Q _ => ∃ (a : Addr) (ns : List Int), vs = [.ref a] ∧ SqL K H a (ns.map V.int) ∧ ns.length ≤ 63 ∧ ∀ (p l : Addr) H', PoolAt H' p l → Same H H' → H p = none → H l = none → Q (.ref p) H'
def spDraw : Sp := fun vs H Q _ => ∃ (p l : Addr) (m : Int), vs = [.ref p, .int m] ∧ PoolAt H p l ∧ 0 < m ∧ m < 1099511627776 ∧ ∀ (d : Int) H', 0 ≤ d → d < m → PoolAt H' p l → Kp p l H H' → Q (.int d) H'
def spIs : Sp := fun vs H Q _ => ∃ i : Int, vs = [.int i, .int i] ∧ i.natAbs.log2 < 1920 ∧ Q (.bl true) H
def spLW : Sp := fun vs H Q _ => ∃ n : Int, vs = [.int n] ∧ 0 ≤ n ∧ (vlq n.toNat).length ≤ 8000 ∧ ∀ z H', Same H H' → H' z = some (.lst ((vlq n.toNat).map V.int)) → Q (.ref z) H'
def spLB (d : Nat) : Sp := fun vs H Q _ => ∃ (t : T) (v : V), vs = [v] ∧ Rep H d t v ∧ OkT d t ∧ (enc d t).length ≤ 8000 ∧ ∀ z H', Same H H' → H' z = some (.lst ((enc d t).map V.int)) → Q (.ref z) H'
def spLNum : Sp := fun vs H Q _ => ∃ (p l : Addr), vs = [.ref p] ∧ PoolAt H p l ∧ ∀ (i : Int) H', PoolAt H' p l → Kp p l H H' → i.natAbs < 2 ^ 55 → Q (.int i) H'
def bnd : Nat → Nat
  | 0 => 30
  | d + 1 => 4 * bnd d + 30
def spLPar (d : Nat) : Sp := fun vs H Q _ => ∃ (p l : Addr), vs = [.ref p, .int (d : Int)] ∧ PoolAt H p l ∧ ∀ (t : T) (v : V) H', PoolAt H' p l → Kp p l H H' → Rep H' d t v → OkT d t → (enc d t).length ≤ bnd d → Q v H'
def spSame (d : Nat) : Sp := fun vs H Q _ => ∃ (t : T) (u v : V), vs = [u, v] ∧ Rep H d t u ∧ Rep H d t v ∧ ∀ H', Same H H' → Q (.bl true) H'
theorem cut_map (ns : List Int) (n : Nat) : cutV (ns.map V.int) none (some (n : Int)) = (ns.take n).map V.int := by
  unfold cutV
  rw [HT.sIx_none, HT.sIx_nat, List.drop_zero, Nat.sub_zero, List.map_take]
  rcases Nat.le_total n (ns.map V.int).length with c | c
  · rw [Nat.min_eq_left c]
  · rw [Nat.min_eq_right c, List.take_length, List.take_of_length_le c]
theorem at_in {α : Type} (xs : List α) {d : Int} (h0 : 0 ≤ d) (h1 : d < xs.length) : ∃ v, v ∈ xs ∧ atI xs d = some v := by
  obtain ⟨n, rfl⟩ : ∃ n : Nat, d = (n : Int) := ⟨d.toNat, by omega⟩
  have hn : n < xs.length := by omega
  exact ⟨xs[n], List.getElem_mem _, atI_nat (List.getElem?_eq_getElem hn)⟩
theorem ix0 {n : Nat} (h : 0 < n) : ixN n 0 = some 0 := by
  unfold ixN
  rw [if_pos (by decide), if_pos (by omega)]
  rfl
section
variable {P : Program} {w : World} {K : PySem.W.Frag} {mg : Str → Option Value} {base : Heap}
theorem scPool : FnScope ["script", "seed", "cell"] ["script"] (defScope sPool) := ⟨rfl, rfl, rfl, by decide +kernel, rfl, by decide +kernel, by decide +kernel⟩
theorem ok_pool {f : Addr} {fd : FuncData} (D : Df K mg "_law_pool" sPool ["script"] f fd) (B : Bts mg) : FnOk P w K mg base CX0 1 f fd ["script"] (spPool K) := by
  refine D.F.ok scPool (fun vs H Q E h => ?_) (fun cdv A outer s H vs Q E hr h => ?_)
  · obtain ⟨a, ns, rfl, _⟩ := h
    rfl
  · obtain ⟨a, ns, rfl, hS, hlen, k⟩ := h
    have nd := scPool.nd
    refine ⟨_, pss_cons (ps_set (i := 1) nd rfl (.inl rfl) (pe_op op_add (pe_op op_add (pe_op op_mod (pe_callTy call_int1 (by rfl) B.int PyProof.Rows.boot_int (pa_cons (pe_callB (cr_sum rfl) (by rfl) B.sum PyProof.Rows.boot_sum (pa_cons (pe_slice sl_list (pv 0) po_none (po_some pe_int)) pa_nil)) pa_nil)) pe_int) (pe_callB call_len_seq (by rfl) B.len PySem.boot_len (pa_cons (pv 0) pa_nil))) pe_int))
      (pss_cons (ps_for PassesOwn.never rfl (pi_list (pe_slice sl_list (pv 0) po_none (po_some pe_int))) (pg_name (i := 2) nd rfl (.inl rfl))
        (pss_one (ps_set (i := 1) nd rfl (.inl rfl) (pe_op op_mod (pe_callTy call_int1 (by rfl) B.int PyProof.Rows.boot_int (pa_cons (pe_op op_add (pe_op op_add (pe_op op_mul (pv 1) pe_int) (pe_op op_mod (pe_callTy call_int1 (by rfl) B.int PyProof.Rows.boot_int (pa_cons (pv 2) pa_nil)) pe_int)) pe_int) pa_nil)) pe_int))))
      (pss_one (ps_ret (pe_lst (pa_cons (pv 1) (pa_cons pe_int (pa_cons (pe_lc (own := [("cell", 2)]) (g := gName 2) (tt := _) rfl nd (pi_list (pe_slice sl_list (pv 0) po_none (po_some pe_int)))
        (blkOk_by (N := ["script", "seed", "cell"]) (sc := defScope sPool) (by decide +kernel)) (fun _ _ _ _ _ => pg_name (i := 2) nd rfl (.inl rfl))
        (fun _ _ _ _ _ => pts_one (pt_cmpR op_ge (pe_callB call_abs (by rfl) B.abs (by decide +kernel) (pa_cons (pv 2) pa_nil)) (pe_op op_pow pe_int pe_int) (nomark _)))
        (fun _ _ _ _ _ => pe_callB call_abs (by rfl) B.abs (by decide +kernel) (pa_cons (pv 2) pa_nil))) pa_nil))))))), ?_⟩
    have e63 : ns.take 63 = ns := List.take_of_length_le hlen
    have c63 : cutV (ns.map V.int) none (some 63) = ns.map V.int := by rw [show (63 : Int) = ((63 : Nat) : Int) by decide, cut_map, e63]
    have c1 : cutV (ns.map V.int) none (some 1) = (ns.take 1).map V.int := cut_map ns 1
    refine ⟨_, rfl, _, rfl, a, _, rfl, hS, fun q1 hq1 => ?_⟩
    rw [c1]
    have s1 := sN (o := .lst ((ns.take 1).map V.int)) hq1
    refine ⟨q1, ns.take 1, rfl, SqL.of upd_same, .inl ⟨_, rfl, _, _, rfl, rfl, (by decide : (0 : Int) < 1000003), _, rfl, a, _, rfl, .inl (sq_same hS s1), _, _, rfl, rfl, _, _, rfl, rfl, ?_⟩⟩
    rw [List.length_map]
    have m0 : 0 ≤ (ns.take 1).sum % 1000003 := Int.emod_nonneg _ (by decide)
    have m1 : (ns.take 1).sum % 1000003 < 1000003 := Int.emod_lt_of_pos _ (by decide)
    refine ⟨_, rfl, _, rfl, a, _, rfl, sq_same hS s1, fun q2 hq2 => ?_⟩
    rw [c63]
    have s2 := sT s1 (sN (o := .lst (ns.map V.int)) hq2)
    have e2 : (upd (upd H q1 (.lst ((ns.take 1).map V.int))) q2 (.lst (ns.map V.int))) q2 = some (.lst (ns.map V.int)) := upd_same
    revert s2 e2
    generalize (upd (upd H q1 (.lst ((ns.take 1).map V.int))) q2 (.lst (ns.map V.int))) = H2
    intro s2 e2
    refine ⟨q2, rfl, ⟨_, SqL.of e2⟩, for_list (K := K) (a := q2) (xs := ns.map V.int) (fun i σ H' => ∃ (sd : Int) (x2 : Option V), σ = [some (.ref a), some (.int sd), x2] ∧ H' = H2 ∧ 0 ≤ sd ∧ sd < 2147483647) ?_ ?_ ?_ ?_⟩
    · exact ⟨_, none, rfl, rfl, by omega, by omega⟩
    · rintro i σ H' hi ⟨sd, x2, rfl, rfl, _⟩
      exact SqL.of e2
    · rintro i x σ H' hx ⟨sd, x2, rfl, rfl, h0, h1⟩
      obtain ⟨b, hb, rfl⟩ := at_ints hx
      refine ⟨_, rfl, _, _, rfl, rfl, .inr ⟨by decide, by decide⟩, _, rfl, .inl ⟨_, rfl, _, _, rfl, rfl, (by decide : (0 : Int) < 2147483629), _, _, rfl, rfl, _, _, rfl, rfl, .inl ⟨_, rfl, _, _, rfl, rfl, (by decide : (0 : Int) < 2147483647), _, some (.int b), rfl, rfl, Int.emod_nonneg _ (by decide), Int.emod_lt_of_pos _ (by decide)⟩⟩⟩
    · rintro σ H' ⟨sd, x2, rfl, rfl, h0, h1⟩
      refine ⟨_, rfl, _, rfl, _, rfl, a, _, rfl, sq_same hS s2, fun q3 hq3 => ?_⟩
      rw [c63]
      have s3 := sT s2 (sN (o := .lst (ns.map V.int)) hq3)
      have e3 : (upd H' q3 (.lst (ns.map V.int))) q3 = some (.lst (ns.map V.int)) := upd_same
      revert s3 e3
      generalize (upd H' q3 (.lst (ns.map V.int))) = H3
      intro s3 e3
      refine ⟨q3, rfl, ⟨_, SqL.of e3⟩, fun D hD => lc_list (K := K) (a := q3) (xs := ns.map V.int) (fun i H' => (∃ cs : List Int, H' D = some (.lst (cs.map V.int)) ∧ cs.length ≤ i) ∧ Same H3 H') ?_ ?_ ?_ ?_⟩
      · exact ⟨⟨[], upd_same, Nat.le_refl _⟩, sN hD⟩
      · rintro i H4 hi ⟨_, s4⟩
        exact SqL.of (s4 _ _ e3)
      · rintro i x H4 hx ⟨⟨cs, e4, hc⟩, s4⟩
        obtain ⟨b, hb, rfl⟩ := at_ints hx
        have hi := (List.getElem?_eq_some_iff.mp hb).1
        refine ⟨rfl, _, rfl, _, rfl, _, _, rfl, rfl, ⟨by decide, by decide, by decide⟩, _, _, rfl, rfl, _, rfl, ?_⟩
        refine ite2 (fun _ => ?_) (fun _ => ⟨⟨cs, e4, by omega⟩, s4⟩)
        refine ⟨_, rfl, _, rfl, _, e4, ?_, ⟨cs ++ [if b < 0 then -b else b], ?_, ?_⟩, sNew s4 hD⟩
        · rw [List.length_map]
          exact size_ok (by omega)
        · rw [upd_same, List.map_append]
          rfl
        · rw [List.length_append]
          show _ + 1 ≤ _
          omega
      · rintro H4 ⟨⟨cs, e4, _⟩, s4⟩
        refine ⟨(by show 3 ≤ sizeLine; decide), fun p hp => k p D _ ⟨sd, 0, cs, upd_same, ?_, ?_, h0, h1⟩ (sT s3 (sT s4 (sN hp))) (sNo (sT s3 s4) hp) (sNo s3 hD)⟩
        · rw [upd_ne (ne_of_none e4 hp)]
          exact e4
        · exact ne_of_none e4 hp
theorem scDraw : FnScope ["pool", "many", "cells", "digit", "mixed"] ["pool", "many"] (defScope sDraw) := ⟨rfl, rfl, rfl, by decide +kernel, rfl, by decide +kernel, by decide +kernel⟩
theorem ok_draw {f : Addr} {fd : FuncData} (D : Df K mg "_law_draw" sDraw ["pool", "many"] f fd) (B : Bts mg) : FnOk P w K mg base CX0 1 f fd ["pool", "many"] spDraw := by
  refine D.F.ok scDraw (fun vs H Q E h => ?_) (fun cdv A outer s H vs Q E hr h => ?_)
  · obtain ⟨p, l, m, rfl, _⟩ := h
    rfl
  · obtain ⟨p, l, m, rfl, ⟨seed, cnt, cs, x⟩, hm0, hm1, k⟩ := h
    have nd := scDraw.nd
    refine ⟨_, pss_cons (ps_asg (pe_op op_add (pe_ix ix_list (pv 0) pe_int (fun _ _ => rfl)) pe_int) (pg_sub (pv 0) pe_int set_list))
      (pss_cons (ps_set (i := 2) nd rfl (.inl rfl) (pe_ix ix_list (pv 0) pe_int (fun _ _ => rfl)))
      (pss_cons (ps_if (pt_cmpR op_gt (pe_callB call_len_seq (by rfl) B.len PySem.boot_len (pa_cons (pv 2) pa_nil)) pe_int (nomark _))
          (pss_cons (ps_set (i := 3) nd rfl (.inl rfl) (pe_op op_mod (pe_callTy call_int1 (by rfl) B.int PyProof.Rows.boot_int (pa_cons (pe_ix ix_list (pv 2) pe_int (fun _ _ => rfl)) pa_nil)) (pv 1)))
          (pss_cons (ps_asg (pe_op op_fdivW (pe_callTy call_int1 (by rfl) B.int PyProof.Rows.boot_int (pa_cons (pe_ix ix_list (pv 2) pe_int (fun _ _ => rfl)) pa_nil)) (pv 1)) (pg_sub (pv 2) pe_int set_list))
          (pss_cons (ps_if (pt_cmpR op_eq (pe_ix ix_list (pv 2) pe_int (fun _ _ => rfl)) pe_int (nomark _))
            (pss_one (ps_expr (pe_bm PySem.F.plainAttrs_list PySem.F.slot_list_pop PySem.F.type_list_pop mt_popAt (pv 2) (pa_cons pe_int pa_nil)))) pss_nil)
          (pss_one (ps_ret (pv 3)))))) pss_nil)
      (pss_cons (ps_set (i := 4) nd rfl (.inl rfl) (pe_op op_mod (pe_callTy call_int1 (by rfl) B.int PyProof.Rows.boot_int (pa_cons (pe_op op_mul (pe_op op_add (pe_ix ix_list (pv 0) pe_int (fun _ _ => rfl)) (pe_op op_mul pe_int (pe_ix ix_list (pv 0) pe_int (fun _ _ => rfl)))) pe_int) pa_nil)) pe_int))
      (pss_cons (ps_set (i := 4) nd rfl (.inl rfl) (pe_op op_mod (pe_callTy call_int1 (by rfl) B.int PyProof.Rows.boot_int (pa_cons (pe_op op_mul (pv 4) (pe_op op_add (pe_op op_fdiv (pv 4) pe_int) pe_int)) pa_nil)) pe_int))
      (pss_cons (ps_set (i := 4) nd rfl (.inl rfl) (pe_op op_mod (pe_callTy call_int1 (by rfl) B.int PyProof.Rows.boot_int (pa_cons (pe_op op_mul (pv 4) (pe_op op_add (pe_op op_fdiv (pv 4) pe_int) pe_int)) pa_nil)) pe_int))
      (pss_one (ps_ret (pe_op op_mod (pe_callTy call_int1 (by rfl) B.int PyProof.Rows.boot_int (pa_cons (pe_op op_fdiv (pv 4) pe_int) pa_nil)) (pv 1))))))))), ?_⟩
    refine ⟨_, rfl, p, _, 1, _, rfl, rfl, SqL.of x.at_, atI_nat (j := 1) rfl, _, _, rfl, rfl, _, rfl, p, _, 1, 1, rfl, rfl, x.at_, rfl, ?_⟩
    have k1 : Kp p l H (upd H p (.lst [.int seed, .int (cnt + 1), .ref l])) := Kp.rf.atp
    have x1 : PoolX (upd H p (.lst [.int seed, .int (cnt + 1), .ref l])) p l seed (cnt + 1) cs := ⟨upd_same, by rw [upd_ne x.ne]; exact x.lst, x.ne, x.s0, x.s1⟩
    show tSeq _ _ _ _ (upd H p (.lst [.int seed, .int (cnt + 1), .ref l]))
    revert k1 x1
    generalize upd H p (.lst [.int seed, .int (cnt + 1), .ref l]) = H1
    intro k1 x1
    refine ⟨_, rfl, p, _, 2, _, rfl, rfl, SqL.of x1.at_, atI_nat (j := 2) rfl, ?_⟩
    refine ⟨_, rfl, l, _, rfl, .inl (SqL.of x1.lst), _, _, rfl, rfl, _, rfl, ?_⟩
    refine ite2 (fun c => ?_) (fun _ => ?_)
    · have c : 0 < cs.length := by
        have z : (0 : Int) < ((cs.map V.int).length : Nat) := of_decide_eq_true c
        rw [List.length_map] at z
        omega
      obtain ⟨c0, cr, rfl⟩ : ∃ c0 cr, cs = c0 :: cr := by
        cases cs with
        | nil => simp at c
        | cons c0 cr => exact ⟨c0, cr, rfl⟩
      have a0 : ∀ (y : Int), atI ((y :: cr).map V.int) 0 = some (V.int y) := fun y => atI_nat (j := 0) rfl
      refine ⟨_, rfl, l, _, 0, _, rfl, rfl, SqL.of x1.lst, a0 c0, .inl ⟨_, rfl, _, rfl, _, _, rfl, rfl, hm0, ?_⟩⟩
      refine ⟨_, rfl, l, _, 0, _, rfl, rfl, SqL.of x1.lst, a0 c0, .inl ⟨_, rfl, _, rfl, _, _, rfl, rfl, wide_div (b := 40) hm0 (by omega) (by decide) (by decide), _, rfl, l, _, 0, 0, rfl, rfl, x1.lst, ix0 (by simp), ?_⟩⟩
      have k2 : Kp p l H (upd H1 l (.lst ((c0 / m :: cr).map V.int))) := k1.atl
      have x2 : PoolX (upd H1 l (.lst ((c0 / m :: cr).map V.int))) p l seed (cnt + 1) (c0 / m :: cr) := ⟨by rw [upd_ne x.ne.symm]; exact x1.at_, upd_same, x.ne, x.s0, x.s1⟩
      show tSeq _ _ _ _ (upd H1 l (.lst ((c0 / m :: cr).map V.int)))
      revert k2 x2
      generalize upd H1 l (.lst ((c0 / m :: cr).map V.int)) = H2
      intro k2 x2
      have d0 : 0 ≤ c0 % m := Int.emod_nonneg _ (by omega)
      have d1 : c0 % m < m := Int.emod_lt_of_pos _ hm0
      refine ⟨_, rfl, l, _, 0, _, rfl, rfl, SqL.of x2.lst, a0 _, rfl, _, rfl, ite2 (fun _ => ?_) (fun _ => ?_)⟩
      · refine ⟨_, rfl, .inl ⟨rfl, _, SqL.of x2.lst⟩, l, _, 0, 0, _, rfl, rfl, x2.lst, by decide, by decide, ?_, rfl, ?_⟩
        · rw [PySem.seqIndex_of (by decide) (by rw [List.length_map, List.length_cons]; omega)]
          rfl
        · exact ⟨_, rfl, k _ _ d0 d1 ⟨seed, cnt + 1, cr, by rw [upd_ne x.ne.symm]; exact x2.at_, upd_same, x.ne, x.s0, x.s1⟩ k2.atl⟩
      · exact ⟨_, rfl, k _ _ d0 d1 ⟨_, _, _, x2⟩ k2⟩
    · refine ⟨_, rfl, p, _, 0, _, rfl, rfl, SqL.of x1.at_, atI_nat (j := 0) rfl, _, rfl, p, _, 1, _, rfl, rfl, SqL.of x1.at_, atI_nat (j := 1) rfl, _, _, rfl, rfl, .inl ⟨by decide, by decide⟩, _, _, rfl, rfl, _, _, rfl, rfl, .inr ⟨by decide, by decide⟩, .inl ⟨_, rfl, _, _, rfl, rfl, (by decide : (0 : Int) < 2147483647), ?_⟩⟩
      have z0 : 0 ≤ (seed + 7919 * (cnt + 1)) * 48271 % 2147483647 := Int.emod_nonneg _ (by decide)
      have z1 : (seed + 7919 * (cnt + 1)) * 48271 % 2147483647 < 2147483647 := Int.emod_lt_of_pos _ (by decide)
      revert z0 z1
      generalize (seed + 7919 * (cnt + 1)) * 48271 % 2147483647 = s2
      intro z0 z1
      refine ⟨_, rfl, _, rfl, _, _, rfl, rfl, ⟨by decide, by decide⟩, _, _, rfl, rfl, _, _, rfl, rfl, .inl ⟨by omega, by omega⟩, .inl ⟨_, rfl, _, _, rfl, rfl, (by decide : (0 : Int) < 2147483647), ?_⟩⟩
      have q0 : 0 ≤ (s2 * (s2 / 1009 + 69621)) % 2147483647 := Int.emod_nonneg _ (by decide)
      have q1 : (s2 * (s2 / 1009 + 69621)) % 2147483647 < 2147483647 := Int.emod_lt_of_pos _ (by decide)
      revert q0 q1
      generalize (s2 * (s2 / 1009 + 69621)) % 2147483647 = n1
      intro q0 q1
      refine ⟨_, rfl, _, rfl, _, _, rfl, rfl, ⟨by decide, by decide⟩, _, _, rfl, rfl, _, _, rfl, rfl, .inl ⟨by omega, by omega⟩, .inl ⟨_, rfl, _, _, rfl, rfl, (by decide : (0 : Int) < 2147483399), ?_⟩⟩
      refine ⟨_, rfl, _, _, rfl, rfl, ⟨by decide, by decide⟩, .inl ⟨_, rfl, _, rfl, _, _, rfl, rfl, hm0, ?_⟩⟩
      exact k _ _ (Int.emod_nonneg _ (by omega)) (Int.emod_lt_of_pos _ hm0) ⟨_, _, _, x1⟩ k1
end
end Q

namespace Q
open PySem L2 QR
theorem walk_zipT {K : PySem.W.Frag} {a b : Addr} {xs ys : List V} {n : Nat} (hn : n = min xs.length ys.length) : Walk (RZ.ItzT K a b) n (fun H => SqT K H a xs ∧ SqT K H b ys) (YPair (fun i => xs[i]?) (fun i => ys[i]?)) := by
  subst hn
  refine ⟨fun i H hi q => ?_, fun H q => ⟨xs, ys, q.1, q.2, by omega⟩, fun i H v H' hi q y => ?_⟩
  · have h1 : i < xs.length := Nat.lt_of_lt_of_le hi (Nat.min_le_left _ _)
    have h2 : i < ys.length := Nat.lt_of_lt_of_le hi (Nat.min_le_right _ _)
    exact ⟨xs, ys, _, _, q.1, q.2, List.getElem?_eq_getElem h1, List.getElem?_eq_getElem h2⟩
  · obtain ⟨T, x, z, e1, e2, e3, e4, e5⟩ := y
    exact ⟨T, x, z, e1, e2, e3, e4 xs q.1, e5 ys q.2⟩
theorem rep_true (n : Nat) : (List.replicate n true).all id = true := by
  rw [List.all_eq_true]
  intro x hx
  rw [(List.mem_replicate.mp hx).2]
  rfl
theorem isI (a b : Nat) : decide (V.bl (decide (a = b)) = V.bl (decide (a = b))) = true := decide_eq_true rfl
section
variable {P : Program} {w : World} {K : PySem.W.Frag} {mg : Str → Option Value} {base : Heap}
end
end Q

namespace Q
open PySem L2 QR
abbrev sLSg : Stmt := top 9999
abbrev sLMk : Stmt := top 9999
abbrev sLSl : Stmt := top 9999
abbrev sLRW : Stmt := top 9999
theorem bnd_ge : ∀ d, 30 ≤ bnd d
  | 0 => Nat.le_refl _
  | d + 1 => by
    show 30 ≤ 4 * bnd d + 30
    omega
theorem enc_int {d : Nat} {i : Int} (h : i.natAbs < 2 ^ 55) : (enc d (.int i)).length ≤ 9 := by
  rw [enc_atom (t := .int i) trivial]
  by_cases c : 0 ≤ i
  · rw [encA_int c, List.length_cons]
    have := vlq_small 7 i.toNat (Nat.lt_of_lt_of_le (show i.toNat < 2 ^ 55 by omega) (by decide))
    omega
  · rw [encA_neg c, List.length_cons]
    have := vlq_small 7 (-1 - i).toNat (Nat.lt_of_lt_of_le (show (-1 - i).toNat < 2 ^ 55 by omega) (by decide))
    omega
theorem okT_at {d : Nat} {t : T} (h : okA t) : OkT d t := by
  cases d with
  | zero => exact h
  | succ d => cases t with
    | tup l => exact h.elim
    | _ => exact h
theorem flat_bnd {d : Nat} {B : Nat} : ∀ {l : List T}, (∀ t ∈ l, (enc d t).length ≤ B) → ((l.map (enc d)).flatten).length ≤ l.length * B
  | [], _ => by simp
  | t :: l, h => by
    have := flat_bnd (l := l) fun x hx => h x (List.mem_cons_of_mem _ hx)
    have := h t List.mem_cons_self
    rw [List.map_cons, List.flatten_cons, List.length_append, List.length_cons, Nat.add_mul]
    omega
def drS : Str := " ~a0Zb'"
theorem drS_ok : ∀ c ∈ drS.cps.toList, isSg (c : Int) = true := by decide +kernel
theorem drS_len : drS.cps.toList.length = 7 := by decide +kernel
def lsA : Str := " !\"#$&'()*+,-./0123456789:;<=>?@ABCDEFGHIJKLMNOPQRSTUVWXYZ[\\]^_"
def lsB : Str := "`abcdefghijklmnopqrstuvwxyz{|}~"
theorem ls_at : ∀ k : Nat, k < 94 → (lsA ++ lsB).cps.toList[k]? = some (if k < 5 then 32 + k else 33 + k) := by decide +kernel
def spLSg : Sp := fun vs H Q _ => ∃ b : Int, vs = [.int b] ∧ isSg b = true ∧ Q (.str (sOf [b.toNat])) H
def spLMk (K : PySem.W.Frag) : Sp := fun vs H Q _ => ∃ (q : Addr) (bs : List Int), vs = [.ref q] ∧ H q = some (.tup (bs.map V.int)) ∧ Q (.int (mkF bs)) H
def spLSl : Sp := fun vs H Q _ => ∃ (q : Addr) (bs : List Int), vs = [.ref q] ∧ H q = some (.tup (bs.map V.int)) ∧ bs.length ≤ 9000 ∧ ∀ z H', Same H H' → H' z = some (.tup ((bs ++ sealL bs).map V.int)) → Q (.ref z) H'
def spLRW : Sp := fun vs H Q _ => ∃ (q : Addr) (bs : List Int) (a : Nat), vs = [.ref q, .int (a : Int)] ∧ RowAt H q bs ∧ a ≤ bs.length ∧ (∀ n h z H', rdW bs a = some (n, h) → Same H H' → H' z = some (.tup [.int n, .int ((h : Nat) : Int)]) → Q (.ref z) H') ∧ (rdW bs a = none → ∀ z H', Same H H' → H' z = some (.tup [.non, .int (a : Int)]) → Q (.ref z) H')
section
variable {P : Program} {w : World} {K : PySem.W.Frag} {mg : Str → Option Value} {base : Heap}
end
end Q

/-! t[::-1] of a tuple -/
namespace HT
open PySem PySem.Calls PySem.W PyProof.Rows
theorem adjust_back (n : Nat) : Builtin.Slice.sliceAdjust none none (-1) (n : Int) = ((n : Int) - 1, -1) := by
  unfold Builtin.Slice.sliceAdjust
  rfl
theorem places_back (n : Nat) : Builtin.Slice.slicePlaces ((n : Int) - 1) (-1) (-1) = n := by
  unfold Builtin.Slice.slicePlaces
  have h1 : ¬ ((-1 : Int) > 0) := by decide
  rw [if_neg h1]
  by_cases c : (n : Int) - 1 > -1
  · rw [if_pos c, show (- -1 : Int) = 1 by decide, Int.ediv_one]
    omega
  · rw [if_neg c]
    omega
theorem fm_congr {α β : Type} {f g : α → Option β} : ∀ {l : List α}, (∀ x ∈ l, f x = g x) → l.filterMap f = l.filterMap g
  | [], _ => rfl
  | a :: l, h => by
    rw [List.filterMap_cons, List.filterMap_cons, h a List.mem_cons_self, fm_congr fun x hx => h x (List.mem_cons_of_mem _ hx)]
theorem pick_back (xs : Array Value) : (List.range xs.size).filterMap (fun (k : Nat) => xs[((xs.size : Int) - 1 + (k : Int) * (-1)).toNat]?) = xs.toList.reverse := by
  have e : (List.range xs.size).filterMap (fun (k : Nat) => xs[((xs.size : Int) - 1 + (k : Int) * (-1)).toNat]?) = ((List.range xs.size).map fun k => xs.size - 1 - k).filterMap (xs[·]?) := by
    rw [List.filterMap_map]
    refine fm_congr fun k hk => ?_
    have := List.mem_range.mp hk
    show xs[((xs.size : Int) - 1 + (k : Int) * (-1)).toNat]? = xs[xs.size - 1 - k]?
    rw [show ((xs.size : Int) - 1 + (k : Int) * (-1)).toNat = xs.size - 1 - k by omega]
  rw [e, PySem.W.krv_range, List.filterMap_reverse, PySem.W.krv_all]
section
variable {prog : Program} {w : World} {A : Around} {E : Value → Shared → Prop} {s : Shared}
theorem sliceApplied_back {sl : Addr} {vs : Value} {n : Nat} {Q : Int × Int × Nat → Shared → Prop} (hs : s.heap.IsSliceOf sl .none .none vs) (ps : IsPart vs (some (-1)))
    (h : Q ((n : Int) - 1, -1, n) s) : wpAny (model prog w) A (Builtin.Slice.sliceApplied (.ref sl) (pure (n : Int))) Q E s := by
  obtain ⟨os, hos, hcs, hds⟩ := id hs
  unfold Builtin.Slice.sliceApplied Builtin.Slice.sliceFields
  refine wpAny_bind (wpAny_bind (wpAny_field hos hds (x := .none) rfl (wpAny_bind (wpAny_field hos hds (x := .none) rfl (wpAny_bind (wpAny_field hos hds (x := vs) rfl (wpAny_pure ?_)))))))
  refine wpAny_bind (slicePart_ ps ?_)
  show wpAny _ _ (if ((-1 : Int) == 0) = true then _ else _) _ _ s
  rw [if_neg (by decide)]
  refine wpAny_bind (slicePart_ .none (wpAny_bind (slicePart_ .none (wpAny_bind (wpAny_pure ?_)))))
  show wpAny _ _ (match Builtin.Slice.sliceAdjust none none (-1) (n : Int) with | (lo, hi) => pure (lo, (-1 : Int), Builtin.Slice.slicePlaces lo hi (-1))) _ _ s
  rw [adjust_back n]
  show wpAny _ _ (pure ((n : Int) - 1, (-1 : Int), Builtin.Slice.slicePlaces ((n : Int) - 1) (-1) (-1))) _ _ s
  rw [places_back]
  exact wpAny_pure h
theorem getItem_tuple_back {t sl : Addr} {items : Array Value} {vs : Value} {Q : Value → Shared → Prop} (ht : IsTup s.heap t items) (hs : s.heap.IsSliceOf sl .none .none vs) (ps : IsPart vs (some (-1)))
    (h : Q (.ref s.heap.objs.size) { s with heap := s.heap.push { cls := .type "tuple", data := .seq items.toList.reverse.toArray } }) (hsz : items.size ≤ sizeLine) : wpAny (model prog w) A (getItem (.ref t) (.ref sl)) Q E s := by
  have fits : sizeOk (.seq items.toList.reverse.toArray) := by
    show items.toList.reverse.toArray.size ≤ sizeLine
    rw [List.size_toArray, List.length_reverse, Array.length_toList]
    exact hsz
  obtain ⟨os, hos, hcs, hds⟩ := id hs
  have hTs : s.TypeIs (.ref sl) "slice" := ⟨os, hos, hcs⟩
  unfold getItem
  try with_reducible refine wpAny_holding ?_
  first | refine wpAny_bind (wpAny_pure ?_) | skip
  refine wpAny_bind (wpAny_sequenceKey ht.typeIs (by decide) ?_)
  refine wpAny_bind (wpAny_callSpecial?_slot (name := Str.ofString "__getitem__") ht.typeIs PyProof.Rows.slot_tuple_getitem
    (wpAny_call_entry PyProof.Rows.slot_tuple_getitem ht.typeIs entry_tuple_getitem ?_ (args_tuple_getitem _ _)))
  show wpAny _ _ (Builtin.Tuple.tupleItemsOf (.ref t) >>= _) _ _ s
  refine wpAny_bind (tupleItemsOf_ ht ?_)
  refine wpAny_bind (wpAny_typeOf hTs ?_)
  rw [if_pos (by decide)]
  refine wpAny_bind (sliceApplied_back hs ps ?_)
  have no : ¬ ((((items.size : Int) - 1) == 0 && (-1 : Int) == 1 && items.size == items.size) = true) := by
    intro q
    rw [Bool.and_eq_true, Bool.and_eq_true] at q
    exact absurd q.1.2 (by decide)
  show wpAny _ _ (if (((items.size : Int) - 1) == 0 && (-1 : Int) == 1 && items.size == items.size) = true then _ else _) _ _ s
  rw [if_neg no, pick_back]
  first
    | exact wpAny_bind (m := Builtin.Tuple.tupleExact _) (wpAny_newObj_type (wpAny_pure ⟨_, rfl, wpAny_pure h⟩) fits)
    | exact wpAny_bind (m := Builtin.Tuple.tupleExact _) (wpAny_newObj_type (wpAny_bind (wpAny_pure (wpAny_pure ⟨_, rfl, wpAny_pure h⟩))) fits)
    | exact wpAny_bind (wpAny_bind (m := Builtin.Tuple.tupleExact _) (wpAny_newObj_type (wpAny_pure (wpAny_pure ⟨_, rfl, wpAny_pure h⟩)) fits))
    | exact wpAny_bind (wpAny_bind (m := Builtin.Tuple.tupleExact _) (wpAny_newObj_type (wpAny_pure ⟨_, rfl, wpAny_pure h⟩) fits))
end
end HT
namespace L2
open PySem PySem.Spec PyProof.Rows HT
section
variable {X : Cx}
/-- t[::-1], the items turned about -/
def tRevT (K : PySem.W.Frag) (te : TE) : TE := fun σ H Q => te σ H fun x H1 => ∃ a xs, x = .ref a ∧ SqT K H1 a xs ∧ ∀ p, H1 p = none → Q (.ref p) (upd H1 p (.tup xs.reverse))
theorem pe_revT {e : Expr} {te : TE} {k : Nat} {p1 p2 p3 pos : Pos} (he : PE X e te) : PE X (.Subscript e (.Slice none none (some (.UnaryOp .USub (.Constant (.int 1) k p1) p2)) p3) pos) (tRevT X.K te) := by
  refine ⟨fun pins s σ H Q I h => Subscript_ (thn (he.run pins s σ H _ I h) fun v s1 ⟨x, H1, I1, r1, q1⟩ => ?_)⟩
  obtain ⟨a, xs, rfl, hx, q⟩ := q1
  cases r1
  have hst : PO X (some (.UnaryOp .USub (.Constant (.int 1) k p1) p2)) (tPart (tUn (rU fun i => .int (-i)) (tC (.int 1)))) := po_some (pe_un un_neg pe_int)
  refine wpAny_Slice (thn (po_none.run pins s1 σ H1 (fun o H2 => o = none ∧ H2 = H1) I1 ⟨rfl, rfl⟩) fun vl s2 ⟨l, H2, I2, pl, el, e2⟩ => ?_)
  subst el e2
  refine thn (po_none.run pins s2 σ H2 (fun o H3 => o = none ∧ H3 = H2) I2 ⟨rfl, rfl⟩) fun vu s3 ⟨u, H3, I3, pu, eu, e3⟩ => ?_
  subst eu e3
  refine thn (hst.run pins s3 σ H3 (fun o H4 => o = some (-1) ∧ H4 = H3) I3 ⟨1, rfl, -1, rfl, rfl, rfl⟩) fun vs s4 ⟨o, H4, I4, ps, eo, e4⟩ => ?_
  subst eo e4
  have I5 : Inv X pins σ H4 { s4 with heap := s4.heap.push { cls := .type "slice", data := .fields #[vl, vu, vs] } } := I4.kept (t' := s4.toks) fun b ob q => Heap.get?_push_of_some _ q
  obtain ⟨its, r, ht, hz⟩ := I5.tuple hx
  have hlen := r.length
  cases pl
  cases pu
  show wpAny (model X.prog X.w) X.A (subscriptTail e (.Slice none none (some (.UnaryOp .USub (.Constant (.int 1) k p1) p2)) p3) (.ref a) (.ref s4.heap.objs.size)) (EP X pins σ Q) X.xe _
  refine tail_any (ops := [.ref a, .ref s4.heap.objs.size]) ht.typeIs PyProof.Rows.slot_tuple_getitem.lookup ?_ (by with_unfolding_all rfl)
  refine getItem_tuple_back ht (Heap.IsSliceOf.new _ .none .none vs) ps ?_ (by rw [List.size_toArray]; omega)
  refine ⟨.ref _, _, I5.laid (t' := s4.toks) (o := .tup xs.reverse) (fun b ob q => Heap.get?_push_of_some _ q) (Nat.le_refl _) ?_, rfl, q _ (I5.hok.fresh (Nat.le_refl _))⟩
  exact ⟨by rw [List.length_reverse]; exact hz, _, r.reverse, IsTup.new _ _⟩
end
end L2

namespace Q
open PySem L2 QR
abbrev sLR : Stmt := top 9999
abbrev sLRS : Stmt := top 9999
abbrev sTold : Stmt := top 9999
abbrev sOpen : Stmt := top 9999
/-- what the law's reader tells: (None, p) or ((t,), h) -/
def OutL (D : Nat) (x : R) (H : Hp) (Q : VK) : Prop :=
  (∀ t h v w z H', x = .ok t h → Same H H' → H' w = some (.tup [v]) → Rep H' D t v → H' z = some (.tup [.ref w, .int ((h : Nat) : Int)]) → Q (.ref z) H') ∧ ∀ p z H', x = .no p → Same H H' → H' z = some (.tup [.non, .int ((p : Nat) : Int)]) → Q (.ref z) H'
theorem OutL.from {D : Nat} {x : R} {H H1 : Hp} {Q : VK} (h : OutL D x H Q) (s : Same H H1) : OutL D x H1 Q :=
  ⟨fun t h' v w z H' e s' a b c => h.1 t h' v w z H' e (sT s s') a b c, fun p z H' e s' a => h.2 p z H' e (sT s s') a⟩
def strL (bs : List Int) (a : Nat) (n : Int) (h : Nat) : R := if 1 ≤ n ∧ n ≤ 20 then rdS bs n.toNat h [] else .no a
def spLRS : Sp := fun vs H Q _ => ∃ (q : Addr) (bs : List Int) (a h : Nat) (n : Int), vs = [.ref q, .int (a : Int), .int n, .int (h : Int)] ∧ RowAt H q bs ∧ h ≤ bs.length ∧ OutL 0 (strL bs a n h) H Q
def spLR (d : Nat) : Sp := fun vs H Q _ => ∃ (q : Addr) (bs : List Int) (a : Nat), vs = [.ref q, .int (a : Int), .int (d : Int)] ∧ RowAt H q bs ∧ a ≤ bs.length ∧ OutL d (rdP bs d a) H Q
def spTold : Sp := fun vs H Q _ => ∃ (q : Addr) (bs : List Int), vs = [.ref q] ∧ RowAt H q bs ∧ (∀ t h v w H', rdAll bs = .ok t h → Same H H' → H' w = some (.tup [v]) → Rep H' 20 t v → Q (.ref w) H') ∧ ∀ p H', rdAll bs = .no p → Same H H' → Q (.int ((p : Nat) : Int)) H'
def spOpen : Sp := fun vs H Q _ => ∃ (q : Addr) (bs : List Int), vs = [.ref q] ∧ RowAt H q bs ∧ ∀ u H', Same H H' → Rep H' 22 (unsT bs) u → Q u H'
theorem at_k {m : Int} {q : Addr} {bs : List Int} {i : Int} {a : Nat} {b : Int} (e : i = (a : Int)) (h : bs[a]? = some b) : atI (bs.map V.int) i = some (V.int b) := by
  rw [e]
  exact at_row h
theorem rdS_go {bs : List Int} : ∀ (m h : Nat) (acc : List Nat), (∀ i, i < m → ∃ b, bs[h + i]? = some b ∧ isSg b = true) → rdS bs m h acc = .ok (.str (acc ++ ((bs.drop h).take m).map Int.toNat)) (h + m)
  | 0, h, acc, _ => by simp [rdS]
  | m + 1, h, acc, k => by
    obtain ⟨b, e, sg⟩ := k 0 (by omega)
    have e : bs[h]? = some b := e
    rw [rdS_at e, if_pos sg, rdS_go m (h + 1) (acc ++ [b.toNat]) (fun i hi => by
      obtain ⟨c, e2, s2⟩ := k (i + 1) (by omega)
      exact ⟨c, by rw [← e2]; congr 1; omega, s2⟩)]
    obtain ⟨l1, e1⟩ := List.getElem?_eq_some_iff.mp e
    rw [List.drop_eq_getElem_cons l1, List.take_succ_cons, e1, List.map_cons, List.append_assoc]
    show R.ok _ _ = R.ok _ _
    congr 1
    omega
theorem rdS_stop {bs : List Int} : ∀ (i m h : Nat) (acc : List Nat), i < m → (∀ j, j < i → ∃ b, bs[h + j]? = some b ∧ isSg b = true) → (∀ b, bs[h + i]? = some b → isSg b = false) → rdS bs m h acc = .no (h + i)
  | 0, m + 1, h, acc, _, _, k => by
    cases e : bs[h]? with
    | none => exact rdS_no e
    | some b => rw [rdS_at e, k b e, if_neg Bool.false_ne_true]; rfl
  | i + 1, m + 1, h, acc, hi, g, k => by
    obtain ⟨b, e, sg⟩ := g 0 (by omega)
    have e : bs[h]? = some b := e
    rw [rdS_at e, if_pos sg, rdS_stop i m (h + 1) (acc ++ [b.toNat]) (by omega) (fun j hj => by
      obtain ⟨c, e2, s2⟩ := g (j + 1) (by omega)
      exact ⟨c, by rw [← e2]; congr 1; omega, s2⟩) (fun b hb => k b (by rw [← hb]; congr 1; omega))]
    congr 1
    omega
theorem dint (i j : Int) : decide (V.int i = V.int j) = decide (i = j) := by
  by_cases c : i = j
  · rw [c, decide_eq_true rfl, decide_eq_true rfl]
  · rw [decide_eq_false c, decide_eq_false fun z => c (V.int.inj z)]
section
variable {P : Program} {w : World} {K : PySem.W.Frag} {mg : Str → Option Value} {base : Heap}
end
end Q

namespace Q
open PySem L2 QR
section
variable {P : Program} {w : World} {K : PySem.W.Frag} {mg : Str → Option Value} {base : Heap}
end
end Q

namespace Q
open PySem L2 QR
abbrev sLaw : Stmt := top 78
def spLaw (K : PySem.W.Frag) : Sp := fun vs H Q _ => ∃ (a : Addr) (ns : List Int), vs = [.ref a] ∧ SqL K H a (ns.map V.int) ∧ ns.length ≤ 63 ∧ ∀ H', Q (.bl true) H'
/-- a row of few bytes -/
def Br (H : Hp) (v : V) (n : Nat) : Prop := ∃ (q : Addr) (bs : List Int), v = .ref q ∧ H q = some (.tup (bs.map V.int)) ∧ (∀ b ∈ bs, 0 ≤ b ∧ b < 256) ∧ bs.length ≤ n
theorem Br.tk {H H' : Hp} {v : V} {n : Nat} (h : Br H v n) (k : Tk H H') : Br H' v n := by
  obtain ⟨q, bs, e, a, b, c⟩ := h
  exact ⟨q, bs, e, k _ _ a, b, c⟩
theorem Br.same {H H' : Hp} {v : V} {n : Nat} (h : Br H v n) (s : Same H H') : Br H' v n := h.tk (.of s)
theorem Br.row {H : Hp} {v : V} {n : Nat} (h : Br H v n) (l : n ≤ 9000) : ∃ q bs, v = .ref q ∧ RowAt H q bs := by
  obtain ⟨q, bs, e, a, b, c⟩ := h
  exact ⟨q, bs, e, a, b, by omega⟩
theorem Br.up {H : Hp} {v : V} {n m : Nat} (h : Br H v n) (l : n ≤ m) : Br H v m := by
  obtain ⟨q, bs, e, a, b, c⟩ := h
  exact ⟨q, bs, e, a, b, by omega⟩
theorem cut_ints (bs : List Int) (lo hi : Option Int) : ∃ cs : List Int, cutV (bs.map V.int) lo hi = cs.map V.int ∧ (∀ b ∈ cs, b ∈ bs) ∧ cs.length ≤ bs.length := by
  unfold cutV
  rw [← List.map_drop, ← List.map_take]
  refine ⟨_, rfl, fun b hb => List.mem_of_mem_drop (List.mem_of_mem_take hb), ?_⟩
  rw [List.length_take, List.length_drop]
  omega
theorem Br.cut {H H' : Hp} {q z : Addr} {bs : List Int} {lo hi : Option Int} (h : RowAt H q bs) {n : Nat} (l : bs.length ≤ n) (e : H' z = some (.tup (cutV (bs.map V.int) lo hi))) : Br H' (.ref z) n := by
  obtain ⟨cs, e1, e2, e3⟩ := cut_ints bs lo hi
  rw [e1] at e
  exact ⟨z, cs, rfl, e, fun b hb => h.b b (e2 b hb), by omega⟩
theorem Br.one {H : Hp} {z : Addr} {b : Int} (e : H z = some (.tup [.int b])) (h0 : 0 ≤ b) (h1 : b < 256) : Br H (.ref z) 1 := ⟨z, [b], rfl, e, fun x hx => by rw [List.mem_singleton.mp hx]; exact ⟨h0, h1⟩, Nat.le_refl _⟩
/-- a sum of rows, read -/
theorem cat_br {H : Hp} {x y : V} {n m : Nat} {Q : VK} (a : Br H x n) (b : Br H y m) (l : n + m ≤ 20000) (k : ∀ z H', Same H H' → Br H' z (n + m) → Q z H') : rCatS x y H Q := by
  obtain ⟨q, bs, rfl, h1, h2, h3⟩ := a
  obtain ⟨r, cs, rfl, g1, g2, g3⟩ := b
  refine ⟨q, r, _, _, rfl, rfl, h1, g1, ?_, fun z H' s e => k _ H' s ⟨z, bs ++ cs, rfl, by rw [List.map_append]; exact e, fun x hx => ?_, by rw [List.length_append]; omega⟩⟩
  · rw [List.length_map, List.length_map]
    exact Nat.le_of_lt (size_ok (by omega))
  · exact (List.mem_append.mp hx).elim (h2 x) (g2 x)
/-- what is no row -/
def OddV (p l : Addr) (H : Hp) (v : V) : Prop := v = .non ∨ (∃ z, v = .str z) ∨ (∃ i, v = .int i) ∨ (∃ q xs, v = .ref q ∧ H q = some (.lst xs) ∧ q ≠ p ∧ q ≠ l) ∨ (∃ q, v = .ref q ∧ H q = some (.dK []) ∧ q ≠ p ∧ q ≠ l) ∨
  (∃ q, v = .ref q ∧ H q = some (.tup [])) ∨ ∃ q xs, v = .ref q ∧ H q = some (.tup xs) ∧ xs.length ≤ 9000 ∧ (∀ x ∈ xs, Sc x) ∧ xs.all isB = false
theorem OddV.kp {p l : Addr} {H H' : Hp} {v : V} (h : OddV p l H v) (g : PoolAt H p l) (k : Kp p l H H') : OddV p l H' v := by
  rcases h with h | h | h | ⟨q, xs, e, a, n1, n2⟩ | ⟨q, e, a, n1, n2⟩ | ⟨q, e, a⟩ | ⟨q, xs, e, a, r⟩
  · exact .inl h
  · exact .inr (.inl h)
  · exact .inr (.inr (.inl h))
  · exact .inr (.inr (.inr (.inl ⟨q, xs, e, k _ _ a n1 n2, n1, n2⟩)))
  · exact .inr (.inr (.inr (.inr (.inl ⟨q, e, k _ _ a n1 n2, n1, n2⟩))))
  · exact .inr (.inr (.inr (.inr (.inr (.inl ⟨q, e, g.tk k _ _ a⟩)))))
  · exact .inr (.inr (.inr (.inr (.inr (.inr ⟨q, xs, e, g.tk k _ _ a, r⟩)))))
theorem OddV.same {p l : Addr} {H H' : Hp} {v : V} (h : OddV p l H v) (s : Same H H') : OddV p l H' v := by
  rcases h with h | h | h | ⟨q, xs, e, a, n⟩ | ⟨q, e, a, n⟩ | ⟨q, e, a⟩ | ⟨q, xs, e, a, r⟩
  · exact .inl h
  · exact .inr (.inl h)
  · exact .inr (.inr (.inl h))
  · exact .inr (.inr (.inr (.inl ⟨q, xs, e, s _ _ a, n⟩)))
  · exact .inr (.inr (.inr (.inr (.inl ⟨q, e, s _ _ a, n⟩))))
  · exact .inr (.inr (.inr (.inr (.inr (.inl ⟨q, e, s _ _ a⟩)))))
  · exact .inr (.inr (.inr (.inr (.inr (.inr ⟨q, xs, e, s _ _ a, r⟩)))))
theorem OddV.uns {K : PySem.W.Frag} {p l : Addr} {H : Hp} {v : V} (h : OddV p l H v) : UnsIn K H v (.tup []) := by
  rcases h with rfl | ⟨z, rfl⟩ | ⟨i, rfl⟩ | ⟨q, xs, rfl, a, _⟩ | ⟨q, rfl, a, _⟩ | ⟨q, rfl, a⟩ | ⟨q, xs, rfl, a, r1, r2, r3⟩
  · exact .inr (.inr ⟨_, .base .non, kit_ty (by decide +kernel), rfl⟩)
  · exact .inr (.inr ⟨_, .base (.str _), kit_ty (by decide +kernel), rfl⟩)
  · exact .inr (.inr ⟨_, .base (.int _), kit_ty (by decide +kernel), rfl⟩)
  · exact .inr (.inr ⟨_, .base (.lst a), kit_ty (by decide +kernel), rfl⟩)
  · exact .inr (.inr ⟨_, .base (.dK a), kit_ty (by decide +kernel), rfl⟩)
  · refine .inl ⟨q, [], rfl, ⟨a, fun b hb => by simp at hb, Nat.zero_le _⟩, ?_⟩
    unfold unsT
    rw [if_neg fun z => absurd z.1 (by decide)]
  · exact .inr (.inl ⟨q, xs, rfl, a, r1, r2, r3, rfl⟩)
/-- a row and one more that is no byte -/
theorem odd_cat {p l : Addr} {H : Hp} {x : V} {n : Nat} {y : V} {b : Addr} {Q : VK} (a : Br H x n) (hb : H b = some (.tup [y])) (sc : Sc y) (nb : isB y = false) (ln : n ≤ 8000) (k : ∀ z H', Same H H' → OddV p l H' z → Q z H') : rCatS x (.ref b) H Q := by
  obtain ⟨q, bs, rfl, h1, h2, h3⟩ := a
  refine ⟨q, b, _, _, rfl, rfl, h1, hb, ?_, fun z H' s e => k _ H' s (.inr (.inr (.inr (.inr (.inr (.inr ⟨z, _, rfl, e, ?_, fun x hx => ?_, ?_⟩))))))⟩
  · rw [List.length_map]
    exact Nat.le_of_lt (size_ok (by show _ + 1 ≤ _; omega))
  · rw [List.length_append, List.length_map]
    show _ + 1 ≤ _
    omega
  · rcases List.mem_append.mp hx with hx | hx
    · exact sc_ints bs x hx
    · rw [List.mem_singleton.mp hx]
      exact sc
  · rw [List.all_append]
    show (_ && ([y].all isB)) = false
    rw [show [y].all isB = false by show (isB y && true) = false; rw [nb]; rfl, Bool.and_false]
theorem log_61 (bs : List Int) : (mkF bs).natAbs.log2 < 1920 := by
  obtain ⟨h0, h1⟩ := mkF_b bs
  refine Nat.lt_of_le_of_lt ?_ (show 61 < 1920 by decide)
  rcases Nat.eq_zero_or_pos (mkF bs).natAbs with z | z
  · rw [z]
    decide
  · have : (mkF bs).natAbs.log2 < 62 := (Nat.log2_lt (by omega)).mpr (Nat.lt_of_lt_of_le (show (mkF bs).natAbs < 2305843009213693951 by omega) (by decide))
    omega
-- the defs of rows
structure PDefs (K : PySem.W.Frag) (mg : Str → Option Value) where
  f1 : Addr
  d1 : FuncData
  D1 : Df K mg "is_plain_int" sPlain ["thing"] f1 d1
  f2 : Addr
  d2 : FuncData
  D2 : Df K mg "is_number_below" sNum ["limit", "thing"] f2 d2
  f3 : Addr
  d3 : FuncData
  D3 : Df K mg "is_row" sIsRow ["thing"] f3 d3
  f4 : Addr
  d4 : FuncData
  D4 : Df K mg "is_sign" sIsSg ["number"] f4 d4
  f5 : Addr
  d5 : FuncData
  D5 : Df K mg "sign_of" sSgOf ["number"] f5 d5
  f6 : Addr
  d6 : FuncData
  D6 : Df K mg "is_string" sIsStr ["thing"] f6 d6
  f7 : Addr
  d7 : FuncData
  D7 : Df K mg "is_parcel_within" sIPW ["deep", "thing"] f7 d7
  f8 : Addr
  d8 : FuncData
  D8 : Df K mg "is_parcel" sIsPar ["thing"] f8 d8
  f9 : Addr
  d9 : FuncData
  D9 : Df K mg "write_whole" sWW ["row", "number"] f9 d9
  f10 : Addr
  d10 : FuncData
  D10 : Df K mg "write_parcel" sWP ["row", "parcel"] f10 d10
  f11 : Addr
  d11 : FuncData
  D11 : Df K mg "row_of" sRowOf ["parcel"] f11 d11
  f12 : Addr
  d12 : FuncData
  D12 : Df K mg "read_whole_row" sRAll ["row"] f12 d12
  f13 : Addr
  d13 : FuncData
  D13 : Df K mg "mark_of" sMkOf ["row"] f13 d13
  f15 : Addr
  d15 : FuncData
  D15 : Df K mg "seal_of" sSeal ["row"] f15 d15
  f16 : Addr
  d16 : FuncData
  D16 : Df K mg "sealed" sSealed ["parcel"] f16 d16
  f17 : Addr
  d17 : FuncData
  D17 : Df K mg "unsealed" sUns ["row"] f17 d17
-- the law's own defs
end Q

/-! an own error over ValueError whose __init__ says super().__init__() alone -/
namespace QS
open PySem PySem.W PySem.Calls PyProof.Rows PySem.HandSPX L2
/-- the body super().__init__() -/
def supB (q1 q2 q3 q4 q5 : Pos) : List Stmt := [.Expr (.Call (.Attribute (.Call (.Name "super" q1) [] [] q2) "__init__" q3) [] [] q4) q5]
def supSc : Scope := { kind := .function, names := [("self", .local), ("__class__", .free), ("super", .globalImplicit)], isGenerator := false, isCoroutine := false, more := [] }
def supAr (p : Pos) : Arguments := { posonlyargs := [], args := [{ arg := "self", annotation := none, pos := p }], vararg := none, kwonlyargs := [], kw_defaults := [], kwarg := none, defaults := [] }
theorem supSc_cell : ∀ x ∈ supSc.names, x.2 ≠ .cell := by decide
theorem supSc_loc (v : Value) : ∀ y ∈ [(("self" : Str), v)], supSc.names.lookup y.1 = some .local := fun y hy => by
  rw [List.mem_singleton.mp hy]
  show supSc.names.lookup ("self" : Str) = some .local
  decide
theorem he_sup {o : Expr} {env : Env} {q3 q4 : Pos} (hl : (q3.endLine == q4.line) = true) : eval (.Call (.Attribute o "__init__" q3) [] [] q4) env = (do
    let ov ← attributeBase o "__init__" env (eval o env)
    standAt q3.atName
    let (f, first) ← holding [ov] (getMethod ov "__init__" (do return (← importBound o env).getD true))
    callWith q4 f first (backTo q4 (starEach [] env)) []) := by
  rw [arm_eval_Call]
  have hp : methodCallPos true o env q3 q4 = pure q4 := by unfold methodCallPos; simp [hl]
  have hf : methodCallForm (([] : List Expr).length + ([] : List Keyword).length) (backTo q4 (starEach [] env)) (backToKw q4 (keywordEach [] env)) = true := rfl
  unfold methodCall
  rw [hf, hp]
  unfold calleeOf
  simp only [if_true, pure_bind]
  rfl
/-- what the written part says of such a class -/
structure SupC (prog : Program) (K : Frag) (mg : Str → Option Value) (C fI : Addr) (qual : Str) : Prop where
  cls : ∃ nm q N bs bm sn sub ab col dd k0 k1 k2 k3 k5, K.lookup C = some (excClassObj nm q C N bs bm true sn sub ab col dd k0 k1 k2 k3 k5 "ValueError.__new__") ∧ refsVE bm = true
  iC : findIn K (.ref C) "__init__" = some (some (.ref fI))
  tI : typeIn K (.ref fI) = some (.type "function")
  kC : keepIn K (.ref C) = true
  exC : subIn K (.ref C) (.type "BaseException") = some true
  veC : subIn K (.ref C) (.type "ValueError") = some true
  tyC : typeIn K (.ref C) = some (.type "type")
  me : mroIn K C (.ref C) = some true
  noS : mg "super" = none
  op : nsIn K cStatics "thirdparty.any" = some none
  al : ks_superIn K C C "__init__" = some (some (.builtin "ValueError.__init__"))
  top : (prog.main.scope.names.lookup ("super" : Str)).isSome = false
  fn : ∃ (oc : Value) (od : Option Addr) (doc pm : Value) (an : Option Addr) (cda cc : Addr) (ct : Value) (osl : Array (Option Value)) (p q1 q2 q3 q4 q5 : Pos) (ccl cl : Value) (cdd cld : Option Addr) (ccs csl : Array (Option Value)) (vs : Array Value) (file : Str) (tf : Tok),
    K.lookup fI = some ⟨oc, od, .func (ksFn "__init__" qual (supAr p) (supB q1 q2 q3 q4 q5) supSc .none .none doc pm an (.ref cda) ct cc), osl⟩ ∧ codeIn K (.ref cda) qual = true ∧ K.lookup cda = some ⟨ccl, cdd, .fields vs, ccs⟩ ∧ vs[2]? = some (.str file tf) ∧
      ((prog.main.file : Str) == file) = true ∧ K.lookup cc = some ⟨cl, cld, .cell (some (.ref C)), csl⟩ ∧ (q3.endLine == q4.line) = true
section
variable {prog : Program} {w : World} {A : Around} {E : Value → Shared → Prop} {R : Result → Shared → Prop} {s : Shared} {K : Frag} {mg : Str → Option Value} {C fI : Addr} {qual : Str} {base : Heap}
theorem sup_init (T : SupC prog K mg C fI qual) (M : Mod K mg base) (hk : ∀ b o, base.get? b = some o → s.heap.get? b = some o) {x t0 : Addr} (hx : s.heap.get? x = some (excO C t0)) (hroom : A.depth < recursionLimit)
    (hq : ∀ h' tk t1, (∀ b o, b ≠ x → s.heap.get? b = some o → h'.get? b = some o) → h'.get? x = some (excO C t1) → R (.ok (.ret .none)) { s with heap := h', toks := tk }) :
    codeAny (model prog w) A (.call (.ref fI) ⟨[.ref x], []⟩) R s := by
  have X : K.In s.heap := M.kin.keeps hk
  obtain ⟨oc, od, doc, pm, an, cda, cc, ct, osl, p, q1, q2, q3, q4, q5, ccl, cl, cdd, cld, ccs, csl, vs, file, tf, lk, hcd, hcode, hvs, hfile, hcell, hline⟩ := T.fn
  obtain ⟨nm, q, N, bs, bm, sn, sub, ab, col, dd, k0, k1, k2, k3, k5, hC, hbm⟩ := T.cls
  refine ks_codeAny_call_defAt (binds := [("self", .ref x)]) hroom (X _ _ lk) rfl (M.nolimit.keeps hk) (codeRec_of X hcd) rfl (BindsTo.of_eq (by first | rfl | with_unfolding_all rfl)) supSc_cell (supSc_loc _) (fun h1 hns kp => ?_) rfl rfl rfl
  have X1 : K.In h1 := X.keeps kp
  have b1 : ∀ b o, base.get? b = some o → h1.get? b = some o := fun b o e => kp b o (hk b o e)
  have hx1 := kp _ _ hx
  obtain ⟨mb, hmb, hbv⟩ := M.blt
  obtain ⟨hp, g, d, t, os⟩ := s
  show _root_.PySem.wpAt _ _ _ (execs (supB q1 q2 q3 q4 q5) (ksEnv qual supSc hp.objs.size fI (.ref cda) cc)) _ _ _
  refine ks_wpAt_execs_cons (ks_wpAt_Expr_any (ks_wpAt_MethodCall ?_ (he_sup hline)))
  refine ks_wpAt_super_base (env := ksEnv qual supSc hp.objs.size fI (.ref cda) cc) rfl rfl (by decide) rfl (X1 _ _ lk) rfl rfl rfl (X1 _ _ hcode) rfl hvs hfile T.top ?_
  refine ks_loadName_global rfl rfl (loadGlobal_builtin (M.glob.keeps b1) T.noS (hmb.keeps b1) ((hbv _ (by decide)).trans (by decide +kernel)) ⟨rfl, ?_⟩)
  refine wpAny_loadName_free rfl rfl rfl ⟨_, X1 _ _ hcell, rfl⟩ ?_
  refine wpAny_loadName_local rfl rfl hns rfl ?_
  have hC1 := X1 _ _ hC
  refine ks_wpAny_isType_cls hC1 rfl ⟨rfl, ?_⟩
  refine ks_wpAny_call_super hC1 rfl hx1 rfl (fun c e => nomatch e) (looks_mroIn X1 T.me) (fun h2 e2 k2 => ?_)
  have X2 : K.In h2 := X1.keeps k2
  have hx2 := k2 _ _ hx1
  have hC2 := X2 _ _ hC
  have hcl : clsIn K C = some { name := nm, bases := bs, mro := .ref C :: bm, ns := N, qualname := q, hasDict := true, slotNames := sn, subclasses := sub, abstract := ab, collection := col, hasDel := false } := by unfold clsIn; rw [hC] <;> rfl
  have hal : alongIn K "__init__" (((Value.ref C :: bm).dropWhile (· != .ref C)).drop 1) = some (some (.builtin "ValueError.__init__")) := by
    have z := T.al
    unfold ks_superIn at z
    rw [hcl] at z
    exact z
  have nxC : x ≠ C := fun e => by
    rw [e, hC1] at hx1
    cases hx1
  have hI : Looks (model prog w) h2 (isInstance (.ref x) (.type "ValueError")) true := by
    have I : InstAt h2 x (excO C t0) C none := ⟨hx2, rfl, rfl, trivial⟩
    exact I.type.andThen (looks_subIn X2 T.veC)
  refine kxs_getMethod kxs_ValueError e2 (looks_opaque X2 T.op) (l₀ := .ref C :: bm) ?_ rfl X2 hal hI nxC (by decide) ?_
  · exact fun A Q E s k q => wpAny_bind ((looks_clsIn X2 hcl) A _ E s k (wpAny_pure q))
  have k3 : ∀ b o, h2.get? b = some o → (h2.push (kxs_mw "ValueError.__init__" x)).get? b = some o := fun b o e => Heap.get?_push_of_some _ e
  refine kxs_callWith (i := "ValueError.__init__") (u := h2.objs.size) (x := x) rfl (evalArgs_empty ⟨Heap.get?_push_at rfl rfl, ?_⟩)
  refine wpAny_call (codeAny_of_tree ?_)
  show wpAny _ _ (callAny (.ref h2.objs.size) ⟨[], []⟩) _ _ _
  simp only [callAny]
  refine wpAny_bind (wpAny_load (Heap.get?_push_at rfl rfl) ?_)
  simp only [kxs_mw, show (Value.type "method-wrapper" == Value.type "method" || Value.type "method-wrapper" == Value.type "builtin_function_or_method" || Value.type "method-wrapper" == Value.type "method-wrapper") = true by decide, if_true]
  refine KFB.if_so (by decide) ?_
  refine wpAny_bind (check_bound_init F.excBase_ValueError.toExcCallFacts (k3 _ _ hC2) (k3 _ _ hx2) rfl ?_)
  refine wpAny_bind (wpAny_pure (wpAny_pure ?_))
  refine ⟨plainId_quiet F.excBase_ValueError.init.plain _, codeAny_builtin F.excBase_ValueError.initEntry ?_⟩
  refine exc_init_tree (cls := .ref C) (t0 := t0) (dv := none) (c2 := .none) (c3 := .none) (b4 := .bool false) (k3 _ _ hx2) (Nat.zero_le _) (fun h4 k4 e4 _ => ?_)
  show _root_.PySem.wpAt _ _ _ (execs [] _) _ _ _
  refine wpAt_of_wpAny (wpAny_execs_nil ?_)
  exact hq h4 _ _ (fun b o hb e => k4 b o hb (k3 b o (k2 b o (kp b o e)))) e4
end
section
variable {X : Cx} {p pos : Pos} {x : Str} {C fI : Addr} {k : Nat} {qual : Str}
/-- raise C(): a new error of the class at C, without a dict -/
theorem pmk_sup (T : SupC X.prog X.K X.mg C fI qual) (hr : Room k X.A) (hg : Gl X x) (hm : X.mg x = some (.ref C)) (hdb : (x == ("__debug__" : Str)) = false := by decide) :
    PMk X (.Call (.Name x p) [] [] pos) (fun _ H Q => Q (.ref C) none H) := by
  intro pins s σ H Q I h
  obtain ⟨nm, q, N, bs, bm, sn, sub, ab, col, dd, k0, k1, k2, k3, k5, hC, hbm⟩ := T.cls
  refine wpAny_Call_Name_kw (ld_glob I hg hm ?_ hdb)
  refine PySem.W.callWith_K0 I.kIn T.kC ?_
  show wpAny _ _ (call (.ref C) []) _ _ _
  have hdp := hr.dp
  have hbk := I.bk
  obtain ⟨hp, g, dr, tk, os⟩ := s
  have kk : ∀ b o, hp.get? b = some o → ((hp.push (kdv_tup [])).push (excO C hp.objs.size)).get? b = some o := fun b o e => Heap.get?_push_of_some _ (Heap.get?_push_of_some _ e)
  have hget : ((hp.push (kdv_tup [])).push (excO C hp.objs.size)).get? (hp.objs.size + 1) = some (excO C hp.objs.size) := by heap_get
  have hdep : (X.A.under (.builtin "type.__call__" ⟨[.ref C], []⟩)).depth < recursionLimit := by
    rw [make_depth]
    omega
  refine wpAny_call (call_own F.excBase_ValueError (fun Y => refsVE_contains Y bm hbm) (I.kIn _ _ hC) (looks_findIn I.kIn T.iC) (fun self => bind_fn I.kIn self T.tI) (Nat.zero_le _)
    (sup_init T I.ok.mod (fun b o e => kk b o (hbk b o e)) hget hdep fun h' tk' t1 k4 e4 => ⟨rfl, ?_⟩))
  obtain ⟨G, r1, r2⟩ := restrict h' fun b => decide (b ≠ hp.objs.size + 1)
  have gk : ∀ b, b ≠ hp.objs.size + 1 → G.get? b = h'.get? b := fun b hb => r1 b (decide_eq_true hb)
  have ge : G.get? (hp.objs.size + 1) = none := r2 _ (by simp)
  have old : ∀ b o, hp.get? b = some o → G.get? b = some o := fun b o e => by
    have hb : b ≠ hp.objs.size + 1 := Nat.ne_of_lt (Nat.lt_succ_of_lt (Heap.lt_size e))
    rw [gk b hb]
    exact k4 b o hb (kk b o e)
  have J : Inv X pins σ H ⟨G, g, dr, tk', os⟩ := I.kept (t' := tk') old
  refine ⟨hp.objs.size + 1, _, _, ⟨G, g, dr, tk', os⟩, H, .ref C, none, rfl, J, fun b o e => ?_, ge, e4, ⟨rfl, rfl⟩, rfl, rfl, I.hok.fresh (Nat.le_succ _), rfl, I.bare, raises_own T.exC T.tyC, h⟩
  by_cases hb : b = hp.objs.size + 1
  · have e' : G.get? b = some o := e
    rw [hb, ge] at e'
    cases e'
  · exact (gk b hb).symm.trans e
end
end QS

/-! what is no parcel, and what is asked of a caught error -/
namespace L2
open PySem PySem.Spec PyProof.Rows
/-- isinstance(e, C) of a caught error, with or without a dict of its own -/
def rIsX (K : PySem.W.Frag) (D a : Addr) (cls : Value) (d : Option Addr) : List V → Hp → VK → Prop := fun xs H Q => cls = .ref D ∧ (∀ dd, d = some dd → ∃ fs, H dd = some (.xd fs)) ∧ ∃ (c : V) (cv : Value) (b : Bool), xs = [.ref a, c] ∧ (∀ u, RelV c u → u = cv) ∧ PySem.W.kitOne K (.ref D) cv = some b ∧ Q (.bl b) H
theorem call_isX {X : Cx} {a D : Addr} {oe : Obj} {cls : Value} {d : Option Addr} {pn : List (Addr × Obj)} (C : ExcC X.K D) (hc : PySem.W.isClsIn X.K D = true) (hz : Zc cls d oe) (hf : ∃ vs, oe.data = .fields vs) : CallR (X.suite a ((a, oe) :: pn)) (.builtin "isinstance") (rIsX X.K D a cls d) := by
  intro pins s σ H xs us Q I r h
  obtain ⟨rfl, hd, c, cv, b, rfl, hcv, e, q⟩ := h
  cases r with
  | cons rx rr =>
    cases rr with
    | cons rt r0 =>
      cases r0
      cases rx
      have ec := hcv _ rt
      subst ec
      obtain ⟨hget, hn, _⟩ := I.pin (a, oe) (List.mem_append.mpr (.inl List.mem_cons_self))
      obtain ⟨vs, hv⟩ := hf
      have nc : PySem.W.notCls oe = true := by
        unfold PySem.W.notCls
        rw [hv]
      have main : ∀ od, PySem.W.InstAt s.heap a oe D od → wpAny (model (X.suite a ((a, oe) :: pn)).prog (X.suite a ((a, oe) :: pn)).w) (X.suite a ((a, oe) :: pn)).A (call (.builtin "isinstance") [.ref a, _]) (EP (X.suite a ((a, oe) :: pn)) pins σ Q) (X.suite a ((a, oe) :: pn)).xe s := fun od J =>
        PySem.W.kia_one (PySem.W.kitx_exc (x := a) (ox := oe) (od := od) hc C.hg C.hk C.hs C.ha C.hn C.ht C.hm) I.kIn J e (by intro z; cases z) (fun tk => ⟨.bl b, H, I.tok tk, rfl, q⟩)
      cases d with
      | none => exact main none ⟨hget, hz.1, nc, by rw [hz.2]; trivial⟩
      | some dd =>
        obtain ⟨fs, hfs⟩ := hd dd rfl
        have hok := I.hok dd _ hfs
        obtain ⟨o, ho⟩ : ∃ o, s.heap.get? dd = some o := by
          obtain ⟨es, hA, _⟩ := hok
          obtain ⟨e1, _, _, e4, _⟩ := hA
          exact ⟨e1, e4⟩
        exact main (some o) ⟨hget, hz.1, nc, by rw [hz.2]; exact ho⟩
end L2
namespace Q
open PySem L2 QR
/-- what never raises may be called where something is caught -/
theorem fn_up {P : Program} {w : World} {K : PySem.W.Frag} {mg : Str → Option Value} {base : Heap} {k : Nat} {f : Addr} {fd : FuncData} {ps : List Str} {sp : Sp} {CX : CXT} (F : FnOk P w K mg base CX0 k f fd ps sp) : FnOk P w K mg base CX k f fd ps sp :=
  ⟨F.len, fun A outer s H args us vs Q E hr he hb hv hs => codeAny_mono (F.run A outer s H args us vs Q E hr he hb hv hs) fun r s' h => by
    match r, h with
    | .ok (.ret u), h => exact h
    | .error e, h => exact h.elim⟩
/-- strings that are none -/
def badZ (z : List Nat) : Prop := z = [] ∨ 20 < z.length ∨ (1 ≤ z.length ∧ z.length ≤ 20 ∧ ∃ c ∈ z, c < 32)
def PG (H : Hp) (d : Nat) (v : V) : Prop := ∃ t, Rep H d t v ∧ OkT d t
/-- a list, a dict, a string of other signs -/
def BadA (p l : Addr) (H : Hp) (v : V) : Prop := (∃ a, v = .ref a ∧ ((∃ xs, H a = some (.lst xs)) ∨ H a = some (.dK [])) ∧ a ≠ p ∧ a ≠ l) ∨ ∃ z : List Nat, v = .str (sOf z) ∧ z.length ≤ 9000 ∧ badZ z
/-- no parcel within d -/
def BadU (p l : Addr) (H : Hp) : Nat → V → Prop
  | 0, v => BadA p l H v ∨ ∃ a xs, v = .ref a ∧ H a = some (.tup xs)
  | d + 1, v => BadA p l H v ∨ ∃ a xs, v = .ref a ∧ H a = some (.tup xs) ∧ xs.length ≤ 9000 ∧ (∀ x ∈ xs, PG H d x ∨ BadU p l H d x) ∧ ∃ x ∈ xs, BadU p l H d x
/-- all stands but the pool, tuples too -/
structure Fm (p l : Addr) (H H' : Hp) : Prop where
  tk : Tk H H'
  kp : Kp p l H H'
theorem Fm.of {p l : Addr} {H H' : Hp} (s : Same H H') : Fm p l H H' := ⟨.of s, .of s⟩
theorem Fm.kpg {p l : Addr} {H H' : Hp} (g : PoolAt H p l) (k : Kp p l H H') : Fm p l H H' := ⟨g.tk k, k⟩
theorem PG.tk {H H' : Hp} {d : Nat} {v : V} (h : PG H d v) (k : Tk H H') : PG H' d v := h.imp fun t h => ⟨h.1.tk k, h.2⟩
theorem BadA.fm {p l : Addr} {H H' : Hp} {v : V} (h : BadA p l H v) (f : Fm p l H H') : BadA p l H' v := by
  rcases h with ⟨a, e, h, n1, n2⟩ | h
  · exact .inl ⟨a, e, h.elim (fun ⟨xs, h⟩ => .inl ⟨xs, f.kp _ _ h n1 n2⟩) (fun h => .inr (f.kp _ _ h n1 n2)), n1, n2⟩
  · exact .inr h
theorem BadU.fm {p l : Addr} {H H' : Hp} (f : Fm p l H H') : ∀ {d : Nat} {v : V}, BadU p l H d v → BadU p l H' d v
  | 0, v, h => by
    rcases h with h | ⟨a, xs, e, h⟩
    · exact .inl (h.fm f)
    · exact .inr ⟨a, xs, e, f.tk _ _ h⟩
  | d + 1, v, h => by
    rcases h with h | ⟨a, xs, e, h, n, al, x, hx, b⟩
    · exact .inl (h.fm f)
    · exact .inr ⟨a, xs, e, f.tk _ _ h, n, fun x hx => (al x hx).elim (fun g => .inl (g.tk f.tk)) (fun g => .inr (BadU.fm f g)), x, hx, BadU.fm f b⟩
theorem BadU.atom {p l : Addr} {H : Hp} {d : Nat} {v : V} (h : BadA p l H v) : BadU p l H d v := by
  cases d with
  | zero => exact .inl h
  | succ d => exact .inl h
/-- b tells whether v is a parcel within d -/
def Dec (p l : Addr) (H : Hp) (d : Nat) (v : V) (b : Bool) : Prop := (b = true ∧ PG H d v) ∨ (b = false ∧ BadU p l H d v)
theorem Dec.fm {p l : Addr} {H H' : Hp} {d : Nat} {v : V} {b : Bool} (f : Fm p l H H') (h : Dec p l H d v b) : Dec p l H' d v b := h.elim (fun h => .inl ⟨h.1, h.2.tk f.tk⟩) fun h => .inr ⟨h.1, h.2.fm f⟩
theorem Dec.same {p l : Addr} {H H' : Hp} {d : Nat} {v : V} {b : Bool} (h : Dec p l H d v b) (s : Same H H') : Dec p l H' d v b := h.fm (.of s)
theorem Dec.ex {p l : Addr} {H : Hp} {d : Nat} {v : V} (h : PG H d v ∨ BadU p l H d v) : ∃ b, Dec p l H d v b := h.elim (fun h => ⟨true, .inl ⟨rfl, h⟩⟩) fun h => ⟨false, .inr ⟨rfl, h⟩⟩
/-- what is asked of it -/
def DecS (H : Hp) (v : V) (b : Bool) : Prop := (∃ z : List Nat, v = .str (sOf z) ∧ z.length ≤ 9000 ∧ ((b = true ∧ okA (.str z)) ∨ (b = false ∧ badZ z))) ∨ (b = false ∧ ∃ a, v = .ref a ∧ ((∃ xs, H a = some (.lst xs)) ∨ H a = some (.dK [])))
theorem Dec.cases {p l : Addr} {H : Hp} {d : Nat} {v : V} {b : Bool} (h : Dec p l H d v b) : (v = .non ∧ b = true) ∨ (∃ c, v = .bl c ∧ b = true) ∨ (∃ i, v = .int i ∧ b = true) ∨ DecS H v b ∨
    ∃ a xs, v = .ref a ∧ H a = some (.tup xs) ∧ ((d = 0 ∧ b = false) ∨ (xs.length ≤ 9000 ∧ ∃ d', d = d' + 1 ∧ ∃ B : V → Bool, (∀ x ∈ xs, Dec p l H d' x (B x)) ∧ xs.all B = b)) := by
  rcases h with ⟨rfl, t, rep, ok⟩ | ⟨rfl, h⟩
  · rcases rep.cases with ⟨rfl, rfl⟩ | ⟨b, rfl, rfl⟩ | ⟨i, rfl, rfl⟩ | ⟨z, rfl, rfl, zl⟩ | ⟨d', ls, a, xs, rfl, rfl, rfl, ha, hl, few, hk⟩
    · exact .inl ⟨rfl, rfl⟩
    · exact .inr (.inl ⟨_, rfl, rfl⟩)
    · exact .inr (.inr (.inl ⟨_, rfl, rfl⟩))
    · exact .inr (.inr (.inr (.inl (.inl ⟨z, rfl, zl, .inl ⟨rfl, okT_atom ok⟩⟩))))
    · have okl : ∀ t ∈ ls, OkT d' t := ok
      refine .inr (.inr (.inr (.inr ⟨a, xs, rfl, ha, .inr ⟨few, d', rfl, fun _ => true, fun x hx => ?_, ?_⟩⟩)))
      · obtain ⟨i, hi⟩ := List.mem_iff_getElem?.mp hx
        have hil := (List.getElem?_eq_some_iff.mp hi).1
        have ht : ls[i]? = some (ls[i]'(by omega)) := List.getElem?_eq_getElem (by omega)
        exact .inl ⟨rfl, _, hk i x _ hi ht, okl _ (List.mem_of_getElem? ht)⟩
      · rw [List.all_eq_true]
        intro _ _
        rfl
  · have at_ : BadA p l H v → DecS H v false := fun h => by
      rcases h with ⟨a, e, h, _⟩ | ⟨z, e, n, b⟩
      · exact .inr ⟨rfl, a, e, h⟩
      · exact .inl ⟨z, e, n, .inr ⟨rfl, b⟩⟩
    cases d with
    | zero =>
      rcases h with h | ⟨a, xs, e, h⟩
      · exact .inr (.inr (.inr (.inl (at_ h))))
      · exact .inr (.inr (.inr (.inr ⟨a, xs, e, h, .inl ⟨rfl, rfl⟩⟩)))
    | succ d =>
      rcases h with h | ⟨a, xs, e, h, n, al, x, hx, b⟩
      · exact .inr (.inr (.inr (.inl (at_ h))))
      · refine .inr (.inr (.inr (.inr ⟨a, xs, e, h, .inr ⟨n, d, rfl, ?_⟩⟩)))
        have dc : ∀ y : V, ∃ c : Bool, (y ∈ xs → Dec p l H d y c) ∧ (BadU p l H d y → c = false) := fun y => by
          by_cases u : BadU p l H d y
          · exact ⟨false, fun _ => .inr ⟨rfl, u⟩, fun _ => rfl⟩
          · exact ⟨true, fun hy => (al y hy).elim (fun g => .inl ⟨rfl, g⟩) (fun g => absurd g u), fun z => absurd z u⟩
        refine ⟨fun y => Classical.choose (dc y), fun y hy => (Classical.choose_spec (dc y)).1 hy, ?_⟩
        rw [List.all_eq_false]
        refine ⟨x, hx, ?_⟩
        rw [(Classical.choose_spec (dc x)).2 b]
        decide
def spIsStr2 : Sp := fun vs H Q _ => ∃ (v : V) (b : Bool), vs = [v] ∧ DecS H v b ∧ ∀ H', Same H H' → Q (.bl b) H'
def spIPW2 (d : Nat) : Sp := fun vs H Q _ => ∃ (p l : Addr) (v : V) (b : Bool), vs = [.int (d : Int), v] ∧ Dec p l H d v b ∧ ∀ H', Same H H' → Q (.bl b) H'
def spIsPar2 : Sp := fun vs H Q _ => ∃ (p l : Addr) (v : V) (b : Bool), vs = [v] ∧ Dec p l H 20 v b ∧ ∀ H', Same H H' → Q (.bl b) H'
theorem all_map_id {α : Type} (B : α → Bool) (xs : List α) : (xs.map B).all id = xs.all B := by
  rw [List.all_map]
  rfl
theorem noSg {c : Nat} (h : c < 32) : isSg (c : Int) = false := by
  cases e : isSg (c : Int) with
  | false => rfl
  | true => exact absurd (sg_b e).1 (by omega)
section
variable {P : Program} {w : World} {K : PySem.W.Frag} {mg : Str → Option Value} {base : Heap}
theorem DecS.ty {H : Hp} {v : V} {b : Bool} (h : DecS H v b) (n : ∀ z : List Nat, v ≠ .str (sOf z)) : b = false ∧ ∃ t, TyX K H v t ∧ PySem.W.kitOne K t (.type "str") = some false ∧ PySem.W.kitOne K t (.type "tuple") = some false ∧ PySem.W.kitOne K t (.type "int") = some false := by
  rcases h with ⟨z, rfl, _⟩ | ⟨rfl, a, rfl, ⟨xs, h⟩ | h⟩
  · exact absurd rfl (n z)
  · exact ⟨rfl, _, .base (.lst h), kit_ty (by decide +kernel), kit_ty (by decide +kernel), kit_ty (by decide +kernel)⟩
  · exact ⟨rfl, _, .base (.dK h), kit_ty (by decide +kernel), kit_ty (by decide +kernel), kit_ty (by decide +kernel)⟩
theorem ok_isstr2 {f fS : Addr} {fd fdS : FuncData} (D : Df K mg "is_string" sIsStr ["thing"] f fd) (B : Bts mg) (C : Cst mg) (DS : Df K mg "is_sign" sIsSg ["number"] fS fdS) : FnOk P w K mg base CX0 2 f fd ["thing"] spIsStr2 := by
  have GS : FnOk P w K mg base CX0 1 fS fdS ["number"] spIsSg := ok_issg DS C
  obtain ⟨t1, h1⟩ := C.signs
  refine D.F.ok scIsStr (fun vs H Q E h => ?_) (fun cdv A outer s H vs Q E hr h => ?_)
  · obtain ⟨v, b, rfl, _⟩ := h
    rfl
  · obtain ⟨v, b, rfl, dec, k⟩ := h
    have nd := scIsStr.nd
    refine ⟨_, pss_cons (ps_if (PW.pt (pw_or (pt_not (pt_val (pe_callB call_isi (by rfl) B.isinstance PyProof.Rows.boot_isinstance (pa_cons (pv 0) (pa_cons (pe_bltn (v := .ty "str") rfl B.str PyProof.Rows.boot_str rfl) pa_nil)))))
        (pw_or1 (pt_not (pt_chain op_le op_le pe_int (pe_callB call_len_str (by rfl) B.len PySem.boot_len (pa_cons (pv 0) pa_nil)) (pe_glob (v := .int 20) rfl h1 ⟨_, rfl⟩)))))) (pss_one (ps_ret pe_bl)) pss_nil)
      (pss_one (ps_ret (pe_callB (cr_all rfl) (by rfl) B.all PyProof.Rows.boot_all (pa_cons (pe_lc (own := [("sign", 1)]) (g := gName 1) (tt := tYes) rfl nd (pi_str (pv 0))
        (blkOk_by (N := ["thing", "sign"]) (sc := defScope sIsStr) (by decide +kernel)) (fun _ _ _ _ _ => pg_name (i := 1) nd rfl (.inl rfl)) (fun _ _ _ _ _ => pts_nil)
        (fun _ _ _ _ _ => pe_call GS hr rfl DS.m DS.k DS.b .nil pass0 (pa_cons (pe_callB call_ord (by rfl) B.ord (by decide +kernel) (pa_cons (pv 1) pa_nil)) pa_nil))) pa_nil)))), ?_⟩
    by_cases st : ∃ z : List Nat, v = .str (sOf z)
    · obtain ⟨z, rfl⟩ := st
      obtain ⟨zl, dz⟩ : z.length ≤ 9000 ∧ ((b = true ∧ okA (.str z)) ∨ (b = false ∧ badZ z)) := by
        rcases dec with ⟨y, e, n, h⟩ | ⟨_, a, e, _⟩
        · have e1 := V.str.inj e
          have e2 : z.toArray = y.toArray := congrArg Str.cps e1
          have e3 : z = y := by have := congrArg Array.toList e2; simpa using this
          subst e3
          exact ⟨n, h⟩
        · cases e
      have ez := sOf_len z
      refine ⟨_, rfl, .str (sOf z), .ty "str", .type "str", .type "str", true, rfl, .ty _, .base (.str _), kit_ty (by decide +kernel), _, rfl, iteF ?_⟩
      refine ⟨_, rfl, sOf z, rfl, by rw [ez]; exact Nat.le_of_lt (size_ok (by omega)), _, _, rfl, rfl, _, rfl, ?_⟩
      rw [ez]
      have short : ¬ (1 ≤ z.length ∧ z.length ≤ 20) → b = false := fun n => by
        rcases dz with ⟨_, h⟩ | ⟨h, _⟩
        · exact absurd ⟨h.1, h.2.1⟩ n
        · exact h
      refine ite2 (fun c1 => ?_) (fun c1 => ?_)
      case refine_2 =>
        refine ⟨_, rfl, iteT ?_⟩
        have : ¬ (1 : Int) ≤ (z.length : Int) := fun y => c1 (decide_eq_true y)
        have e := short (by omega)
        subst e
        exact k _ sR
      have c1 : (1 : Int) ≤ (z.length : Int) := of_decide_eq_true c1
      refine ⟨_, _, rfl, rfl, _, rfl, ite2 (fun c => ?_) (fun c => ?_)⟩
      · have : ¬ (z.length : Int) ≤ 20 := fun y => by
          rw [decide_eq_true y] at c
          cases c
        have e := short (by omega)
        subst e
        exact k _ sR
      have c2 : (z.length : Int) ≤ 20 := by
        by_cases y : (z.length : Int) ≤ 20
        · exact y
        · rw [decide_eq_false y] at c
          exact absurd rfl c
      refine ⟨_, rfl, sOf z, rfl, fun D hD => lc_it (walk_str (z := sOf z)) (fun i H' => H' D = some (.lst (((z.take i).map fun c : Nat => isSg (c : Int)).map V.bl)) ∧ i ≤ z.length ∧ Same H H') ?_ ?_ ?_ ?_⟩
      · exact ⟨upd_same, Nat.zero_le _, sN hD⟩
      · rintro i H' hi _
        trivial
      · rintro i x H1 H' hi ⟨eD, il, s1⟩ ⟨rfl, c, hc, rfl⟩
        have hc := sOf_at hc
        refine ⟨rfl, ?_⟩
        refine ⟨_, rfl, _, rfl, rfl, (c : Int), rfl, ?_⟩
        refine ⟨_, eD, ?_, ?_, (List.getElem?_eq_some_iff.mp hc).1, sNew s1 hD⟩
        · rw [List.length_map, List.length_map, List.length_take]
          exact size_ok (by omega)
        · rw [upd_same, take_more hc, List.map_append, List.map_append]
          rfl
      · rintro H' ⟨eD, _, s1⟩
        rw [show (sOf z).cps.size = z.length from ez, List.take_length] at eD
        refine ⟨D, _, rfl, SqL.of eD, ?_⟩
        have e : (z.map fun c : Nat => isSg (c : Int)).all id = b := by
          rw [all_map_id]
          rcases dz with ⟨rfl, _, _, zs⟩ | ⟨rfl, h | h | ⟨_, _, c, hc, lt⟩⟩
          · rw [List.all_eq_true]
            exact zs
          · rw [h] at c1
            exact absurd c1 (by decide)
          · omega
          · rw [List.all_eq_false]
            exact ⟨c, hc, by rw [noSg lt]; decide⟩
        rw [e]
        exact k _ s1
    · obtain ⟨rfl, t, ty, kt, _⟩ := dec.ty (K := K) fun z e => st ⟨z, e⟩
      exact ⟨_, rfl, v, .ty "str", t, .type "str", false, rfl, .ty _, ty, kt, _, rfl, iteT (k _ sR)⟩
theorem ok_ipw2 {f fT fS : Addr} {fd fdT fdS : FuncData} (D : Df K mg "is_parcel_within" sIPW ["deep", "thing"] f fd) (B : Bts mg) (C : Cst mg) (DT : Df K mg "is_string" sIsStr ["thing"] fT fdT) (DS : Df K mg "is_sign" sIsSg ["number"] fS fdS) : ∀ d, FnOk P w K mg base CX0 (d + 3) f fd ["deep", "thing"] (spIPW2 d) := by
  have GT : FnOk P w K mg base CX0 2 fT fdT ["thing"] spIsStr2 := ok_isstr2 DT B C DS
  have main : ∀ d, (∀ d', d = d' + 1 → FnOk P w K mg base CX0 (d' + 3) f fd ["deep", "thing"] (spIPW2 d')) → FnOk P w K mg base CX0 (d + 3) f fd ["deep", "thing"] (spIPW2 d) := by
    intro d IH
    have IH' : FnOk P w K mg base CX0 (d + 2) f fd ["deep", "thing"] (fun vs H Q E => 0 < d ∧ spIPW2 (d - 1) vs H Q E) := by
      cases d with
      | zero => exact ⟨fun vs H Q E h => absurd h.1 (by decide), fun A outer s H args us vs Q E hr e0 hb r h => absurd h.1 (by decide)⟩
      | succ d => exact (IH d rfl).imp fun vs H Q E h => h.2
    refine D.F.ok scIPW (fun vs H Q E h => ?_) (fun cdv A outer s H vs Q E hr h => ?_)
    · obtain ⟨p, l, v, b, rfl, _⟩ := h
      rfl
    · obtain ⟨p, l, v, b, rfl, dec, k⟩ := h
      have nd := scIPW.nd
      have hr2 : Room 2 _ := hr.mono (by omega)
      refine ⟨_, pss_cons (ps_if (pt_val (pe_callB call_isi (by rfl) B.isinstance PyProof.Rows.boot_isinstance (pa_cons (pv 1) (pa_cons (pe_bltn (v := .ty "tuple") rfl B.tuple PyProof.Rows.boot_tuple rfl) pa_nil))))
          (pss_one (ps_ret (pe_and (pe_cmpR op_gt (pv 0) pe_int (nomark _)) (pe_one (pe_callB (cr_all rfl) (by rfl) B.all PyProof.Rows.boot_all (pa_cons (pe_lc (own := [("part", 2)]) (g := gName 2) (tt := tYes) rfl nd (pi_tup (pv 1))
            (blkOk_by (N := ["deep", "thing", "part"]) (sc := defScope sIPW) (by decide +kernel)) (fun _ _ _ _ _ => pg_name (i := 2) nd rfl (.inl rfl)) (fun _ _ _ _ _ => pts_nil)
            (fun _ _ _ _ _ => pe_call IH' hr rfl D.m D.k D.b .nil pass0 (pa_cons (pe_op op_sub (pv 0) pe_int) (pa_cons (pv 2) pa_nil)))) pa_nil)))))) pss_nil)
        (pss_one (ps_ret (pe_or (pe_cmp (pc_isN (pv 1)) rfl) (pe_or (pe_callB call_isi (by rfl) B.isinstance PyProof.Rows.boot_isinstance (pa_cons (pv 1) (pa_cons (pe_bltn (v := .ty "int") rfl B.int PyProof.Rows.boot_int rfl) pa_nil)))
          (pe_one (pe_call GT hr2 rfl DT.m DT.k DT.b .nil pass0 (pa_cons (pv 1) pa_nil))))))), ?_⟩
      rcases dec.cases with ⟨rfl, rfl⟩ | ⟨c, rfl, rfl⟩ | ⟨i, rfl, rfl⟩ | ds | ⟨a, xs, rfl, ha, hh⟩
      · refine ⟨_, rfl, .non, .ty "tuple", .type "NoneType", .type "tuple", false, rfl, .ty _, .base .non, kit_ty (by decide +kernel), _, rfl, iteF ?_⟩
        exact ⟨_, rfl, _, rfl, iteT (k _ sR)⟩
      · refine ⟨_, rfl, .bl c, .ty "tuple", .type "bool", .type "tuple", false, rfl, .ty _, .base (.bl _), kit_ty (by decide +kernel), _, rfl, iteF ?_⟩
        refine ⟨_, rfl, _, rfl, iteF ?_⟩
        exact ⟨_, rfl, .bl c, .ty "int", .type "bool", .type "int", true, rfl, .ty _, .base (.bl _), kit_ty (by decide +kernel), _, rfl, iteT (k _ sR)⟩
      · refine ⟨_, rfl, .int i, .ty "tuple", .type "int", .type "tuple", false, rfl, .ty _, .base (.int _), kit_ty (by decide +kernel), _, rfl, iteF ?_⟩
        refine ⟨_, rfl, _, rfl, iteF ?_⟩
        exact ⟨_, rfl, .int i, .ty "int", .type "int", .type "int", true, rfl, .ty _, .base (.int _), kit_ty (by decide +kernel), _, rfl, iteT (k _ sR)⟩
      · obtain ⟨t, ty, kt, ki, nn⟩ : ∃ t, TyX K H v t ∧ PySem.W.kitOne K t (.type "tuple") = some false ∧ PySem.W.kitOne K t (.type "int") = some false ∧ v ≠ .non := by
          by_cases st : ∃ z : List Nat, v = .str (sOf z)
          · obtain ⟨z, rfl⟩ := st
            exact ⟨_, .base (.str _), kit_ty (by decide +kernel), kit_ty (by decide +kernel), fun z => by cases z⟩
          · obtain ⟨rfl, t, ty, k1, k2, k3⟩ := ds.ty (K := K) fun z e => st ⟨z, e⟩
            refine ⟨t, ty, k2, k3, fun e => ?_⟩
            rcases ds with ⟨z, e2, _⟩ | ⟨_, a, e2, _⟩ <;> (rw [e] at e2; cases e2)
        refine ⟨_, rfl, v, .ty "tuple", t, .type "tuple", false, rfl, .ty _, ty, kt, _, rfl, iteF ?_⟩
        refine ⟨_, rfl, _, rfl, ?_⟩
        rw [decide_eq_false nn]
        refine iteF ?_
        refine ⟨_, rfl, v, .ty "int", t, .type "int", false, rfl, .ty _, ty, ki, _, rfl, iteF ?_⟩
        exact ⟨_, rfl, v, b, rfl, ds, k⟩
      · refine ⟨_, rfl, .ref a, .ty "tuple", .type "tuple", .type "tuple", true, rfl, .ty _, .base (.tup ha), kit_ty (by decide +kernel), _, rfl, iteT ?_⟩
        rcases hh with ⟨rfl, rfl⟩ | ⟨few, d', rfl, BB, hB, eB⟩
        · exact ⟨_, rfl, _, _, rfl, rfl, _, rfl, iteF (k _ sR)⟩
        refine ⟨_, rfl, _, _, rfl, rfl, _, rfl, ite2 (fun _ => ?_) (fun c => absurd (decide_eq_true (by omega)) c)⟩
        refine ⟨_, rfl, a, rfl, ⟨_, SqT.of ha⟩, fun D hD => lc_tup (K := K) (a := a) (xs := xs) (fun i H' => H' D = some (.lst (((xs.take i).map BB).map V.bl)) ∧ Same H H') ?_ ?_ ?_ ?_⟩
        · exact ⟨upd_same, sN hD⟩
        · rintro i H' hi ⟨_, s1⟩
          exact SqT.of (s1 _ _ ha)
        · rintro i x H' hx ⟨eD, s1⟩
          have hi := (List.getElem?_eq_some_iff.mp hx).1
          refine ⟨rfl, ?_⟩
          refine ⟨_, rfl, _, _, rfl, rfl, _, rfl, by omega, p, l, x, BB x, ?_, (hB x (List.mem_of_getElem? hx)).same s1, fun H2 s2 => ⟨_, s2 _ _ eD, ?_, ?_, sNew (sT s1 s2) hD⟩⟩
          · show [V.int (((d' + 1 : Nat) : Int) - 1), x] ++ [] = [V.int ((d' + 1 - 1 : Nat) : Int), x]
            rw [show (((d' + 1 : Nat) : Int) - 1) = ((d' + 1 - 1 : Nat) : Int) by omega]
            rfl
          · rw [List.length_map, List.length_map, List.length_take]
            exact size_ok (by omega)
          · rw [upd_same, take_more hx, List.map_append, List.map_append]
            rfl
        · rintro H' ⟨eD, s1⟩
          rw [List.take_length] at eD
          refine ⟨D, _, rfl, SqL.of eD, ?_⟩
          rw [all_map_id, eB]
          exact k _ s1
  intro d
  induction d with
  | zero => exact main 0 fun d' e => by omega
  | succ d ih =>
    refine main (d + 1) fun d' e => ?_
    obtain rfl : d' = d := by omega
    exact ih
theorem ok_ispar2 {f fI fT fS : Addr} {fd fdI fdT fdS : FuncData} (D : Df K mg "is_parcel" sIsPar ["thing"] f fd) (B : Bts mg) (C : Cst mg) (DI : Df K mg "is_parcel_within" sIPW ["deep", "thing"] fI fdI) (DT : Df K mg "is_string" sIsStr ["thing"] fT fdT) (DS : Df K mg "is_sign" sIsSg ["number"] fS fdS) : FnOk P w K mg base CX0 24 f fd ["thing"] spIsPar2 := by
  have GI : FnOk P w K mg base CX0 23 fI fdI ["deep", "thing"] (spIPW2 20) := ok_ipw2 DI B C DT DS 20
  obtain ⟨t1, h1⟩ := C.deep
  refine D.F.ok scIsPar (fun vs H Q E h => ?_) (fun cdv A outer s H vs Q E hr h => ?_)
  · obtain ⟨p, l, v, b, rfl, _⟩ := h
    rfl
  · obtain ⟨p, l, v, b, rfl, dec, k⟩ := h
    refine ⟨_, pss_one (ps_ret (pe_call GI hr rfl DI.m DI.k DI.b .nil pass0 (pa_cons (pe_glob (v := .int 20) rfl h1 ⟨_, rfl⟩) (pa_cons (pv 0) pa_nil)))), ?_⟩
    exact ⟨_, rfl, p, l, v, b, rfl, dec, k⟩
end
end Q

namespace Q
open PySem L2 QR
abbrev sParOf : Stmt := top 46
abbrev sLDeep : Stmt := top 69
abbrev sFlag : Stmt := top 9999
abbrev sNest : Stmt := top 70
abbrev sLIsP : Stmt := top 9999
abbrev sWord : Stmt := top 74
abbrev sRBy : Stmt := top 9999
/-- what is raised, what is caught -/
structure XTxt (P : Program) (K : PySem.W.Frag) (mg : Str → Option Value) (CE CN fN CB : Addr) : Prop where
  sup : QS.SupC P K mg CN fN "NoParcel.__init__"
  gN : mg "NoParcel" = some (.ref CN)
  gE : mg "RoundError" = some (.ref CE)
  exN : PySem.W.exmOne K (.ref CN) (.ref CE) = some true
  eN : ExcC K CN
  eB : ExcC K CB
  cN : PySem.W.isClsIn K CN = true
  cB : PySem.W.isClsIn K CB = true
  nN : PySem.W.kitOne K (.ref CN) (.ref CN) = some true
  nV : PySem.W.kitOne K (.ref CN) (.type "ValueError") = some true
  bE : PySem.W.kitOne K (.ref CB) (.ref CE) = some true
  bV : PySem.W.kitOne K (.ref CB) (.type "ValueError") = some true
  noV : mg "ValueError" = none
def spRowX (CN : Addr) : Sp := fun vs H Q E => ∃ (p l : Addr) (v : V) (b : Bool), vs = [v] ∧ Dec p l H 20 v b ∧ (∀ t, b = true → Rep H 20 t v → OkT 20 t → (enc 20 t).length ≤ 8000 ∧ ∀ q H', Same H H' → RowAt H' q (enc 20 t) → Q (.ref q) H') ∧ (b = false → ∀ H', Same H H' → E (.ref CN) none H')
def spWd (CN : Addr) : Sp := fun vs H Q E => ∃ (p l : Addr) (v : V) (b : Bool), vs = [v] ∧ Dec p l H 20 v b ∧ (∀ t, b = true → Rep H 20 t v → OkT 20 t → (enc 20 t).length ≤ 8000) ∧ (b = true → ∀ u H', Same H H' → Q u H') ∧ (b = false → ∀ H', Same H H' → E (.ref CN) none H')
def wordS (b : Bool) : Str := if b then "let" else "parcel"
def spWord : Sp := fun vs H Q _ => ∃ (p l : Addr) (n : Int) (v : V) (b : Bool), vs = [.int n, v] ∧ Dec p l H 20 v b ∧ (∀ t, b = true → Rep H 20 t v → OkT 20 t → (enc 20 t).length ≤ 8000) ∧ ∀ H', Same H H' → Q (.str (wordS b)) H'
def spLIsP (d : Nat) : Sp := fun vs H Q _ => ∃ (p l : Addr) (v : V) (b : Bool), vs = [v, .int (d : Int)] ∧ Dec p l H d v b ∧ ∀ H', Same H H' → Q (.bl b) H'
def spFlag : Sp := fun vs H Q _ => ∃ b c : Bool, vs = [.bl b, .bl c] ∧ Q (.bl (decide (b = c))) H
/-- a tuple within tuples -/
def nestAt (H : Hp) (x : V) : Nat → V → Prop
  | 0, v => v = x
  | n + 1, v => ∃ a u, v = .ref a ∧ H a = some (.tup [u]) ∧ nestAt H x n u
theorem nestAt.same {H H' : Hp} {x : V} (s : Same H H') : ∀ {n : Nat} {v : V}, nestAt H x n v → nestAt H' x n v
  | 0, v, h => h
  | n + 1, v, ⟨a, u, e, h, g⟩ => ⟨a, u, e, s _ _ h, nestAt.same s g⟩
def spNest : Sp := fun vs H Q _ => ∃ (n : Nat) (x : V), vs = [.int (n : Int), x] ∧ n ≤ 1000 ∧ ∀ v H', Same H H' → nestAt H' x n v → Q v H'
def spLDeep : Sp := fun vs H Q _ => vs = [] ∧ ∀ a xs H', Same H H' → H' a = some (.lst xs) → H a = none → Q (.ref a) H'
def spRBy : Sp := fun vs H Q _ => ∃ (q : Addr) (bs : List Int), vs = [.ref q] ∧ RowAt H q bs ∧ (∀ t h v a H', rdAll bs = .ok t h → Same H H' → H' a = some (.tup [v]) → Rep H' 20 t v → Q (.ref a) H') ∧ ∀ p H', rdAll bs = .no p → Same H H' → Q (.int (p : Int)) H'
section
variable {P : Program} {w : World} {K : PySem.W.Frag} {mg : Str → Option Value} {base : Heap}
theorem ok_rowX {f fP fI fT fS fV fW CE CN fN CB : Addr} {fd fdP fdI fdT fdS fdV fdW : FuncData} (D : Df K mg "row_of" sRowOf ["parcel"] f fd) (B : Bts mg) (C : Cst mg) (BA : Bare K mg) (XT : XTxt P K mg CE CN fN CB) (DP : Df K mg "is_parcel" sIsPar ["thing"] fP fdP) (DI : Df K mg "is_parcel_within" sIPW ["deep", "thing"] fI fdI) (DT : Df K mg "is_string" sIsStr ["thing"] fT fdT) (DS : Df K mg "is_sign" sIsSg ["number"] fS fdS)
    (DV : Df K mg "write_parcel" sWP ["row", "parcel"] fV fdV) (DW : Df K mg "write_whole" sWW ["row", "number"] fW fdW) : FnOk P w K mg base (L2.CX P w) 25 f fd ["parcel"] (spRowX CN) := by
  have GP : FnOk P w K mg base CX0 24 fP fdP ["thing"] spIsPar2 := ok_ispar2 DP B C DI DT DS
  have GV : FnOk P w K mg base CX0 22 fV fdV ["row", "parcel"] (spWP 20) := ok_wp DV B C BA DW 20
  refine D.F.okX scRowOf (fun vs H Q E h => ?_) (fun cdv A outer s H vs Q E hr h => ?_)
  · obtain ⟨p, l, v, b, rfl, _⟩ := h
    rfl
  · obtain ⟨p, lp, v, b, rfl, dec, k1, k2⟩ := h
    have nd := scRowOf.nd
    have hr2 : Room 22 _ := hr.mono (by decide)
    refine ⟨_, pss_cons (ps_if (pt_not (pt_val (pe_call GP hr rfl DP.m DP.k DP.b .nil pass0 (pa_cons (pv 0) pa_nil)))) (pss_one (ps_raise rfl (takes_of rfl rfl rfl rfl) (QS.pmk_sup XT.sup hr rfl XT.gN))) pss_nil)
      (pss_cons (ps_set (i := 1) nd rfl (.inl rfl) (pe_lst pa_nil))
      (pss_cons (ps_expr (pe_call GV hr2 rfl DV.m DV.k DV.b .nil pass0 (pa_cons (pv 1) (pa_cons (pv 0) pa_nil))))
      (pss_one (ps_ret (pe_callTy call_tuple_of (by rfl) B.tuple PyProof.Rows.boot_tuple (pa_cons (pv 1) pa_nil)))))), ?_⟩
    refine ⟨_, rfl, p, lp, v, b, rfl, dec, fun H1 s1 => ⟨_, rfl, ?_⟩⟩
    cases b with
    | false => exact iteT (k2 rfl H1 s1)
    | true =>
      obtain ⟨t, rep, ok⟩ : PG H 20 v := dec.elim (fun h => h.2) (fun h => nomatch h.1)
      obtain ⟨few, k⟩ := k1 t rfl rep ok
      refine iteF ?_
      refine ⟨Nat.zero_le _, fun l hl => ?_⟩
      have s2 := sT s1 (sN (o := .lst []) hl)
      refine ⟨_, rfl, _, rfl, l, t, v, [], rfl, upd_same, rep.same s2, ok, by rw [List.length_nil]; omega, fun H3 b3 e3 => ?_⟩
      rw [List.nil_append] at e3
      have s3 : Same H H3 := fun b o e => b3 b o (s2 b o e) (ne_of_none e (sNo s1 hl))
      refine ⟨_, rfl, l, _, rfl, .inl ⟨SqL.of e3, fun q hq => k q _ (sT s3 (sN hq)) ⟨upd_same, enc_b ok, by omega⟩⟩⟩
theorem ok_sealX {f fR fS fM CN : Addr} {fd fdR fdS fdM : FuncData} (D : Df K mg "sealed" sSealed ["parcel"] f fd) (B : Bts mg) (C : Cst mg) (DR : Df K mg "row_of" sRowOf ["parcel"] fR fdR) (GR : FnOk P w K mg base (L2.CX P w) 25 fR fdR ["parcel"] (spRowX CN)) (DS : Df K mg "seal_of" sSeal ["row"] fS fdS) (DM : Df K mg "mark_of" sMkOf ["row"] fM fdM) : FnOk P w K mg base (L2.CX P w) 26 f fd ["parcel"] (spWd CN) := by
  have GS : FnOk P w K mg base CX0 2 fS fdS ["row"] spSeal := ok_seal DS B C DM
  refine D.F.okX scSealed (fun vs H Q E h => ?_) (fun cdv A outer s H vs Q E hr h => ?_)
  · obtain ⟨p, l, v, b, rfl, _⟩ := h
    rfl
  · obtain ⟨p, l, v, b, rfl, dec, fw, k1, k2⟩ := h
    have nd := scSealed.nd
    have hr2 : Room 2 _ := hr.mono (by decide)
    refine ⟨_, pss_cons (ps_set (i := 1) nd rfl (.inl rfl) (pe_call GR hr rfl DR.m DR.k DR.b .nil (passes_call (takes_of rfl rfl rfl rfl) fun _ _ _ _ h => h) (pa_cons (pv 0) pa_nil)))
      (pss_one (ps_ret (pe_op op_catS (pv 1) (pe_call GS hr2 rfl DS.m DS.k DS.b .nil pass0 (pa_cons (pv 1) pa_nil))))), ?_⟩
    refine ⟨_, rfl, p, l, v, b, rfl, dec, fun t eb rep ok => ⟨fw t eb rep ok, fun q H1 s1 hq => ?_⟩, k2⟩
    have few := fw t eb rep ok
    refine ⟨_, rfl, _, rfl, q, _, rfl, hq.at_, fun z H2 s2 hz => ⟨q, z, _, _, rfl, rfl, s2 _ _ hq.at_, hz, ?_, fun y H3 s3 hy => ?_⟩⟩
    · rw [List.length_map, List.length_map]
      exact Nat.le_of_lt (size_ok (by show _ + 4 ≤ _; omega))
    · exact k1 eb _ H3 (sT s1 (sT s2 s3))
theorem scParOf : FnScope ["row"] ["row"] (defScope sParOf) := ⟨rfl, rfl, rfl, by decide +kernel, rfl, by decide +kernel, by decide +kernel⟩
theorem ok_parof {f CB fR fA : Addr} {fd dR dA : FuncData} (D : Df K mg "parcel_of" sParOf ["row"] f fd) (DR : Df K mg "is_row" sIsRow ["thing"] fR dR) (GR : FnOk P w K mg base CX0 3 fR dR ["thing"] (spIsRow K)) (DA : Df K mg "read_whole_row" sRAll ["row"] fA dA) (GA : FnOk P w K mg base (L2.CX P w) 46 fA dA ["row"] (spRAll CB)) : FnOk P w K mg base (L2.CX P w) 47 f fd ["row"] (spRAll CB) := by
  refine D.F.okX scParOf (fun vs H Q E h => ?_) (fun cdv A outer s H vs Q E hr h => ?_)
  · obtain ⟨q, bs, rfl, _⟩ := h
    rfl
  · obtain ⟨q, bs, rfl, hq, k1, k2⟩ := h
    have hr3 : Room 3 _ := hr.mono (by decide)
    refine ⟨_, pss_cons (ps_if (pt_not (pt_val (pe_call GR hr3 rfl DR.m DR.k DR.b .nil pass0 (pa_cons (pv 0) pa_nil)))) pss_never pss_nil)
      (pss_one (ps_ret (pe_call GA hr rfl DA.m DA.k DA.b .nil (passes_call (takes_of rfl rfl rfl rfl) fun _ _ _ _ h => h) (pa_cons (pv 0) pa_nil)))), ?_⟩
    refine ⟨_, rfl, .ref q, rfl, .inl ⟨q, _, rfl, hq.at_, by rw [List.length_map]; exact hq.few, sc_ints bs, fun H1 s1 => ?_⟩⟩
    rw [all_isB hq.b]
    refine ⟨_, rfl, iteF ⟨_, rfl, q, bs, rfl, hq.same s1, fun t h v H' e s r => k1 t h v H' e (sT s1 s) r, fun p d H' e s ed => k2 p d H' e (sT s1 s) ed⟩⟩
theorem scLDeep : FnScope ["thing", "turn"] [] (defScope sLDeep) := ⟨rfl, rfl, rfl, by decide +kernel, rfl, by decide +kernel, by decide +kernel⟩
theorem ok_ldeep {f : Addr} {fd : FuncData} (D : Df K mg "_law_deep" sLDeep [] f fd) (B : Bts mg) : FnOk P w K mg base CX0 1 f fd [] spLDeep := by
  refine D.F.ok scLDeep (fun vs H Q E h => ?_) (fun cdv A outer s H vs Q E hr h => ?_)
  · obtain ⟨rfl, _⟩ := h
    rfl
  · obtain ⟨rfl, k⟩ := h
    have nd := scLDeep.nd
    refine ⟨_, pss_cons (ps_set (i := 0) nd rfl (.inl rfl) (pe_lst (pa_cons pe_non pa_nil)))
      (pss_cons (ps_for PassesOwn.never rfl (pi_range1 rfl B.range (pa_cons pe_int pa_nil)) (pg_name (i := 1) nd rfl (.inl rfl)) (pss_one (ps_set (i := 0) nd rfl (.inl rfl) (pe_lst (pa_cons (pv 0) pa_nil)))))
      (pss_one (ps_ret (pv 0)))), ?_⟩
    refine ⟨(by show 1 ≤ sizeLine; decide), fun a ha => ?_⟩
    refine ⟨35, rfl, by decide, by decide, for_range (lo := 0) (n := 35) (fun i σ H' => ∃ (b : Addr) (xs : List V) (x1 : Option V), σ = [some (.ref b), x1] ∧ H' b = some (.lst xs) ∧ H b = none ∧ Same H H') ?_ ?_ ?_⟩
    · exact ⟨a, _, none, rfl, upd_same, ha, sN ha⟩
    · rintro i σ H' hi ⟨b, xs, x1, rfl, e, n, s1⟩
      exact ⟨_, rfl, (by show 1 ≤ sizeLine; decide), fun c hc => ⟨c, _, _, rfl, upd_same, sNo s1 hc, sT s1 (sN hc)⟩⟩
    · rintro σ H' ⟨b, xs, x1, rfl, e, n, s1⟩
      exact ⟨_, rfl, k b xs H' s1 e n⟩
theorem scNest : FnScope ["many", "inner", "found", "turn"] ["many", "inner"] (defScope sNest) := ⟨rfl, rfl, rfl, by decide +kernel, rfl, by decide +kernel, by decide +kernel⟩
theorem ok_nest {f : Addr} {fd : FuncData} (D : Df K mg "_law_nested" sNest ["many", "inner"] f fd) (B : Bts mg) : FnOk P w K mg base CX0 1 f fd ["many", "inner"] spNest := by
  refine D.F.ok scNest (fun vs H Q E h => ?_) (fun cdv A outer s H vs Q E hr h => ?_)
  · obtain ⟨n, x, rfl, _⟩ := h
    rfl
  · obtain ⟨n, x, rfl, hn, k⟩ := h
    have nd := scNest.nd
    refine ⟨_, pss_cons (ps_set (i := 2) nd rfl (.inl rfl) (pv 1))
      (pss_cons (ps_for PassesOwn.never rfl (pi_range1 rfl B.range (pa_cons (pv 0) pa_nil)) (pg_name (i := 3) nd rfl (.inl rfl)) (pss_one (ps_set (i := 2) nd rfl (.inl rfl) (pe_tup (pa_cons (pv 2) pa_nil)))))
      (pss_one (ps_ret (pv 2)))), ?_⟩
    refine ⟨_, rfl, ?_⟩
    refine ⟨_, rfl, n, rfl, by omega, by omega, for_range (lo := 0) (n := n) (fun i σ H' => ∃ (v : V) (x1 : Option V), σ = [some (.int n), some x, some v, x1] ∧ nestAt H' x i v ∧ Same H H') ?_ ?_ ?_⟩
    · exact ⟨x, none, rfl, rfl, sR⟩
    · rintro i σ H' hi ⟨v, x1, rfl, e, s1⟩
      exact ⟨_, rfl, (by show 1 ≤ sizeLine; decide), fun c hc => ⟨_, _, rfl, ⟨c, v, rfl, upd_same, e.same (sN hc)⟩, sT s1 (sN hc)⟩⟩
    · rintro σ H' ⟨v, x1, rfl, e, s1⟩
      exact ⟨_, rfl, k v H' s1 e⟩
theorem le_sg (c : Nat) : (!decide ((sOf [c]).cps.toList < (" " : Str).cps.toList)) = decide (32 ≤ c) := by
  show (!decide ([c] < [32])) = _
  by_cases h : 32 ≤ c
  · rw [decide_eq_true h, decide_eq_false]
    · rfl
    · intro z
      cases z with
      | rel h => exact absurd h (by omega)
      | cons h => cases h
  · rw [decide_eq_false h, decide_eq_true]
    · rfl
    · exact .rel (by omega)
theorem le_tl (c : Nat) : (!decide (("~" : Str).cps.toList < (sOf [c]).cps.toList)) = decide (c ≤ 126) := by
  show (!decide ([126] < [c])) = _
  by_cases h : c ≤ 126
  · rw [decide_eq_true h, decide_eq_false]
    · rfl
    · intro z
      cases z with
      | rel h => exact absurd h (by omega)
      | cons h => cases h
  · rw [decide_eq_false h, decide_eq_true]
    · rfl
    · exact .rel (by omega)
def lsg (c : Nat) : Bool := decide (32 ≤ c) && decide (c ≤ 126)
theorem place_look (y : V) : List.lookup ("place" : Str) ([(("place" : Str), y)] : List (Str × V)) = some y := by
  show (match (("place" : Str) == ("place" : Str)) with | true => some y | false => List.lookup ("place" : Str) []) = some y
  rw [show (("place" : Str) == ("place" : Str)) = true by decide]
end
end Q

namespace Q
open PySem L2 QR
abbrev sSpoil : Stmt := top 9999
abbrev sRight : Stmt := top 9999
abbrev sFirst : Stmt := top 66
abbrev sSecond : Stmt := top 77
/-! "a" * n -/
theorem int_rmul_str (a : Int) (t : Tok) (z : Str) (u : Tok) : Gives (Builtin.«int.__rmul__» { pos := [.int a t, .str z u] }) (.val .notImplemented) := .of_wp fun M A E s Q q => by
  have f1 := AutoSeq1.idx_int
  unfold Builtin.«int.__rmul__»
  wp_walk
  exact ⟨_, rfl, q⟩
theorem op_repS {X : Cx} : OpR X (binaryOp .Mult) (fun x y H Q => ∃ (k : Int), x = .str "a" ∧ y = .int k ∧ (k = 20 ∨ k = 21) ∧ Q (.str (sOf (List.replicate k.toNat 97))) H) := by
  intro pins s σ H x y v u Q I rx ry h
  obtain ⟨k, rfl, rfl, hk, q⟩ := h
  obtain ⟨t, rfl⟩ := rx
  obtain ⟨r, rfl⟩ := ry
  refine wpAny_binaryOp_repeat (T := "str") (U := "int") (by decide) (fun s' => typeIs_str s' _ t) (fun s' => typeIs_int s' k r) noFill_str_mul F.fills_int_mul F.slot_int_rmul repeat_str F.slot_int_index.lookup ?_
  refine call_gives F.slot_int_rmul (typeIs_int s k r) F.entry_int_rmul (F.args_int_rmul_2 _ _) (int_rmul_str k r _ t) ?_
  refine ⟨rfl, ?_⟩
  rcases hk with rfl | rfl
  · refine call_gives F.slot_str_mul (typeIs_str s _ t) F.entry_str_mul (F.args_str_mul_2 _ _) (gives_str_mul ("a") 20 t r (by decide) (fun _ _ => by decide) (fun _ _ => by decide)) ?_
    rw [if_neg (by decide), if_neg (by decide)]
    exact ⟨by decide, .str (sOf (List.replicate 20 97)), H, I.tok _, ⟨_, rfl⟩, q⟩
  · refine call_gives F.slot_str_mul (typeIs_str s _ t) F.entry_str_mul (F.args_str_mul_2 _ _) (gives_str_mul ("a") 21 t r (by decide) (fun _ _ => by decide) (fun _ _ => by decide)) ?_
    rw [if_neg (by decide), if_neg (by decide)]
    exact ⟨by decide, .str (sOf (List.replicate 21 97)), H, I.tok _, ⟨_, rfl⟩, q⟩
/-- a call that never raises, of what may -/
theorem passF {P : Program} {w : World} {X : Cx} : Passes (L2.CX P w) X (fun _ _ _ => False) := fun pins σ H s e s' I h => by
  obtain ⟨_, _, _, _, _, _, _, _, _, _, _, _, hF⟩ := h
  exact hF.elim
/-! one tree stands at a place -/
theorem sOf_inj {z y : List Nat} (e : sOf z = sOf y) : z = y := by
  have e2 : z.toArray = y.toArray := congrArg Str.cps e
  have := congrArg Array.toList e2
  simpa using this
theorem rep_eq {H : Hp} : ∀ {d : Nat} {t t' : T} {v : V}, Rep H d t v → Rep H d t' v → t = t' := by
  have key : ∀ d, (∀ d', d = d' + 1 → ∀ t t' v, Rep H d' t v → Rep H d' t' v → t = t') → ∀ t t' v, Rep H d t v → Rep H d t' v → t = t' := by
    intro d IH t t' v r r'
    rcases r.cases with ⟨rfl, rfl⟩ | ⟨b, rfl, rfl⟩ | ⟨i, rfl, rfl⟩ | ⟨z, rfl, rfl, _⟩ | ⟨d1, l, a, xs, e1, rfl, rfl, ha, hl, _, hk⟩
    all_goals rcases r'.cases with ⟨rfl, e⟩ | ⟨b', rfl, e⟩ | ⟨i', rfl, e⟩ | ⟨z', rfl, e, _⟩ | ⟨d2, l', a', xs', e2, rfl, e, ha', hl', _, hk'⟩
    all_goals first
      | rfl
      | (cases V.bl.inj e; rfl)
      | (cases V.int.inj e; rfl)
      | (cases sOf_inj (V.str.inj e); rfl)
      | (exact V.noConfusion e)
      | skip
    cases V.ref.inj e
    rw [ha] at ha'
    cases ha'
    obtain rfl : d1 = d2 := by omega
    refine congrArg T.tup (List.ext_getElem? fun i => ?_)
    by_cases h : i < l.length
    · have hx : xs[i]? = some (xs[i]'(by omega)) := List.getElem?_eq_getElem (by omega)
      have h1 : l[i]? = some (l[i]'h) := List.getElem?_eq_getElem h
      have h2 : l'[i]? = some (l'[i]'(by omega)) := List.getElem?_eq_getElem (by omega)
      rw [h1, h2, IH d1 e1 _ _ _ (hk i _ _ hx h1) (hk' i _ _ hx h2)]
    · rw [List.getElem?_eq_none (by omega), List.getElem?_eq_none (by omega)]
  intro d
  induction d with
  | zero =>
    intro t t' v
    exact key 0 (fun d' e => by omega) t t' v
  | succ d ih =>
    intro t t' v
    refine key (d + 1) (fun d' e t t' v => ?_) t t' v
    obtain rfl : d' = d := by omega
    exact ih
theorem reps_of {H : Hp} {d : Nat} : ∀ {xs : List V}, (∀ x ∈ xs, PG H d x) → ∃ ts : List QR.T, xs.length = ts.length ∧ (∀ (i : Nat) (x : V) (t : QR.T), xs[i]? = some x → ts[i]? = some t → Rep H d t x) ∧ ∀ t ∈ ts, OkT d t
  | [], _ => ⟨[], rfl, fun i x t hx => by simp at hx, fun t ht => by simp at ht⟩
  | x :: xs, h => by
    obtain ⟨ts, l, r, o⟩ := reps_of (xs := xs) fun y hy => h y (List.mem_cons_of_mem _ hy)
    obtain ⟨t, rt, ot⟩ := h x List.mem_cons_self
    refine ⟨t :: ts, by rw [List.length_cons, List.length_cons, l], fun i y u hy hu => ?_, fun u hu => ?_⟩
    · cases i with
      | zero =>
        cases hy
        cases hu
        exact rt
      | succ i => exact r i y u hy hu
    · rcases List.mem_cons.mp hu with rfl | hu
      · exact ot
      · exact o u hu
theorem pg_tup' {H : Hp} {d : Nat} {a : Addr} {xs : List V} (ha : H a = some (.tup xs)) (few : xs.length ≤ 9000) (h : ∀ x ∈ xs, PG H d x) : PG H (d + 1) (.ref a) := by
  obtain ⟨ts, l, r, o⟩ := reps_of h
  exact ⟨.tup ts, ⟨a, xs, rfl, ha, l, few, r⟩, o⟩
theorem mem_at {α : Type} {xs : List α} {x : α} (h : x ∈ xs) : ∃ i : Nat, xs[i]? = some x := List.mem_iff_getElem?.mp h
/-- one less deep -/
theorem dn {p l : Addr} {H : Hp} : ∀ d, (∀ v, PG H (d + 1) v → PG H d v ∨ BadU p l H d v) ∧ ∀ v, BadU p l H (d + 1) v → BadU p l H d v := by
  have key : ∀ d, (∀ d', d = d' + 1 → (∀ v, PG H (d' + 1) v → PG H d' v ∨ BadU p l H d' v) ∧ ∀ v, BadU p l H (d' + 1) v → BadU p l H d' v) → (∀ v, PG H (d + 1) v → PG H d v ∨ BadU p l H d v) ∧ ∀ v, BadU p l H (d + 1) v → BadU p l H d v := by
    intro d IH
    refine ⟨fun v h => ?_, fun v h => ?_⟩
    · obtain ⟨t, rep, ok⟩ := h
      rcases rep.cases with ⟨rfl, rfl⟩ | ⟨b, rfl, rfl⟩ | ⟨i, rfl, rfl⟩ | ⟨z, rfl, rfl, zl⟩ | ⟨d1, ls, a, xs, e1, rfl, rfl, ha, hl, few, hk⟩
      · exact .inl ⟨.non, Rep.atom (t := .non) rfl, okT_at (t := .non) trivial⟩
      · exact .inl ⟨.bl b, Rep.atom (t := .bl b) rfl, okT_at (t := .bl b) trivial⟩
      · exact .inl ⟨.int i, Rep.atom (t := .int i) rfl, okT_at (t := .int i) trivial⟩
      · exact .inl ⟨.str z, Rep.atom (t := .str z) ⟨rfl, zl⟩, okT_at (okT_atom ok)⟩
      · obtain rfl : d = d1 := by omega
        have okl : ∀ t ∈ ls, OkT d t := ok
        have items : ∀ x ∈ xs, PG H d x := fun x hx => by
          obtain ⟨i, hi⟩ := mem_at hx
          have hil := (List.getElem?_eq_some_iff.mp hi).1
          have ht : ls[i]? = some (ls[i]'(by omega)) := List.getElem?_eq_getElem (by omega)
          exact ⟨_, hk i x _ hi ht, okl _ (List.mem_of_getElem? ht)⟩
        cases d with
        | zero => exact .inr (.inr ⟨a, xs, rfl, ha⟩)
        | succ d =>
          obtain ⟨i1, i2⟩ := IH d rfl
          by_cases al : ∀ x ∈ xs, PG H d x
          · exact .inl (pg_tup' ha few al)
          · obtain ⟨x, hx⟩ := Classical.not_forall.mp al
            obtain ⟨hx, nx⟩ := Classical.not_imp.mp hx
            exact .inr (.inr ⟨a, xs, rfl, ha, few, fun y hy => i1 y (items y hy), x, hx, (i1 x (items x hx)).elim (fun g => absurd g nx) id⟩)
    · rcases h with h | ⟨a, xs, e, h, n, al, x, hx, b⟩
      · exact .atom h
      · cases d with
        | zero => exact .inr ⟨a, xs, e, h⟩
        | succ d =>
          obtain ⟨i1, i2⟩ := IH d rfl
          exact .inr ⟨a, xs, e, h, n, fun y hy => (al y hy).elim (i1 y) (fun b => .inr (i2 y b)), x, hx, i2 x b⟩
  intro d
  induction d with
  | zero => exact key 0 fun d' e => by omega
  | succ d ih =>
    refine key (d + 1) fun d' e => ?_
    obtain rfl : d' = d := by omega
    exact ih
theorem no_badA {p l : Addr} {H : Hp} {d : Nat} {t : T} {v : V} (r : Rep H d t v) (o : OkT d t) (b : BadA p l H v) : False := by
  rcases b with ⟨a, rfl, h, _⟩ | ⟨z, rfl, n, bz⟩
  · rcases r.cases with ⟨_, e⟩ | ⟨_, _, e⟩ | ⟨_, _, e⟩ | ⟨_, _, e, _⟩ | ⟨d', ls, a', xs', e, rfl, e2, ha, hl, few, hk⟩
    · cases e
    · cases e
    · cases e
    · cases e
    · cases V.ref.inj e2
      rcases h with ⟨xs, h⟩ | h <;> (rw [h] at ha; cases ha)
  · rcases r.cases with ⟨_, e⟩ | ⟨_, _, e⟩ | ⟨_, _, e⟩ | ⟨y, rfl, e, _⟩ | ⟨d', ls, a', xs', e, rfl, e2, ha, hl, few, hk⟩
    · cases e
    · cases e
    · cases e
    · cases sOf_inj (V.str.inj e)
      obtain ⟨o1, o2, o3⟩ := okT_atom o
      rcases bz with h | h | ⟨_, _, c, hc, lt⟩
      · rw [h] at o1
        exact absurd o1 (by decide)
      · omega
      · have := (sg_b (o3 c hc)).1
        omega
    · cases e2
/-- not both -/
theorem no_bad {p l : Addr} {H : Hp} : ∀ {d : Nat} {t : T} {v : V}, Rep H d t v → OkT d t → BadU p l H d v → False
  | 0, t, v, r, o, b => by
    have at_ : BadA p l H v → False := fun h => no_badA r o h
    rcases b with h | ⟨a, xs, rfl, h⟩
    · exact at_ h
    · rcases r.cases with ⟨_, e⟩ | ⟨_, _, e⟩ | ⟨_, _, e⟩ | ⟨_, _, e, _⟩ | ⟨_, _, _, _, e, _⟩ <;> cases e
  | d + 1, t, v, r, o, b => by
    rcases b with h | ⟨a, xs, rfl, h, n, al, x, hx, bx⟩
    · exact no_badA r o h
    · rcases r.cases with ⟨_, e⟩ | ⟨_, _, e⟩ | ⟨_, _, e⟩ | ⟨_, _, e, _⟩ | ⟨d', ls, a', xs', e, rfl, e2, ha, hl, few, hk⟩
      · cases e
      · cases e
      · cases e
      · cases e
      · cases V.ref.inj e2
        rw [h] at ha
        cases ha
        obtain rfl : d = d' := by omega
        have okl : ∀ t ∈ ls, OkT d t := o
        obtain ⟨i, hi⟩ := mem_at hx
        have hil := (List.getElem?_eq_some_iff.mp hi).1
        have ht : ls[i]? = some (ls[i]'(by omega)) := List.getElem?_eq_getElem (by omega)
        exact no_bad (hk i x _ hi ht) (okl _ (List.mem_of_getElem? ht)) bx
def Sz (H : Hp) (v : V) (n : Nat) : Prop := ∀ t, Rep H 20 t v → OkT 20 t → (enc 20 t).length ≤ n
theorem Sz.of {H : Hp} {v : V} {n : Nat} {t : T} (r : Rep H 20 t v) (h : (enc 20 t).length ≤ n) : Sz H v n := fun t' r' _ => by
  rw [rep_eq r' r]
  exact h
/-- it is told whether it is a parcel, and one of few bytes -/
def DecZ (p l : Addr) (H : Hp) (v : V) (n : Nat) : Prop := ∃ b, Dec p l H 20 v b ∧ (b = true → Sz H v n)
theorem DecZ.fm {p l : Addr} {H H' : Hp} {v : V} {n : Nat} (f : Fm p l H H') (h : DecZ p l H v n) : DecZ p l H' v n := by
  obtain ⟨b, dec, s⟩ := h
  refine ⟨b, dec.fm f, fun e => ?_⟩
  rcases dec with ⟨_, t, rep, ok⟩ | ⟨e2, _⟩
  · exact .of (rep.tk f.tk) (s e t rep ok)
  · rw [e] at e2
    cases e2
theorem DecZ.good {p l : Addr} {H : Hp} {v : V} {n : Nat} {t : T} (r : Rep H 20 t v) (ok : OkT 20 t) (h : (enc 20 t).length ≤ n) : DecZ p l H v n := ⟨true, .inl ⟨rfl, t, r, ok⟩, fun _ => .of r h⟩
theorem DecZ.bad {p l : Addr} {H : Hp} {v : V} {n : Nat} (h : BadU p l H 20 v) : DecZ p l H v n := ⟨false, .inr ⟨rfl, h⟩, fun e => nomatch e⟩
theorem DecZ.up {p l : Addr} {H : Hp} {v : V} {n m : Nat} (h : DecZ p l H v n) (le : n ≤ m) : DecZ p l H v m := by
  obtain ⟨b, dec, s⟩ := h
  exact ⟨b, dec, fun e t r o => Nat.le_trans (s e t r o) le⟩
/-- a pair -/
theorem DecZ.pair {p l c : Addr} {H : Hp} {x y : V} {n m : Nat} (hc : H c = some (.tup [x, y])) (hx : DecZ p l H x n) (hy : DecZ p l H y m) : DecZ p l H (.ref c) (n + m + 2) := by
  have d19 : ∀ {v : V} {k : Nat}, DecZ p l H v k → PG H 19 v ∨ BadU p l H 19 v := fun h => by
    obtain ⟨b, dec, _⟩ := h
    rcases dec with ⟨_, g⟩ | ⟨_, g⟩
    · exact (dn 19).1 _ g
    · exact .inr ((dn 19).2 _ g)
  by_cases al : ∀ z ∈ [x, y], PG H 19 z
  · have px := al x List.mem_cons_self
    have py := al y (List.mem_cons_of_mem _ List.mem_cons_self)
    obtain ⟨t1, r1, o1⟩ := px
    obtain ⟨t2, r2, o2⟩ := py
    have sz : ∀ {v : V} {k : Nat} {t : T}, DecZ p l H v k → Rep H 19 t v → OkT 19 t → (enc 19 t).length ≤ k := fun {v k t} h r o => by
      obtain ⟨b, dec, s⟩ := h
      have e := (o.up 1).2
      rw [← e]
      rcases dec with ⟨rfl, _⟩ | ⟨_, g⟩
      · exact s rfl t r.more (o.up 1).1
      · exact absurd g (fun g => no_bad (r.more) (o.up 1).1 g)
    refine .good (t := .tup [t1, t2]) ⟨c, [x, y], rfl, hc, rfl, (by show 2 ≤ 9000; decide), fun i z t hz ht => ?_⟩ (fun t ht => ?_) ?_
    · match i with
      | 0 => cases hz; cases ht; exact r1
      | 1 => cases hz; cases ht; exact r2
      | i + 2 => simp at hz
    · simp only [List.mem_cons, List.not_mem_nil, or_false] at ht
      rcases ht with rfl | rfl
      · exact o1
      · exact o2
    · have s1 := sz hx r1 o1
      have s2 := sz hy r2 o2
      show (6 :: (vlq 2 ++ [enc 19 t1, enc 19 t2].flatten)).length ≤ _
      rw [List.length_cons, List.length_append, vlq_lt (by decide)]
      simp only [List.flatten_cons, List.flatten_nil, List.length_append, List.length_nil, List.length_cons]
      omega
  · obtain ⟨z, hz⟩ := Classical.not_forall.mp al
    obtain ⟨hz, nz⟩ := Classical.not_imp.mp hz
    have each : ∀ z ∈ [x, y], PG H 19 z ∨ BadU p l H 19 z := fun z hz => by
      simp only [List.mem_cons, List.not_mem_nil, or_false] at hz
      rcases hz with rfl | rfl
      · exact d19 hx
      · exact d19 hy
    exact .bad (.inr ⟨c, [x, y], rfl, hc, (by show 2 ≤ 9000; decide), each, z, hz, (each z hz).elim (fun g => absurd g nz) id⟩)
end Q

namespace Q
open PySem L2 QR
theorem nest_rep {H : Hp} {x : V} {d : Nat} {t : T} (r : Rep H d t x) (o : OkT d t) : ∀ {n : Nat} {v : V}, nestAt H x n v → ∃ t', Rep H (d + n) t' v ∧ OkT (d + n) t' ∧ (enc (d + n) t').length = (enc d t).length + 2 * n
  | 0, v, h => by
    obtain rfl : v = x := h
    exact ⟨t, r, o, rfl⟩
  | n + 1, v, h => by
    obtain ⟨a, u, rfl, ha, g⟩ := h
    obtain ⟨t', r', o', e'⟩ := nest_rep r o g
    refine ⟨.tup [t'], rep_one ha r', fun y hy => by rw [List.mem_singleton.mp hy]; exact o', ?_⟩
    show (6 :: (vlq 1 ++ [enc (d + n) t'].flatten)).length = _
    rw [List.length_cons, List.length_append, vlq_lt (by decide)]
    simp only [List.flatten_cons, List.flatten_nil, List.length_append, List.length_nil, List.length_cons]
    omega
theorem nest_bad {p l : Addr} {H : Hp} {x : V} {d : Nat} (b : BadU p l H d x) : ∀ {n : Nat} {v : V}, nestAt H x n v → BadU p l H (d + n) v
  | 0, v, h => by
    obtain rfl : v = x := h
    exact b
  | n + 1, v, h => by
    obtain ⟨a, u, rfl, ha, g⟩ := h
    have ih := nest_bad b g
    exact .inr ⟨a, [u], rfl, ha, (by show 1 ≤ 9000; decide), fun y hy => .inr (by rw [List.mem_singleton.mp hy]; exact ih), u, List.mem_cons_self, ih⟩
/-- more than so many -/
theorem nest_deep {p l : Addr} {H : Hp} {x : V} : ∀ {d n : Nat} {v : V}, d < n → nestAt H x n v → BadU p l H d v
  | d, 0, v, h, _ => absurd h (Nat.not_lt_zero _)
  | 0, n + 1, v, h, g => by
    obtain ⟨a, u, rfl, ha, g⟩ := g
    exact .inr ⟨a, _, rfl, ha⟩
  | d + 1, n + 1, v, h, g => by
    obtain ⟨a, u, rfl, ha, g⟩ := g
    have ih : BadU p l H d u := nest_deep (Nat.lt_of_succ_lt_succ h) g
    exact .inr ⟨a, [u], rfl, ha, (by show 1 ≤ 9000; decide), fun y hy => .inr (by rw [List.mem_singleton.mp hy]; exact ih), u, List.mem_cons_self, ih⟩
theorem nest_up {H : Hp} {x v : V} {d n k m : Nat} {t : T} (r : Rep H d t x) (o : OkT d t) (h : nestAt H x n v) (e : d + n + k = m) : ∃ t', Rep H m t' v ∧ OkT m t' ∧ (enc m t').length = (enc d t).length + 2 * n := by
  obtain ⟨t', r', o', e'⟩ := nest_rep r o h
  subst e
  exact ⟨t', r'.up k, (o'.up k).1, by rw [(o'.up k).2]; exact e'⟩
end Q

/-! xs[a:] = ys -/
namespace L2
open PySem PySem.Spec PyProof.Rows
theorem setItem_tail {prog : Program} {w : World} {A : Around} {E : Value → Shared → Prop} {s : Shared} {l b sl : Addr} {items new : Array Value} {n n2 : Nat} {vl : Value} {a : Nat} {Q : Unit → Shared → Prop}
    (e : s.heap.get? l = some { cls := Value.type "list", data := Data.seq items n }) (e2 : s.heap.get? b = some { cls := Value.type "list", data := Data.seq new n2 }) (hne : l ≠ b) (hs : s.heap.IsSliceOf sl vl Value.none Value.none)
    (pl : IsPart vl (some (a : Int))) (ha : a ≤ items.size) (hsz : items.size + new.size ≤ sizeLine)
    (h : Q () { heap := s.heap.update l (Obj.mapSeq fun xs => xs.extract 0 a ++ new ++ xs.extract items.size), gens := s.gens, drawn := s.drawn, toks := s.toks, os := s.os }) :
    wpAny (model prog w) A (setItem (.ref l) (.ref sl) (.ref b)) Q E s := by
  have hl : s.heap.IsList l items := IsL.isList e
  have hb : s.heap.IsList b new := IsL.isList e2
  obtain ⟨os, hos, hcs, hds⟩ := id hs
  have hTs : s.TypeIs (.ref sl) "slice" := ⟨os, hos, hcs⟩
  unfold setItem
  refine wpAny_holding ?_
  refine wpAny_bind (wpAny_sequenceKey hl.typeIs (by decide) ?_)
  refine wpAny_bind (wpAny_callSpecial?_slot hl.typeIs slot_list_setitem (wpAny_call_entry slot_list_setitem hl.typeIs entry_list_setitem ?_ (args_list_setitem _ _ _)))
  unfold Builtin.«list.__setitem__»
  have hb1 : (Value.ref l == Value.ref b) = false := beq_eq_false_iff_ne.mpr (fun z => hne (Value.ref.inj z))
  refine wpAny_bind (wpAny_pure (a := (Value.ref l, [Value.ref sl, Value.ref b])) ?_)
  refine wpAny_bind ?_
  unfold Builtin.List.listSubscript?
  refine wpAny_bind (wpAny_specialOf hTs slice_no_index ?_)
  refine wpAny_pure (a := (none : Option Int)) ?_
  refine wpAny_bind (wpAny_typeOf hTs ?_)
  have e0 : ((Value.type "slice" != Value.type "slice") = true) = False := by simp
  simp only [e0, if_false, listSliceParts_eq]
  refine wpAny_bind (wpAny_bind (wpAny_field hos hds rfl (wpAny_bind (wpAny_listPart IsPart.none ?_))))
  have e1 : ((rawPart none == rawInt 0) = true) = False := by simp [rawPart, rawInt]
  simp only [e1, if_false]
  refine wpAny_bind (wpAny_field hos hds rfl (wpAny_bind (wpAny_listPart pl ?_)))
  refine wpAny_bind (wpAny_field hos hds rfl (wpAny_bind (wpAny_listPart IsPart.none ?_)))
  refine wpAny_pure ?_
  have e3 : (Builtin.List.listSameRef (Value.ref l) (Value.ref b) = true) = False := by
    unfold Builtin.List.listSameRef
    simp [hne]
  simp only [e3, if_false]
  unfold Builtin.List.listAllItems
  refine wpAny_bind (wpAny_bind (wpAny_typeOf hb.typeIs ?_))
  have e4 : ((Value.type "list" == Value.type "list" || Value.type "list" == Value.type "tuple") = true) = True := by simp
  simp only [e4, if_true]
  unfold Builtin.List.listItems
  refine wpAny_bind (wpAny_seqItems e2 rfl (wpAny_pure ?_))
  refine wpAny_bind (wpAny_bind (wpAny_seqItems e rfl (wpAny_pure ?_)))
  rw [sliceIndices_raw _ _ _ _ (by simp)]
  refine wpAny_bind (wpAny_pure ?_)
  have e5 : sliceBounds (some (a : Int)) none none items.size = ((a : Int), (items.size : Int), 1) := by
    unfold sliceBounds
    simp
    omega
  rw [e5]
  have e6 : ((((1 : Int) == 1) = true)) = True := by simp
  simp only [e6, if_true]
  refine wpAny_bind (wpAny_rule ?_)
  have e7 : (Builtin.List.listTooLong (items.size + new.size) = true) = False := by
    unfold Builtin.List.listTooLong
    simp
    omega
  simp only [e7, if_false]
  have e8 : (max (a : Int) (items.size : Int)).toNat = items.size := by omega
  rw [e8]
  refine wpAny_bind (wpAny_updateSeq e rfl ?_ (by omega) (by simp; omega))
  refine wpAny_bind (wpAny_letGo ?_)
  exact wpAny_pure ⟨.none, rfl, wpAny_pure h⟩

def sSlPut (td tl' : TE) (tl : TO) : TE → TS := fun tv D σ H => tv σ H fun v H1 => td σ H1 fun x H2 => tl σ H2 fun a H3 => ∃ (l b : Addr) (xs ys : List V) (n : Nat), x = .ref l ∧ v = .ref b ∧ a = some (n : Int) ∧ H3 l = some (.lst xs) ∧ H3 b = some (.lst ys) ∧ l ≠ b ∧ n ≤ xs.length ∧ xs.length + ys.length ≤ sizeLine ∧ D.nx σ (upd H3 l (.lst (xs.take n ++ ys)))
section
variable {X : Cx} {o value : Expr} {lo : Option Expr} {pos pos' p2 : Pos} {td tv : TE} {tl : TO}
theorem ps_slput (ho : PE X o td) (hl : PO X lo tl) (hv : PE X value tv) (hs : swapsWith value (some (.Subscript o (.Slice lo none none p2) pos')) pos.line X.env = pure false := by rfl) : PS X (.Assign [.Subscript o (.Slice lo none none p2) pos'] value pos) (sSlPut td td tl tv) := by
  refine ⟨fun pins s σ H D I h => wpAny_Assign_Subscript (thn (hv.run pins s σ H _ I h) fun v s1 ⟨x1, H1, I1, r1, q1⟩ => thn (ho.run pins s1 σ H1 _ I1 q1) fun ov s2 ⟨x2, H2, I2, r2, q2⟩ => wpAny_Slice (thn (hl.run pins s2 σ H2 _ I2 q2) fun vl s3 ⟨a, H3, I3, pl, q3⟩ => ?_)) hs⟩
  rw [evalPart_none]
  refine wpAny_pure ?_
  refine wpAny_pure ?_
  obtain ⟨l, b, xs, ys, n, rfl, rfl, rfl, hL, hB, ne, le, sz, q⟩ := q3
  cases r1
  cases r2
  have I4 := I3.kept (t' := s3.toks) fun b ob q => Heap.get?_push_of_some { cls := Value.type "slice", data := Data.fields #[vl, Value.none, Value.none] } q
  obtain ⟨z, its, k, r, hlen, e⟩ := Inv.lstM I4 hL
  obtain ⟨z2, its2, k2, r2, hlen2, e2⟩ := Inv.lstM I4 hB
  refine setItem_tail e e2 ne (Heap.IsSliceOf.new s3.heap vl Value.none Value.none) pl (by rw [List.size_toArray]; omega) (by rw [List.size_toArray, List.size_toArray]; omega) ?_
  refine ⟨σ, _, I4.lset hL e (its' := its.take n ++ its2) ?_ ((r.take n).append r2) ?_, q⟩
  · show its.toArray.extract 0 n ++ its2.toArray ++ its.toArray.extract its.toArray.size = _
    simp
  · rw [List.length_append, List.length_take]
    omega
end
end L2

namespace Q
open PySem L2 QR
abbrev sDI : Stmt := inClass (top 53) 0
abbrev sDW : Stmt := inClass (top 53) 1
abbrev sDS : Stmt := inClass (top 53) 2
abbrev sDB : Stmt := inClass (top 53) 3
abbrev sDY : Stmt := inClass (top 53) 4
abbrev sDC : Stmt := inClass (top 53) 5
abbrev sDD : Stmt := inClass (top 53) 6
abbrev sDK : Stmt := inClass (top 53) 7
/-! rows in a list, by what they hold -/
def RowsV (H : Hp) (vs : List V) (bss : List (List Int)) : Prop := vs.length = bss.length ∧ ∀ (i : Nat) (v : V) (bs : List Int), vs[i]? = some v → bss[i]? = some bs → ∃ q, v = .ref q ∧ RowAt H q bs
theorem RowsV.tk {H H' : Hp} {vs : List V} {bss : List (List Int)} (h : RowsV H vs bss) (k : Tk H H') : RowsV H' vs bss := ⟨h.1, fun i v bs hv hb => by
  obtain ⟨q, e, r⟩ := h.2 i v bs hv hb
  exact ⟨q, e, r.tk k⟩⟩
theorem RowsV.nil {H : Hp} : RowsV H [] [] := ⟨rfl, fun i v bs hv => by simp at hv⟩
theorem RowsV.append {H : Hp} {vs us : List V} {bss css : List (List Int)} (h : RowsV H vs bss) (g : RowsV H us css) : RowsV H (vs ++ us) (bss ++ css) := by
  refine ⟨by rw [List.length_append, List.length_append, h.1, g.1], fun i v bs hv hb => ?_⟩
  by_cases c : i < vs.length
  · rw [List.getElem?_append_left c] at hv
    rw [List.getElem?_append_left (by rw [← h.1]; exact c)] at hb
    exact h.2 i v bs hv hb
  · rw [List.getElem?_append_right (by omega)] at hv
    rw [List.getElem?_append_right (by rw [← h.1]; omega), ← h.1] at hb
    exact g.2 _ v bs hv hb
theorem RowsV.one {H : Hp} {q : Addr} {bs : List Int} (h : RowAt H q bs) : RowsV H [.ref q] [bs] := ⟨rfl, fun i v cs hv hb => by
  cases i with
  | zero =>
    cases hv
    cases hb
    exact ⟨q, rfl, h⟩
  | succ i => simp at hv⟩
theorem RowsV.take {H : Hp} {vs : List V} {bss : List (List Int)} (h : RowsV H vs bss) (n : Nat) : RowsV H (vs.take n) (bss.take n) := by
  refine ⟨by rw [List.length_take, List.length_take, h.1], fun i v bs hv hb => ?_⟩
  have hi : i < (vs.take n).length := (List.getElem?_eq_some_iff.mp hv).1
  rw [List.length_take] at hi
  rw [List.getElem?_take_of_lt (by omega)] at hv hb
  exact h.2 i v bs hv hb
theorem RowsV.drop {H : Hp} {vs : List V} {bss : List (List Int)} (h : RowsV H vs bss) (n : Nat) : RowsV H (vs.drop n) (bss.drop n) := by
  refine ⟨by rw [List.length_drop, List.length_drop, h.1], fun i v bs hv hb => ?_⟩
  rw [List.getElem?_drop] at hv hb
  exact h.2 _ v bs hv hb
def RowsAt (H : Hp) (l : Addr) (bss : List (List Int)) : Prop := ∃ vs, H l = some (.lst vs) ∧ RowsV H vs bss
theorem RowsAt.same {H H' : Hp} {l : Addr} {bss : List (List Int)} (h : RowsAt H l bss) (s : Same H H') : RowsAt H' l bss := h.imp fun vs h => ⟨s _ _ h.1, h.2.tk (.of s)⟩
def dF (ra : Addr) (m : Nat) : List (Str × V) := [("_rows", .ref ra), ("_many_synced", .int (m : Int))]
theorem dF_m (ra : Addr) (m k : Nat) : putF "_many_synced" (.int (k : Int)) (dF ra m) = dF ra k := by
  unfold dF putF
  rw [if_neg (by decide +kernel)]
  unfold putF
  rw [if_pos rfl]
theorem dF_r (ra rb : Addr) (m : Nat) : putF "_rows" (.ref rb) (dF ra m) = dF rb m := by
  unfold dF putF
  rw [if_pos rfl]
/-- a disk -/
structure DiskX (CD : Addr) (H : Hp) (x dx ra : Addr) (bss : List (List Int)) (m : Nat) : Prop where
  at_ : H x = some (.ins CD dx (dF ra m))
  rows : RowsAt H ra bss
  le : m ≤ bss.length
  few : bss.length ≤ 200
theorem DiskX.same {CD : Addr} {H H' : Hp} {x dx ra : Addr} {bss : List (List Int)} {m : Nat} (h : DiskX CD H x dx ra bss m) (s : Same H H') : DiskX CD H' x dx ra bss m := ⟨s _ _ h.at_, h.rows.same s, h.le, h.few⟩
theorem DiskX.ne {CD : Addr} {H : Hp} {x dx ra : Addr} {bss : List (List Int)} {m : Nat} (h : DiskX CD H x dx ra bss m) : x ≠ ra := fun e => by
  obtain ⟨vs, hv, _⟩ := h.rows
  rw [← e, h.at_] at hv
  cases hv
/-- all stands but two -/
def B2 (a b : Addr) (H H' : Hp) : Prop := ∀ c o, H c = some o → c ≠ a → c ≠ b → H' c = some o
theorem B2.rf {a b : Addr} {H : Hp} : B2 a b H H := fun _ _ e _ _ => e
theorem B2.st {a b : Addr} {H H1 H2 : Hp} (h : B2 a b H H1) (s : Same H1 H2) : B2 a b H H2 := fun c o e n m => s _ _ (h c o e n m)
theorem B2.of {a b : Addr} {H H1 : Hp} (s : Same H H1) : B2 a b H H1 := fun c o e _ _ => s _ _ e
theorem B2.tr {a b : Addr} {H H1 H2 : Hp} (h : B2 a b H H1) (g : B2 a b H1 H2) : B2 a b H H2 := fun c o e n m => g c o (h c o e n m) n m
theorem B2.a {a b : Addr} {H H1 : Hp} {o : HO} (h : B2 a b H H1) : B2 a b H (upd H1 a o) := fun c u e n m => by rw [upd_ne n]; exact h c u e n m
theorem B2.b {a b : Addr} {H H1 : Hp} {o : HO} (h : B2 a b H H1) : B2 a b H (upd H1 b o) := fun c u e n m => by rw [upd_ne m]; exact h c u e n m
/-- what the top says of Disk -/
structure DTxt (K : PySem.W.Frag) (mg : Str → Option Value) (CD : Addr) : Prop where
  cl : Cls K CD
  nR : NoAttr K CD "_rows"
  nM : NoAttr K CD "_many_synced"
  mgC : mg "Disk" = some (.ref CD)
structure DDefs (K : PySem.W.Frag) (CD : Addr) where
  fI : Addr
  dI : FuncData
  FI : Fun K "__init__" "Disk.__init__" sDI fI dI
  bI : Binds K dI ["self"] []
  mM : Mk K CD fI
  fW : Addr
  dW : FuncData
  FW : Fun K "write" "Disk.write" sDW fW dW
  bW : Binds K dW ["self", "row"] []
  mW : Meth K CD "write" fW
  fS : Addr
  dS : FuncData
  FS : Fun K "sync" "Disk.sync" sDS fS dS
  bS : Binds K dS ["self"] []
  mS : Meth K CD "sync" fS
  fB : Addr
  dB : FuncData
  FB : Fun K "blocks" "Disk.blocks" sDB fB dB
  bB : Binds K dB ["self"] []
  mB : Meth K CD "blocks" fB
  fY : Addr
  dY : FuncData
  FY : Fun K "synced" "Disk.synced" sDY fY dY
  bY : Binds K dY ["self"] []
  mY : Meth K CD "synced" fY
  fC : Addr
  dC : FuncData
  FC : Fun K "cut" "Disk.cut" sDC fC dC
  bC : Binds K dC ["self", "kept"] []
  mC : Meth K CD "cut" fC
  fD : Addr
  dD : FuncData
  FD : Fun K "drop" "Disk.drop" sDD fD dD
  bD : Binds K dD ["self", "number"] []
  mD : Meth K CD "drop" fD
  fK : Addr
  dK : FuncData
  FK : Fun K "copy" "Disk.copy" sDK fK dK
  bK : Binds K dK ["self"] []
  mK : Meth K CD "copy" fK
def spDI (CD : Addr) : Sp := fun vs H Q _ => ∃ (x dx : Addr), vs = [.ref x] ∧ H x = some (.ins CD dx []) ∧ ∀ ra H', H ra = none → ra ≠ x → Bu x H H' → DiskX CD H' x dx ra [] 0 → Q .non H'
def spDW (CD : Addr) : Sp := fun vs H Q _ => ∃ (x dx ra q : Addr) (bss : List (List Int)) (m : Nat) (bs : List Int), vs = [.ref x, .ref q] ∧ DiskX CD H x dx ra bss m ∧ bss.length < 200 ∧ RowAt H q bs ∧ ∀ H', Bu ra H H' → DiskX CD H' x dx ra (bss ++ [bs]) m → Q (.int (bss.length : Int)) H'
def spDS (CD : Addr) : Sp := fun vs H Q _ => ∃ (x dx ra : Addr) (bss : List (List Int)) (m : Nat), vs = [.ref x] ∧ DiskX CD H x dx ra bss m ∧ ∀ H', Bu x H H' → DiskX CD H' x dx ra bss bss.length → Q (.int ((bss.length : Int) - (m : Int))) H'
def spDB (CD : Addr) : Sp := fun vs H Q _ => ∃ (x dx ra : Addr) (bss : List (List Int)) (m : Nat), vs = [.ref x] ∧ DiskX CD H x dx ra bss m ∧ ∀ z H', H z = none → Same H H' → RowsAt H' z bss → Q (.ref z) H'
def spDY (CD : Addr) : Sp := fun vs H Q _ => ∃ (x dx ra : Addr) (bss : List (List Int)) (m : Nat), vs = [.ref x] ∧ DiskX CD H x dx ra bss m ∧ Q (.int (m : Int)) H
def spDD (CD : Addr) : Sp := fun vs H Q _ => ∃ (x dx ra : Addr) (bss : List (List Int)) (m n : Nat), vs = [.ref x, .int (n : Int)] ∧ DiskX CD H x dx ra bss m ∧ n ≤ bss.length ∧ ∀ rb H', H rb = none → Bu x H H' → DiskX CD H' x dx rb (bss.take n) (min m n) → Q .non H'
def spDK (CD : Addr) : Sp := fun vs H Q _ => ∃ (x dx ra : Addr) (bss : List (List Int)) (m : Nat), vs = [.ref x] ∧ DiskX CD H x dx ra bss m ∧ ∀ y dy rb H', H y = none → H rb = none → Same H H' → DiskX CD H' y dy rb bss m → Q (.ref y) H'
section
variable {P : Program} {w : World} {K : PySem.W.Frag} {mg : Str → Option Value} {base : Heap}
theorem cut_to (xs : List V) (n : Nat) : cutV xs none (some (n : Int)) = xs.take n := by
  unfold cutV
  rw [HT.sIx_none, HT.sIx_nat, List.drop_zero, Nat.sub_zero]
  rcases Nat.le_total n xs.length with c | c
  · rw [Nat.min_eq_left c]
  · rw [Nat.min_eq_right c, List.take_length, List.take_of_length_le c]
theorem scDI : FnScope ["self"] ["self"] (defScope sDI) := ⟨rfl, rfl, rfl, by decide +kernel, rfl, by decide +kernel, by decide +kernel⟩
theorem ok_di {CD : Addr} (T : DTxt K mg CD) (M : DDefs K CD) : FnOk P w K mg base CX0 1 M.fI M.dI ["self"] (spDI CD) := by
  refine M.FI.ok scDI (fun vs H Q E h => ?_) (fun cdv A outer s H vs Q E hr h => ?_)
  · obtain ⟨x, dx, rfl, _⟩ := h
    rfl
  · obtain ⟨x, dx, rfl, e, k⟩ := h
    refine ⟨_, pss_cons (ps_fld (pv 0) (pe_lst pa_nil) rfl) (pss_one (ps_fld (pv 0) pe_int rfl)), ?_⟩
    refine ⟨Nat.zero_le _, fun ra hra => ?_⟩
    have nx : ra ≠ x := fun z => by rw [z, e] at hra; cases hra
    refine ⟨_, rfl, x, CD, dx, _, rfl, by rw [upd_ne nx.symm]; exact e, T.cl, T.nR, (by show 0 < 1000; decide), ?_⟩
    refine ⟨_, rfl, x, CD, dx, _, rfl, upd_same, T.cl, T.nM, (by show 1 < 1000; decide), ?_⟩
    have s1 := sN (o := .lst []) hra
    refine k ra _ hra nx (((Bu.of s1).at).at) ⟨?_, ⟨[], by rw [upd_ne nx, upd_ne nx, upd_same], .nil⟩, Nat.le_refl _, Nat.zero_le _⟩
    rw [upd_same]
    show some (HO.ins CD dx (putF "_many_synced" (.int ((0 : Nat) : Int)) [("_rows", V.ref ra)])) = _
    unfold putF
    rw [if_neg (by decide +kernel)]
    rfl
theorem scDW : FnScope ["self", "row"] ["self", "row"] (defScope sDW) := ⟨rfl, rfl, rfl, by decide +kernel, rfl, by decide +kernel, by decide +kernel⟩
theorem ok_dw {CD fR : Addr} {dR : FuncData} (T : DTxt K mg CD) (M : DDefs K CD) (B : Bts mg) (DR : Df K mg "is_row" sIsRow ["thing"] fR dR) (GR : FnOk P w K mg base CX0 3 fR dR ["thing"] (spIsRow K)) : FnOk P w K mg base CX0 4 M.fW M.dW ["self", "row"] (spDW CD) := by
  refine M.FW.ok scDW (fun vs H Q E h => ?_) (fun cdv A outer s H vs Q E hr h => ?_)
  · obtain ⟨x, dx, ra, q, bss, m, bs, rfl, _⟩ := h
    rfl
  · obtain ⟨x, dx, ra, q, bss, m, bs, rfl, d, lt, hq, k⟩ := h
    refine ⟨_, pss_cons (ps_if (pt_not (pt_val (pe_call GR hr rfl DR.m DR.k DR.b .nil pass0 (pa_cons (pv 1) pa_nil)))) pss_never pss_nil)
      (pss_cons (ps_expr (pe_bm PySem.F.plainAttrs_list PySem.F.slot_list_append PySem.F.type_list_append mt_append (pe_fld (pv 0) rfl) (pa_cons (pv 1) pa_nil)))
      (pss_one (ps_ret (pe_op op_sub (pe_callB call_len_seq (by rfl) B.len PySem.boot_len (pa_cons (pe_fld (pv 0) rfl) pa_nil)) pe_int)))), ?_⟩
    refine ⟨_, rfl, .ref q, rfl, .inl ⟨q, _, rfl, hq.at_, by rw [List.length_map]; exact hq.few, sc_ints bs, fun H1 s1 => ?_⟩⟩
    rw [all_isB hq.b]
    refine ⟨_, rfl, iteF ?_⟩
    have d1 := d.same s1
    have ne := d1.ne
    obtain ⟨vs, hv, rv⟩ := d1.rows
    refine ⟨_, rfl, x, CD, dx, _, _, rfl, d1.at_, T.cl, T.nR, rfl, .inl ⟨rfl, _, SqL.of hv⟩, _, rfl, ra, _, _, rfl, rfl, hv, size_ok (by rw [rv.1]; have := d.few; omega), ?_⟩
    have e2 : (upd H1 ra (.lst (vs ++ [.ref q]))) x = some (.ins CD dx (dF ra m)) := by
      rw [upd_ne ne]
      exact d1.at_
    refine ⟨_, rfl, x, CD, dx, _, _, rfl, e2, T.cl, T.nR, rfl, ra, _, rfl, .inl (SqL.of upd_same), _, _, rfl, rfl, ?_⟩
    have el : (((vs ++ [V.ref q]).length : Nat) : Int) - 1 = (bss.length : Int) := by
      rw [List.length_append, rv.1]
      show ((bss.length + 1 : Nat) : Int) - 1 = _
      omega
    have tk : Tk H1 (upd H1 ra (.lst (vs ++ [.ref q]))) := fun c ys e => by
      rw [upd_ne (ne_of e hv (fun z => by cases z))]
      exact e
    show Q (V.int ((((vs ++ [V.ref q]).length : Nat) : Int) - 1)) _
    rw [el]
    exact k _ ((Bu.of s1).at) ⟨e2, ⟨_, upd_same, (rv.tk tk).append (.one ((hq.same s1).tk tk))⟩, by rw [List.length_append]; have := d.le; omega, by rw [List.length_append]; show _ + 1 ≤ _; omega⟩
theorem scDS : FnScope ["self", "waited"] ["self"] (defScope sDS) := ⟨rfl, rfl, rfl, by decide +kernel, rfl, by decide +kernel, by decide +kernel⟩
theorem ok_ds {CD : Addr} (T : DTxt K mg CD) (M : DDefs K CD) (B : Bts mg) : FnOk P w K mg base CX0 1 M.fS M.dS ["self"] (spDS CD) := by
  refine M.FS.ok scDS (fun vs H Q E h => ?_) (fun cdv A outer s H vs Q E hr h => ?_)
  · obtain ⟨x, dx, ra, bss, m, rfl, _⟩ := h
    rfl
  · obtain ⟨x, dx, ra, bss, m, rfl, d, k⟩ := h
    have nd := scDS.nd
    obtain ⟨vs, hv, rv⟩ := d.rows
    refine ⟨_, pss_cons (ps_set (i := 1) nd rfl (.inl rfl) (pe_op op_sub (pe_callB call_len_seq (by rfl) B.len PySem.boot_len (pa_cons (pe_fld (pv 0) rfl) pa_nil)) (pe_fld (pv 0) rfl)))
      (pss_cons (ps_fld (pv 0) (pe_callB call_len_seq (by rfl) B.len PySem.boot_len (pa_cons (pe_fld (pv 0) rfl) pa_nil)) rfl)
      (pss_one (ps_ret (pv 1)))), ?_⟩
    refine ⟨_, rfl, x, CD, dx, _, _, rfl, d.at_, T.cl, T.nR, rfl, ra, _, rfl, .inl (SqL.of hv), _, rfl, x, CD, dx, _, _, rfl, d.at_, T.cl, T.nM, rfl, _, _, rfl, rfl, ?_⟩
    refine ⟨_, rfl, x, CD, dx, _, _, rfl, d.at_, T.cl, T.nR, rfl, ra, _, rfl, .inl (SqL.of hv), _, rfl, x, CD, dx, _, rfl, d.at_, T.cl, T.nM, (by show 2 < 1000; decide), ?_⟩
    rw [rv.1, dF_m]
    have b1 : Bu x H (upd H x (.ins CD dx (dF ra bss.length))) := Bu.rf.at
    have tk : Tk H (upd H x (.ins CD dx (dF ra bss.length))) := fun c ys e => b1 c _ e (ne_of e d.at_ (fun z => by cases z))
    exact ⟨_, rfl, k _ b1 ⟨upd_same, ⟨vs, b1 _ _ hv d.ne.symm, rv.tk tk⟩, Nat.le_refl _, d.few⟩⟩
theorem scDB : FnScope ["self"] ["self"] (defScope sDB) := ⟨rfl, rfl, rfl, by decide +kernel, rfl, by decide +kernel, by decide +kernel⟩
theorem ok_db {CD : Addr} (T : DTxt K mg CD) (M : DDefs K CD) (B : Bts mg) : FnOk P w K mg base CX0 1 M.fB M.dB ["self"] (spDB CD) := by
  refine M.FB.ok scDB (fun vs H Q E h => ?_) (fun cdv A outer s H vs Q E hr h => ?_)
  · obtain ⟨x, dx, ra, bss, m, rfl, _⟩ := h
    rfl
  · obtain ⟨x, dx, ra, bss, m, rfl, d, k⟩ := h
    obtain ⟨vs, hv, rv⟩ := d.rows
    refine ⟨_, pss_one (ps_ret (pe_callTy call_list_of (by rfl) B.list PyProof.Rows.boot_list (pa_cons (pe_fld (pv 0) rfl) pa_nil))), ?_⟩
    refine ⟨_, rfl, x, CD, dx, _, _, rfl, d.at_, T.cl, T.nR, rfl, ra, _, rfl, .inl (SqL.of hv), fun z hz => ?_⟩
    exact k z _ hz (sN hz) ⟨vs, upd_same, rv.tk (.of (sN hz))⟩
theorem scDY : FnScope ["self"] ["self"] (defScope sDY) := ⟨rfl, rfl, rfl, by decide +kernel, rfl, by decide +kernel, by decide +kernel⟩
theorem ok_dy {CD : Addr} (T : DTxt K mg CD) (M : DDefs K CD) : FnOk P w K mg base CX0 1 M.fY M.dY ["self"] (spDY CD) := by
  refine M.FY.ok scDY (fun vs H Q E h => ?_) (fun cdv A outer s H vs Q E hr h => ?_)
  · obtain ⟨x, dx, ra, bss, m, rfl, _⟩ := h
    rfl
  · obtain ⟨x, dx, ra, bss, m, rfl, d, k⟩ := h
    refine ⟨_, pss_one (ps_ret (pe_fld (pv 0) rfl)), ?_⟩
    exact ⟨_, rfl, x, CD, dx, _, _, rfl, d.at_, T.cl, T.nM, rfl, k⟩
theorem scDD : FnScope ["self", "number"] ["self", "number"] (defScope sDD) := ⟨rfl, rfl, rfl, by decide +kernel, rfl, by decide +kernel, by decide +kernel⟩
theorem ok_dd {CD fN fP : Addr} {dN dP : FuncData} (T : DTxt K mg CD) (M : DDefs K CD) (B : Bts mg) (DN : Df K mg "is_number_below" sNum ["limit", "thing"] fN dN) (DP : Df K mg "is_plain_int" sPlain ["thing"] fP dP) : FnOk P w K mg base CX0 3 M.fD M.dD ["self", "number"] (spDD CD) := by
  have GN : FnOk P w K mg base CX0 2 fN dN ["limit", "thing"] (spNum K) := ok_num DN B DP
  refine M.FD.ok scDD (fun vs H Q E h => ?_) (fun cdv A outer s H vs Q E hr h => ?_)
  · obtain ⟨x, dx, ra, bss, m, n, rfl, _⟩ := h
    rfl
  · obtain ⟨x, dx, ra, bss, m, n, rfl, d, le, k⟩ := h
    obtain ⟨vs, hv, rv⟩ := d.rows
    refine ⟨_, pss_cons (ps_if (pt_not (pt_val (pe_call GN hr rfl DN.m DN.k DN.b .nil pass0 (pa_cons (pe_op op_add (pe_callB call_len_seq (by rfl) B.len PySem.boot_len (pa_cons (pe_fld (pv 0) rfl) pa_nil)) pe_int) (pa_cons (pv 1) pa_nil))))) pss_never pss_nil)
      (pss_cons (ps_fld (pv 0) (pe_slice sl_list (pe_fld (pv 0) rfl) po_none (po_some (pv 1))) rfl)
      (pss_one (ps_fld (pv 0) (pe_callB (call_min2 rfl) (by rfl) B.min PyProof.Rows.boot_min (pa_cons (pe_fld (pv 0) rfl) (pa_cons (pv 1) pa_nil))) rfl))), ?_⟩
    refine ⟨_, rfl, x, CD, dx, _, _, rfl, d.at_, T.cl, T.nR, rfl, ra, _, rfl, .inl (SqL.of hv), _, _, rfl, rfl, _, rfl, _, _, rfl, .inl ⟨(n : Int), rfl, _, rfl, ?_⟩⟩
    rw [decide_eq_true (show (0 : Int) ≤ (n : Int) by omega), decide_eq_true (show (n : Int) < ((vs.length : Nat) : Int) + 1 by rw [rv.1]; omega)]
    refine iteF ?_
    refine ⟨_, rfl, x, CD, dx, _, _, rfl, d.at_, T.cl, T.nR, rfl, _, rfl, _, rfl, ra, _, rfl, SqL.of hv, fun rb hrb => ?_⟩
    rw [cut_to]
    have s1 := sN (o := .lst (vs.take n)) hrb
    have nxb : rb ≠ x := (ne_of_none d.at_ hrb).symm
    refine ⟨_, rfl, x, CD, dx, _, rfl, s1 _ _ d.at_, T.cl, T.nR, (by show 2 < 1000; decide), ?_⟩
    rw [dF_r]
    refine ⟨_, rfl, x, CD, dx, _, _, rfl, upd_same, T.cl, T.nM, rfl, _, rfl, _, _, rfl, ?_⟩
    refine ⟨_, rfl, x, CD, dx, _, rfl, upd_same, T.cl, T.nM, (by show 2 < 1000; decide), ?_⟩
    have em : (if (n : Int) < (m : Int) then (n : Int) else (m : Int)) = ((min m n : Nat) : Int) := by
      by_cases c : (n : Int) < (m : Int)
      · rw [if_pos c]
        omega
      · rw [if_neg c]
        omega
    rw [em, dF_m]
    have b1 : Bu x H (upd (upd (upd H rb (.lst (vs.take n))) x (.ins CD dx (dF rb m))) x (.ins CD dx (dF rb (min m n)))) := ((Bu.of s1).at).at
    have tk : Tk H (upd (upd (upd H rb (.lst (vs.take n))) x (.ins CD dx (dF rb m))) x (.ins CD dx (dF rb (min m n)))) := fun c ys e => b1 c _ e (ne_of e d.at_ (fun z => by cases z))
    exact k rb _ hrb b1 ⟨upd_same, ⟨vs.take n, by rw [upd_ne nxb, upd_ne nxb, upd_same], (rv.tk tk).take n⟩, by rw [List.length_take]; have := d.le; omega, by rw [List.length_take]; have := d.few; omega⟩
end
end Q

namespace L2
open PySem PySem.Spec PyProof.Rows
theorem ext_tuple {prog : Program} {w : World} {A : Around} {E : Value → Shared → Prop} {s : Shared} {l b : Addr} {items items2 : Array Value} {n : Nat} {Q : Value → Shared → Prop}
    (e : s.heap.get? l = some { cls := Value.type "list", data := Data.seq items n }) (hb : s.heap.IsTuple b items2) (hsz : items.size + items2.size ≤ sizeLine)
    (h : Q .none { heap := s.heap.update l (Obj.mapSeq fun x => x ++ items2), gens := s.gens, drawn := s.drawn, toks := s.toks, os := s.os }) :
    wpAny (model prog w) A (call (.builtin "list.extend") [.ref l, .ref b]) Q E s := by
  have hl : s.heap.IsList l items := IsL.isList e
  obtain ⟨ob, ho, hc, m, hd⟩ := id hb
  refine wpAny_call_entry F.slot_list_extend hl.typeIs F.entry_list_extend ?_ (F.args_list_extend_2 _ _)
  unfold Builtin.«list.extend»
  refine wpAny_bind (wpAny_pure (a := (Value.ref l, Value.ref b)) ?_)
  unfold Builtin.List.listExtendWith
  have hTs : s.TypeIs (.ref b) "tuple" := ⟨ob, ho, hc⟩
  refine wpAny_bind (wpAny_typeOf hTs ?_)
  have e1 : ((Builtin.List.listSameRef (Value.ref l) (Value.ref b) || Value.type "tuple" == Value.type "list" || Value.type "tuple" == Value.type "tuple") = true) = True := by simp
  simp only [e1, if_true]
  unfold Builtin.List.listItems
  refine wpAny_bind (wpAny_bind (wpAny_seqItems ho hd (wpAny_pure ?_)))
  refine wpAny_bind (wpAny_bind (wpAny_seqItems e rfl (wpAny_pure ?_)))
  have e2 : ((!items.isEmpty && Builtin.List.listTooLong (items.size + items2.size)) = true) = False := by
    rw [notLongL hsz, Bool.and_false]
    simp
  simp only [e2, if_false]
  unfold Builtin.List.listUpdate
  refine wpAny_bind (wpAny_updateSeq e rfl ?_ (by omega) (by simp; omega))
  exact wpAny_pure ⟨.none, rfl, h⟩
/-- xs.extend(t) -/
theorem mt_extT {X : Cx} : MtM X "list.extend" (fun x vs H Q => ∃ (l b : Addr) (xs zs : List V), x = .ref l ∧ vs = [.ref b] ∧ H l = some (.lst xs) ∧ H b = some (.tup zs) ∧ xs.length + zs.length ≤ sizeLine ∧ Q .non (upd H l (.lst (xs ++ zs)))) := by
  intro pins s σ H x vs v us Q I rx rv h
  obtain ⟨l, b, xs, zs, rfl, rfl, hH, hB, hz, q⟩ := h
  cases rx
  cases rv with
  | cons ru r0 =>
    cases r0
    cases ru
    obtain ⟨z, its, n, r, hl, e⟩ := Inv.lstM I hH
    obtain ⟨z2, its2, r2, ob, ho, hc, m, hd⟩ := I.hok b _ hB
    have hl2 := r2.length
    refine ext_tuple e ⟨ob, ho, hc, m, hd⟩ (by rw [List.size_toArray, List.size_toArray]; omega) ?_
    exact ⟨.non, _, I.lset hH e (its' := its ++ its2) (by simp) (r.append r2) (by rw [List.length_append]; omega), rfl, q⟩
end L2
namespace Q
open PySem L2 QR
abbrev sKP : Stmt := top 55
abbrev sLKt : Stmt := top 9999
abbrev sLBk : Stmt := top 9999
abbrev sPR : Stmt := top 9999
theorem str_ok {z : List Nat} (h : ∀ c ∈ z, isSg (c : Int) = true) : PyData.canLay0 (.str (sOf z)) = true := by
  simp only [PyData.canLay0, PyData.strOk]
  show z.toArray.all _ = true
  rw [Array.all_eq_true_iff_forall_mem]
  intro c hc
  have := (sg_b (h c (by simpa using hc))).2.1
  exact decide_eq_true (by omega)
theorem rep_dp {K : PySem.W.Frag} {H : Hp} : ∀ {d : Nat} {t : QR.T} {v : V}, Rep H d t v → OkT d t → ∃ e, Dp K H v e ∧ PyData.canLay0 e = true ∧ e.depth ≤ d := by
  have key : ∀ d, (∀ d', d = d' + 1 → ∀ t v, Rep H d' t v → OkT d' t → ∃ e, Dp K H v e ∧ PyData.canLay0 e = true ∧ e.depth ≤ d') → ∀ t v, Rep H d t v → OkT d t → ∃ e, Dp K H v e ∧ PyData.canLay0 e = true ∧ e.depth ≤ d := by
    intro d IH t v r o
    rcases r.cases with ⟨rfl, rfl⟩ | ⟨b, rfl, rfl⟩ | ⟨i, rfl, rfl⟩ | ⟨z, rfl, rfl, _⟩ | ⟨d1, l, a, xs, e1, rfl, rfl, ha, hl, _, hk⟩
    · exact ⟨_, .non, by simp [PyData.canLay0], by simp [PyData.depth]⟩
    · exact ⟨_, .bl b, by simp [PyData.canLay0], by simp [PyData.depth]⟩
    · exact ⟨_, .int i, by simp [PyData.canLay0], by simp [PyData.depth]⟩
    · exact ⟨_, .str _, str_ok (okT_atom o).2.2, by simp [PyData.depth]⟩
    · subst e1
      have okl : ∀ t ∈ l, OkT d1 t := o
      have main : ∀ (xs : List V) (ls : List QR.T), xs.length = ls.length → (∀ (i : Nat) (x : V) (t : QR.T), xs[i]? = some x → ls[i]? = some t → Rep H d1 t x) → (∀ t ∈ ls, OkT d1 t) → ∃ es, DpAll K H xs es ∧ PyData.canLayAll0 es = true ∧ PyData.depthAll es ≤ d1 := by
        intro xs
        induction xs with
        | nil => exact fun ls _ _ _ => ⟨[], .nil, by simp [PyData.canLayAll0], by simp [PyData.depthAll]⟩
        | cons x xs ih =>
          intro ls hl hk ho
          cases ls with
          | nil => simp at hl
          | cons t ls =>
            obtain ⟨e, h1, h2, h3⟩ := IH d1 rfl t x (hk 0 x t rfl rfl) (ho t List.mem_cons_self)
            obtain ⟨es, g1, g2, g3⟩ := ih ls (by simpa using hl) (fun i x t hx ht => hk (i + 1) x t hx ht) fun t ht => ho t (List.mem_cons_of_mem _ ht)
            exact ⟨e :: es, .cons h1 g1, by simp [PyData.canLayAll0, h2, g2], by simp only [PyData.depthAll]; omega⟩
      obtain ⟨es, g1, g2, g3⟩ := main xs l hl hk okl
      exact ⟨.tuple es, .tup (SqT.of ha) g1, by simp [PyData.canLay0, g2], by simp only [PyData.depth]; omega⟩
  intro d
  induction d with
  | zero =>
    intro t v
    exact key 0 (fun d' e => by omega) t v
  | succ d ih =>
    intro t v
    refine key (d + 1) (fun d' e t v => ?_) t v
    obtain rfl : d' = d := by omega
    exact ih
/-- told == () -/
def rNil : R2 := fun x y H Q => ∃ (a b : Addr), x = .ref a ∧ y = .ref b ∧ H b = some (.tup []) ∧ ((H a = some (.tup []) ∧ Q (.bl true) H) ∨ ∃ (d : Nat) (t : QR.T) (v : V), H a = some (.tup [v]) ∧ Rep H d t v ∧ OkT d t ∧ d ≤ 40 ∧ Q (.bl false) H)
theorem op_eqN {X : Cx} (hu : X.A.units + 64 < cLine) : OpR X (compareOp .Eq) rNil := by
  intro pins s σ H x y v u Q I rx ry h
  obtain ⟨a, b, rfl, rfl, hb, ⟨ha, k⟩ | ⟨d, t, v, ha, rep, ok, le, k⟩⟩ := h
  · refine op_eqD hu pins s σ H _ _ _ u Q I rx ry ⟨.tuple [], .tuple [], .tup (SqT.of ha) .nil, .tup (SqT.of hb) .nil, by decide +kernel, by decide +kernel, ?_⟩
    rw [show PyData.eqv (.tuple []) (.tuple []) = true by decide +kernel]
    exact k
  · obtain ⟨e, h1, h2, h3⟩ := rep_dp (K := X.K) rep ok
    refine op_eqD hu pins s σ H _ _ _ u Q I rx ry ⟨.tuple [e], .tuple [], .tup (SqT.of ha) (.cons h1 .nil), .tup (SqT.of hb) .nil, ?_, by decide +kernel, ?_⟩
    · unfold SeqAt.shaped
      refine Bool.and_eq_true_iff.mpr ⟨?_, decide_eq_true ?_⟩
      · simp [PyData.canLay0, PyData.canLayAll0, h2]
      · simp only [PyData.depth, PyData.depthAll]
        omega
    · rw [show PyData.eqv (.tuple [e]) (.tuple []) = false by simp [PyData.eqv, PyData.eqvAll]]
      exact k
end Q

/-! zip of a list with a tuple -/
namespace L2
open PySem PySem.Spec PyProof.Rows
theorem zipM_next_item {prog : Program} {w : World} {A : Around} {E : Value → Shared → Prop} {s : Shared} {z TI TO i1 i2 l1 l2 : Addr} {k1 k2 : Nat} {xs ys : Array Value} {x y a b : Value} {Q : Value → Shared → Prop}
  (D : ZipApart z TI TO i1 i2 l1 l2) (hz : IsZip s.heap z TI TO Value.none) (hTI : IsPair s.heap TI (.ref i1) (.ref i2)) (hTO : IsPair s.heap TO a b) (h1 : s.heap.IsListIter i1 l1 k1) (h2 : s.heap.IsTupleIter i2 l2 k2)
  (hl1 : s.heap.IsList l1 xs) (hl2 : s.heap.IsTuple l2 ys) (hx : xs[k1]? = some x) (hy : ys[k2]? = some y)
  (hq : ∀ h' : Heap, IsZip h' z TI TO (rawInt s.heap.objs.size) → IsPair h' TO x y → h'.IsListIter i1 l1 (k1 + 1) → h'.IsTupleIter i2 l2 (k2 + 1) → IsPair h' s.heap.objs.size x y → h'.objs.size = s.heap.objs.size + 1 →
    (∀ (c : Addr) (o : Obj), c ≠ z → c ≠ TO → c ≠ i1 → c ≠ i2 → s.heap.get? c = some o → h'.get? c = some o) → Q (.ref s.heap.objs.size) { heap := h', gens := s.gens, drawn := s.drawn, toks := s.toks, os := s.os }) :
  wpAny (model prog w) A (Builtin.«zip.__next__» { pos := [.ref z] }) (fun fin s' => ∃ v, fin = Fin.done (Flow.ret v) ∧ Q v s') E s := by
  have u1 : ∀ (b : Addr) (o : Obj), b ≠ z → s.heap.get? b = some o → (s.heap.update z (Obj.mapFields fun x => x.setIfInBounds 0 Value.ellipsis)).get? b = some o := fun b o ne e => Heap.get?_update_of_ne _ ne.symm e
  have g1 := h1.at (fun o e => u1 i1 o D.i1z e)
  have gl1 : (s.heap.update z (Obj.mapFields fun x => x.setIfInBounds 0 Value.ellipsis)).IsList l1 xs := hl1.imp fun o h => ⟨u1 _ _ D.l1z h.1, h.2⟩
  unfold Builtin.«zip.__next__»
  wp_walk using wpAny_field hz rfl rfl, wpAny_seqItems hTI rfl, wpAny_nextOf_list_item g1 gl1 hx, wpAny_onRaise
  intro h3 g3 sb3
  have k3 : ∀ (b : Addr) (o : Obj), b ≠ z → b ≠ i1 → s.heap.get? b = some o → h3.get? b = some o := fun b o n1 n2 e => (sb3.2 b n2).trans (u1 b o n1 e)
  have hTO3 : IsPair h3 TO a b := k3 TO _ D.TOz D.TOi1 hTO
  have u4 : ∀ (b : Addr) (o : Obj), b ≠ TO → h3.get? b = some o → (h3.update TO (Obj.mapSeq fun x_1 => x_1.setIfInBounds 0 x)).get? b = some o := fun b o ne e => Heap.get?_update_of_ne _ ne.symm e
  have g4 := h2.at (h' := h3.update TO (Obj.mapSeq fun x_1 => x_1.setIfInBounds 0 x)) (fun o e => u4 i2 o D.TOi2.symm (k3 i2 o D.i2z D.i12.symm e))
  have gl4 : (h3.update TO (Obj.mapSeq fun x_1 => x_1.setIfInBounds 0 x)).IsTuple l2 ys := hl2.imp fun o h => ⟨u4 _ _ D.l2TO (k3 _ _ D.l2z D.l2i1 h.1), h.2⟩
  wp_walk using wpAny_seqItems hTO3 rfl, RZ.nextOf_tuple_item g4 gl4 hy, wpAny_onRaise, wpAny_letGo
  intro h5 g5 sb5
  have hTO4 : IsPair (h3.update TO (Obj.mapSeq fun x_1 => x_1.setIfInBounds 0 x)) TO x b := (Heap.get?_update_self _ hTO3 rfl).trans (by rfl)
  have hTO5 : IsPair h5 TO x b := (sb5.2 TO D.TOi2).trans hTO4
  have hTO6 : IsPair (h5.update TO (Obj.mapSeq fun x_1 => x_1.setIfInBounds (0 + 1) y)) TO x y := (Heap.get?_update_self _ hTO5 rfl).trans (by rfl)
  have hz1 : (s.heap.update z (Obj.mapFields fun x => x.setIfInBounds 0 Value.ellipsis)).get? z = some { cls := Value.type "zip", data := Data.fields #[Value.ellipsis, Value.bool false, Value.bool false, Value.ref TI, Value.ref TO] } := (Heap.get?_update_self _ hz rfl).trans (by rfl)
  have hz3 := (sb3.2 z D.i1z.symm).trans hz1
  have hz4 := Heap.get?_update_of_ne (Obj.mapSeq fun x_1 => x_1.setIfInBounds 0 x) D.TOz hz3
  have hz5 := (sb5.2 z D.i2z.symm).trans hz4
  have hz6 := Heap.get?_update_of_ne (Obj.mapSeq fun x_1 => x_1.setIfInBounds (0 + 1) y) D.TOz hz5
  wp_walk using wpAny_seqItems hTO5 rfl, wpAny_seqItems hTO6 rfl, wpAny_letGo
  have sz : (h5.update TO (Obj.mapSeq fun x_1 => x_1.setIfInBounds (0 + 1) y)).objs.size = s.heap.objs.size := by
    rw [Heap.size_update, sb5.1]
    show (h3.update TO _).objs.size = _
    rw [Heap.size_update, sb3.1]
    show (s.heap.update z _).objs.size = _
    rw [Heap.size_update]
  have nz : (h5.update TO (Obj.mapSeq fun x_1 => x_1.setIfInBounds (0 + 1) y)).objs.size ≠ z := (Nat.ne_of_lt (Heap.lt_size hz6)).symm
  refine ⟨_, rfl, ?_⟩
  have c6 : ∀ (b : Addr) (o : Obj), b ≠ z → (h5.update TO (Obj.mapSeq fun x_1 => x_1.setIfInBounds (0 + 1) y)).get? b = some o → ((((h5.update TO (Obj.mapSeq fun x => x.setIfInBounds (0 + 1) y)).push { cls := Value.type "tuple", data := Data.seq #[x, y].toList.toArray }).update z (Obj.mapFields fun x => x.setIfInBounds 0 (rawInt ↑(h5.update TO (Obj.mapSeq fun x => x.setIfInBounds (0 + 1) y)).objs.size))).update z (Obj.mapFields fun x => x.setIfInBounds 1 (Value.bool false))).get? b = some o := fun b o n e => Heap.get?_update_of_ne _ n.symm (Heap.get?_update_of_ne _ n.symm (Heap.get?_push_of_some _ e))
  have c5 : ∀ (b : Addr) (o : Obj), b ≠ z → b ≠ TO → h5.get? b = some o → _ := fun b o n m e => c6 b o n (Heap.get?_update_of_ne _ m.symm e)
  have c3 : ∀ (b : Addr) (o : Obj), b ≠ z → b ≠ TO → b ≠ i2 → h3.get? b = some o → _ := fun b o n m q e => c5 b o n m ((sb5.2 b q).trans (u4 b o m e))
  have hz7 := Heap.get?_push_of_some { cls := Value.type "tuple", data := Data.seq #[x, y].toList.toArray } hz6
  have hz8 := (Heap.get?_update_self (Obj.mapFields fun x => x.setIfInBounds 0 (rawInt ↑(h5.update TO (Obj.mapSeq fun x => x.setIfInBounds (0 + 1) y)).objs.size)) hz7 rfl)
  have hz9 := (Heap.get?_update_self (Obj.mapFields fun x => x.setIfInBounds 1 (Value.bool false)) hz8 rfl)
  have pT : ((h5.update TO (Obj.mapSeq fun x => x.setIfInBounds (0 + 1) y)).push { cls := Value.type "tuple", data := Data.seq #[x, y].toList.toArray }).get? (h5.update TO (Obj.mapSeq fun x => x.setIfInBounds (0 + 1) y)).objs.size = some { cls := Value.type "tuple", data := Data.seq #[x, y].toList.toArray } := Heap.get?_push_size _ rfl
  have p9 := Heap.get?_update_of_ne (Obj.mapFields fun x => x.setIfInBounds 1 (Value.bool false)) nz.symm (Heap.get?_update_of_ne (Obj.mapFields fun x => x.setIfInBounds 0 (rawInt ↑(h5.update TO (Obj.mapSeq fun x => x.setIfInBounds (0 + 1) y)).objs.size)) nz.symm pT)
  have s9 : ((((h5.update TO (Obj.mapSeq fun x => x.setIfInBounds (0 + 1) y)).push { cls := Value.type "tuple", data := Data.seq #[x, y].toList.toArray }).update z (Obj.mapFields fun x => x.setIfInBounds 0 (rawInt ↑(h5.update TO (Obj.mapSeq fun x => x.setIfInBounds (0 + 1) y)).objs.size))).update z (Obj.mapFields fun x => x.setIfInBounds 1 (Value.bool false))).objs.size = s.heap.objs.size + 1 := by
    rw [Heap.size_update, Heap.size_update, Heap.size_push, sz]
  revert c6 c5 c3 hz9 p9 s9
  generalize ((((h5.update TO (Obj.mapSeq fun x => x.setIfInBounds (0 + 1) y)).push { cls := Value.type "tuple", data := Data.seq #[x, y].toList.toArray }).update z (Obj.mapFields fun x => x.setIfInBounds 0 (rawInt ↑(h5.update TO (Obj.mapSeq fun x => x.setIfInBounds (0 + 1) y)).objs.size))).update z (Obj.mapFields fun x => x.setIfInBounds 1 (Value.bool false))) = h9
  intro c6 c5 c3 hz9 p9 s9
  rw [sz] at hz9 p9 ⊢
  exact hq h9 (hz9.trans (by rfl)) (c6 TO _ D.TOz hTO6) (g3.at fun o e => c3 i1 o D.i1z D.TOi1.symm D.i12 e) (g5.at fun o e => c5 i2 o D.i2z D.TOi2.symm e) (p9.trans (by rfl)) s9 fun c o n1 n2 n3 n4 e => c3 c o n1 n2 n4 (k3 c o n1 n3 e)
theorem zipM_next_end {prog : Program} {w : World} {A : Around} {E : Value → Shared → Prop} {s : Shared} {z TI TO i1 i2 l1 l2 : Addr} {k1 : Nat} {xs : Array Value} {a b : Value} {Q : PySem.Fin → Shared → Prop}
  (hh : A.handled = none) (D : ZipApart z TI TO i1 i2 l1 l2) (hz : IsZip s.heap z TI TO Value.none) (hTI : IsPair s.heap TI (.ref i1) (.ref i2)) (hTO : IsPair s.heap TO a b) (h1 : s.heap.IsListIter i1 l1 k1)
  (hl1 : s.heap.IsList l1 xs) (hx : xs[k1]? = none)
  (hq : ∀ (h' : Heap) (e : Addr), (∀ (c : Addr) (o : Obj), c ≠ z → c ≠ i1 → s.heap.get? c = some o → h'.get? c = some o) → (∃ o, h'.get? e = some o ∧ o.cls = Value.type "StopIteration") → E (.ref e) { heap := h', gens := s.gens, drawn := s.drawn, toks := s.toks, os := s.os }) :
  wpAny (model prog w) A (Builtin.«zip.__next__» { pos := [.ref z] }) Q E s := by
  have u1 : ∀ (b : Addr) (o : Obj), b ≠ z → s.heap.get? b = some o → (s.heap.update z (Obj.mapFields fun x => x.setIfInBounds 0 Value.ellipsis)).get? b = some o := fun b o ne e => Heap.get?_update_of_ne _ ne.symm e
  have g1 := h1.at (fun o e => u1 i1 o D.i1z e)
  have gl1 : (s.heap.update z (Obj.mapFields fun x => x.setIfInBounds 0 Value.ellipsis)).IsList l1 xs := hl1.imp fun o h => ⟨u1 _ _ D.l1z h.1, h.2⟩
  have hz1 : (s.heap.update z (Obj.mapFields fun x => x.setIfInBounds 0 Value.ellipsis)).get? z = some { cls := Value.type "zip", data := Data.fields #[Value.ellipsis, Value.bool false, Value.bool false, Value.ref TI, Value.ref TO] } := (Heap.get?_update_self _ hz rfl).trans (by rfl)
  unfold Builtin.«zip.__next__»
  wp_walk using wpAny_field hz rfl rfl, wpAny_seqItems hTI rfl, wpAny_nextOf_list_end hh g1 gl1 hx, wpAny_onRaise
  intro h3 e3 xb3 he3
  have hz3 := xb3 z _ D.i1z.symm hz1
  refine wpAny_setField_rec hz3 (by show 0 < 5; decide) fun h4 hz4 sb4 => ?_
  obtain ⟨o, ho, hc⟩ := he3
  have ne : e3 ≠ z := fun q => by
    rw [q, hz3] at ho
    cases ho
    exact absurd (show Value.type "zip" = Value.type "StopIteration" from hc) (by decide)
  exact hq h4 e3 (fun c o n1 n2 e => (sb4.2 c n1).trans (xb3 c o n2 (u1 c o n1 e))) ⟨o, (sb4.2 e3 ne).trans ho, hc⟩
theorem pyNext_zipM_item {prog : Program} {w : World} {A : Around} {E : Value → Shared → Prop} {s : Shared} {z TI TO i1 i2 l1 l2 : Addr} {k1 k2 : Nat} {xs ys : Array Value} {x y a b : Value} {Q : Option Value → Shared → Prop}
  (D : ZipApart z TI TO i1 i2 l1 l2) (hz : IsZip s.heap z TI TO Value.none) (hTI : IsPair s.heap TI (.ref i1) (.ref i2)) (hTO : IsPair s.heap TO a b) (h1 : s.heap.IsListIter i1 l1 k1) (h2 : s.heap.IsTupleIter i2 l2 k2)
  (hl1 : s.heap.IsList l1 xs) (hl2 : s.heap.IsTuple l2 ys) (hx : xs[k1]? = some x) (hy : ys[k2]? = some y)
  (hq : ∀ h' : Heap, IsZip h' z TI TO (rawInt s.heap.objs.size) → IsPair h' TO x y → h'.IsListIter i1 l1 (k1 + 1) → h'.IsTupleIter i2 l2 (k2 + 1) → IsPair h' s.heap.objs.size x y → h'.objs.size = s.heap.objs.size + 1 →
    (∀ (c : Addr) (o : Obj), c ≠ z → c ≠ TO → c ≠ i1 → c ≠ i2 → s.heap.get? c = some o → h'.get? c = some o) → Q (some (.ref s.heap.objs.size)) { heap := h', gens := s.gens, drawn := s.drawn, toks := s.toks, os := s.os }) :
  wpAny (model prog w) A (pyNext (.ref z)) Q E s := by
  have hT : s.TypeIs (.ref z) "zip" := ⟨_, hz, rfl⟩
  exact wpAny_bind (wpAny_attempt (wpAny_callSpecial?_slot hT F.slot_zip_next (wpAny_call_entry F.slot_zip_next hT F.entry_zip_next (zipM_next_item D hz hTI hTO h1 h2 hl1 hl2 hx hy fun h' a1 a2 a3 a4 a5 a6 a7 => wpAny_pure (hq h' a1 a2 a3 a4 a5 a6 a7)) (F.args_zip_next_1 _))))
theorem pyNext_zipM_end {prog : Program} {w : World} {A : Around} {E : Value → Shared → Prop} {s : Shared} {z TI TO i1 i2 l1 l2 : Addr} {k1 : Nat} {xs : Array Value} {a b : Value} {Q : Option Value → Shared → Prop}
  (hh : A.handled = none) (D : ZipApart z TI TO i1 i2 l1 l2) (hz : IsZip s.heap z TI TO Value.none) (hTI : IsPair s.heap TI (.ref i1) (.ref i2)) (hTO : IsPair s.heap TO a b) (h1 : s.heap.IsListIter i1 l1 k1)
  (hl1 : s.heap.IsList l1 xs) (hx : xs[k1]? = none)
  (hq : ∀ (h' : Heap), (∀ (c : Addr) (o : Obj), c ≠ z → c ≠ i1 → s.heap.get? c = some o → h'.get? c = some o) → Q none { heap := h', gens := s.gens, drawn := s.drawn, toks := s.toks, os := s.os }) :
  wpAny (model prog w) A (pyNext (.ref z)) Q E s := by
  have hT : s.TypeIs (.ref z) "zip" := ⟨_, hz, rfl⟩
  exact wpAny_bind (wpAny_attempt (wpAny_callSpecial?_slot hT F.slot_zip_next (wpAny_call_entry F.slot_zip_next hT F.entry_zip_next (zipM_next_end hh D hz hTI hTO h1 hl1 hx fun h' e hk ⟨o, ho, hc⟩ => wpAny_bind (wpAny_isInstance ⟨o, ho, hc⟩ isSubtype_stop (wpAny_pure (hq h' hk)))) (F.args_zip_next_1 _))))
def ItzM (K : PySem.W.Frag) (a b : Addr) : It where
  go := fun i H => ∃ xs ys x y, SqL K H a xs ∧ SqT K H b ys ∧ xs[i]? = some x ∧ ys[i]? = some y
  yld := fun i H v H' => ∃ T x y, v = V.ref T ∧ H T = none ∧ H' = upd H T (HO.tup [x, y]) ∧ (∀ xs, SqL K H a xs → xs[i]? = some x) ∧ ∀ ys, SqT K H b ys → ys[i]? = some y
  stop := fun i H => ∃ xs, SqL K H a xs ∧ xs.length ≤ i
theorem turn_zipM {P : Program} {w : World} {K : PySem.W.Frag} {elts : List Expr} {kk : Nat} {tpos : Pos} {a b z TI TO i1 i2 : Addr} (D : ZipApart z TI TO i1 i2 a b) :
    Turn P w K (.Tuple elts kk tpos) (ItzM K a b) [z, TI, TO, i1, i2] z fun i h => IsZip h z TI TO Value.none ∧ IsPair h TI (.ref i1) (.ref i2) ∧ (∃ x y, IsPair h TO x y) ∧ h.IsListIter i1 a i ∧ h.IsTupleIter i2 b i where
  mem := by simp
  obj := by
    rintro i h ⟨hz, hTI, ⟨x, y, hTO⟩, ⟨o1, e1, _, d1⟩, ⟨o2, e2, _, d2⟩⟩ c hc
    simp only [List.mem_cons, List.not_mem_nil, or_false] at hc
    rcases hc with rfl | rfl | rfl | rfl | rfl
    · exact ⟨_, hz, fun v q => nomatch q⟩
    · exact ⟨_, hTI, fun v q => nomatch q⟩
    · exact ⟨_, hTO, fun v q => nomatch q⟩
    · exact ⟨o1, e1, fun v q => by rw [d1] at q; cases q⟩
    · exact ⟨o2, e2, fun v q => by rw [d2] at q; cases q⟩
  keep := by
    rintro i h h' ⟨hz, hTI, ⟨x, y, hTO⟩, h1, h2⟩ k
    exact ⟨k z (by simp) _ hz, k TI (by simp) _ hTI, ⟨x, y, k TO (by simp) _ hTO⟩, h1.at (k i1 (by simp)), h2.at (k i2 (by simp))⟩
  item := by
    intro X hP hw hK hc i pins s σ H E I hf st hg
    subst hP
    subst hw
    subst hK
    obtain ⟨hz, hTI, ⟨x0, y0, hTO⟩, h1, h2⟩ := st
    obtain ⟨xs, ys, x, y, hqx, hqy, hx, hy⟩ := hg
    obtain ⟨its, rv, p, _⟩ := I.list hqx
    obtain ⟨its2, rv2, p2, _⟩ := I.tuple hqy
    obtain ⟨u, hu, ru⟩ := rv.get hx
    obtain ⟨u2, hu2, ru2⟩ := rv2.get hy
    have hzl := Heap.lt_size hz
    refine pyNext_zipM_item D hz hTI hTO h1 h2 (PlainL.isList p) p2 (by rw [List.getElem?_toArray]; exact hu) (by rw [List.getElem?_toArray]; exact hu2) fun h' z' TO' h1' h2' hT hsz hk => ?_
    refine ⟨.ref s.heap.objs.size, rfl, wpAny_letOwnedTupleGo_zip z' fun h'' z'' sb => ?_⟩
    have hT2 := (sb.2 s.heap.objs.size (Nat.ne_of_gt hzl)).trans hT
    have I1 := I.turnedNew (h' := h'') (t' := s.toks) (ch := [z, TI, TO, i1, i2]) (T := s.heap.objs.size) (ob := .tup [x, y])
      (fun c o hb q => (sb.2 c (fun e => hb (by simp [e]))).trans (hk c o (fun e => hb (by simp [e])) (fun e => hb (by simp [e])) (fun e => hb (by simp [e])) (fun e => hb (by simp [e])) q)) hf (Nat.le_refl _)
      ⟨(by show 2 ≤ sizeLine; decide), [u, u2], .cons ru (.cons ru2 .nil), _, hT2, rfl, 0, rfl⟩
    refine ⟨.ref s.heap.objs.size, _, I1, rfl, ⟨s.heap.objs.size, x, y, rfl, I.hok.fresh (Nat.le_refl _), rfl, fun l hl => by rw [I.list_inj hl hqx]; exact hx, fun l hl => by rw [I.tuple_inj hl hqy]; exact hy⟩,
      ⟨z'', (sb.2 TI D.TIz).trans (hk TI _ D.TIz D.TITO D.TIi1 D.TIi2 hTI), ⟨u, u2, (sb.2 TO D.TOz).trans TO'⟩, h1'.at (fun o q => (sb.2 i1 D.i1z).trans q), h2'.at (fun o q => (sb.2 i2 D.i2z).trans q)⟩, fun c hcm => ?_⟩
    have hlt : c < s.heap.objs.size := by
      obtain ⟨o1, e1, _⟩ := h1
      obtain ⟨o2, e2, _⟩ := h2
      simp only [List.mem_cons, List.not_mem_nil, or_false] at hcm
      rcases hcm with rfl | rfl | rfl | rfl | rfl
      · exact hzl
      · exact Heap.lt_size hTI
      · exact Heap.lt_size hTO
      · exact Heap.lt_size e1
      · exact Heap.lt_size e2
    rw [upd_ne (Nat.ne_of_lt hlt)]
    exact (hf c hcm).1
  done := by
    intro X hP hw hK hc i pins s σ H E I hf st hg
    subst hP
    subst hw
    subst hK
    obtain ⟨hz, hTI, ⟨x0, y0, hTO⟩, h1, h2⟩ := st
    obtain ⟨xs, hqx, hend⟩ := hg
    obtain ⟨its, rv, p, _⟩ := I.list hqx
    have l1 := rv.length
    refine pyNext_zipM_end (I.ok.hd hc) D hz hTI hTO h1 (PlainL.isList p) (by rw [List.getElem?_toArray]; exact List.getElem?_eq_none (by omega)) fun h' hk => ⟨rfl, I.turnedL (t' := s.toks) (ch := [z, TI, TO, i1, i2]) (fun c o hb q => hk c o (fun e => hb (by simp [e])) (fun e => hb (by simp [e])) q) hf⟩
  self := fun A i s Q E st h => wpAny_pyIter_zip st.1 h
end L2

/-! for x, y in zip(list, tuple) -/
namespace L2
open PySem PySem.Spec PyProof.Rows
abbrev zM1 (h : Heap) (l1 : Addr) : Heap := h.push { cls := Value.type "list_iterator", data := Data.fields #[Value.ref l1, Value.int 0 0] }
abbrev zM2 (h : Heap) (l1 l2 : Addr) : Heap := (zM1 h l1).push { cls := Value.type "tuple_iterator", data := Data.fields #[Value.ref l2, Value.int 0 0] }
abbrev zM3 (h : Heap) (l1 l2 : Addr) : Heap := (zM2 h l1 l2).push { cls := Value.type "tuple", data := Data.seq #[Value.ref h.objs.size, Value.ref (zM1 h l1).objs.size] }
abbrev zM4 (h : Heap) (l1 l2 : Addr) : Heap := (zM3 h l1 l2).push { cls := Value.type "tuple", data := Data.seq #[Value.none, Value.none] }
abbrev zM5 (h : Heap) (l1 l2 : Addr) : Heap := (zM4 h l1 l2).push { cls := Value.type "zip", data := Data.fields #[Value.none, Value.bool false, Value.bool false, Value.ref (zM2 h l1 l2).objs.size, Value.ref (zM3 h l1 l2).objs.size] }
theorem meets_zipM_new (l1 l2 : Addr) (xs ys : Array Value) : Meets (Builtin.«zip.__new__» { pos := [.type "zip", .ref l1, .ref l2] }) fun x R s =>
    s.heap.IsList l1 xs ∧ s.heap.IsTuple l2 ys ∧ R (.ok (.ret (.ref (zM4 s.heap l1 l2).objs.size))) { heap := zM5 s.heap l1 l2, gens := s.gens, drawn := s.drawn, toks := s.toks, os := s.os } := .of_wp fun prog w A R s h => by
  obtain ⟨hp, g, d, tk, os⟩ := s
  obtain ⟨hl1, hl2, h⟩ := h
  have hsub := sub_zip
  have hL1 := hl1
  have hL2 := Heap.IsTuple.push hl2 { cls := Value.type "list_iterator", data := Data.fields #[Value.ref l1, Value.int 0 0] }
  unfold Builtin.«zip.__new__»
  wp_walk using wpAny_pyIter_list hL1, wpAny_pyIter_tuple hL2
  exact ⟨_, rfl, h⟩
theorem call_zipM {prog : Program} {w : World} {A : Around} {E : Value → Shared → Prop} {s : Shared} {l1 l2 : Addr} {xs ys : Array Value} {Q : Value → Shared → Prop} (hl1 : s.heap.IsList l1 xs) (hl2 : s.heap.IsTuple l2 ys)
    (h : ∀ h' : Heap, IsZip h' (s.heap.objs.size + 4) (s.heap.objs.size + 2) (s.heap.objs.size + 3) Value.none → IsPair h' (s.heap.objs.size + 2) (.ref s.heap.objs.size) (.ref (s.heap.objs.size + 1)) → IsPair h' (s.heap.objs.size + 3) Value.none Value.none →
      h'.IsListIter s.heap.objs.size l1 0 → h'.IsTupleIter (s.heap.objs.size + 1) l2 0 → (∀ (c : Addr) (o : Obj), s.heap.get? c = some o → h'.get? c = some o) → Q (.ref (s.heap.objs.size + 4)) { heap := h', gens := s.gens, drawn := s.drawn, toks := s.toks, os := s.os }) :
    wpAny (model prog w) A (call (.type "zip") [.ref l1, .ref l2]) Q E s := by
  refine callType_new F.called_zip (by decide) (F.typeCall_zip_2 _ _) (F.newCall_zip_2 _ _) (fun obj => F.args_object_init_3 obj _ _) F.entry_zip_new (meets_zipM_new l1 l2 xs ys) ⟨hl1, hl2, ?_⟩
  have z1 : (zM1 s.heap l1).objs.size = s.heap.objs.size + 1 := Heap.size_push _ _
  have z2 : (zM2 s.heap l1 l2).objs.size = s.heap.objs.size + 2 := by
    show ((zM1 s.heap l1).push _).objs.size = _
    rw [Heap.size_push, z1]
  have z3 : (zM3 s.heap l1 l2).objs.size = s.heap.objs.size + 3 := by
    show ((zM2 s.heap l1 l2).push _).objs.size = _
    rw [Heap.size_push, z2]
  have z4 : (zM4 s.heap l1 l2).objs.size = s.heap.objs.size + 4 := by
    show ((zM3 s.heap l1 l2).push _).objs.size = _
    rw [Heap.size_push, z3]
  have g5 : (zM5 s.heap l1 l2).get? (zM4 s.heap l1 l2).objs.size = some { cls := Value.type "zip", data := Data.fields #[Value.none, Value.bool false, Value.bool false, Value.ref (zM2 s.heap l1 l2).objs.size, Value.ref (zM3 s.heap l1 l2).objs.size] } := Heap.get?_push_size (zM4 s.heap l1 l2) rfl
  have g4 : (zM5 s.heap l1 l2).get? (zM3 s.heap l1 l2).objs.size = some { cls := Value.type "tuple", data := Data.seq #[Value.none, Value.none] } := Heap.get?_push_of_some _ (Heap.get?_push_size (zM3 s.heap l1 l2) rfl)
  have g3 : (zM5 s.heap l1 l2).get? (zM2 s.heap l1 l2).objs.size = some { cls := Value.type "tuple", data := Data.seq #[Value.ref s.heap.objs.size, Value.ref (zM1 s.heap l1).objs.size] } := Heap.get?_push_of_some _ (Heap.get?_push_of_some _ (Heap.get?_push_size (zM2 s.heap l1 l2) rfl))
  have g2 : (zM5 s.heap l1 l2).get? (zM1 s.heap l1).objs.size = some { cls := Value.type "tuple_iterator", data := Data.fields #[Value.ref l2, Value.int 0 0] } := Heap.get?_push_of_some _ (Heap.get?_push_of_some _ (Heap.get?_push_of_some _ (Heap.get?_push_size (zM1 s.heap l1) rfl)))
  have g1 : (zM5 s.heap l1 l2).get? s.heap.objs.size = some { cls := Value.type "list_iterator", data := Data.fields #[Value.ref l1, Value.int 0 0] } := Heap.get?_push_of_some _ (Heap.get?_push_of_some _ (Heap.get?_push_of_some _ (Heap.get?_push_of_some _ (Heap.get?_push_size s.heap rfl))))
  have hk : ∀ (c : Addr) (o : Obj), s.heap.get? c = some o → (zM5 s.heap l1 l2).get? c = some o := fun c o e => Heap.get?_push_of_some _ (Heap.get?_push_of_some _ (Heap.get?_push_of_some _ (Heap.get?_push_of_some _ (Heap.get?_push_of_some _ e))))
  rw [z4, z2, z3] at g5
  rw [z3] at g4
  rw [z2, z1] at g3
  rw [z1] at g2
  show Shared.TypeIs _ (.ref (zM4 s.heap l1 l2).objs.size) "zip" ∧ _
  rw [z4]
  exact ⟨⟨_, g5, rfl⟩, h _ g5 g3 g4 ⟨_, g1, rfl, rfl⟩ ⟨_, g2, rfl, rfl⟩ hk⟩
def iZipM (K : PySem.W.Frag) (ta : TA) : TI := fun σ H R => ta σ H fun vs H1 => ∃ a b xs ys, vs = [.ref a, .ref b] ∧ SqL K H1 a xs ∧ SqT K H1 b ys ∧ R (ItzM K a b) H1
theorem pi_zipM {X : Cx} {e e2 : Expr} {ta : TA} {p pos tpos : Pos} {elts : List Expr} {kk : Nat} (hg : Gl X "zip") (hm : X.mg "zip" = none) (ha : PA X [e, e2] ta)
    (hs : starEach [e, e2] X.env = (false, eval e X.env) :: starEach [e2] X.env := by rfl) (hpl : (backTo pos (starEach [e2] X.env)).any (·.1) = false := by rfl) : PI X (.Tuple elts kk tpos) (.Call (.Name "zip" p) [e, e2] [] pos) (iZipM X.K ta) := by
  refine ⟨fun pins s σ H R I h => Call_ (ld_blt I hg hm boot_zip (callWith_type1 (thn (ha.run pos pins s σ H _ I h) fun us s1 ⟨vs, H1, I1, r1, q1⟩ => ?_) hs hpl))⟩
  obtain ⟨a, b, xs, ys, rfl, hqx, hqy, q⟩ := q1
  cases r1 with
  | cons r rr =>
    cases rr with
    | cons r' r0 =>
      cases r0
      cases r
      cases r'
      obtain ⟨its, rv, p1, _⟩ := I1.list hqx
      obtain ⟨its2, rv2, p2, _⟩ := I1.tuple hqy
      obtain ⟨o2, ho2, hc2⟩ := id p2
      refine call_zipM (PlainL.isList p1) p2 fun h' hz hTI hTO h1 h2 hk => wpAny_pyIter_zip hz ?_
      have I2 := I1.kept (t' := s1.toks) hk
      refine ⟨s1.heap.objs.size + 4, [s1.heap.objs.size + 4, s1.heap.objs.size + 2, s1.heap.objs.size + 3, s1.heap.objs.size, s1.heap.objs.size + 1], _, ItzM X.K a b, H1, rfl, I2, turn_zipM (PySem.W.ktu_apart s1.heap.objs.size a b (PlainL.lt p1) (Heap.lt_size ho2)), ⟨hz, hTI, ⟨_, _, hTO⟩, h1, h2⟩, fun c hcm => ?_, q⟩
      have hle : s1.heap.objs.size ≤ c := by
        simp only [List.mem_cons, List.not_mem_nil, or_false] at hcm
        rcases hcm with h | h | h | h | h <;> (rw [h]; first | exact Nat.le_add_right _ _ | exact Nat.le_refl _)
      exact I1.fpOk hle (I1.hok.fresh hle)
theorem walk_zipM {K : PySem.W.Frag} {a b : Addr} {xs ys : List V} (hn : xs.length = ys.length) : Walk (ItzM K a b) xs.length (fun H => SqL K H a xs ∧ SqT K H b ys) (YPair (fun i => xs[i]?) (fun i => ys[i]?)) := by
  refine ⟨fun i H hi q => ?_, fun H q => ⟨xs, q.1, Nat.le_refl _⟩, fun i H v H' hi q y => ?_⟩
  · exact ⟨xs, ys, _, _, q.1, q.2, List.getElem?_eq_getElem hi, List.getElem?_eq_getElem (by omega)⟩
  · obtain ⟨T, x, z, e1, e2, e3, e4, e5⟩ := y
    exact ⟨T, x, z, e1, e2, e3, e4 xs q.1, e5 ys q.2⟩
end L2

/-! zip of a list with a tuple -/
namespace L2
open PySem PySem.Spec PyProof.Rows
theorem zipN_next_item {prog : Program} {w : World} {A : Around} {E : Value → Shared → Prop} {s : Shared} {z TI TO i1 i2 l1 l2 : Addr} {k1 k2 : Nat} {xs ys : Array Value} {x y a b : Value} {Q : Value → Shared → Prop}
  (D : ZipApart z TI TO i1 i2 l1 l2) (hz : IsZip s.heap z TI TO Value.none) (hTI : IsPair s.heap TI (.ref i1) (.ref i2)) (hTO : IsPair s.heap TO a b) (h1 : s.heap.IsTupleIter i1 l1 k1) (h2 : s.heap.IsListIter i2 l2 k2)
  (hl1 : s.heap.IsTuple l1 xs) (hl2 : s.heap.IsList l2 ys) (hx : xs[k1]? = some x) (hy : ys[k2]? = some y)
  (hq : ∀ h' : Heap, IsZip h' z TI TO (rawInt s.heap.objs.size) → IsPair h' TO x y → h'.IsTupleIter i1 l1 (k1 + 1) → h'.IsListIter i2 l2 (k2 + 1) → IsPair h' s.heap.objs.size x y → h'.objs.size = s.heap.objs.size + 1 →
    (∀ (c : Addr) (o : Obj), c ≠ z → c ≠ TO → c ≠ i1 → c ≠ i2 → s.heap.get? c = some o → h'.get? c = some o) → Q (.ref s.heap.objs.size) { heap := h', gens := s.gens, drawn := s.drawn, toks := s.toks, os := s.os }) :
  wpAny (model prog w) A (Builtin.«zip.__next__» { pos := [.ref z] }) (fun fin s' => ∃ v, fin = Fin.done (Flow.ret v) ∧ Q v s') E s := by
  have u1 : ∀ (b : Addr) (o : Obj), b ≠ z → s.heap.get? b = some o → (s.heap.update z (Obj.mapFields fun x => x.setIfInBounds 0 Value.ellipsis)).get? b = some o := fun b o ne e => Heap.get?_update_of_ne _ ne.symm e
  have g1 := h1.at (fun o e => u1 i1 o D.i1z e)
  have gl1 : (s.heap.update z (Obj.mapFields fun x => x.setIfInBounds 0 Value.ellipsis)).IsTuple l1 xs := hl1.imp fun o h => ⟨u1 _ _ D.l1z h.1, h.2⟩
  unfold Builtin.«zip.__next__»
  wp_walk using wpAny_field hz rfl rfl, wpAny_seqItems hTI rfl, RZ.nextOf_tuple_item g1 gl1 hx, wpAny_onRaise
  intro h3 g3 sb3
  have k3 : ∀ (b : Addr) (o : Obj), b ≠ z → b ≠ i1 → s.heap.get? b = some o → h3.get? b = some o := fun b o n1 n2 e => (sb3.2 b n2).trans (u1 b o n1 e)
  have hTO3 : IsPair h3 TO a b := k3 TO _ D.TOz D.TOi1 hTO
  have u4 : ∀ (b : Addr) (o : Obj), b ≠ TO → h3.get? b = some o → (h3.update TO (Obj.mapSeq fun x_1 => x_1.setIfInBounds 0 x)).get? b = some o := fun b o ne e => Heap.get?_update_of_ne _ ne.symm e
  have g4 := h2.at (h' := h3.update TO (Obj.mapSeq fun x_1 => x_1.setIfInBounds 0 x)) (fun o e => u4 i2 o D.TOi2.symm (k3 i2 o D.i2z D.i12.symm e))
  have gl4 : (h3.update TO (Obj.mapSeq fun x_1 => x_1.setIfInBounds 0 x)).IsList l2 ys := hl2.imp fun o h => ⟨u4 _ _ D.l2TO (k3 _ _ D.l2z D.l2i1 h.1), h.2⟩
  wp_walk using wpAny_seqItems hTO3 rfl, wpAny_nextOf_list_item g4 gl4 hy, wpAny_onRaise, wpAny_letGo
  intro h5 g5 sb5
  have hTO4 : IsPair (h3.update TO (Obj.mapSeq fun x_1 => x_1.setIfInBounds 0 x)) TO x b := (Heap.get?_update_self _ hTO3 rfl).trans (by rfl)
  have hTO5 : IsPair h5 TO x b := (sb5.2 TO D.TOi2).trans hTO4
  have hTO6 : IsPair (h5.update TO (Obj.mapSeq fun x_1 => x_1.setIfInBounds (0 + 1) y)) TO x y := (Heap.get?_update_self _ hTO5 rfl).trans (by rfl)
  have hz1 : (s.heap.update z (Obj.mapFields fun x => x.setIfInBounds 0 Value.ellipsis)).get? z = some { cls := Value.type "zip", data := Data.fields #[Value.ellipsis, Value.bool false, Value.bool false, Value.ref TI, Value.ref TO] } := (Heap.get?_update_self _ hz rfl).trans (by rfl)
  have hz3 := (sb3.2 z D.i1z.symm).trans hz1
  have hz4 := Heap.get?_update_of_ne (Obj.mapSeq fun x_1 => x_1.setIfInBounds 0 x) D.TOz hz3
  have hz5 := (sb5.2 z D.i2z.symm).trans hz4
  have hz6 := Heap.get?_update_of_ne (Obj.mapSeq fun x_1 => x_1.setIfInBounds (0 + 1) y) D.TOz hz5
  wp_walk using wpAny_seqItems hTO5 rfl, wpAny_seqItems hTO6 rfl, wpAny_letGo
  have sz : (h5.update TO (Obj.mapSeq fun x_1 => x_1.setIfInBounds (0 + 1) y)).objs.size = s.heap.objs.size := by
    rw [Heap.size_update, sb5.1]
    show (h3.update TO _).objs.size = _
    rw [Heap.size_update, sb3.1]
    show (s.heap.update z _).objs.size = _
    rw [Heap.size_update]
  have nz : (h5.update TO (Obj.mapSeq fun x_1 => x_1.setIfInBounds (0 + 1) y)).objs.size ≠ z := (Nat.ne_of_lt (Heap.lt_size hz6)).symm
  refine ⟨_, rfl, ?_⟩
  have c6 : ∀ (b : Addr) (o : Obj), b ≠ z → (h5.update TO (Obj.mapSeq fun x_1 => x_1.setIfInBounds (0 + 1) y)).get? b = some o → ((((h5.update TO (Obj.mapSeq fun x => x.setIfInBounds (0 + 1) y)).push { cls := Value.type "tuple", data := Data.seq #[x, y].toList.toArray }).update z (Obj.mapFields fun x => x.setIfInBounds 0 (rawInt ↑(h5.update TO (Obj.mapSeq fun x => x.setIfInBounds (0 + 1) y)).objs.size))).update z (Obj.mapFields fun x => x.setIfInBounds 1 (Value.bool false))).get? b = some o := fun b o n e => Heap.get?_update_of_ne _ n.symm (Heap.get?_update_of_ne _ n.symm (Heap.get?_push_of_some _ e))
  have c5 : ∀ (b : Addr) (o : Obj), b ≠ z → b ≠ TO → h5.get? b = some o → _ := fun b o n m e => c6 b o n (Heap.get?_update_of_ne _ m.symm e)
  have c3 : ∀ (b : Addr) (o : Obj), b ≠ z → b ≠ TO → b ≠ i2 → h3.get? b = some o → _ := fun b o n m q e => c5 b o n m ((sb5.2 b q).trans (u4 b o m e))
  have hz7 := Heap.get?_push_of_some { cls := Value.type "tuple", data := Data.seq #[x, y].toList.toArray } hz6
  have hz8 := (Heap.get?_update_self (Obj.mapFields fun x => x.setIfInBounds 0 (rawInt ↑(h5.update TO (Obj.mapSeq fun x => x.setIfInBounds (0 + 1) y)).objs.size)) hz7 rfl)
  have hz9 := (Heap.get?_update_self (Obj.mapFields fun x => x.setIfInBounds 1 (Value.bool false)) hz8 rfl)
  have pT : ((h5.update TO (Obj.mapSeq fun x => x.setIfInBounds (0 + 1) y)).push { cls := Value.type "tuple", data := Data.seq #[x, y].toList.toArray }).get? (h5.update TO (Obj.mapSeq fun x => x.setIfInBounds (0 + 1) y)).objs.size = some { cls := Value.type "tuple", data := Data.seq #[x, y].toList.toArray } := Heap.get?_push_size _ rfl
  have p9 := Heap.get?_update_of_ne (Obj.mapFields fun x => x.setIfInBounds 1 (Value.bool false)) nz.symm (Heap.get?_update_of_ne (Obj.mapFields fun x => x.setIfInBounds 0 (rawInt ↑(h5.update TO (Obj.mapSeq fun x => x.setIfInBounds (0 + 1) y)).objs.size)) nz.symm pT)
  have s9 : ((((h5.update TO (Obj.mapSeq fun x => x.setIfInBounds (0 + 1) y)).push { cls := Value.type "tuple", data := Data.seq #[x, y].toList.toArray }).update z (Obj.mapFields fun x => x.setIfInBounds 0 (rawInt ↑(h5.update TO (Obj.mapSeq fun x => x.setIfInBounds (0 + 1) y)).objs.size))).update z (Obj.mapFields fun x => x.setIfInBounds 1 (Value.bool false))).objs.size = s.heap.objs.size + 1 := by
    rw [Heap.size_update, Heap.size_update, Heap.size_push, sz]
  revert c6 c5 c3 hz9 p9 s9
  generalize ((((h5.update TO (Obj.mapSeq fun x => x.setIfInBounds (0 + 1) y)).push { cls := Value.type "tuple", data := Data.seq #[x, y].toList.toArray }).update z (Obj.mapFields fun x => x.setIfInBounds 0 (rawInt ↑(h5.update TO (Obj.mapSeq fun x => x.setIfInBounds (0 + 1) y)).objs.size))).update z (Obj.mapFields fun x => x.setIfInBounds 1 (Value.bool false))) = h9
  intro c6 c5 c3 hz9 p9 s9
  rw [sz] at hz9 p9 ⊢
  exact hq h9 (hz9.trans (by rfl)) (c6 TO _ D.TOz hTO6) (g3.at fun o e => c3 i1 o D.i1z D.TOi1.symm D.i12 e) (g5.at fun o e => c5 i2 o D.i2z D.TOi2.symm e) (p9.trans (by rfl)) s9 fun c o n1 n2 n3 n4 e => c3 c o n1 n2 n4 (k3 c o n1 n3 e)
theorem zipN_next_end {prog : Program} {w : World} {A : Around} {E : Value → Shared → Prop} {s : Shared} {z TI TO i1 i2 l1 l2 : Addr} {k1 : Nat} {xs : Array Value} {a b : Value} {Q : PySem.Fin → Shared → Prop}
  (hh : A.handled = none) (D : ZipApart z TI TO i1 i2 l1 l2) (hz : IsZip s.heap z TI TO Value.none) (hTI : IsPair s.heap TI (.ref i1) (.ref i2)) (hTO : IsPair s.heap TO a b) (h1 : s.heap.IsTupleIter i1 l1 k1)
  (hl1 : s.heap.IsTuple l1 xs) (hx : xs[k1]? = none)
  (hq : ∀ (h' : Heap) (e : Addr), (∀ (c : Addr) (o : Obj), c ≠ z → c ≠ i1 → s.heap.get? c = some o → h'.get? c = some o) → (∃ o, h'.get? e = some o ∧ o.cls = Value.type "StopIteration") → E (.ref e) { heap := h', gens := s.gens, drawn := s.drawn, toks := s.toks, os := s.os }) :
  wpAny (model prog w) A (Builtin.«zip.__next__» { pos := [.ref z] }) Q E s := by
  have u1 : ∀ (b : Addr) (o : Obj), b ≠ z → s.heap.get? b = some o → (s.heap.update z (Obj.mapFields fun x => x.setIfInBounds 0 Value.ellipsis)).get? b = some o := fun b o ne e => Heap.get?_update_of_ne _ ne.symm e
  have g1 := h1.at (fun o e => u1 i1 o D.i1z e)
  have gl1 : (s.heap.update z (Obj.mapFields fun x => x.setIfInBounds 0 Value.ellipsis)).IsTuple l1 xs := hl1.imp fun o h => ⟨u1 _ _ D.l1z h.1, h.2⟩
  have hz1 : (s.heap.update z (Obj.mapFields fun x => x.setIfInBounds 0 Value.ellipsis)).get? z = some { cls := Value.type "zip", data := Data.fields #[Value.ellipsis, Value.bool false, Value.bool false, Value.ref TI, Value.ref TO] } := (Heap.get?_update_self _ hz rfl).trans (by rfl)
  unfold Builtin.«zip.__next__»
  wp_walk using wpAny_field hz rfl rfl, wpAny_seqItems hTI rfl, RZ.nextOf_tuple_end hh g1 gl1 hx, wpAny_onRaise
  intro h3 e3 xb3 he3
  have hz3 := xb3 z _ D.i1z.symm hz1
  refine wpAny_setField_rec hz3 (by show 0 < 5; decide) fun h4 hz4 sb4 => ?_
  obtain ⟨o, ho, hc⟩ := he3
  have ne : e3 ≠ z := fun q => by
    rw [q, hz3] at ho
    cases ho
    exact absurd (show Value.type "zip" = Value.type "StopIteration" from hc) (by decide)
  exact hq h4 e3 (fun c o n1 n2 e => (sb4.2 c n1).trans (xb3 c o n2 (u1 c o n1 e))) ⟨o, (sb4.2 e3 ne).trans ho, hc⟩
theorem pyNext_zipN_item {prog : Program} {w : World} {A : Around} {E : Value → Shared → Prop} {s : Shared} {z TI TO i1 i2 l1 l2 : Addr} {k1 k2 : Nat} {xs ys : Array Value} {x y a b : Value} {Q : Option Value → Shared → Prop}
  (D : ZipApart z TI TO i1 i2 l1 l2) (hz : IsZip s.heap z TI TO Value.none) (hTI : IsPair s.heap TI (.ref i1) (.ref i2)) (hTO : IsPair s.heap TO a b) (h1 : s.heap.IsTupleIter i1 l1 k1) (h2 : s.heap.IsListIter i2 l2 k2)
  (hl1 : s.heap.IsTuple l1 xs) (hl2 : s.heap.IsList l2 ys) (hx : xs[k1]? = some x) (hy : ys[k2]? = some y)
  (hq : ∀ h' : Heap, IsZip h' z TI TO (rawInt s.heap.objs.size) → IsPair h' TO x y → h'.IsTupleIter i1 l1 (k1 + 1) → h'.IsListIter i2 l2 (k2 + 1) → IsPair h' s.heap.objs.size x y → h'.objs.size = s.heap.objs.size + 1 →
    (∀ (c : Addr) (o : Obj), c ≠ z → c ≠ TO → c ≠ i1 → c ≠ i2 → s.heap.get? c = some o → h'.get? c = some o) → Q (some (.ref s.heap.objs.size)) { heap := h', gens := s.gens, drawn := s.drawn, toks := s.toks, os := s.os }) :
  wpAny (model prog w) A (pyNext (.ref z)) Q E s := by
  have hT : s.TypeIs (.ref z) "zip" := ⟨_, hz, rfl⟩
  exact wpAny_bind (wpAny_attempt (wpAny_callSpecial?_slot hT F.slot_zip_next (wpAny_call_entry F.slot_zip_next hT F.entry_zip_next (zipN_next_item D hz hTI hTO h1 h2 hl1 hl2 hx hy fun h' a1 a2 a3 a4 a5 a6 a7 => wpAny_pure (hq h' a1 a2 a3 a4 a5 a6 a7)) (F.args_zip_next_1 _))))
theorem pyNext_zipN_end {prog : Program} {w : World} {A : Around} {E : Value → Shared → Prop} {s : Shared} {z TI TO i1 i2 l1 l2 : Addr} {k1 : Nat} {xs : Array Value} {a b : Value} {Q : Option Value → Shared → Prop}
  (hh : A.handled = none) (D : ZipApart z TI TO i1 i2 l1 l2) (hz : IsZip s.heap z TI TO Value.none) (hTI : IsPair s.heap TI (.ref i1) (.ref i2)) (hTO : IsPair s.heap TO a b) (h1 : s.heap.IsTupleIter i1 l1 k1)
  (hl1 : s.heap.IsTuple l1 xs) (hx : xs[k1]? = none)
  (hq : ∀ (h' : Heap), (∀ (c : Addr) (o : Obj), c ≠ z → c ≠ i1 → s.heap.get? c = some o → h'.get? c = some o) → Q none { heap := h', gens := s.gens, drawn := s.drawn, toks := s.toks, os := s.os }) :
  wpAny (model prog w) A (pyNext (.ref z)) Q E s := by
  have hT : s.TypeIs (.ref z) "zip" := ⟨_, hz, rfl⟩
  exact wpAny_bind (wpAny_attempt (wpAny_callSpecial?_slot hT F.slot_zip_next (wpAny_call_entry F.slot_zip_next hT F.entry_zip_next (zipN_next_end hh D hz hTI hTO h1 hl1 hx fun h' e hk ⟨o, ho, hc⟩ => wpAny_bind (wpAny_isInstance ⟨o, ho, hc⟩ isSubtype_stop (wpAny_pure (hq h' hk)))) (F.args_zip_next_1 _))))
def ItzN (K : PySem.W.Frag) (a b : Addr) : It where
  go := fun i H => ∃ xs ys x y, SqT K H a xs ∧ SqL K H b ys ∧ xs[i]? = some x ∧ ys[i]? = some y
  yld := fun i H v H' => ∃ T x y, v = V.ref T ∧ H T = none ∧ H' = upd H T (HO.tup [x, y]) ∧ (∀ xs, SqT K H a xs → xs[i]? = some x) ∧ ∀ ys, SqL K H b ys → ys[i]? = some y
  stop := fun i H => ∃ xs, SqT K H a xs ∧ xs.length ≤ i
theorem turn_zipN {P : Program} {w : World} {K : PySem.W.Frag} {elts : List Expr} {kk : Nat} {tpos : Pos} {a b z TI TO i1 i2 : Addr} (D : ZipApart z TI TO i1 i2 a b) :
    Turn P w K (.Tuple elts kk tpos) (ItzN K a b) [z, TI, TO, i1, i2] z fun i h => IsZip h z TI TO Value.none ∧ IsPair h TI (.ref i1) (.ref i2) ∧ (∃ x y, IsPair h TO x y) ∧ h.IsTupleIter i1 a i ∧ h.IsListIter i2 b i where
  mem := by simp
  obj := by
    rintro i h ⟨hz, hTI, ⟨x, y, hTO⟩, ⟨o1, e1, _, d1⟩, ⟨o2, e2, _, d2⟩⟩ c hc
    simp only [List.mem_cons, List.not_mem_nil, or_false] at hc
    rcases hc with rfl | rfl | rfl | rfl | rfl
    · exact ⟨_, hz, fun v q => nomatch q⟩
    · exact ⟨_, hTI, fun v q => nomatch q⟩
    · exact ⟨_, hTO, fun v q => nomatch q⟩
    · exact ⟨o1, e1, fun v q => by rw [d1] at q; cases q⟩
    · exact ⟨o2, e2, fun v q => by rw [d2] at q; cases q⟩
  keep := by
    rintro i h h' ⟨hz, hTI, ⟨x, y, hTO⟩, h1, h2⟩ k
    exact ⟨k z (by simp) _ hz, k TI (by simp) _ hTI, ⟨x, y, k TO (by simp) _ hTO⟩, h1.at (k i1 (by simp)), h2.at (k i2 (by simp))⟩
  item := by
    intro X hP hw hK hc i pins s σ H E I hf st hg
    subst hP
    subst hw
    subst hK
    obtain ⟨hz, hTI, ⟨x0, y0, hTO⟩, h1, h2⟩ := st
    obtain ⟨xs, ys, x, y, hqx, hqy, hx, hy⟩ := hg
    obtain ⟨its, rv, p, _⟩ := I.tuple hqx
    obtain ⟨its2, rv2, p2, _⟩ := I.list hqy
    obtain ⟨u, hu, ru⟩ := rv.get hx
    obtain ⟨u2, hu2, ru2⟩ := rv2.get hy
    have hzl := Heap.lt_size hz
    refine pyNext_zipN_item D hz hTI hTO h1 h2 p (PlainL.isList p2) (by rw [List.getElem?_toArray]; exact hu) (by rw [List.getElem?_toArray]; exact hu2) fun h' z' TO' h1' h2' hT hsz hk => ?_
    refine ⟨.ref s.heap.objs.size, rfl, wpAny_letOwnedTupleGo_zip z' fun h'' z'' sb => ?_⟩
    have hT2 := (sb.2 s.heap.objs.size (Nat.ne_of_gt hzl)).trans hT
    have I1 := I.turnedNew (h' := h'') (t' := s.toks) (ch := [z, TI, TO, i1, i2]) (T := s.heap.objs.size) (ob := .tup [x, y])
      (fun c o hb q => (sb.2 c (fun e => hb (by simp [e]))).trans (hk c o (fun e => hb (by simp [e])) (fun e => hb (by simp [e])) (fun e => hb (by simp [e])) (fun e => hb (by simp [e])) q)) hf (Nat.le_refl _)
      ⟨(by show 2 ≤ sizeLine; decide), [u, u2], .cons ru (.cons ru2 .nil), _, hT2, rfl, 0, rfl⟩
    refine ⟨.ref s.heap.objs.size, _, I1, rfl, ⟨s.heap.objs.size, x, y, rfl, I.hok.fresh (Nat.le_refl _), rfl, fun l hl => by rw [I.tuple_inj hl hqx]; exact hx, fun l hl => by rw [I.list_inj hl hqy]; exact hy⟩,
      ⟨z'', (sb.2 TI D.TIz).trans (hk TI _ D.TIz D.TITO D.TIi1 D.TIi2 hTI), ⟨u, u2, (sb.2 TO D.TOz).trans TO'⟩, h1'.at (fun o q => (sb.2 i1 D.i1z).trans q), h2'.at (fun o q => (sb.2 i2 D.i2z).trans q)⟩, fun c hcm => ?_⟩
    have hlt : c < s.heap.objs.size := by
      obtain ⟨o1, e1, _⟩ := h1
      obtain ⟨o2, e2, _⟩ := h2
      simp only [List.mem_cons, List.not_mem_nil, or_false] at hcm
      rcases hcm with rfl | rfl | rfl | rfl | rfl
      · exact hzl
      · exact Heap.lt_size hTI
      · exact Heap.lt_size hTO
      · exact Heap.lt_size e1
      · exact Heap.lt_size e2
    rw [upd_ne (Nat.ne_of_lt hlt)]
    exact (hf c hcm).1
  done := by
    intro X hP hw hK hc i pins s σ H E I hf st hg
    subst hP
    subst hw
    subst hK
    obtain ⟨hz, hTI, ⟨x0, y0, hTO⟩, h1, h2⟩ := st
    obtain ⟨xs, hqx, hend⟩ := hg
    obtain ⟨its, rv, p, _⟩ := I.tuple hqx
    have l1 := rv.length
    refine pyNext_zipN_end (I.ok.hd hc) D hz hTI hTO h1 p (by rw [List.getElem?_toArray]; exact List.getElem?_eq_none (by omega)) fun h' hk => ⟨rfl, I.turnedL (t' := s.toks) (ch := [z, TI, TO, i1, i2]) (fun c o hb q => hk c o (fun e => hb (by simp [e])) (fun e => hb (by simp [e])) q) hf⟩
  self := fun A i s Q E st h => wpAny_pyIter_zip st.1 h
end L2

/-! for x, y in zip(list, tuple) -/
namespace L2
open PySem PySem.Spec PyProof.Rows
abbrev zN1 (h : Heap) (l1 : Addr) : Heap := h.push { cls := Value.type "tuple_iterator", data := Data.fields #[Value.ref l1, Value.int 0 0] }
abbrev zN2 (h : Heap) (l1 l2 : Addr) : Heap := (zN1 h l1).push { cls := Value.type "list_iterator", data := Data.fields #[Value.ref l2, Value.int 0 0] }
abbrev zN3 (h : Heap) (l1 l2 : Addr) : Heap := (zN2 h l1 l2).push { cls := Value.type "tuple", data := Data.seq #[Value.ref h.objs.size, Value.ref (zN1 h l1).objs.size] }
abbrev zN4 (h : Heap) (l1 l2 : Addr) : Heap := (zN3 h l1 l2).push { cls := Value.type "tuple", data := Data.seq #[Value.none, Value.none] }
abbrev zN5 (h : Heap) (l1 l2 : Addr) : Heap := (zN4 h l1 l2).push { cls := Value.type "zip", data := Data.fields #[Value.none, Value.bool false, Value.bool false, Value.ref (zN2 h l1 l2).objs.size, Value.ref (zN3 h l1 l2).objs.size] }
theorem meets_zipN_new (l1 l2 : Addr) (xs ys : Array Value) : Meets (Builtin.«zip.__new__» { pos := [.type "zip", .ref l1, .ref l2] }) fun x R s =>
    s.heap.IsTuple l1 xs ∧ s.heap.IsList l2 ys ∧ R (.ok (.ret (.ref (zN4 s.heap l1 l2).objs.size))) { heap := zN5 s.heap l1 l2, gens := s.gens, drawn := s.drawn, toks := s.toks, os := s.os } := .of_wp fun prog w A R s h => by
  obtain ⟨hp, g, d, tk, os⟩ := s
  obtain ⟨hl1, hl2, h⟩ := h
  have hsub := sub_zip
  have hL1 := hl1
  have hL2 : (hp.push { cls := Value.type "tuple_iterator", data := Data.fields #[Value.ref l1, Value.int 0 0] }).IsList l2 ys := hl2.imp fun o h => ⟨Heap.get?_push_of_some _ h.1, h.2⟩
  unfold Builtin.«zip.__new__»
  wp_walk using wpAny_pyIter_tuple hL1, wpAny_pyIter_list hL2
  exact ⟨_, rfl, h⟩
theorem call_zipN {prog : Program} {w : World} {A : Around} {E : Value → Shared → Prop} {s : Shared} {l1 l2 : Addr} {xs ys : Array Value} {Q : Value → Shared → Prop} (hl1 : s.heap.IsTuple l1 xs) (hl2 : s.heap.IsList l2 ys)
    (h : ∀ h' : Heap, IsZip h' (s.heap.objs.size + 4) (s.heap.objs.size + 2) (s.heap.objs.size + 3) Value.none → IsPair h' (s.heap.objs.size + 2) (.ref s.heap.objs.size) (.ref (s.heap.objs.size + 1)) → IsPair h' (s.heap.objs.size + 3) Value.none Value.none →
      h'.IsTupleIter s.heap.objs.size l1 0 → h'.IsListIter (s.heap.objs.size + 1) l2 0 → (∀ (c : Addr) (o : Obj), s.heap.get? c = some o → h'.get? c = some o) → Q (.ref (s.heap.objs.size + 4)) { heap := h', gens := s.gens, drawn := s.drawn, toks := s.toks, os := s.os }) :
    wpAny (model prog w) A (call (.type "zip") [.ref l1, .ref l2]) Q E s := by
  refine callType_new F.called_zip (by decide) (F.typeCall_zip_2 _ _) (F.newCall_zip_2 _ _) (fun obj => F.args_object_init_3 obj _ _) F.entry_zip_new (meets_zipN_new l1 l2 xs ys) ⟨hl1, hl2, ?_⟩
  have z1 : (zN1 s.heap l1).objs.size = s.heap.objs.size + 1 := Heap.size_push _ _
  have z2 : (zN2 s.heap l1 l2).objs.size = s.heap.objs.size + 2 := by
    show ((zN1 s.heap l1).push _).objs.size = _
    rw [Heap.size_push, z1]
  have z3 : (zN3 s.heap l1 l2).objs.size = s.heap.objs.size + 3 := by
    show ((zN2 s.heap l1 l2).push _).objs.size = _
    rw [Heap.size_push, z2]
  have z4 : (zN4 s.heap l1 l2).objs.size = s.heap.objs.size + 4 := by
    show ((zN3 s.heap l1 l2).push _).objs.size = _
    rw [Heap.size_push, z3]
  have g5 : (zN5 s.heap l1 l2).get? (zN4 s.heap l1 l2).objs.size = some { cls := Value.type "zip", data := Data.fields #[Value.none, Value.bool false, Value.bool false, Value.ref (zN2 s.heap l1 l2).objs.size, Value.ref (zN3 s.heap l1 l2).objs.size] } := Heap.get?_push_size (zN4 s.heap l1 l2) rfl
  have g4 : (zN5 s.heap l1 l2).get? (zN3 s.heap l1 l2).objs.size = some { cls := Value.type "tuple", data := Data.seq #[Value.none, Value.none] } := Heap.get?_push_of_some _ (Heap.get?_push_size (zN3 s.heap l1 l2) rfl)
  have g3 : (zN5 s.heap l1 l2).get? (zN2 s.heap l1 l2).objs.size = some { cls := Value.type "tuple", data := Data.seq #[Value.ref s.heap.objs.size, Value.ref (zN1 s.heap l1).objs.size] } := Heap.get?_push_of_some _ (Heap.get?_push_of_some _ (Heap.get?_push_size (zN2 s.heap l1 l2) rfl))
  have g2 : (zN5 s.heap l1 l2).get? (zN1 s.heap l1).objs.size = some { cls := Value.type "list_iterator", data := Data.fields #[Value.ref l2, Value.int 0 0] } := Heap.get?_push_of_some _ (Heap.get?_push_of_some _ (Heap.get?_push_of_some _ (Heap.get?_push_size (zN1 s.heap l1) rfl)))
  have g1 : (zN5 s.heap l1 l2).get? s.heap.objs.size = some { cls := Value.type "tuple_iterator", data := Data.fields #[Value.ref l1, Value.int 0 0] } := Heap.get?_push_of_some _ (Heap.get?_push_of_some _ (Heap.get?_push_of_some _ (Heap.get?_push_of_some _ (Heap.get?_push_size s.heap rfl))))
  have hk : ∀ (c : Addr) (o : Obj), s.heap.get? c = some o → (zN5 s.heap l1 l2).get? c = some o := fun c o e => Heap.get?_push_of_some _ (Heap.get?_push_of_some _ (Heap.get?_push_of_some _ (Heap.get?_push_of_some _ (Heap.get?_push_of_some _ e))))
  rw [z4, z2, z3] at g5
  rw [z3] at g4
  rw [z2, z1] at g3
  rw [z1] at g2
  show Shared.TypeIs _ (.ref (zN4 s.heap l1 l2).objs.size) "zip" ∧ _
  rw [z4]
  exact ⟨⟨_, g5, rfl⟩, h _ g5 g3 g4 ⟨_, g1, rfl, rfl⟩ ⟨_, g2, rfl, rfl⟩ hk⟩
def iZipN (K : PySem.W.Frag) (ta : TA) : TI := fun σ H R => ta σ H fun vs H1 => ∃ a b xs ys, vs = [.ref a, .ref b] ∧ SqT K H1 a xs ∧ SqL K H1 b ys ∧ R (ItzN K a b) H1
theorem pi_zipN {X : Cx} {e e2 : Expr} {ta : TA} {p pos tpos : Pos} {elts : List Expr} {kk : Nat} (hg : Gl X "zip") (hm : X.mg "zip" = none) (ha : PA X [e, e2] ta)
    (hs : starEach [e, e2] X.env = (false, eval e X.env) :: starEach [e2] X.env := by rfl) (hpl : (backTo pos (starEach [e2] X.env)).any (·.1) = false := by rfl) : PI X (.Tuple elts kk tpos) (.Call (.Name "zip" p) [e, e2] [] pos) (iZipN X.K ta) := by
  refine ⟨fun pins s σ H R I h => Call_ (ld_blt I hg hm boot_zip (callWith_type1 (thn (ha.run pos pins s σ H _ I h) fun us s1 ⟨vs, H1, I1, r1, q1⟩ => ?_) hs hpl))⟩
  obtain ⟨a, b, xs, ys, rfl, hqx, hqy, q⟩ := q1
  cases r1 with
  | cons r rr =>
    cases rr with
    | cons r' r0 =>
      cases r0
      cases r
      cases r'
      obtain ⟨its, rv, p1, _⟩ := I1.tuple hqx
      obtain ⟨its2, rv2, p2, _⟩ := I1.list hqy
      obtain ⟨o2, ho2, hc2⟩ := id p1
      refine call_zipN p1 (PlainL.isList p2) fun h' hz hTI hTO h1 h2 hk => wpAny_pyIter_zip hz ?_
      have I2 := I1.kept (t' := s1.toks) hk
      refine ⟨s1.heap.objs.size + 4, [s1.heap.objs.size + 4, s1.heap.objs.size + 2, s1.heap.objs.size + 3, s1.heap.objs.size, s1.heap.objs.size + 1], _, ItzN X.K a b, H1, rfl, I2, turn_zipN (PySem.W.ktu_apart s1.heap.objs.size a b (Heap.lt_size ho2) (PlainL.lt p2)), ⟨hz, hTI, ⟨_, _, hTO⟩, h1, h2⟩, fun c hcm => ?_, q⟩
      have hle : s1.heap.objs.size ≤ c := by
        simp only [List.mem_cons, List.not_mem_nil, or_false] at hcm
        rcases hcm with h | h | h | h | h <;> (rw [h]; first | exact Nat.le_add_right _ _ | exact Nat.le_refl _)
      exact I1.fpOk hle (I1.hok.fresh hle)
theorem walk_zipN {K : PySem.W.Frag} {a b : Addr} {xs ys : List V} (hn : xs.length = ys.length) : Walk (ItzN K a b) xs.length (fun H => SqT K H a xs ∧ SqL K H b ys) (YPair (fun i => xs[i]?) (fun i => ys[i]?)) := by
  refine ⟨fun i H hi q => ?_, fun H q => ⟨xs, q.1, Nat.le_refl _⟩, fun i H v H' hi q y => ?_⟩
  · exact ⟨xs, ys, _, _, q.1, q.2, List.getElem?_eq_getElem hi, List.getElem?_eq_getElem (by omega)⟩
  · obtain ⟨T, x, z, e1, e2, e3, e4, e5⟩ := y
    exact ⟨T, x, z, e1, e2, e3, e4 xs q.1, e5 ys q.2⟩
end L2

namespace Q
open PySem L2 QR
abbrev sCut : Stmt := top 54
/-- how much is left of each -/
def CutOk (ns : List Int) (bss : List (List Int)) : Prop := ns.length = bss.length ∧ ∀ (i : Nat) (n : Int) (bs : List Int), ns[i]? = some n → bss[i]? = some bs → 0 ≤ n ∧ n ≤ (bs.length : Int)
def cutL : List (List Int) → List Int → List (List Int)
  | bs :: bss, n :: ns => bs.take n.toNat :: cutL bss ns
  | _, _ => []
theorem cutL_len : ∀ {bss : List (List Int)} {ns : List Int}, ns.length = bss.length → (cutL bss ns).length = bss.length
  | [], _, _ => rfl
  | bs :: bss, [], h => by simp at h
  | bs :: bss, n :: ns, h => by
    show (cutL bss ns).length + 1 = _
    rw [cutL_len (by simpa using h)]
    rfl
theorem cutL_at : ∀ {bss : List (List Int)} {ns : List Int} {i : Nat} {n : Int} {bs : List Int}, ns[i]? = some n → bss[i]? = some bs → (cutL bss ns)[i]? = some (bs.take n.toNat)
  | [], _, i, n, bs, _, h => by simp at h
  | b :: bss, [], i, n, bs, h, _ => by simp at h
  | b :: bss, m :: ns, 0, n, bs, h, g => by
    cases h
    cases g
    rfl
  | b :: bss, m :: ns, i + 1, n, bs, h, g => cutL_at (bss := bss) (ns := ns) (i := i) h g
def spCut : Sp := fun vs H Q _ => ∃ (wl tq : Addr) (us : List V) (bss : List (List Int)) (ns : List Int), vs = [.ref wl, .ref tq] ∧ H wl = some (.lst us) ∧ RowsV H us bss ∧ H tq = some (.tup (ns.map V.int)) ∧ CutOk ns bss ∧ bss.length ≤ 200 ∧ ∀ H', Same H H' → Q (.bl true) H'
def spDC (CD : Addr) : Sp := fun vs H Q _ => ∃ (x dx ra tq : Addr) (bss : List (List Int)) (m : Nat) (ns : List Int), vs = [.ref x, .ref tq] ∧ DiskX CD H x dx ra bss m ∧ H tq = some (.tup (ns.map V.int)) ∧ CutOk ns (bss.drop m) ∧ ∀ H', B2 x ra H H' → DiskX CD H' x dx ra (bss.take m ++ cutL (bss.drop m) ns) bss.length → Q .non H'
section
variable {P : Program} {w : World} {K : PySem.W.Frag} {mg : Str → Option Value} {base : Heap}
theorem scCut : FnScope ["waiting", "thing", "row", "many"] ["waiting", "thing"] (defScope sCut) := ⟨rfl, rfl, rfl, by decide +kernel, rfl, by decide +kernel, by decide +kernel⟩
theorem ok_cut {f fN fP : Addr} {fd dN dP : FuncData} (D : Df K mg "is_cut" sCut ["waiting", "thing"] f fd) (B : Bts mg) (DN : Df K mg "is_number_below" sNum ["limit", "thing"] fN dN) (DP : Df K mg "is_plain_int" sPlain ["thing"] fP dP) : FnOk P w K mg base CX0 3 f fd ["waiting", "thing"] spCut := by
  have GN : FnOk P w K mg base CX0 2 fN dN ["limit", "thing"] (spNum K) := ok_num DN B DP
  refine D.F.ok scCut (fun vs H Q E h => ?_) (fun cdv A outer s H vs Q E hr h => ?_)
  · obtain ⟨wl, tq, us, bss, ns, rfl, _⟩ := h
    rfl
  · obtain ⟨wl, tq, us, bss, ns, rfl, hw, rv, ht, ⟨cl, co⟩, few, k⟩ := h
    have nd := scCut.nd
    refine ⟨_, pss_cons (ps_if (PW.pt (pw_or (pt_not (pt_val (pe_callB call_isi (by rfl) B.isinstance PyProof.Rows.boot_isinstance (pa_cons (pv 1) (pa_cons (pe_bltn (v := .ty "tuple") rfl B.tuple PyProof.Rows.boot_tuple rfl) pa_nil)))))
        (pw_or1 (pt_cmpR op_ne (pe_callB call_len_seq (by rfl) B.len PySem.boot_len (pa_cons (pv 1) pa_nil)) (pe_callB call_len_seq (by rfl) B.len PySem.boot_len (pa_cons (pv 0) pa_nil)) (nomark _))))) pss_never pss_nil)
      (pss_one (ps_ret (pe_callB (cr_all rfl) (by rfl) B.all PyProof.Rows.boot_all (pa_cons (pe_lc (own := [("row", 2), ("many", 3)]) (g := gTup K 2 (gCons (gName 2) (gCons (gName 3) gNil))) (tt := tYes) rfl nd (pi_zipM rfl B.zip (pa_cons (pv 0) (pa_cons (pv 1) pa_nil)))
        (blkOk_by (N := ["waiting", "thing", "row", "many"]) (sc := defScope sCut) (by decide +kernel)) (fun _ _ _ _ _ => pg_tup rfl (pgs_cons (pg_name (i := 2) nd rfl (.inl rfl)) (pgs_cons (pg_name (i := 3) nd rfl (.inl rfl)) pgs_nil))) (fun _ _ _ _ _ => pts_nil)
        (fun _ _ _ _ _ => pe_call GN hr rfl DN.m DN.k DN.b .nil pass0 (pa_cons (pe_op op_add (pe_callB (r := fun xs H Q => ∃ (p : Addr) (ys : List V), xs = [V.ref p] ∧ (SqL K H p ys ∨ SqT K H p ys) ∧ Q (V.int (ys.length : Int)) H) call_len_seq (by rfl) B.len PySem.boot_len (pa_cons (pv 2) pa_nil)) pe_int) (pa_cons (pv 3) pa_nil)))) pa_nil)))), ?_⟩
    refine ⟨_, rfl, .ref tq, .ty "tuple", .type "tuple", .type "tuple", true, rfl, .ty _, .base (.tup ht), kit_ty (by decide +kernel), _, rfl, iteF ?_⟩
    refine ⟨_, rfl, tq, _, rfl, .inr (SqT.of ht), _, rfl, wl, _, rfl, .inl (SqL.of hw), rfl, _, rfl, ?_⟩
    rw [List.length_map, cl, rv.1, decide_eq_true rfl]
    refine iteF ?_
    refine ⟨_, rfl, _, rfl, wl, tq, us, _, rfl, SqL.of hw, SqT.of ht, fun D hD => lc_it (walk_zipM (K := K) (a := wl) (b := tq) (xs := us) (ys := ns.map V.int) (by rw [List.length_map, cl, rv.1])) (fun i H' => H' D = some (.lst ((List.replicate i true).map V.bl)) ∧ i ≤ us.length ∧ Same H H') ?_ ?_ ?_ ?_⟩
    · exact ⟨upd_same, Nat.zero_le _, sN hD⟩
    · rintro i H3 hi ⟨_, _, s3⟩
      exact ⟨SqL.of (s3 _ _ hw), SqT.of (s3 _ _ ht)⟩
    · rintro i v H3 H4 hi ⟨eD, _, s3⟩ ⟨T, x, y, rfl, hT, rfl, hx, hy⟩
      obtain ⟨n, hn, rfl⟩ := at_ints hy
      have hb : bss[i]? = some (bss[i]'(by rw [← rv.1]; exact hi)) := List.getElem?_eq_getElem _
      obtain ⟨q, rfl, hq⟩ := rv.2 i x _ hx hb
      obtain ⟨n0, n1⟩ := co i n _ hn hb
      have s4 := sN (o := .tup [.ref q, .int n]) hT
      have hq4 := hq.same (sT s3 s4)
      refine ⟨T, _, rfl, SqT.of upd_same, rfl, _, _, rfl, _, _, rfl, rfl, rfl, ?_⟩
      refine ⟨_, rfl, q, _, rfl, .inr (SqT.of hq4.at_), _, _, rfl, rfl, _, rfl, _, _, rfl, .inl ⟨n, rfl, ?_⟩⟩
      rw [List.length_map, decide_eq_true n0, decide_eq_true (show n < (((bss[i]'(by rw [← rv.1]; exact hi)).length : Nat) : Int) + 1 by omega)]
      refine ⟨_, s4 _ _ eD, ?_, ?_, hi, sNew (sT s3 s4) hD⟩
      · rw [List.length_map, List.length_replicate]
        have := rv.1
        exact size_ok (by omega)
      · rw [upd_same, List.replicate_succ', List.map_append]
        rfl
    · rintro H3 ⟨eD, _, s3⟩
      refine ⟨D, _, rfl, SqL.of eD, ?_⟩
      rw [rep_true]
      exact k _ s3
theorem scDC : FnScope ["self", "kept", "waiting", "row", "many"] ["self", "kept"] (defScope sDC) := ⟨rfl, rfl, rfl, by decide +kernel, rfl, by decide +kernel, by decide +kernel⟩
theorem cut_fromV (xs : List V) (n : Nat) : cutV xs (some (n : Int)) none = xs.drop n := by
  unfold cutV
  rw [HT.sIx_none, HT.sIx_nat, List.take_of_length_le (by rw [List.length_drop]; omega)]
  rcases Nat.le_total n xs.length with c | c
  · rw [Nat.min_eq_left c]
  · rw [Nat.min_eq_right c, List.drop_of_length_le (Nat.le_refl _), List.drop_of_length_le c]
theorem ok_dc {CD fC fN fP : Addr} {dC dN dP : FuncData} (T : DTxt K mg CD) (M : DDefs K CD) (B : Bts mg) (DC : Df K mg "is_cut" sCut ["waiting", "thing"] fC dC) (DN : Df K mg "is_number_below" sNum ["limit", "thing"] fN dN) (DP : Df K mg "is_plain_int" sPlain ["thing"] fP dP) : FnOk P w K mg base CX0 4 M.fC M.dC ["self", "kept"] (spDC CD) := by
  have GC : FnOk P w K mg base CX0 3 fC dC ["waiting", "thing"] spCut := ok_cut DC B DN DP
  refine M.FC.ok scDC (fun vs H Q E h => ?_) (fun cdv A outer s H vs Q E hr h => ?_)
  · obtain ⟨x, dx, ra, tq, bss, m, ns, rfl, _⟩ := h
    rfl
  · obtain ⟨x, dx, ra, tq, bss, m, ns, rfl, d, ht, co, k⟩ := h
    have nd := scDC.nd
    obtain ⟨vs, hv, rv⟩ := d.rows
    refine ⟨_, pss_cons (ps_set (i := 2) nd rfl (.inl rfl) (pe_slice sl_list (pe_fld (pv 0) rfl) (po_some (pe_fld (pv 0) rfl)) po_none))
      (pss_cons (ps_if (pt_not (pt_val (pe_call GC hr rfl DC.m DC.k DC.b .nil pass0 (pa_cons (pv 2) (pa_cons (pv 1) pa_nil))))) pss_never pss_nil)
      (pss_cons (ps_slput (pe_fld (pv 0) rfl) (po_some (pe_fld (pv 0) rfl)) (pe_lc (own := [("row", 3), ("many", 4)]) (g := gTup K 2 (gCons (gName 3) (gCons (gName 4) gNil))) (tt := tYes) rfl nd (pi_zipM rfl B.zip (pa_cons (pv 2) (pa_cons (pv 1) pa_nil)))
          (blkOk_by (N := ["self", "kept", "waiting", "row", "many"]) (sc := defScope sDC) (by decide +kernel)) (fun _ _ _ _ _ => pg_tup rfl (pgs_cons (pg_name (i := 3) nd rfl (.inl rfl)) (pgs_cons (pg_name (i := 4) nd rfl (.inl rfl)) pgs_nil))) (fun _ _ _ _ _ => pts_nil)
          (fun _ _ _ _ _ => pe_slice sl_X (pv 3) po_none (po_some (pv 4)))))
      (pss_one (ps_fld (pv 0) (pe_callB call_len_seq (by rfl) B.len PySem.boot_len (pa_cons (pe_fld (pv 0) rfl) pa_nil)) rfl)))), ?_⟩
    refine ⟨_, rfl, x, CD, dx, _, _, rfl, d.at_, T.cl, T.nR, rfl, _, rfl, x, CD, dx, _, _, rfl, d.at_, T.cl, T.nM, rfl, _, rfl, ra, _, rfl, SqL.of hv, fun wl hwl => ?_⟩
    rw [cut_fromV]
    have s1 := sN (o := .lst (vs.drop m)) hwl
    have d1 := d.same s1
    have few := d.few
    have le := d.le
    have rv1 := rv.tk (.of s1)
    refine ⟨_, rfl, _, rfl, wl, tq, vs.drop m, bss.drop m, ns, rfl, upd_same, rv1.drop m, s1 _ _ ht, co, by rw [List.length_drop]; omega, fun H2 s2 => ⟨_, rfl, iteF ?_⟩⟩
    have s02 := sT s1 s2
    have hw2 := s2 _ _ (show (upd H wl (.lst (vs.drop m))) wl = some (.lst (vs.drop m)) from upd_same)
    have rv2 := (rv.tk (.of s02)).drop m
    have ht2 := s02 _ _ ht
    obtain ⟨cl, co'⟩ := co
    have el : (vs.drop m).length = ns.length := by rw [rv2.1, cl]
    refine ⟨_, rfl, _, rfl, wl, tq, vs.drop m, _, rfl, SqL.of hw2, SqT.of ht2, fun D hD => lc_it (walk_zipM (K := K) (a := wl) (b := tq) (xs := vs.drop m) (ys := ns.map V.int) (by rw [List.length_map]; exact el)) (fun i H' => ∃ zs : List V, H' D = some (.lst zs) ∧ zs.length = i ∧ i ≤ (vs.drop m).length ∧ (∀ (j : Nat) (v : V) (bs : List Int), zs[j]? = some v → (cutL (bss.drop m) ns)[j]? = some bs → ∃ q, v = .ref q ∧ RowAt H' q bs) ∧ Same H2 H') ?_ ?_ ?_ ?_⟩
    · exact ⟨[], upd_same, rfl, Nat.zero_le _, fun j v bs hv => by simp at hv, sN hD⟩
    · rintro i H3 hi ⟨_, _, _, _, _, s3⟩
      exact ⟨SqL.of (s3 _ _ hw2), SqT.of (s3 _ _ ht2)⟩
    · rintro i v H3 H4 hi ⟨zs, eD, lz, _, reps, s3⟩ ⟨T', x', y, rfl, hT, rfl, hx, hy⟩
      obtain ⟨n, hn, rfl⟩ := at_ints hy
      have hb : (bss.drop m)[i]? = some ((bss.drop m)[i]'(by rw [← rv2.1]; exact hi)) := List.getElem?_eq_getElem _
      obtain ⟨q, rfl, hq⟩ := rv2.2 i x' _ hx hb
      obtain ⟨n0, n1⟩ := co' i n _ hn hb
      obtain ⟨n', rfl⟩ : ∃ n' : Nat, n = (n' : Int) := ⟨n.toNat, by omega⟩
      have s4 := sN (o := .tup [.ref q, .int (n' : Int)]) hT
      have hq4 := hq.same (sT s3 s4)
      refine ⟨T', _, rfl, SqT.of upd_same, rfl, _, _, rfl, _, _, rfl, rfl, rfl, ?_⟩
      refine ⟨_, rfl, _, rfl, _, rfl, q, _, rfl, hq4.at_, fun z5 H5 s5 hz5 => ?_⟩
      rw [cut_map] at hz5
      have s45 := sT s4 s5
      have eD5 := s45 _ _ eD
      have tk5 : Tk H5 (upd H5 D (.lst (zs ++ [.ref z5]))) := fun c ys e => by
        rw [upd_ne (ne_of e eD5 (fun z => by cases z))]
        exact e
      refine ⟨zs, eD5, size_ok (by rw [lz]; have := List.length_drop (i := m) (l := vs); rw [rv.1] at this; omega), zs ++ [.ref z5], upd_same, by rw [List.length_append, lz]; rfl, hi, fun j v bs hv hb' => ?_, sNew (sT s3 s45) hD⟩
      by_cases c : j < zs.length
      · rw [List.getElem?_append_left c] at hv
        obtain ⟨q', e', r'⟩ := reps j v bs hv hb'
        exact ⟨q', e', (r'.same s45).tk tk5⟩
      · rw [List.getElem?_append_right (by omega)] at hv
        have z1 : j - zs.length = 0 := by
          have := (List.getElem?_eq_some_iff.mp hv).1
          have : j - zs.length < 1 := this
          omega
        rw [z1] at hv
        cases hv
        have ej : j = i := by omega
        subst ej
        rw [cutL_at hn hb] at hb'
        cases hb'
        exact ⟨z5, rfl, RowAt.tk ⟨hz5, fun b hb => hq.b b (List.mem_of_mem_take hb), by rw [List.length_take]; have := hq.few; omega⟩ tk5⟩
    · rintro H3 ⟨zs, eD, lz, _, reps, s3⟩
      have s03 := sT s02 s3
      have d3 := d.same s03
      have hv3 := s03 _ _ hv
      have nD : ra ≠ D := ne_of_none (s02 _ _ hv) hD
      have ld : (vs.drop m).length = bss.length - m := by rw [List.length_drop, rv.1]
      refine ⟨_, rfl, x, CD, dx, _, _, rfl, d3.at_, T.cl, T.nR, rfl, _, rfl, x, CD, dx, _, _, rfl, d3.at_, T.cl, T.nM, rfl, _, rfl, ra, D, vs, zs, m, rfl, rfl, rfl, hv3, eD, nD, by rw [rv.1]; exact le, Nat.le_of_lt (size_ok (by rw [rv.1, lz, ld]; omega)), ?_⟩
      have nxr := d3.ne
      have eX : (upd H3 ra (.lst (vs.take m ++ zs))) x = some (.ins CD dx (dF ra m)) := by
        rw [upd_ne nxr]
        exact d3.at_
      refine ⟨_, rfl, x, CD, dx, _, _, rfl, eX, T.cl, T.nR, rfl, ra, _, rfl, .inl (SqL.of upd_same), _, rfl, x, CD, dx, _, rfl, eX, T.cl, T.nM, (by show 2 < 1000; decide), ?_⟩
      have lq : (vs.take m ++ zs).length = bss.length := by
        rw [List.length_append, List.length_take, lz, ld, rv.1]
        omega
      rw [lq, dF_m]
      have b2 : B2 x ra H (upd (upd H3 ra (.lst (vs.take m ++ zs))) x (.ins CD dx (dF ra bss.length))) := ((B2.of s03).b).a
      have tk : Tk H3 (upd (upd H3 ra (.lst (vs.take m ++ zs))) x (.ins CD dx (dF ra bss.length))) := fun c ys e => by
        rw [upd_ne (ne_of e d3.at_ (fun z => by cases z)), upd_ne (ne_of e hv3 (fun z => by cases z))]
        exact e
      have lc : (cutL (bss.drop m) ns).length = bss.length - m := by rw [cutL_len cl, List.length_drop]
      refine k _ b2 ⟨upd_same, ⟨_, by rw [upd_ne nxr.symm]; exact upd_same, ((rv.tk (.of s03)).tk tk |>.take m).append ⟨by rw [lz, ld, lc], fun j v bs hv hb => ?_⟩⟩, ?_, ?_⟩
      · obtain ⟨q, e, r⟩ := reps j v bs hv hb
        exact ⟨q, e, r.tk tk⟩
      · rw [List.length_append, List.length_take, lc]
        omega
      · rw [List.length_append, List.length_take, lc]
        omega
end
end Q

namespace Q
open PySem L2 QR
/-- the parcels, as far as each is sealed of one -/
def keptT : List (List Int) → List QR.T
  | [] => []
  | r :: rs => match unsT r with
    | .tup [t] => t :: keptT rs
    | _ => []
def KeptV (H : Hp) (ws : List V) (ts : List QR.T) : Prop := ws.length = ts.length ∧ ∀ (i : Nat) (v : V) (t : QR.T), ws[i]? = some v → ts[i]? = some t → Rep H 21 t v
theorem KeptV.tk {H H' : Hp} {ws : List V} {ts : List QR.T} (h : KeptV H ws ts) (k : Tk H H') : KeptV H' ws ts := ⟨h.1, fun i v t a b => (h.2 i v t a b).tk k⟩
theorem KeptV.snoc {H : Hp} {ws : List V} {ts : List QR.T} {v : V} {t : QR.T} (h : KeptV H ws ts) (r : Rep H 21 t v) : KeptV H (ws ++ [v]) (ts ++ [t]) := by
  refine ⟨by rw [List.length_append, List.length_append, h.1]; rfl, fun i x u hx hu => ?_⟩
  by_cases c : i < ws.length
  · rw [List.getElem?_append_left c] at hx
    rw [List.getElem?_append_left (by rw [← h.1]; exact c)] at hu
    exact h.2 i x u hx hu
  · rw [List.getElem?_append_right (by omega)] at hx
    rw [List.getElem?_append_right (by rw [← h.1]; omega)] at hu
    have z1 : i - ws.length = 0 := by
      have := (List.getElem?_eq_some_iff.mp hx).1
      have : i - ws.length < 1 := this
      omega
    rw [z1] at hx
    rw [← h.1, z1] at hu
    cases hx
    cases hu
    exact r
theorem uns_cases {r : List Int} (hb : ∀ b ∈ r, 0 ≤ b ∧ b < 256) : unsT r = .tup [] ∨ ∃ t, unsT r = .tup [t] ∧ OkT 20 t := by
  unfold unsT
  split
  · cases e : rdAll (r.take (r.length - 4)) with
    | ok t h => exact .inr ⟨t, rfl, (rdAll_back (fun b hb' => hb b (List.mem_of_mem_take hb')) e).1⟩
    | no p => exact .inl rfl
  · exact .inl rfl
theorem kept_stop {bss : List (List Int)} {i : Nat} {r : List Int} (h : bss[i]? = some r) (u : unsT r = .tup []) : keptT (bss.drop i) = [] := by
  obtain ⟨hi, e⟩ := List.getElem?_eq_some_iff.mp h
  rw [List.drop_eq_getElem_cons hi, e]
  unfold keptT
  rw [u]
theorem kept_go {bss : List (List Int)} {i : Nat} {r : List Int} {t : QR.T} (h : bss[i]? = some r) (u : unsT r = .tup [t]) : keptT (bss.drop i) = t :: keptT (bss.drop (i + 1)) := by
  obtain ⟨hi, e⟩ := List.getElem?_eq_some_iff.mp h
  rw [List.drop_eq_getElem_cons hi, e]
  conv => lhs; unfold keptT
  rw [u]
def spKP (tp : Bool) : Sp := fun vs H Q _ => ∃ (b : Addr) (us : List V) (bss : List (List Int)), vs = [.ref b] ∧ H b = some (if tp = true then .tup us else .lst us) ∧ RowsV H us bss ∧ bss.length ≤ 200 ∧ ∀ z ws H', Same H H' → H' z = some (.lst ws) → KeptV H' ws (keptT bss) → Q (.ref z) H'
def spLKt : Sp := fun vs H Q _ => ∃ (b : Addr) (us : List V) (bss : List (List Int)), vs = [.ref b] ∧ H b = some (.lst us) ∧ RowsV H us bss ∧ bss.length ≤ 200 ∧ ∀ z ws H', Same H H' → H' z = some (.lst ws) → KeptV H' ws (keptT bss) → Q (.ref z) H'
section
variable {P : Program} {w : World} {K : PySem.W.Frag} {mg : Str → Option Value} {base : Heap}
theorem kit_lst : PySem.W.kitAny K (.type "list") [.type "list", .type "tuple"] = some true := by
  simp [PySem.W.kitAny, show PySem.W.kitOne K (.type "list") (.type "list") = some true from kit_ty (by decide +kernel)]
theorem kit_tup : PySem.W.kitAny K (.type "tuple") [.type "list", .type "tuple"] = some true := by
  simp [PySem.W.kitAny, show PySem.W.kitOne K (.type "tuple") (.type "list") = some false from kit_ty (by decide +kernel), show PySem.W.kitOne K (.type "tuple") (.type "tuple") = some true from kit_ty (by decide +kernel)]
theorem scKP : FnScope ["blocks", "block", "parcels", "told"] ["blocks"] (defScope sKP) := ⟨rfl, rfl, rfl, by decide +kernel, rfl, by decide +kernel, by decide +kernel⟩
theorem ok_kpL {f fR fU : Addr} {fd dR dU : FuncData} (D : Df K mg "kept_parcels" sKP ["blocks"] f fd) (B : Bts mg) (DR : Df K mg "is_row" sIsRow ["thing"] fR dR) (GR : FnOk P w K mg base CX0 3 fR dR ["thing"] (spIsRow K)) (DU : Df K mg "unsealed" sUns ["row"] fU dU) (GU : FnOk P w K mg base CX0 47 fU dU ["row"] (spUns K)) : FnOk P w K mg base CX0 48 f fd ["blocks"] (spKP false) := by
  refine D.F.ok scKP (fun vs H Q E h => ?_) (fun cdv A outer s H vs Q E hr h => ?_)
  · obtain ⟨b, us, bss, rfl, _⟩ := h
    rfl
  · obtain ⟨b, us, bss, rfl, hb, rv, few, k⟩ := h
    have hb : H b = some (.lst us) := hb
    have nd := scKP.nd
    have hu := hr.units
    have hr3 : Room 3 _ := hr.mono (by decide)
    refine ⟨_, pss_cons (ps_if (PW.pt (pw_or (pt_not (pt_val (pe_callB call_isiT (by rfl) B.isinstance PyProof.Rows.boot_isinstance (pa_cons (pv 0) (pa_cons (pe_tup (pa_cons (pe_bltn (v := .ty "list") rfl B.list PyProof.Rows.boot_list rfl) (pa_cons (pe_bltn (v := .ty "tuple") rfl B.tuple PyProof.Rows.boot_tuple rfl) pa_nil))) pa_nil)))))
        (pw_or1 (pt_not (pt_val (pe_callB (cr_all rfl) (by rfl) B.all PyProof.Rows.boot_all (pa_cons (pe_lc (own := [("block", 1)]) (g := gName 1) (tt := tYes) rfl nd (pi_list (pv 0)) (blkOk_by (N := ["blocks", "block", "parcels", "told"]) (sc := defScope sKP) (by decide +kernel)) (fun _ _ _ _ _ => pg_name (i := 1) nd rfl (.inl rfl)) (fun _ _ _ _ _ => pts_nil)
          (fun _ _ _ _ _ => pe_call GR hr3 rfl DR.m DR.k DR.b .nil pass0 (pa_cons (pv 1) pa_nil))) pa_nil))))))) pss_never pss_nil)
      (pss_cons (ps_set (i := 2) nd rfl (.inl rfl) (pe_lst pa_nil))
      (pss_cons (ps_for PassesOwn.never rfl (pi_list (pv 0)) (pg_name (i := 1) nd rfl (.inl rfl))
        (pss_cons (ps_set (i := 3) nd rfl (.inl rfl) (pe_call GU hr rfl DU.m DU.k DU.b .nil pass0 (pa_cons (pv 1) pa_nil)))
        (pss_cons (ps_if (pt_cmpR (op_eqN hu) (pv 3) (pe_tup pa_nil) (nomark _)) (pss_one ps_break) pss_nil)
        (pss_one (ps_expr (pe_bm PySem.F.plainAttrs_list PySem.F.slot_list_extend PySem.F.type_list_extend mt_extT (pv 2) (pa_cons (pv 3) pa_nil)))))))
      (pss_one (ps_ret (pv 2))))), ?_⟩
    refine ⟨_, rfl, (by show 2 ≤ sizeLine; decide), fun tp htp => ?_⟩
    have s1 := sN (o := .tup [.ty "list", .ty "tuple"]) htp
    refine ⟨.ref b, tp, [.ty "list", .ty "tuple"], .type "list", [.type "list", .type "tuple"], true, rfl, upd_same, .cons (.ty _) (.cons (.ty _) .nil), .base (.lst (s1 _ _ hb)), kit_lst, _, rfl, iteF ?_⟩
    refine ⟨_, rfl, b, rfl, ⟨_, SqL.of (s1 _ _ hb)⟩, fun D hD => lc_list (K := K) (a := b) (xs := us) (fun i H' => H' D = some (.lst ((List.replicate i true).map V.bl)) ∧ Same (upd H tp (.tup [.ty "list", .ty "tuple"])) H') ?_ ?_ ?_ ?_⟩
    · exact ⟨upd_same, sN hD⟩
    · rintro i H' hi ⟨_, s2⟩
      exact SqL.of (s2 _ _ (s1 _ _ hb))
    · rintro i x H' hx ⟨eD, s2⟩
      have hi := (List.getElem?_eq_some_iff.mp hx).1
      have hbs : bss[i]? = some (bss[i]'(by rw [← rv.1]; exact hi)) := List.getElem?_eq_getElem _
      obtain ⟨q, rfl, hq⟩ := rv.2 i x _ hx hbs
      have hq2 := hq.same (sT s1 s2)
      refine ⟨rfl, _, rfl, .ref q, rfl, .inl ⟨q, _, rfl, hq2.at_, by rw [List.length_map]; exact hq2.few, sc_ints _, fun H3 s3 => ?_⟩⟩
      rw [all_isB hq2.b]
      refine ⟨_, s3 _ _ eD, ?_, ?_, sNew (sT s2 s3) hD⟩
      · rw [List.length_map, List.length_replicate]
        have := rv.1
        exact size_ok (by omega)
      · rw [upd_same, List.replicate_succ', List.map_append]
        rfl
    · rintro H2 ⟨eD, s2⟩
      refine ⟨D, _, rfl, SqL.of eD, ?_⟩
      rw [rep_true]
      refine ⟨_, rfl, iteF ?_⟩
      have s02 := sT s1 s2
      refine ⟨Nat.zero_le _, fun l hl => ?_⟩
      have s03 := sT s02 (sN (o := .lst []) hl)
      have nl := sNo s02 hl
      refine ⟨_, rfl, b, rfl, ⟨_, SqL.of (s03 _ _ hb)⟩, for_list (K := K) (a := b) (xs := us) (fun i σ H' => ∃ (ws : List V) (ts : List QR.T) (x1 x3 : Option V), σ = [some (.ref b), x1, some (.ref l), x3] ∧ H' l = some (.lst ws) ∧ Same H H' ∧ KeptV H' ws ts ∧ keptT bss = ts ++ keptT (bss.drop i) ∧ ws.length ≤ i) ?_ ?_ ?_ ?_⟩
      · exact ⟨[], [], _, _, rfl, upd_same, s03, ⟨rfl, fun i v t hv => by simp at hv⟩, rfl, Nat.le_refl _⟩
      · rintro i σ H' hi ⟨ws, ts, x1, x3, rfl, e, s, _⟩
        exact SqL.of (s _ _ hb)
      · rintro i x σ H' hx ⟨ws, ts, x1, x3, rfl, e, s, kv, ek, lw⟩
        have hi := (List.getElem?_eq_some_iff.mp hx).1
        have hbs : bss[i]? = some (bss[i]'(by rw [← rv.1]; exact hi)) := List.getElem?_eq_getElem _
        obtain ⟨q, rfl, hq⟩ := rv.2 i x _ hx hbs
        have hq2 := hq.same s
        refine ⟨_, rfl, .ref q, unsT (bss[i]'(by rw [← rv.1]; exact hi)), rfl, .inl ⟨q, _, rfl, hq2, rfl⟩, fun u H3 s3 ru => ?_⟩
        have few2 := rv.1
        rcases uns_cases hq.b with eu | ⟨t, eu, ok⟩
        · rw [eu] at ru
          obtain ⟨ua, us', rfl, hua, lu, _⟩ : ∃ a xs, u = .ref a ∧ H3 a = some (.tup xs) ∧ xs.length = ([] : List QR.T).length ∧ _ := ru
          obtain rfl : us' = [] := List.eq_nil_of_length_eq_zero lu
          refine ⟨_, rfl, Nat.zero_le _, fun e0 he0 => ?_⟩
          have s4 := sN (o := .tup []) he0
          refine ⟨ua, e0, rfl, rfl, upd_same, .inl ⟨s4 _ _ hua, _, rfl, iteT ?_⟩⟩
          have s34 := sT s3 s4
          refine ⟨_, rfl, k l ws _ (sT s s34) (s34 _ _ e) ?_⟩
          rw [ek, kept_stop hbs eu, List.append_nil]
          exact kv.tk (.of s34)
        · rw [eu] at ru
          obtain ⟨ua, us', rfl, hua, lu, _, rr⟩ : ∃ a xs, u = .ref a ∧ H3 a = some (.tup xs) ∧ xs.length = [t].length ∧ xs.length ≤ 9000 ∧ ∀ (i : Nat) (x : V) (t' : QR.T), xs[i]? = some x → [t][i]? = some t' → Rep H3 21 t' x := ru
          obtain ⟨v0, rfl⟩ := List.length_eq_one_iff.mp lu
          have r0 := rr 0 v0 t rfl rfl
          refine ⟨_, rfl, Nat.zero_le _, fun e0 he0 => ?_⟩
          have s4 := sN (o := .tup []) he0
          refine ⟨ua, e0, rfl, rfl, upd_same, .inr ⟨21, t, v0, s4 _ _ hua, r0.same s4, (ok.up 1).1, by decide, _, rfl, iteF ?_⟩⟩
          have s34 := sT s3 s4
          have e4 := s34 _ _ e
          refine ⟨_, rfl, .inl ⟨rfl, _, SqL.of e4⟩, _, rfl, l, ua, ws, [v0], rfl, rfl, e4, s4 _ _ hua, Nat.le_of_lt (size_ok (by show _ + 1 ≤ _; omega)), ?_⟩
          have tk : Tk (upd H3 e0 (.tup [])) (upd (upd H3 e0 (.tup [])) l (.lst (ws ++ [v0]))) := fun c ys e' => by
            rw [upd_ne (ne_of e' e4 (fun z => by cases z))]
            exact e'
          refine ⟨ws ++ [v0], ts ++ [t], _, _, rfl, upd_same, sNew (sT s s34) nl, ((kv.tk (.of s34)).tk tk).snoc ((r0.same s4).tk tk), by rw [ek, kept_go hbs eu, List.append_assoc]; rfl, by rw [List.length_append]; show _ + 1 ≤ _; omega⟩
      · rintro σ H' ⟨ws, ts, x1, x3, rfl, e, s, kv, ek, lw⟩
        rw [rv.1, List.drop_length] at ek
        refine ⟨_, rfl, k l ws _ s e ?_⟩
        rw [ek]
        show KeptV H' ws (ts ++ [])
        rw [List.append_nil]
        exact kv
theorem ok_kpT {f fR fU : Addr} {fd dR dU : FuncData} (D : Df K mg "kept_parcels" sKP ["blocks"] f fd) (B : Bts mg) (DR : Df K mg "is_row" sIsRow ["thing"] fR dR) (GR : FnOk P w K mg base CX0 3 fR dR ["thing"] (spIsRow K)) (DU : Df K mg "unsealed" sUns ["row"] fU dU) (GU : FnOk P w K mg base CX0 47 fU dU ["row"] (spUns K)) : FnOk P w K mg base CX0 48 f fd ["blocks"] (spKP true) := by
  refine D.F.ok scKP (fun vs H Q E h => ?_) (fun cdv A outer s H vs Q E hr h => ?_)
  · obtain ⟨b, us, bss, rfl, _⟩ := h
    rfl
  · obtain ⟨b, us, bss, rfl, hb, rv, few, k⟩ := h
    have hb : H b = some (.tup us) := hb
    have nd := scKP.nd
    have hu := hr.units
    have hr3 : Room 3 _ := hr.mono (by decide)
    refine ⟨_, pss_cons (ps_if (PW.pt (pw_or (pt_not (pt_val (pe_callB call_isiT (by rfl) B.isinstance PyProof.Rows.boot_isinstance (pa_cons (pv 0) (pa_cons (pe_tup (pa_cons (pe_bltn (v := .ty "list") rfl B.list PyProof.Rows.boot_list rfl) (pa_cons (pe_bltn (v := .ty "tuple") rfl B.tuple PyProof.Rows.boot_tuple rfl) pa_nil))) pa_nil)))))
        (pw_or1 (pt_not (pt_val (pe_callB (cr_all rfl) (by rfl) B.all PyProof.Rows.boot_all (pa_cons (pe_lc (own := [("block", 1)]) (g := gName 1) (tt := tYes) rfl nd (pi_tup (pv 0)) (blkOk_by (N := ["blocks", "block", "parcels", "told"]) (sc := defScope sKP) (by decide +kernel)) (fun _ _ _ _ _ => pg_name (i := 1) nd rfl (.inl rfl)) (fun _ _ _ _ _ => pts_nil)
          (fun _ _ _ _ _ => pe_call GR hr3 rfl DR.m DR.k DR.b .nil pass0 (pa_cons (pv 1) pa_nil))) pa_nil))))))) pss_never pss_nil)
      (pss_cons (ps_set (i := 2) nd rfl (.inl rfl) (pe_lst pa_nil))
      (pss_cons (ps_for PassesOwn.never rfl (pi_tup (pv 0)) (pg_name (i := 1) nd rfl (.inl rfl))
        (pss_cons (ps_set (i := 3) nd rfl (.inl rfl) (pe_call GU hr rfl DU.m DU.k DU.b .nil pass0 (pa_cons (pv 1) pa_nil)))
        (pss_cons (ps_if (pt_cmpR (op_eqN hu) (pv 3) (pe_tup pa_nil) (nomark _)) (pss_one ps_break) pss_nil)
        (pss_one (ps_expr (pe_bm PySem.F.plainAttrs_list PySem.F.slot_list_extend PySem.F.type_list_extend mt_extT (pv 2) (pa_cons (pv 3) pa_nil)))))))
      (pss_one (ps_ret (pv 2))))), ?_⟩
    refine ⟨_, rfl, (by show 2 ≤ sizeLine; decide), fun tp htp => ?_⟩
    have s1 := sN (o := .tup [.ty "list", .ty "tuple"]) htp
    refine ⟨.ref b, tp, [.ty "list", .ty "tuple"], .type "tuple", [.type "list", .type "tuple"], true, rfl, upd_same, .cons (.ty _) (.cons (.ty _) .nil), .base (.tup (s1 _ _ hb)), kit_tup, _, rfl, iteF ?_⟩
    refine ⟨_, rfl, b, rfl, ⟨_, SqT.of (s1 _ _ hb)⟩, fun D hD => lc_tup (K := K) (a := b) (xs := us) (fun i H' => H' D = some (.lst ((List.replicate i true).map V.bl)) ∧ Same (upd H tp (.tup [.ty "list", .ty "tuple"])) H') ?_ ?_ ?_ ?_⟩
    · exact ⟨upd_same, sN hD⟩
    · rintro i H' hi ⟨_, s2⟩
      exact SqT.of (s2 _ _ (s1 _ _ hb))
    · rintro i x H' hx ⟨eD, s2⟩
      have hi := (List.getElem?_eq_some_iff.mp hx).1
      have hbs : bss[i]? = some (bss[i]'(by rw [← rv.1]; exact hi)) := List.getElem?_eq_getElem _
      obtain ⟨q, rfl, hq⟩ := rv.2 i x _ hx hbs
      have hq2 := hq.same (sT s1 s2)
      refine ⟨rfl, _, rfl, .ref q, rfl, .inl ⟨q, _, rfl, hq2.at_, by rw [List.length_map]; exact hq2.few, sc_ints _, fun H3 s3 => ?_⟩⟩
      rw [all_isB hq2.b]
      refine ⟨_, s3 _ _ eD, ?_, ?_, sNew (sT s2 s3) hD⟩
      · rw [List.length_map, List.length_replicate]
        have := rv.1
        exact size_ok (by omega)
      · rw [upd_same, List.replicate_succ', List.map_append]
        rfl
    · rintro H2 ⟨eD, s2⟩
      refine ⟨D, _, rfl, SqL.of eD, ?_⟩
      rw [rep_true]
      refine ⟨_, rfl, iteF ?_⟩
      have s02 := sT s1 s2
      refine ⟨Nat.zero_le _, fun l hl => ?_⟩
      have s03 := sT s02 (sN (o := .lst []) hl)
      have nl := sNo s02 hl
      refine ⟨_, rfl, b, rfl, ⟨_, SqT.of (s03 _ _ hb)⟩, for_tup (K := K) (a := b) (xs := us) (fun i σ H' => ∃ (ws : List V) (ts : List QR.T) (x1 x3 : Option V), σ = [some (.ref b), x1, some (.ref l), x3] ∧ H' l = some (.lst ws) ∧ Same H H' ∧ KeptV H' ws ts ∧ keptT bss = ts ++ keptT (bss.drop i) ∧ ws.length ≤ i) ?_ ?_ ?_ ?_⟩
      · exact ⟨[], [], _, _, rfl, upd_same, s03, ⟨rfl, fun i v t hv => by simp at hv⟩, rfl, Nat.le_refl _⟩
      · rintro i σ H' hi ⟨ws, ts, x1, x3, rfl, e, s, _⟩
        exact SqT.of (s _ _ hb)
      · rintro i x σ H' hx ⟨ws, ts, x1, x3, rfl, e, s, kv, ek, lw⟩
        have hi := (List.getElem?_eq_some_iff.mp hx).1
        have hbs : bss[i]? = some (bss[i]'(by rw [← rv.1]; exact hi)) := List.getElem?_eq_getElem _
        obtain ⟨q, rfl, hq⟩ := rv.2 i x _ hx hbs
        have hq2 := hq.same s
        refine ⟨_, rfl, .ref q, unsT (bss[i]'(by rw [← rv.1]; exact hi)), rfl, .inl ⟨q, _, rfl, hq2, rfl⟩, fun u H3 s3 ru => ?_⟩
        have few2 := rv.1
        rcases uns_cases hq.b with eu | ⟨t, eu, ok⟩
        · rw [eu] at ru
          obtain ⟨ua, us', rfl, hua, lu, _⟩ : ∃ a xs, u = .ref a ∧ H3 a = some (.tup xs) ∧ xs.length = ([] : List QR.T).length ∧ _ := ru
          obtain rfl : us' = [] := List.eq_nil_of_length_eq_zero lu
          refine ⟨_, rfl, Nat.zero_le _, fun e0 he0 => ?_⟩
          have s4 := sN (o := .tup []) he0
          refine ⟨ua, e0, rfl, rfl, upd_same, .inl ⟨s4 _ _ hua, _, rfl, iteT ?_⟩⟩
          have s34 := sT s3 s4
          refine ⟨_, rfl, k l ws _ (sT s s34) (s34 _ _ e) ?_⟩
          rw [ek, kept_stop hbs eu, List.append_nil]
          exact kv.tk (.of s34)
        · rw [eu] at ru
          obtain ⟨ua, us', rfl, hua, lu, _, rr⟩ : ∃ a xs, u = .ref a ∧ H3 a = some (.tup xs) ∧ xs.length = [t].length ∧ xs.length ≤ 9000 ∧ ∀ (i : Nat) (x : V) (t' : QR.T), xs[i]? = some x → [t][i]? = some t' → Rep H3 21 t' x := ru
          obtain ⟨v0, rfl⟩ := List.length_eq_one_iff.mp lu
          have r0 := rr 0 v0 t rfl rfl
          refine ⟨_, rfl, Nat.zero_le _, fun e0 he0 => ?_⟩
          have s4 := sN (o := .tup []) he0
          refine ⟨ua, e0, rfl, rfl, upd_same, .inr ⟨21, t, v0, s4 _ _ hua, r0.same s4, (ok.up 1).1, by decide, _, rfl, iteF ?_⟩⟩
          have s34 := sT s3 s4
          have e4 := s34 _ _ e
          refine ⟨_, rfl, .inl ⟨rfl, _, SqL.of e4⟩, _, rfl, l, ua, ws, [v0], rfl, rfl, e4, s4 _ _ hua, Nat.le_of_lt (size_ok (by show _ + 1 ≤ _; omega)), ?_⟩
          have tk : Tk (upd H3 e0 (.tup [])) (upd (upd H3 e0 (.tup [])) l (.lst (ws ++ [v0]))) := fun c ys e' => by
            rw [upd_ne (ne_of e' e4 (fun z => by cases z))]
            exact e'
          refine ⟨ws ++ [v0], ts ++ [t], _, _, rfl, upd_same, sNew (sT s s34) nl, ((kv.tk (.of s34)).tk tk).snoc ((r0.same s4).tk tk), by rw [ek, kept_go hbs eu, List.append_assoc]; rfl, by rw [List.length_append]; show _ + 1 ≤ _; omega⟩
      · rintro σ H' ⟨ws, ts, x1, x3, rfl, e, s, kv, ek, lw⟩
        rw [rv.1, List.drop_length] at ek
        refine ⟨_, rfl, k l ws _ s e ?_⟩
        rw [ek]
        show KeptV H' ws (ts ++ [])
        rw [List.append_nil]
        exact kv
end
end Q

/-! a def that is handed the error that a suite has caught -/
namespace L2
open PySem PySem.Spec PyProof.Rows L2H
/-- what such a def is worth: at the error's address, class, own dict -/
abbrev SpE := Addr → Value → Option Addr → Sp
structure FnE (P : Program) (w : World) (K : PySem.W.Frag) (mg : Str → Option Value) (base : Heap) (k : Nat) (f : Addr) (fd : FuncData) (ps : List Str) (sp : SpE) : Prop where
  len : ∀ a c d xs H Q E, sp a c d xs H Q E → xs.length = ps.length
  run : ∀ (A : Around) (fr : List Env) (s : Shared) (H : Hp) (gs : Args) (us : List Value) (xs : List V) (Q : VK) (E : XK) (pe : Addr × Obj) (c : Value) (d : Option Addr), RoomH k A → PinOk fr H s pe → Zc c d pe.2 → (∃ vs, pe.2.data = .fields vs) →
    Env0 P w K mg base A fr s H → BindsTo s fd gs (ps.zip us) → Vals xs us → sp pe.1 c d xs H Q E → codeAny (model P w) A (.call (.ref f) gs) (CR CX0 fr P w H s Q E) s
/-- such a def of the text, by its body -/
theorem fn_err {P : Program} {w : World} {K : PySem.W.Frag} {mg : Str → Option Value} {base : Heap} {k : Nat} {x qual : Str} {st : Stmt} {f : Addr} {fd : FuncData} {N ps : List Str} {sp : SpE} (F : Fun K x qual st f fd) (S : FnScope N ps (defScope st))
    (len : ∀ a c d xs H Q E, sp a c d xs H Q E → xs.length = ps.length)
    (hbody : ∀ (cdv : Value) (A : Around) (fr : List Env) (s : Shared) (H : Hp) (xs : List V) (Q : VK) (E : XK) (pe : Addr × Obj) (c : Value) (d : Option Addr), RoomH k (A.deeper (envOfC qual (defScope st) s.heap.objs.size f cdv)) → Zc c d pe.2 → (∃ vs, pe.2.data = .fields vs) → sp pe.1 c d xs H Q E →
      ∃ t, PSs (cxH CX0 P w K mg base N qual (defScope st) f cdv A fr s H E pe) (defBody st) t ∧ t { nx := fun _ H' => Q .non H', rt := Q } (L2.start N xs) H) : FnE P w K mg base (k + 1) f fd ps sp := by
  obtain ⟨oc, od, kV, dc, pm, an, cdv, ct, osl, rfl, lk, hcd⟩ := F.ex
  refine ⟨len, fun A fr s H gs us xs Q E pe c d room pin zc zf en bd rl want => ?_⟩
  have kin : K.In s.heap := en.mod.kin.keeps fun b o q => (en.bs b o q).1
  have nol : s.heap.NoLimit := en.mod.nolimit.keeps fun b o q => (en.bs b o q).1
  refine codeAny_call_function room.depth (kin _ _ lk) rfl S.co S.gen rfl (PySem.W.codeRec_of kin hcd) (bd _ _ _ _ ?_)
  refine wpAny_newFunctionEnv_cells S.kind (fun ⟨n, v⟩ hn => ?_) fun env eq s1 J => ?_
  · rcases S.par n (List.of_mem_zip hn).1 with z | z
    · exact Or.inl z
    · exact Or.inr ⟨z, PySem.W.cellsFrom_some _ _ _ (Or.inl z)⟩
  subst eq
  refine ⟨nol.keeps J.toInCall.keep, codeAny_func ?_⟩
  obtain ⟨t, ht, hq⟩ := hbody cdv A fr s H xs Q E pe c d (room.deeper _) zc zf want
  refine wpAny_mono (ht.run [] s1 (L2.start N xs) H _ (inv_startH S pin en (len _ _ _ _ _ _ _ want) rl J) hq) (fun fl s2 z => ?_) fun _ _ z => z
  match fl, z with
  | .ret u, ⟨v, _, H2, I2, rv, q⟩ => exact ⟨v, H2, I2.os, I2.bare, I2.base, I2.hok, rv, q⟩
  | .next, ⟨_, H2, I2, q⟩ => exact ⟨V.non, H2, I2.os, I2.bare, I2.base, I2.hok, rfl, q⟩
  | .brk, ⟨_, _, _, q⟩ => exact q.elim
  | .cont, ⟨_, _, _, q⟩ => exact q.elim
/-- a call of it in the suite -/
def tCallE (sp : SpE) (a : Addr) (c : Value) (d : Option Addr) (t : TA) : TE := fun σ H Q => t σ H fun xs H1 => sp a c d xs H1 Q E0
theorem pe_callE {X : Cx} {k : Nat} {f a : Addr} {fd : FuncData} {ps : List Str} {sp : SpE} {oe : Obj} {pn : List (Addr × Obj)} {c : Value} {d : Option Addr} {x : Str} {e : Expr} {es : List Expr} {q pos : Pos} {t : TA} (F : FnE X.prog X.w X.K X.mg X.base k f fd ps sp) (hr : Room k X.A) (zc : Zc c d oe) (zf : ∃ vs, oe.data = .fields vs)
    (hg : Gl X x) (hm : X.mg x = some (.ref f)) (hk : PySem.W.keepIn X.K (.ref f) = true) (hb : Binds X.K fd ps []) (ha : PA (X.suite a ((a, oe) :: pn)) (e :: es) t)
    (hdb : (x == ("__debug__" : Str)) = false := by decide) (he : starEach (e :: es) X.env = (false, eval e X.env) :: starEach es X.env := by rfl) (hpl : (backTo pos (starEach es X.env)).any (·.1) = false := by rfl) :
    PE (X.suite a ((a, oe) :: pn)) (.Call (.Name x q) (e :: es) [] pos) (tCallE sp a c d t) := by
  refine ⟨fun pins s σ H Q I h => wpAny_Call_Name_kw (ld_glob I hg hm ?_ hdb)⟩
  refine PySem.W.callWith_K (h₀ := X.base) I.ok.mod.kin hk (thn (ha.run pos pins s σ H _ I h) fun us s1 ⟨xs, H1, I1, rl, want⟩ => ⟨I1.kIn, ?_⟩) he hpl
  have hl : us.length = ps.length := rl.length.symm.trans (F.len _ _ _ _ _ _ _ want)
  have bd := hb s1 us I1.kIn (by rw [List.append_nil]; exact hl)
  rw [List.append_nil] at bd
  obtain ⟨p1, p2, p3, p4, p5⟩ := I1.pin (a, oe) (List.mem_append_left _ List.mem_cons_self)
  have pin : PinOk X.stack H1 s1 (a, oe) := ⟨p1, p2, fun m => (List.mem_cons.mp (I1.stkSub a m)).elim p3 p4, p5⟩
  refine wpAny_call (codeAny_mono (F.run (X.suite a ((a, oe) :: pn)).A X.stack s1 H1 ⟨us, []⟩ us xs Q E0 (a, oe) c d ⟨hr.dp, hr.un⟩ pin zc zf I1.env0 bd rl want) fun r s2 z => ?_)
  match r, z with
  | .ok (.ret u), z => exact I1.after z
  | .error _, z => exact z.elim
/-- isinstance of the error that was handed in -/
theorem call_isP {X : Cx} {pe : Addr × Obj} {D : Addr} {cls : Value} {d : Option Addr} (C : ExcC X.K D) (hc : PySem.W.isClsIn X.K D = true) (hp : pe ∈ X.pn) (hz : Zc cls d pe.2) (hf : ∃ vs, pe.2.data = .fields vs) : CallR X (.builtin "isinstance") (rIsX X.K D pe.1 cls d) := by
  intro pins s σ H xs us Q I r h
  obtain ⟨rfl, hd, c, cv, b, rfl, hcv, e, q⟩ := h
  obtain ⟨hget, hn, _⟩ := I.pin pe (List.mem_append_left _ hp)
  cases r with
  | cons rx rr =>
    cases rr with
    | cons rt r0 =>
      cases r0
      cases rx
      have ec := hcv _ rt
      subst ec
      obtain ⟨vs, hv⟩ := hf
      have nc : PySem.W.notCls pe.2 = true := by
        unfold PySem.W.notCls
        rw [hv]
      have main : ∀ od, PySem.W.InstAt s.heap pe.1 pe.2 D od → wpAny (model X.prog X.w) X.A (call (.builtin "isinstance") [.ref pe.1, _]) (EP X pins σ Q) X.xe s := fun od J =>
        PySem.W.kia_one (PySem.W.kitx_exc (x := pe.1) (ox := pe.2) (od := od) hc C.hg C.hk C.hs C.ha C.hn C.ht C.hm) I.kIn J e (by intro z; cases z) (fun tk => ⟨.bl b, H, I.tok tk, rfl, q⟩)
      cases d with
      | none => exact main none ⟨hget, hz.1, nc, by rw [hz.2]; trivial⟩
      | some dd =>
        obtain ⟨fs, hfs⟩ := hd dd rfl
        obtain ⟨es, ⟨e1, _, _, e4, _⟩, _⟩ := I.hok dd _ hfs
        exact main (some e1) ⟨hget, hz.1, nc, by rw [hz.2]; exact e4⟩
end L2

namespace L2
open PySem PySem.Spec PyProof.Rows
/-! xs.count(y) of flat things -/
theorem cnt_flat {y : V} : ∀ {ys : List V} {us : List Value}, Vals ys us → ys.all flatV = true → us.countP (eqU y) = ys.countP fun z => eqV z y
  | _, _, .nil, _ => rfl
  | z :: ys, u :: us, .cons r t, f => by
    rw [List.all_cons, Bool.and_eq_true] at f
    rw [List.countP_cons, List.countP_cons, cnt_flat t f.2, eqU_of r f.1]
theorem mt_cntF {X : Cx} : MtR X "list.count" (fun x xs H Q => ∃ (a : Addr) (ys : List V) (y : V), x = .ref a ∧ xs = [y] ∧ SqL X.K H a ys ∧ flatV y = true ∧ ys.all flatV = true ∧ Q (.int ((ys.countP fun z => eqV z y : Nat) : Int)) H) := by
  intro pins s σ H x xs v us Q I rx rxs h
  obtain ⟨a, ys, y, rfl, rfl, hs, fy, fys, q⟩ := h
  cases rx
  obtain ⟨u, rfl, ru⟩ := rxs.one
  obtain ⟨its, rv, ⟨⟨cls, dd, data, sl⟩, n, ho, hc, hdn, hd⟩, hlen⟩ := I.list hs
  simp only at hc hd
  subst hc hd
  refine call_meets PySem.F.slot_list_count ⟨_, ho, rfl⟩ PySem.F.entry_list_count (PySem.F.args_list_count_2 _ _)
    (SeqAt.list_countAt a its.toArray n dd sl u (eqU y)) ⟨ho, fun u' hu' => mem_eqAt ru fy rv fys u' (by simpa using hu'), ?_⟩
  have ec := cnt_flat (y := y) rv fys
  refine ⟨.int ((ys.countP fun z => eqV z y : Nat) : Int), H, I.tok _, ⟨s.toks, ?_⟩, q⟩
  show Value.int ((its.toArray.toList.countP (eqU y) : Nat) : Int) s.toks = Value.int ((ys.countP fun z => eqV z y : Nat) : Int) s.toks
  rw [← ec]
end L2
namespace Q
open PySem L2 QR
abbrev sName : Stmt := top 73
def nmS : Nat → Str
  | 0 => "NoRow"
  | 1 => "NoParcel"
  | 2 => "NoCut"
  | 3 => "NoNumber"
  | _ => "NoBlocks"
def nmI : Nat → Str
  | 0 => "NoRow.__init__"
  | 1 => "NoParcel.__init__"
  | 2 => "NoCut.__init__"
  | 3 => "NoNumber.__init__"
  | _ => "NoBlocks.__init__"
def wdS : Nat → Str
  | 0 => "row"
  | 1 => "parcel"
  | 2 => "cut"
  | 3 => "number"
  | _ => "blocks"
/-- the five errors -/
structure Errs (P : Program) (K : PySem.W.Frag) (mg : Str → Option Value) (CE : Addr) where
  cl : Nat → Addr
  fl : Nat → Addr
  sup : ∀ i, i < 5 → QS.SupC P K mg (cl i) (fl i) (nmI i)
  g : ∀ i, i < 5 → mg (nmS i) = some (.ref (cl i))
  ex : ∀ i, i < 5 → PySem.W.exmOne K (.ref (cl i)) (.ref CE) = some true
  exO : ∀ i, i < 5 → PySem.W.exmOne K (.ref (cl i)) (.ref (cl i)) = some true
  e : ∀ i, i < 5 → ExcC K (cl i)
  c : ∀ i, i < 5 → PySem.W.isClsIn K (cl i) = true
  v : ∀ i, i < 5 → PySem.W.kitOne K (.ref (cl i)) (.type "ValueError") = some true
  k : ∀ i j, i < 5 → j < 5 → PySem.W.kitOne K (.ref (cl i)) (.ref (cl j)) = some (decide (i = j))
  gE : mg "RoundError" = some (.ref CE)
  noV : mg "ValueError" = none
def spName {P : Program} {K : PySem.W.Frag} {mg : Str → Option Value} {CE : Addr} (X : Errs P K mg CE) : SpE := fun a c d vs H Q _ => ∃ i, i < 5 ∧ c = .ref (X.cl i) ∧ d = none ∧ vs = [.ref a] ∧ ∀ H', Same H H' → Q (.str (wdS i)) H'
section
variable {P : Program} {w : World} {K : PySem.W.Frag} {mg : Str → Option Value} {base : Heap}
theorem scName : FnScope ["error", "flags"] ["error"] (defScope sName) := ⟨rfl, rfl, rfl, by decide +kernel, rfl, by decide +kernel, by decide +kernel⟩
theorem ok_name {f CE : Addr} {fd : FuncData} (D : Df K mg "_law_name" sName ["error"] f fd) (B : Bts mg) (X : Errs P K mg CE) : FnE P w K mg base 1 f fd ["error"] (spName X) := by
  refine fn_err D.F scName (fun a c d vs H Q E h => ?_) (fun cdv A fr s H vs Q E pe c d hr zc zf h => ?_)
  · obtain ⟨i, _, _, _, rfl, _⟩ := h
    rfl
  · obtain ⟨i, hi, rfl, rfl, rfl, k⟩ := h
    have nd := scName.nd
    have g0 := X.g 0 (by decide)
    have g1 := X.g 1 (by decide)
    have g2 := X.g 2 (by decide)
    have g3 := X.g 3 (by decide)
    have g4 := X.g 4 (by decide)
    refine ⟨_, pss_cons (ps_set (i := 1) nd rfl (.inl rfl) (pe_lst (pa_cons (pe_callB (call_isP (pe := pe) (X.e i hi) (X.c i hi) (List.mem_singleton.mpr rfl) zc zf) (by rfl) B.isinstance PyProof.Rows.boot_isinstance (pa_cons (pv 0) (pa_cons (pe_glob (v := .ref (X.cl 0)) rfl g0 rfl) pa_nil)))
        (pa_cons (pe_callB (call_isP (pe := pe) (X.e i hi) (X.c i hi) (List.mem_singleton.mpr rfl) zc zf) (by rfl) B.isinstance PyProof.Rows.boot_isinstance (pa_cons (pv 0) (pa_cons (pe_glob (v := .ref (X.cl 1)) rfl g1 rfl) pa_nil)))
        (pa_cons (pe_callB (call_isP (pe := pe) (X.e i hi) (X.c i hi) (List.mem_singleton.mpr rfl) zc zf) (by rfl) B.isinstance PyProof.Rows.boot_isinstance (pa_cons (pv 0) (pa_cons (pe_glob (v := .ref (X.cl 2)) rfl g2 rfl) pa_nil))) pa_nil)))))
      (pss_cons (ps_set (i := 1) nd rfl (.inl rfl) (pe_op op_cat (pv 1) (pe_lst (pa_cons (pe_callB (call_isP (pe := pe) (X.e i hi) (X.c i hi) (List.mem_singleton.mpr rfl) zc zf) (by rfl) B.isinstance PyProof.Rows.boot_isinstance (pa_cons (pv 0) (pa_cons (pe_glob (v := .ref (X.cl 3)) rfl g3 rfl) pa_nil)))
        (pa_cons (pe_callB (call_isP (pe := pe) (X.e i hi) (X.c i hi) (List.mem_singleton.mpr rfl) zc zf) (by rfl) B.isinstance PyProof.Rows.boot_isinstance (pa_cons (pv 0) (pa_cons (pe_glob (v := .ref (X.cl 4)) rfl g4 rfl) pa_nil))) pa_nil)))))
      (pss_cons (ps_if (PW.pt (pw_or (pt_cmpR op_ne (pe_bm PySem.F.plainAttrs_list PySem.F.slot_list_count PySem.F.type_list_count mt_cntF (pv 1) (pa_cons pe_bl pa_nil)) pe_int (nomark _))
          (pw_or1 (pt_not (pt_val (pe_callB (call_isP (pe := pe) (X.e i hi) (X.c i hi) (List.mem_singleton.mpr rfl) zc zf) (by rfl) B.isinstance PyProof.Rows.boot_isinstance (pa_cons (pv 0) (pa_cons (pe_bltn (v := .ty "ValueError") rfl X.noV (by decide +kernel) rfl) pa_nil)))))))) pss_never pss_nil)
      (pss_one (ps_ret (pe_ix ix_list (pe_lst (pa_cons pe_str (pa_cons pe_str (pa_cons pe_str (pa_cons pe_str (pa_cons pe_str pa_nil)))))) (pe_bm PySem.F.plainAttrs_list PySem.F.slot_list_index PySem.F.type_list_index mt_index (pv 1) (pa_cons pe_bl pa_nil)) (fun _ _ => rfl)))))), ?_⟩
    refine ⟨_, rfl, rfl, (fun dd z => nomatch z), .ref (X.cl 0), .ref (X.cl 0), _, rfl, fun u hu => hu, X.k i 0 hi (by decide), ?_⟩
    refine ⟨_, rfl, rfl, (fun dd z => nomatch z), .ref (X.cl 1), .ref (X.cl 1), _, rfl, fun u hu => hu, X.k i 1 hi (by decide), ?_⟩
    refine ⟨_, rfl, rfl, (fun dd z => nomatch z), .ref (X.cl 2), .ref (X.cl 2), _, rfl, fun u hu => hu, X.k i 2 hi (by decide), ?_⟩
    refine ⟨(by show 3 ≤ sizeLine; decide), fun l1 h1 => ?_⟩
    have s1 := sN (o := .lst [.bl (decide (i = 0)), .bl (decide (i = 1)), .bl (decide (i = 2))]) h1
    refine ⟨_, rfl, _, rfl, rfl, (fun dd z => nomatch z), .ref (X.cl 3), .ref (X.cl 3), _, rfl, fun u hu => hu, X.k i 3 hi (by decide), ?_⟩
    refine ⟨_, rfl, rfl, (fun dd z => nomatch z), .ref (X.cl 4), .ref (X.cl 4), _, rfl, fun u hu => hu, X.k i 4 hi (by decide), ?_⟩
    refine ⟨(by show 2 ≤ sizeLine; decide), fun l2 h2 => ?_⟩
    have n12 : l1 ≠ l2 := fun e => by rw [← e, upd_same] at h2; cases h2
    refine ⟨l1, l2, _, _, rfl, rfl, by rw [upd_ne n12, upd_same], upd_same, (by show 5 ≤ sizeLine; decide), fun l3 h3 => ?_⟩
    have S3 := sNew (o := .lst ([.bl (decide (i = 0)), .bl (decide (i = 1)), .bl (decide (i = 2))] ++ [.bl (decide (i = 3)), .bl (decide (i = 4))])) (sT s1 (sN (o := .lst [.bl (decide (i = 3)), .bl (decide (i = 4))]) h2)) (sNo (sT s1 (sN (o := .lst [.bl (decide (i = 3)), .bl (decide (i = 4))]) h2)) h3)
    have e3 : (upd (upd (upd H l1 (.lst [.bl (decide (i = 0)), .bl (decide (i = 1)), .bl (decide (i = 2))])) l2 (.lst [.bl (decide (i = 3)), .bl (decide (i = 4))])) l3 (.lst ([.bl (decide (i = 0)), .bl (decide (i = 1)), .bl (decide (i = 2))] ++ [.bl (decide (i = 3)), .bl (decide (i = 4))]))) l3 = some (.lst [.bl (decide (i = 0)), .bl (decide (i = 1)), .bl (decide (i = 2)), .bl (decide (i = 3)), .bl (decide (i = 4))]) := upd_same
    revert S3 e3
    generalize (upd (upd (upd H l1 (.lst [.bl (decide (i = 0)), .bl (decide (i = 1)), .bl (decide (i = 2))])) l2 (.lst [.bl (decide (i = 3)), .bl (decide (i = 4))])) l3 (.lst ([.bl (decide (i = 0)), .bl (decide (i = 1)), .bl (decide (i = 2))] ++ [.bl (decide (i = 3)), .bl (decide (i = 4))]))) = H3
    intro S3 e3
    have cnt : (([.bl (decide (i = 0)), .bl (decide (i = 1)), .bl (decide (i = 2)), .bl (decide (i = 3)), .bl (decide (i = 4))] : List V).countP fun z => eqV z (.bl true)) = 1 := by
      rcases (by omega : i = 0 ∨ i = 1 ∨ i = 2 ∨ i = 3 ∨ i = 4) with rfl | rfl | rfl | rfl | rfl <;> rfl
    refine ⟨_, rfl, .inl ⟨rfl, _, SqL.of e3⟩, l3, _, .bl true, rfl, rfl, SqL.of e3, rfl, rfl, rfl, _, rfl, ?_⟩
    rw [cnt]
    refine iteF ?_
    refine ⟨_, rfl, rfl, (fun dd z => nomatch z), .ty "ValueError", .type "ValueError", true, rfl, fun u hu => hu, X.v i hi, _, rfl, iteF ?_⟩
    refine ⟨(by show 5 ≤ sizeLine; decide), fun l4 h4 => ?_⟩
    have s4 := sN (o := .lst [.str "row", .str "parcel", .str "cut", .str "number", .str "blocks"]) h4
    have S4 := sT S3 s4
    have e5 := s4 _ _ e3
    have e4 : (upd H3 l4 (.lst [.str "row", .str "parcel", .str "cut", .str "number", .str "blocks"])) l4 = some (.lst [.str "row", .str "parcel", .str "cut", .str "number", .str "blocks"]) := upd_same
    refine ⟨_, rfl, .inl ⟨rfl, _, SqL.of e5⟩, l3, _, .bl true, i, .bl true, rfl, rfl, SqL.of e5, rfl, rfl, ?_, rfl, ?_, l4, _, (i : Int), .str (wdS i), rfl, rfl, SqL.of e4, atI_nat ?_, k _ S4⟩
    · rcases (by omega : i = 0 ∨ i = 1 ∨ i = 2 ∨ i = 3 ∨ i = 4) with rfl | rfl | rfl | rfl | rfl <;> rfl
    · intro m z' hm hz
      rcases (by omega : i = 0 ∨ i = 1 ∨ i = 2 ∨ i = 3 ∨ i = 4) with rfl | rfl | rfl | rfl | rfl <;>
        rcases (by omega : m = 0 ∨ m = 1 ∨ m = 2 ∨ m = 3) with rfl | rfl | rfl | rfl <;> first | omega | (cases hz; rfl)
    · rcases (by omega : i = 0 ∨ i = 1 ∨ i = 2 ∨ i = 3 ∨ i = 4) with rfl | rfl | rfl | rfl | rfl <;> rfl
end
end Q

namespace Q
open PySem L2 QR
abbrev sLIsRow : Stmt := top 71
abbrev sLInt : Stmt := top 60
abbrev sLWin : Stmt := top 61
abbrev sParO : Stmt := top 46
/-! things of known kind; S: what may change -/
def KnA (S : Addr → Prop) (H : Hp) (v : V) : Prop := Sc v ∨ (∃ z, v = .str z) ∨ ∃ a, v = .ref a ∧ ¬ S a ∧ ((∃ xs, H a = some (.lst xs)) ∨ (∃ xs, H a = some (.tup xs)) ∨ H a = some (.dK []))
/-- what stands, stands -/
def Mv (S S' : Addr → Prop) (H H' : Hp) : Prop := ∀ a o, H a = some o → ¬ S a → ¬ S' a ∧ H' a = some o
theorem Mv.of {S : Addr → Prop} {H H' : Hp} (s : Same H H') : Mv S S H H' := fun a o e n => ⟨n, s a o e⟩
theorem KnA.mv {S S' : Addr → Prop} {H H' : Hp} {v : V} (h : KnA S H v) (m : Mv S S' H H') : KnA S' H' v := by
  rcases h with h | h | ⟨a, e, n, ⟨xs, h⟩ | ⟨xs, h⟩ | h⟩
  · exact .inl h
  · exact .inr (.inl h)
  · obtain ⟨n', h'⟩ := m a _ h n
    exact .inr (.inr ⟨a, e, n', .inl ⟨xs, h'⟩⟩)
  · obtain ⟨n', h'⟩ := m a _ h n
    exact .inr (.inr ⟨a, e, n', .inr (.inl ⟨xs, h'⟩)⟩)
  · obtain ⟨n', h'⟩ := m a _ h n
    exact .inr (.inr ⟨a, e, n', .inr (.inr h')⟩)
theorem KnA.same {S : Addr → Prop} {H H' : Hp} {v : V} (h : KnA S H v) (s : Same H H') : KnA S H' v := h.mv (.of s)
/-- it is a tuple at a -/
def TupV (H : Hp) (v : V) : Prop := ∃ a xs, v = .ref a ∧ H a = some (.tup xs)
def LstV (H : Hp) (v : V) : Prop := ∃ a xs, v = .ref a ∧ H a = some (.lst xs)
/-- whether a number below n -/
def numB (n : Int) : V → Bool
  | .int i => decide (0 ≤ i) && decide (i < n)
  | _ => false
def winB (a b : Int) : V → Bool
  | .int i => decide (a ≤ i) && decide (i ≤ b)
  | _ => false
def intB : V → Bool
  | .int _ => true
  | _ => false
def RowD (S : Addr → Prop) (H : Hp) (v : V) (b : Bool) : Prop := (∃ q xs, v = .ref q ∧ ¬ S q ∧ H q = some (.tup xs) ∧ xs.length ≤ 9000 ∧ (∀ x ∈ xs, KnA S H x) ∧ xs.all isB = b) ∨ (b = false ∧ KnA S H v ∧ ¬ TupV H v)
theorem tupV_back {S S' : Addr → Prop} {H H' : Hp} {v : V} (k : KnA S H v) (m : Mv S S' H H') (h : TupV H' v) : TupV H v := by
  obtain ⟨a, xs, rfl, e⟩ := h
  rcases k with k | ⟨z, k⟩ | ⟨b, eb, n, k⟩
  · rcases k with k | ⟨_, k⟩ | ⟨_, k⟩ <;> cases k
  · cases k
  · cases eb
    rcases k with ⟨ys, k⟩ | ⟨ys, k⟩ | k
    · rw [(m _ _ k n).2] at e
      cases e
    · exact ⟨a, ys, rfl, k⟩
    · rw [(m _ _ k n).2] at e
      cases e
theorem lstV_back {S S' : Addr → Prop} {H H' : Hp} {v : V} (k : KnA S H v) (m : Mv S S' H H') (h : LstV H' v) : LstV H v := by
  obtain ⟨a, xs, rfl, e⟩ := h
  rcases k with k | ⟨z, k⟩ | ⟨b, eb, n, k⟩
  · rcases k with k | ⟨_, k⟩ | ⟨_, k⟩ <;> cases k
  · cases k
  · cases eb
    rcases k with ⟨ys, k⟩ | ⟨ys, k⟩ | k
    · exact ⟨a, ys, rfl, k⟩
    · rw [(m _ _ k n).2] at e
      cases e
    · rw [(m _ _ k n).2] at e
      cases e
theorem RowD.mv {S S' : Addr → Prop} {H H' : Hp} {v : V} {b : Bool} (h : RowD S H v b) (m : Mv S S' H H') : RowD S' H' v b := by
  rcases h with ⟨q, xs, e, n, h, l, k, a⟩ | ⟨e, k, n⟩
  · obtain ⟨n', h'⟩ := m q _ h n
    exact .inl ⟨q, xs, e, n', h', l, fun x hx => (k x hx).mv m, a⟩
  · exact .inr ⟨e, k.mv m, fun t => n (tupV_back k m t)⟩
theorem RowD.same {S : Addr → Prop} {H H' : Hp} {v : V} {b : Bool} (h : RowD S H v b) (s : Same H H') : RowD S H' v b := h.mv (.of s)
theorem RowD.kn {S : Addr → Prop} {H : Hp} {v : V} {b : Bool} (h : RowD S H v b) : KnA S H v := by
  rcases h with ⟨q, xs, e, n, h, _⟩ | ⟨_, k, _⟩
  · exact .inr (.inr ⟨q, e, n, .inr (.inl ⟨xs, h⟩)⟩)
  · exact k
theorem bytes_of : ∀ {xs : List V}, xs.all isB = true → ∃ bs : List Int, xs = bs.map V.int ∧ ∀ b ∈ bs, 0 ≤ b ∧ b < 256
  | [], _ => ⟨[], rfl, fun b hb => by simp at hb⟩
  | x :: xs, h => by
    rw [List.all_cons, Bool.and_eq_true] at h
    obtain ⟨bs, e, k⟩ := bytes_of h.2
    cases x with
    | int i =>
      have h1 : (decide (0 ≤ i) && decide (i < 256)) = true := h.1
      rw [Bool.and_eq_true, decide_eq_true_eq, decide_eq_true_eq] at h1
      refine ⟨i :: bs, by rw [List.map_cons, e], fun b hb => ?_⟩
      rcases List.mem_cons.mp hb with rfl | hb
      · exact h1
      · exact k b hb
    | _ => exact Bool.noConfusion (show false = true from h.1)
theorem RowD.row {S : Addr → Prop} {H : Hp} {v : V} (h : RowD S H v true) : ∃ q bs, v = .ref q ∧ RowAt H q bs := by
  rcases h with ⟨q, xs, e, _, h, l, k, a⟩ | ⟨z, _⟩
  · obtain ⟨bs, rfl, hb⟩ := bytes_of a
    exact ⟨q, bs, e, h, hb, by rw [List.length_map] at l; exact l⟩
  · cases z
def spIsRow2 : Sp := fun vs H Q _ => ∃ (S : Addr → Prop) (v : V) (b : Bool), vs = [v] ∧ RowD S H v b ∧ ∀ H', Same H H' → Q (.bl b) H'
def spInt2 : Sp := fun vs H Q _ => ∃ (S : Addr → Prop) (v : V), vs = [v] ∧ KnA S H v ∧ Q (.bl (intB v)) H
def spWin2 : Sp := fun vs H Q _ => ∃ (S : Addr → Prop) (v : V) (a b : Int), vs = [v, .int a, .int b] ∧ KnA S H v ∧ Q (.bl (winB a b v)) H
section
variable {P : Program} {w : World} {K : PySem.W.Frag} {mg : Str → Option Value} {base : Heap}
theorem KnA.ty {S : Addr → Prop} {H : Hp} {v : V} (h : KnA S H v) : ∃ t b c, TyX K H v t ∧ kInt K t b ∧ kBool K t c ∧ (b && !c) = intB v := by
  rcases h with h | ⟨z, rfl⟩ | ⟨a, rfl, n, ⟨xs, h⟩ | ⟨xs, h⟩ | h⟩
  · rcases h with rfl | ⟨b, rfl⟩ | ⟨i, rfl⟩
    · exact ⟨.type "NoneType", false, false, .base .non, kit_ty (by decide +kernel), kit_ty (by decide +kernel), rfl⟩
    · exact ⟨.type "bool", true, true, .base (.bl _), kit_ty (by decide +kernel), kit_ty (by decide +kernel), rfl⟩
    · exact ⟨.type "int", true, false, .base (.int _), kInt_int, kBool_int, rfl⟩
  · exact ⟨.type "str", false, false, .base (.str _), kit_ty (by decide +kernel), kit_ty (by decide +kernel), rfl⟩
  · exact ⟨.type "list", false, false, .base (.lst h), kit_ty (by decide +kernel), kit_ty (by decide +kernel), rfl⟩
  · exact ⟨.type "tuple", false, false, .base (.tup h), kit_ty (by decide +kernel), kit_ty (by decide +kernel), rfl⟩
  · exact ⟨.type "dict", false, false, .base (.dK h), kit_ty (by decide +kernel), kit_ty (by decide +kernel), rfl⟩
theorem KnA.nt {S : Addr → Prop} {H : Hp} {v : V} (h : KnA S H v) (nt : ¬ TupV H v) : ∃ t, TyX K H v t ∧ PySem.W.kitOne K t (.type "tuple") = some false := by
  rcases h with h | ⟨z, rfl⟩ | ⟨a, rfl, n, ⟨xs, h⟩ | ⟨xs, h⟩ | h⟩
  · rcases h with rfl | ⟨b, rfl⟩ | ⟨i, rfl⟩
    · exact ⟨.type "NoneType", .base .non, kit_ty (by decide +kernel)⟩
    · exact ⟨.type "bool", .base (.bl _), kit_ty (by decide +kernel)⟩
    · exact ⟨.type "int", .base (.int _), kit_ty (by decide +kernel)⟩
  · exact ⟨.type "str", .base (.str _), kit_ty (by decide +kernel)⟩
  · exact ⟨.type "list", .base (.lst h), kit_ty (by decide +kernel)⟩
  · exact absurd ⟨a, xs, rfl, h⟩ nt
  · exact ⟨.type "dict", .base (.dK h), kit_ty (by decide +kernel)⟩
theorem KnA.no {S : Addr → Prop} {H : Hp} {v : V} (h : KnA S H v) : (∃ i, v = .int i) ∨ (intB v = false ∧ NoInt K H v) := by
  obtain ⟨t, b, c, ty, kb, kc, e⟩ := h.ty (K := K)
  cases v with
  | int i => exact .inl ⟨i, rfl⟩
  | _ => exact .inr ⟨rfl, t, b, c, ty, kb, kc, e⟩
theorem isB_num (v : V) : numB 256 v = isB v := by cases v <;> rfl
theorem ok_isrow2 {f fP fN : Addr} {fd fdP fdN : FuncData} (D : Df K mg "is_row" sIsRow ["thing"] f fd) (B : Bts mg) (C : Cst mg) (DP : Df K mg "is_plain_int" sPlain ["thing"] fP fdP) (DN : Df K mg "is_number_below" sNum ["limit", "thing"] fN fdN) : FnOk P w K mg base CX0 3 f fd ["thing"] spIsRow2 := by
  have GN : FnOk P w K mg base CX0 2 fN fdN ["limit", "thing"] (spNum K) := ok_num DN B DP
  obtain ⟨tb, hb⟩ := C.bytes
  refine D.F.ok scIsRow (fun vs H Q E h => ?_) (fun cdv A outer s H vs Q E hr h => ?_)
  · obtain ⟨S, v, b, rfl, _⟩ := h
    rfl
  · obtain ⟨S, v, b, rfl, h, k⟩ := h
    have nd := scIsRow.nd
    refine ⟨_, pss_one (ps_ret (pe_and (pe_callB call_isi (by rfl) B.isinstance PyProof.Rows.boot_isinstance (pa_cons (pv 0) (pa_cons (pe_bltn (v := .ty "tuple") rfl B.tuple PyProof.Rows.boot_tuple rfl) pa_nil)))
      (pe_one (pe_callB (cr_all rfl) (by rfl) B.all PyProof.Rows.boot_all (pa_cons (pe_lc (own := [("part", 1)]) (g := gName 1) (tt := tYes) rfl nd (pi_tup (pv 0))
        (blkOk_by (N := ["thing", "part"]) (sc := defScope sIsRow) (by decide +kernel)) (fun _ _ _ _ _ => pg_name (i := 1) nd rfl (.inl rfl)) (fun _ _ _ _ _ => pts_nil)
        (fun _ _ _ _ _ => pe_call GN hr rfl DN.m DN.k DN.b .nil pass0 (pa_cons (pe_glob (v := .int 256) rfl hb ⟨_, rfl⟩) (pa_cons (pv 1) pa_nil)))) pa_nil))))), ?_⟩
    rcases h with ⟨q, xs, rfl, _, hq, few, kn, rfl⟩ | ⟨rfl, kn, nt⟩
    · refine ⟨_, rfl, .ref q, .ty "tuple", .type "tuple", .type "tuple", true, rfl, .ty _, .base (.tup hq), kit_ty (by decide +kernel), _, rfl, iteT ?_⟩
      refine ⟨_, rfl, q, rfl, ⟨_, SqT.of hq⟩, fun D hD => lc_tup (K := K) (a := q) (xs := xs) (fun i H' => H' D = some (.lst (((xs.take i).map isB).map V.bl)) ∧ Same H H') ?_ ?_ ?_ ?_⟩
      · exact ⟨upd_same, sN hD⟩
      · rintro i H' hi ⟨_, s1⟩
        exact SqT.of (s1 _ _ hq)
      · rintro i x H' hx ⟨eD, s1⟩
        have hm := (kn x (List.mem_of_getElem? hx)).same s1
        have hi := (List.getElem?_eq_some_iff.mp hx).1
        have fin : ∀ b, b = isB x → ∃ acc, H' D = some (.lst acc) ∧ acc.length < sizeLine ∧ (upd H' D (.lst (acc ++ [.bl b]))) D = some (.lst (((xs.take (i + 1)).map isB).map V.bl)) ∧ Same H (upd H' D (.lst (acc ++ [.bl b]))) := fun b hb => by
          refine ⟨_, eD, ?_, ?_, sNew s1 hD⟩
          · rw [List.length_map, List.length_map, List.length_take]
            exact size_ok (by omega)
          · rw [upd_same, take_more hx, List.map_append, List.map_append, hb]
            rfl
        refine ⟨rfl, ?_⟩
        rcases hm.no (K := K) with ⟨j, rfl⟩ | ⟨e, ni⟩
        · exact ⟨_, rfl, 256, .int j, rfl, .inl ⟨j, rfl, fin _ rfl⟩⟩
        · refine ⟨_, rfl, 256, x, rfl, .inr ⟨ni, fin _ ?_⟩⟩
          cases x with
          | int i => cases e
          | _ => rfl
      · rintro H' ⟨eD, s1⟩
        rw [List.take_length] at eD
        refine ⟨D, _, rfl, SqL.of eD, ?_⟩
        have e : (xs.map isB).all id = xs.all isB := by rw [List.all_map]; rfl
        rw [e]
        exact k _ s1
    · obtain ⟨t, ty, kt⟩ := kn.nt (K := K) nt
      exact ⟨_, rfl, v, .ty "tuple", t, .type "tuple", false, rfl, .ty _, ty, kt, _, rfl, iteF (k _ sR)⟩
theorem scLInt : FnScope ["thing"] ["thing"] (defScope sLInt) := ⟨rfl, rfl, rfl, by decide +kernel, rfl, by decide +kernel, by decide +kernel⟩
theorem ok_lint {f : Addr} {fd : FuncData} (D : Df K mg "_law_is_integer" sLInt ["thing"] f fd) (B : Bts mg) : FnOk P w K mg base CX0 1 f fd ["thing"] spInt2 := by
  refine D.F.ok scLInt (fun vs H Q E h => ?_) (fun cdv A outer s H vs Q E hr h => ?_)
  · obtain ⟨S, v, rfl, _⟩ := h
    rfl
  · obtain ⟨S, v, rfl, kn, k⟩ := h
    obtain ⟨t, b, c, ty, kb, kc, e⟩ := kn.ty (K := K)
    refine ⟨_, pss_one (ps_ret (pe_and (pe_callB call_isi (by rfl) B.isinstance PyProof.Rows.boot_isinstance (pa_cons (pv 0) (pa_cons (pe_bltn (v := .ty "int") rfl B.int PyProof.Rows.boot_int rfl) pa_nil)))
      (pe_one (pe_not (pe_callB call_isi (by rfl) B.isinstance PyProof.Rows.boot_isinstance (pa_cons (pv 0) (pa_cons (pe_bltn (v := .ty "bool") rfl B.bool (by decide +kernel) rfl) pa_nil))))))), ?_⟩
    refine ⟨_, rfl, v, .ty "int", t, .type "int", b, rfl, .ty _, ty, kb, _, rfl, ?_⟩
    rw [← e] at k
    cases b with
    | false => exact iteF k
    | true => exact iteT ⟨_, rfl, v, .ty "bool", t, .type "bool", c, rfl, .ty _, ty, kc, _, rfl, k⟩
theorem scLWin : FnScope ["thing", "least", "most"] ["thing", "least", "most"] (defScope sLWin) := ⟨rfl, rfl, rfl, by decide +kernel, rfl, by decide +kernel, by decide +kernel⟩
theorem ok_lwin {f fI : Addr} {fd dI : FuncData} (D : Df K mg "_law_is_within" sLWin ["thing", "least", "most"] f fd) (B : Bts mg) (DI : Df K mg "_law_is_integer" sLInt ["thing"] fI dI) : FnOk P w K mg base CX0 2 f fd ["thing", "least", "most"] spWin2 := by
  have GI : FnOk P w K mg base CX0 1 fI dI ["thing"] spInt2 := ok_lint DI B
  refine D.F.ok scLWin (fun vs H Q E h => ?_) (fun cdv A outer s H vs Q E hr h => ?_)
  · obtain ⟨S, v, a, b, rfl, _⟩ := h
    rfl
  · obtain ⟨S, v, a, b, rfl, kn, k⟩ := h
    refine ⟨_, pss_one (ps_ret (pe_and (pe_call GI hr rfl DI.m DI.k DI.b .nil pass0 (pa_cons (pv 0) pa_nil)) (pe_and (pe_cmpR op_le (pv 1) (pv 0) (nomark _)) (pe_one (pe_cmpR op_le (pv 0) (pv 2) (nomark _)))))), ?_⟩
    refine ⟨_, rfl, S, v, rfl, kn, _, rfl, ?_⟩
    cases v with
    | int i =>
      refine iteT ⟨_, rfl, _, rfl, _, _, rfl, rfl, _, rfl, ?_⟩
      have k : Q (.bl (decide (a ≤ i) && decide (i ≤ b))) H := k
      by_cases c : a ≤ i
      · rw [decide_eq_true c] at k ⊢
        exact iteT ⟨_, rfl, _, rfl, _, _, rfl, rfl, k⟩
      · rw [decide_eq_false c] at k ⊢
        exact iteF k
    | _ => exact iteF k
theorem scLIsRow : FnScope ["thing", "one"] ["thing"] (defScope sLIsRow) := ⟨rfl, rfl, rfl, by decide +kernel, rfl, by decide +kernel, by decide +kernel⟩
theorem ok_lisrow {f : Addr} {fd : FuncData} (D : Df K mg "_law_is_row" sLIsRow ["thing"] f fd) (B : Bts mg) : FnOk P w K mg base CX0 1 f fd ["thing"] spIsRow2 := by
  refine D.F.ok scLIsRow (fun vs H Q E h => ?_) (fun cdv A outer s H vs Q E hr h => ?_)
  · obtain ⟨S, v, b, rfl, _⟩ := h
    rfl
  · obtain ⟨S, v, b, rfl, h, k⟩ := h
    have nd := scLIsRow.nd
    refine ⟨_, pss_cons (ps_if (pt_not (pt_val (pe_callB call_isi (by rfl) B.isinstance PyProof.Rows.boot_isinstance (pa_cons (pv 0) (pa_cons (pe_bltn (v := .ty "tuple") rfl B.tuple PyProof.Rows.boot_tuple rfl) pa_nil))))) (pss_one (ps_ret pe_bl)) pss_nil)
      (pss_one (ps_ret (pe_callB (cr_all rfl) (by rfl) B.all PyProof.Rows.boot_all (pa_cons (pe_lc (own := [("one", 1)]) (g := gName 1) (tt := tYes) rfl nd (pi_tup (pv 0))
        (blkOk_by (N := ["thing", "one"]) (sc := defScope sLIsRow) (by decide +kernel)) (fun _ _ _ _ _ => pg_name (i := 1) nd rfl (.inl rfl)) (fun _ _ _ _ _ => pts_nil)
        (fun _ _ _ _ _ => pe_and (pe_callB (r := rIsi K) call_isi (by rfl) B.isinstance PyProof.Rows.boot_isinstance (pa_cons (pv 1) (pa_cons (pe_bltn (v := .ty "int") rfl B.int PyProof.Rows.boot_int rfl) pa_nil)))
          (pe_and (pe_not (pe_callB (r := rIsi K) call_isi (by rfl) B.isinstance PyProof.Rows.boot_isinstance (pa_cons (pv 1) (pa_cons (pe_bltn (v := .ty "bool") rfl B.bool (by decide +kernel) rfl) pa_nil)))) (pe_one (pe_chain op_le op_lt pe_int (pv 1) pe_int))))) pa_nil)))), ?_⟩
    rcases h with ⟨q, xs, rfl, _, hq, few, kn, rfl⟩ | ⟨rfl, kn, nt⟩
    · refine ⟨_, rfl, .ref q, .ty "tuple", .type "tuple", .type "tuple", true, rfl, .ty _, .base (.tup hq), kit_ty (by decide +kernel), _, rfl, iteF ?_⟩
      refine ⟨_, rfl, q, rfl, ⟨_, SqT.of hq⟩, fun D hD => lc_tup (K := K) (a := q) (xs := xs) (fun i H' => H' D = some (.lst (((xs.take i).map isB).map V.bl)) ∧ Same H H') ?_ ?_ ?_ ?_⟩
      · exact ⟨upd_same, sN hD⟩
      · rintro i H' hi ⟨_, s1⟩
        exact SqT.of (s1 _ _ hq)
      · rintro i x H' hx ⟨eD, s1⟩
        have hm := (kn x (List.mem_of_getElem? hx)).same s1
        have hi := (List.getElem?_eq_some_iff.mp hx).1
        have fin : ∀ b, b = isB x → ∃ acc, H' D = some (.lst acc) ∧ acc.length < sizeLine ∧ (upd H' D (.lst (acc ++ [.bl b]))) D = some (.lst (((xs.take (i + 1)).map isB).map V.bl)) ∧ Same H (upd H' D (.lst (acc ++ [.bl b]))) := fun b hb => by
          refine ⟨_, eD, ?_, ?_, sNew s1 hD⟩
          · rw [List.length_map, List.length_map, List.length_take]
            exact size_ok (by omega)
          · rw [upd_same, take_more hx, List.map_append, List.map_append, hb]
            rfl
        obtain ⟨t, b, c, ty, kb, kc, e⟩ := hm.ty (K := K)
        refine ⟨rfl, ?_⟩
        refine ⟨_, rfl, x, .ty "int", t, .type "int", b, rfl, .ty _, ty, kb, _, rfl, ?_⟩
        have ni : intB x = false → isB x = false := fun z => by
          cases x with
          | int i => cases z
          | _ => rfl
        cases b with
        | false => exact iteF (fin _ (ni (by rw [← e]; rfl)).symm)
        | true =>
          refine iteT ⟨_, rfl, x, .ty "bool", t, .type "bool", c, rfl, .ty _, ty, kc, _, rfl, ?_⟩
          cases c with
          | true => exact ⟨_, rfl, iteF (fin _ (ni (by rw [← e]; rfl)).symm)⟩
          | false =>
            cases x with
            | int i =>
              refine ⟨_, rfl, iteT ⟨_, rfl, _, _, rfl, rfl, _, rfl, ?_⟩⟩
              by_cases c : (0 : Int) ≤ i
              · rw [decide_eq_true c]
                exact iteT ⟨_, _, rfl, rfl, fin _ (by show decide (i < 256) = (decide (0 ≤ i) && decide (i < 256)); rw [decide_eq_true c]; rfl)⟩
              · rw [decide_eq_false c]
                exact iteF (fin _ (by show false = (decide (0 ≤ i) && decide (i < 256)); rw [decide_eq_false c]; rfl))
            | _ => cases e
      · rintro H' ⟨eD, s1⟩
        rw [List.take_length] at eD
        refine ⟨D, _, rfl, SqL.of eD, ?_⟩
        have e : (xs.map isB).all id = xs.all isB := by rw [List.all_map]; rfl
        rw [e]
        exact k _ s1
    · obtain ⟨t, ty, kt⟩ := kn.nt (K := K) nt
      exact ⟨_, rfl, v, .ty "tuple", t, .type "tuple", false, rfl, .ty _, ty, kt, _, rfl, iteT (k _ sR)⟩
end
end Q

namespace Q
open PySem L2 QR
theorem fn_or {P : Program} {w : World} {K : PySem.W.Frag} {mg : Str → Option Value} {base : Heap} {CX : CXT} {k : Nat} {f : Addr} {fd : FuncData} {ps : List Str} {sp sp' : Sp} (F : FnOk P w K mg base CX k f fd ps sp) (G : FnOk P w K mg base CX k f fd ps sp') : FnOk P w K mg base CX k f fd ps (fun vs H Q E => sp vs H Q E ∨ sp' vs H Q E) :=
  ⟨fun vs H Q E h => h.elim (F.len vs H Q E) (G.len vs H Q E), fun A outer s H args us vs Q E hr he hb hv hs => hs.elim (F.run A outer s H args us vs Q E hr he hb hv) (G.run A outer s H args us vs Q E hr he hb hv)⟩
/-- how much of each is left: whether this is right -/
def cutB : List V → List (List Int) → Bool
  | x :: xs, bs :: bss => numB ((bs.length : Int) + 1) x && cutB xs bss
  | _, _ => true
def CutD (S : Addr → Prop) (H : Hp) (v : V) (bss : List (List Int)) (b : Bool) : Prop := (∃ a xs, v = .ref a ∧ ¬ S a ∧ H a = some (.tup xs) ∧ xs.length = bss.length ∧ (∀ x ∈ xs, KnA S H x) ∧ b = cutB xs bss) ∨ (b = false ∧ ∃ a xs, v = .ref a ∧ ¬ S a ∧ H a = some (.tup xs) ∧ xs.length ≠ bss.length) ∨ (b = false ∧ KnA S H v ∧ ¬ TupV H v)
theorem CutD.mv {S S' : Addr → Prop} {H H' : Hp} {v : V} {bss : List (List Int)} {b : Bool} (h : CutD S H v bss b) (m : Mv S S' H H') : CutD S' H' v bss b := by
  rcases h with ⟨a, xs, e, n, h, l, k, d⟩ | ⟨eb, a, xs, e, n, h, l⟩ | ⟨e, k, n⟩
  · obtain ⟨n', h'⟩ := m a _ h n
    exact .inl ⟨a, xs, e, n', h', l, fun x hx => (k x hx).mv m, d⟩
  · obtain ⟨n', h'⟩ := m a _ h n
    exact .inr (.inl ⟨eb, a, xs, e, n', h', l⟩)
  · exact .inr (.inr ⟨e, k.mv m, fun t => n (tupV_back k m t)⟩)
theorem cutB_ok : ∀ {xs : List V} {bss : List (List Int)}, xs.length = bss.length → cutB xs bss = true → ∃ ns : List Int, xs = ns.map V.int ∧ CutOk ns bss
  | [], [], _, _ => ⟨[], rfl, rfl, fun i n bs h => by simp at h⟩
  | [], _ :: _, h, _ => by simp at h
  | _ :: _, [], h, _ => by simp at h
  | x :: xs, bs :: bss, h, d => by
    have d : (numB ((bs.length : Int) + 1) x && cutB xs bss) = true := d
    rw [Bool.and_eq_true] at d
    obtain ⟨ns, e, l, k⟩ := cutB_ok (by simpa using h) d.2
    cases x with
    | int i =>
      have h1 : (decide (0 ≤ i) && decide (i < (bs.length : Int) + 1)) = true := d.1
      rw [Bool.and_eq_true, decide_eq_true_eq, decide_eq_true_eq] at h1
      refine ⟨i :: ns, by rw [List.map_cons, e], by rw [List.length_cons, List.length_cons, l], fun j n cs hn hc => ?_⟩
      cases j with
      | zero =>
        cases hn
        cases hc
        exact ⟨h1.1, by omega⟩
      | succ j => exact k j n cs hn hc
    | _ => exact Bool.noConfusion (show false = true from d.1)
def BlkD (S : Addr → Prop) (H : Hp) (v : V) (b : Bool) : Prop := (∃ a xs, v = .ref a ∧ ¬ S a ∧ (H a = some (.lst xs) ∨ H a = some (.tup xs)) ∧ xs.length ≤ 200 ∧ ∃ B : V → Bool, (∀ x ∈ xs, RowD S H x (B x)) ∧ xs.all B = b) ∨ (b = false ∧ KnA S H v ∧ ¬ TupV H v ∧ ¬ LstV H v)
theorem BlkD.mv {S S' : Addr → Prop} {H H' : Hp} {v : V} {b : Bool} (h : BlkD S H v b) (m : Mv S S' H H') : BlkD S' H' v b := by
  rcases h with ⟨a, xs, e, n, h, l, B, k, d⟩ | ⟨e, k, n1, n2⟩
  · have h' : ¬ S' a ∧ (H' a = some (.lst xs) ∨ H' a = some (.tup xs)) := h.elim (fun h => ⟨(m a _ h n).1, .inl (m a _ h n).2⟩) (fun h => ⟨(m a _ h n).1, .inr (m a _ h n).2⟩)
    exact .inl ⟨a, xs, e, h'.1, h'.2, l, B, fun x hx => (k x hx).mv m, d⟩
  · exact .inr ⟨e, k.mv m, fun t => n1 (tupV_back k m t), fun t => n2 (lstV_back k m t)⟩
theorem rows_back {S : Addr → Prop} {H : Hp} : ∀ {xs : List V} {B : V → Bool}, (∀ x ∈ xs, RowD S H x (B x)) → xs.all B = true → ∃ bss, RowsV H xs bss
  | [], _, _, _ => ⟨[], .nil⟩
  | x :: xs, B, k, d => by
    rw [List.all_cons, Bool.and_eq_true] at d
    obtain ⟨bss, r⟩ := rows_back (xs := xs) (B := B) (fun y hy => k y (List.mem_cons_of_mem _ hy)) d.2
    have kx := k x List.mem_cons_self
    rw [d.1] at kx
    obtain ⟨q, bs, rfl, hq⟩ := kx.row
    exact ⟨[bs] ++ bss, RowsV.append (RowsV.one hq) r⟩
/-- what is let, what is refused -/
def spMkX (C : Addr) : Sp := fun vs H Q E => ∃ (S : Addr → Prop) (v : V) (b : Bool), vs = [v] ∧ RowD S H v b ∧ (b = true → ∀ u H', Same H H' → Q u H') ∧ (b = false → ∀ H', Same H H' → E (.ref C) none H')
def spPaX (C : Addr) : Sp := fun vs H Q E => ∃ (S : Addr → Prop) (v : V), vs = [v] ∧ RowD S H v false ∧ ∀ H', Same H H' → E (.ref C) none H'
def spDWX (CD C : Addr) : Sp := fun vs H Q E => ∃ (S : Addr → Prop) (x dx ra : Addr) (v : V) (bss : List (List Int)) (m : Nat) (b : Bool), vs = [.ref x, v] ∧ DiskX CD H x dx ra bss m ∧ bss.length < 200 ∧ RowD S H v b ∧
  (b = true → ∀ u bs H', Bu ra H H' → DiskX CD H' x dx ra (bss ++ [bs]) m → Q u H') ∧ (b = false → ∀ H', Same H H' → E (.ref C) none H')
def spDCX (CD C : Addr) : Sp := fun vs H Q E => ∃ (S : Addr → Prop) (x dx ra : Addr) (v : V) (bss : List (List Int)) (m : Nat) (b : Bool), vs = [.ref x, v] ∧ DiskX CD H x dx ra bss m ∧ CutD S H v (bss.drop m) b ∧
  (b = true → ∀ css H', B2 x ra H H' → css.length = bss.length → DiskX CD H' x dx ra css bss.length → Q .non H') ∧ (b = false → ∀ H', Same H H' → E (.ref C) none H')
def spDDX (CD C : Addr) : Sp := fun vs H Q E => ∃ (S : Addr → Prop) (x dx ra : Addr) (v : V) (bss : List (List Int)) (m : Nat) (b : Bool), vs = [.ref x, v] ∧ DiskX CD H x dx ra bss m ∧ KnA S H v ∧ numB ((bss.length : Int) + 1) v = b ∧
  (b = true → ∀ rb n k H', H rb = none → Bu x H H' → n ≤ bss.length → DiskX CD H' x dx rb (bss.take n) k → Q .non H') ∧ (b = false → E (.ref C) none H)
def spKPX (C : Addr) : Sp := fun vs H Q E => ∃ (S : Addr → Prop) (v : V) (b : Bool), vs = [v] ∧ BlkD S H v b ∧ (b = true → ∀ u H', Same H H' → Q u H') ∧ (b = false → ∀ H', Same H H' → E (.ref C) none H')
section
variable {P : Program} {w : World} {K : PySem.W.Frag} {mg : Str → Option Value} {base : Heap} {CE : Addr}
theorem ok_mkX {f fR fM : Addr} {fd fdR fdM : FuncData} (X : Errs P K mg CE) (D : Df K mg "mark" sMark ["row"] f fd) (C : Cst mg) (DR : Df K mg "is_row" sIsRow ["thing"] fR fdR) (DM : Df K mg "mark_of" sMkOf ["row"] fM fdM) (GR : FnOk P w K mg base CX0 3 fR fdR ["thing"] spIsRow2) : FnOk P w K mg base (L2.CX P w) 4 f fd ["row"] (spMkX (X.cl 0)) := by
  have GM : FnOk P w K mg base CX0 1 fM fdM ["row"] (spMkOf K) := ok_mkof DM C
  refine D.F.okX scMark (fun vs H Q E h => ?_) (fun cdv A outer s H vs Q E hr h => ?_)
  · obtain ⟨S, v, b, rfl, _⟩ := h
    rfl
  · obtain ⟨S, v, b, rfl, rd, k1, k2⟩ := h
    have hr1 : Room 1 _ := hr.mono (by decide)
    refine ⟨_, pss_cons (ps_if (pt_not (pt_val (pe_call GR hr rfl DR.m DR.k DR.b .nil pass0 (pa_cons (pv 0) pa_nil)))) (pss_one (ps_raise rfl (takes_of rfl rfl rfl rfl) (QS.pmk_sup (X.sup 0 (by decide)) hr rfl (X.g 0 (by decide))))) pss_nil)
      (pss_one (ps_ret (pe_call GM hr1 rfl DM.m DM.k DM.b .nil pass0 (pa_cons (pv 0) pa_nil)))), ?_⟩
    refine ⟨_, rfl, S, v, b, rfl, rd, fun H1 s1 => ⟨_, rfl, ?_⟩⟩
    cases b with
    | false => exact iteT (k2 rfl H1 s1)
    | true =>
      obtain ⟨q, bs, rfl, hq⟩ := rd.row
      exact iteF ⟨_, rfl, q, bs, rfl, s1 _ _ hq.at_, k1 rfl _ _ s1⟩
theorem scParO : FnScope ["row"] ["row"] (defScope sParO) := ⟨rfl, rfl, rfl, by decide +kernel, rfl, by decide +kernel, by decide +kernel⟩
theorem ok_paX {f fR : Addr} {fd fdR : FuncData} (X : Errs P K mg CE) (D : Df K mg "parcel_of" sParO ["row"] f fd) (DR : Df K mg "is_row" sIsRow ["thing"] fR fdR) (GR : FnOk P w K mg base CX0 3 fR fdR ["thing"] spIsRow2) : FnOk P w K mg base (L2.CX P w) 4 f fd ["row"] (spPaX (X.cl 0)) := by
  refine D.F.okX scParO (fun vs H Q E h => ?_) (fun cdv A outer s H vs Q E hr h => ?_)
  · obtain ⟨S, v, rfl, _⟩ := h
    rfl
  · obtain ⟨S, v, rfl, rd, k2⟩ := h
    refine ⟨_, pss_cons (ps_if (pt_not (pt_val (pe_call GR hr rfl DR.m DR.k DR.b .nil pass0 (pa_cons (pv 0) pa_nil)))) (pss_one (ps_raise rfl (takes_of rfl rfl rfl rfl) (QS.pmk_sup (X.sup 0 (by decide)) hr rfl (X.g 0 (by decide))))) pss_nil)
      (pss_one ps_never), ?_⟩
    exact ⟨_, rfl, S, v, false, rfl, rd, fun H1 s1 => ⟨_, rfl, iteT (k2 H1 s1)⟩⟩
theorem ok_dwN {CD fR : Addr} {dR : FuncData} (X : Errs P K mg CE) (T : DTxt K mg CD) (M : DDefs K CD) (B : Bts mg) (DR : Df K mg "is_row" sIsRow ["thing"] fR dR) (GR : FnOk P w K mg base CX0 3 fR dR ["thing"] spIsRow2) : FnOk P w K mg base (L2.CX P w) 4 M.fW M.dW ["self", "row"] (spDWX CD (X.cl 0)) := by
  refine M.FW.okX scDW (fun vs H Q E h => ?_) (fun cdv A outer s H vs Q E hr h => ?_)
  · obtain ⟨S, x, dx, ra, v, bss, m, b, rfl, _⟩ := h
    rfl
  · obtain ⟨S, x, dx, ra, v, bss, m, b, rfl, d, lt, rd, k1, k2⟩ := h
    refine ⟨_, pss_cons (ps_if (pt_not (pt_val (pe_call GR hr rfl DR.m DR.k DR.b .nil pass0 (pa_cons (pv 1) pa_nil)))) (pss_one (ps_raise rfl (takes_of rfl rfl rfl rfl) (QS.pmk_sup (X.sup 0 (by decide)) hr rfl (X.g 0 (by decide))))) pss_nil)
      (pss_cons (ps_expr (pe_bm PySem.F.plainAttrs_list PySem.F.slot_list_append PySem.F.type_list_append mt_append (pe_fld (pv 0) rfl) (pa_cons (pv 1) pa_nil)))
      (pss_one (ps_ret (pe_op op_sub (pe_callB call_len_seq (by rfl) B.len PySem.boot_len (pa_cons (pe_fld (pv 0) rfl) pa_nil)) pe_int)))), ?_⟩
    refine ⟨_, rfl, S, v, b, rfl, rd, fun H1 s1 => ⟨_, rfl, ?_⟩⟩
    cases b with
    | false => exact iteT (k2 rfl H1 s1)
    | true =>
      obtain ⟨q, bs, rfl, hq⟩ := rd.row
      refine iteF ?_
      have d1 := d.same s1
      have ne := d1.ne
      obtain ⟨vs, hv, rv⟩ := d1.rows
      refine ⟨_, rfl, x, CD, dx, _, _, rfl, d1.at_, T.cl, T.nR, rfl, .inl ⟨rfl, _, SqL.of hv⟩, _, rfl, ra, _, _, rfl, rfl, hv, size_ok (by rw [rv.1]; have := d.few; omega), ?_⟩
      have e2 : (upd H1 ra (.lst (vs ++ [.ref q]))) x = some (.ins CD dx (dF ra m)) := by
        rw [upd_ne ne]
        exact d1.at_
      refine ⟨_, rfl, x, CD, dx, _, _, rfl, e2, T.cl, T.nR, rfl, ra, _, rfl, .inl (SqL.of upd_same), _, _, rfl, rfl, ?_⟩
      have tk : Tk H1 (upd H1 ra (.lst (vs ++ [.ref q]))) := fun c ys e => by
        rw [upd_ne (ne_of e hv (fun z => by cases z))]
        exact e
      exact k1 rfl _ bs _ ((Bu.of s1).at) ⟨e2, ⟨_, upd_same, (rv.tk tk).append (.one ((hq.same s1).tk tk))⟩, by rw [List.length_append]; have := d.le; omega, by rw [List.length_append]; show _ + 1 ≤ _; omega⟩
def spCutN : Sp := fun vs H Q _ => ∃ (S : Addr → Prop) (wl : Addr) (v : V) (us : List V) (bss : List (List Int)) (b : Bool), vs = [.ref wl, v] ∧ H wl = some (.lst us) ∧ RowsV H us bss ∧ CutD S H v bss b ∧ bss.length ≤ 200 ∧ ∀ H', Same H H' → Q (.bl b) H'
/-- of so many beginnings -/
def cutL2 : Nat → List V → List (List Int) → List Bool
  | 0, _, _ => []
  | n + 1, x :: xs, bs :: bss => numB ((bs.length : Int) + 1) x :: cutL2 n xs bss
  | _, _, _ => []
def cutAt (xs : List V) (bss : List (List Int)) (i : Nat) : Bool := match xs[i]?, bss[i]? with
  | some x, some bs => numB ((bs.length : Int) + 1) x
  | _, _ => true
theorem cutB_all : ∀ {xs : List V} {bss : List (List Int)}, xs.length = bss.length → ((List.range xs.length).map (cutAt xs bss)).all id = cutB xs bss
  | [], [], _ => rfl
  | [], _ :: _, h => by simp at h
  | _ :: _, [], h => by simp at h
  | x :: xs, bs :: bss, h => by
    have ih := cutB_all (xs := xs) (bss := bss) (by simpa using h)
    rw [List.length_cons, List.range_succ_eq_map, List.map_cons, List.all_cons, List.map_map]
    show (numB ((bs.length : Int) + 1) x && _) = (numB ((bs.length : Int) + 1) x && cutB xs bss)
    rw [← ih]
    rfl
theorem ok_cutN {f fN fP : Addr} {fd dN dP : FuncData} (D : Df K mg "is_cut" sCut ["waiting", "thing"] f fd) (B : Bts mg) (DN : Df K mg "is_number_below" sNum ["limit", "thing"] fN dN) (DP : Df K mg "is_plain_int" sPlain ["thing"] fP dP) : FnOk P w K mg base CX0 3 f fd ["waiting", "thing"] spCutN := by
  have GN : FnOk P w K mg base CX0 2 fN dN ["limit", "thing"] (spNum K) := ok_num DN B DP
  refine D.F.ok scCut (fun vs H Q E h => ?_) (fun cdv A outer s H vs Q E hr h => ?_)
  · obtain ⟨S, wl, v, us, bss, b, rfl, _⟩ := h
    rfl
  · obtain ⟨S, wl, v, us, bss, b, rfl, hw, rv, cd, few, k⟩ := h
    have nd := scCut.nd
    refine ⟨_, pss_cons (ps_if (PW.pt (pw_or (pt_not (pt_val (pe_callB call_isi (by rfl) B.isinstance PyProof.Rows.boot_isinstance (pa_cons (pv 1) (pa_cons (pe_bltn (v := .ty "tuple") rfl B.tuple PyProof.Rows.boot_tuple rfl) pa_nil)))))
        (pw_or1 (pt_cmpR op_ne (pe_callB call_len_seq (by rfl) B.len PySem.boot_len (pa_cons (pv 1) pa_nil)) (pe_callB call_len_seq (by rfl) B.len PySem.boot_len (pa_cons (pv 0) pa_nil)) (nomark _))))) (pss_one (ps_ret pe_bl)) pss_nil)
      (pss_one (ps_ret (pe_callB (cr_all rfl) (by rfl) B.all PyProof.Rows.boot_all (pa_cons (pe_lc (own := [("row", 2), ("many", 3)]) (g := gTup K 2 (gCons (gName 2) (gCons (gName 3) gNil))) (tt := tYes) rfl nd (pi_zipM rfl B.zip (pa_cons (pv 0) (pa_cons (pv 1) pa_nil)))
        (blkOk_by (N := ["waiting", "thing", "row", "many"]) (sc := defScope sCut) (by decide +kernel)) (fun _ _ _ _ _ => pg_tup rfl (pgs_cons (pg_name (i := 2) nd rfl (.inl rfl)) (pgs_cons (pg_name (i := 3) nd rfl (.inl rfl)) pgs_nil))) (fun _ _ _ _ _ => pts_nil)
        (fun _ _ _ _ _ => pe_call GN hr rfl DN.m DN.k DN.b .nil pass0 (pa_cons (pe_op op_add (pe_callB (r := fun xs H Q => ∃ (p : Addr) (ys : List V), xs = [V.ref p] ∧ (SqL K H p ys ∨ SqT K H p ys) ∧ Q (V.int (ys.length : Int)) H) call_len_seq (by rfl) B.len PySem.boot_len (pa_cons (pv 2) pa_nil)) pe_int) (pa_cons (pv 3) pa_nil)))) pa_nil)))), ?_⟩
    rcases cd with ⟨a, xs, rfl, _, ht, hl, kn, rfl⟩ | ⟨rfl, a, xs, rfl, _, ht, hl⟩ | ⟨rfl, kn, nt⟩
    · refine ⟨_, rfl, .ref a, .ty "tuple", .type "tuple", .type "tuple", true, rfl, .ty _, .base (.tup ht), kit_ty (by decide +kernel), _, rfl, iteF ?_⟩
      refine ⟨_, rfl, a, _, rfl, .inr (SqT.of ht), _, rfl, wl, _, rfl, .inl (SqL.of hw), rfl, _, rfl, ?_⟩
      rw [hl, rv.1, decide_eq_true rfl]
      refine iteF ?_
      refine ⟨_, rfl, _, rfl, wl, a, us, _, rfl, SqL.of hw, SqT.of ht, fun D hD => lc_it (walk_zipM (K := K) (a := wl) (b := a) (xs := us) (ys := xs) (by rw [hl, rv.1])) (fun i H' => H' D = some (.lst (((List.range i).map (cutAt xs bss)).map V.bl)) ∧ i ≤ us.length ∧ Same H H') ?_ ?_ ?_ ?_⟩
      · exact ⟨upd_same, Nat.zero_le _, sN hD⟩
      · rintro i H3 hi ⟨_, _, s3⟩
        exact ⟨SqL.of (s3 _ _ hw), SqT.of (s3 _ _ ht)⟩
      · rintro i v H3 H4 hi ⟨eD, _, s3⟩ ⟨T, x, y, rfl, hT, rfl, hx, hy⟩
        have hb : bss[i]? = some (bss[i]'(by rw [← rv.1]; exact hi)) := List.getElem?_eq_getElem _
        obtain ⟨q, rfl, hq⟩ := rv.2 i x _ hx hb
        have s4 := sN (o := .tup [.ref q, y]) hT
        have hq4 := hq.same (sT s3 s4)
        have ky := (kn y (List.mem_of_getElem? hy)).same (sT s3 s4)
        have ec : cutAt xs bss i = numB (((bss[i]'(by rw [← rv.1]; exact hi)).length : Int) + 1) y := by
          unfold cutAt
          rw [show xs[i]? = some y from hy, hb]
        have fin : ∀ b, b = cutAt xs bss i → ∃ acc, (upd H3 T (.tup [.ref q, y])) D = some (.lst acc) ∧ acc.length < sizeLine ∧ (upd (upd H3 T (.tup [.ref q, y])) D (.lst (acc ++ [.bl b]))) D = some (.lst (((List.range (i + 1)).map (cutAt xs bss)).map V.bl)) ∧ i + 1 ≤ us.length ∧ Same H (upd (upd H3 T (.tup [.ref q, y])) D (.lst (acc ++ [.bl b]))) := fun b eb => by
          refine ⟨_, s4 _ _ eD, ?_, ?_, hi, sNew (sT s3 s4) hD⟩
          · rw [List.length_map, List.length_map, List.length_range]
            have := rv.1
            exact size_ok (by omega)
          · rw [upd_same, List.range_succ, List.map_append, List.map_append, eb]
            rfl
        refine ⟨T, _, rfl, SqT.of upd_same, rfl, _, _, rfl, _, _, rfl, rfl, rfl, ?_⟩
        refine ⟨_, rfl, q, _, rfl, .inr (SqT.of hq4.at_), _, _, rfl, rfl, ?_⟩
        rw [List.length_map]
        rcases ky.no (K := K) with ⟨j, rfl⟩ | ⟨e, ni⟩
        · exact ⟨_, rfl, _, .int j, rfl, .inl ⟨j, rfl, fin _ ec.symm⟩⟩
        · refine ⟨_, rfl, _, y, rfl, .inr ⟨ni, fin _ ?_⟩⟩
          rw [ec]
          cases y with
          | int i => cases e
          | _ => rfl
      · rintro H3 ⟨eD, _, s3⟩
        refine ⟨D, _, rfl, SqL.of eD, ?_⟩
        rw [show us.length = xs.length by rw [rv.1, hl], cutB_all hl]
        exact k _ s3
    · refine ⟨_, rfl, .ref a, .ty "tuple", .type "tuple", .type "tuple", true, rfl, .ty _, .base (.tup ht), kit_ty (by decide +kernel), _, rfl, iteF ?_⟩
      refine ⟨_, rfl, a, _, rfl, .inr (SqT.of ht), _, rfl, wl, _, rfl, .inl (SqL.of hw), rfl, _, rfl, ?_⟩
      rw [decide_eq_false (show ¬ V.int (xs.length : Int) = V.int (us.length : Int) from fun z => hl (by have := V.int.inj z; rw [← rv.1]; omega))]
      exact iteT (k _ sR)
    · obtain ⟨t, ty, kt⟩ := kn.nt (K := K) nt
      exact ⟨_, rfl, v, .ty "tuple", t, .type "tuple", false, rfl, .ty _, ty, kt, _, rfl, iteT (k _ sR)⟩
theorem ok_dcN {CD fC fN fP : Addr} {dC dN dP : FuncData} (X : Errs P K mg CE) (T : DTxt K mg CD) (M : DDefs K CD) (DC : Df K mg "is_cut" sCut ["waiting", "thing"] fC dC) (GC : FnOk P w K mg base CX0 3 fC dC ["waiting", "thing"] spCutN) : FnOk P w K mg base (L2.CX P w) 4 M.fC M.dC ["self", "kept"] (fun vs H Q E => ∃ (S : Addr → Prop) (x dx ra : Addr) (v : V) (bss : List (List Int)) (m : Nat), vs = [.ref x, v] ∧ DiskX CD H x dx ra bss m ∧ CutD S H v (bss.drop m) false ∧ ∀ H', Same H H' → E (.ref (X.cl 2)) none H') := by
  refine M.FC.okX scDC (fun vs H Q E h => ?_) (fun cdv A outer s H vs Q E hr h => ?_)
  · obtain ⟨S, x, dx, ra, v, bss, m, rfl, _⟩ := h
    rfl
  · obtain ⟨S, x, dx, ra, v, bss, m, rfl, d, cd, k⟩ := h
    have nd := scDC.nd
    obtain ⟨vs, hv, rv⟩ := d.rows
    refine ⟨_, pss_cons (ps_set (i := 2) nd rfl (.inl rfl) (pe_slice sl_list (pe_fld (pv 0) rfl) (po_some (pe_fld (pv 0) rfl)) po_none))
      (pss_cons (ps_if (pt_not (pt_val (pe_call GC hr rfl DC.m DC.k DC.b .nil pass0 (pa_cons (pv 2) (pa_cons (pv 1) pa_nil))))) (pss_one (ps_raise rfl (takes_of rfl rfl rfl rfl) (QS.pmk_sup (X.sup 2 (by decide)) hr rfl (X.g 2 (by decide))))) pss_nil)
      (pss_cons ps_never (pss_one ps_never))), ?_⟩
    refine ⟨_, rfl, x, CD, dx, _, _, rfl, d.at_, T.cl, T.nR, rfl, _, rfl, x, CD, dx, _, _, rfl, d.at_, T.cl, T.nM, rfl, _, rfl, ra, _, rfl, SqL.of hv, fun wl hwl => ?_⟩
    rw [cut_fromV]
    have s1 := sN (o := .lst (vs.drop m)) hwl
    have few := d.few
    exact ⟨_, rfl, _, rfl, S, wl, v, vs.drop m, bss.drop m, false, rfl, upd_same, (rv.tk (.of s1)).drop m, cd.mv (.of s1), by rw [List.length_drop]; omega, fun H2 s2 => ⟨_, rfl, iteT (k H2 (sT s1 s2))⟩⟩
theorem ok_dcX {CD fC fN fP : Addr} {dC dN dP : FuncData} (X : Errs P K mg CE) (T : DTxt K mg CD) (M : DDefs K CD) (B : Bts mg) (DC : Df K mg "is_cut" sCut ["waiting", "thing"] fC dC) (DN : Df K mg "is_number_below" sNum ["limit", "thing"] fN dN) (DP : Df K mg "is_plain_int" sPlain ["thing"] fP dP) : FnOk P w K mg base (L2.CX P w) 4 M.fC M.dC ["self", "kept"] (spDCX CD (X.cl 2)) := by
  have GC : FnOk P w K mg base CX0 3 fC dC ["waiting", "thing"] spCutN := ok_cutN DC B DN DP
  refine (fn_or (fn_up (ok_dc T M B DC DN DP)) (ok_dcN (fN := fN) (fP := fP) (dN := dN) (dP := dP) X T M DC GC)).imp fun vs H Q E h => ?_
  obtain ⟨S, x, dx, ra, v, bss, m, b, rfl, d, cd, k1, k2⟩ := h
  cases b with
  | false => exact .inr ⟨S, x, dx, ra, v, bss, m, rfl, d, cd, k2 rfl⟩
  | true =>
    rcases cd with ⟨a, xs, rfl, _, ht, hl, kn, e⟩ | ⟨e, _⟩ | ⟨e, _⟩
    · obtain ⟨ns, rfl, co⟩ := cutB_ok hl e.symm
      refine .inl ⟨x, dx, ra, a, bss, m, ns, rfl, d, ht, co, fun H' b2 d' => k1 rfl _ H' b2 ?_ d'⟩
      have := d.le
      rw [List.length_append, List.length_take, cutL_len co.1, List.length_drop]
      omega
    · cases e
    · cases e
theorem ok_ddX {CD fN fP : Addr} {dN dP : FuncData} (X : Errs P K mg CE) (T : DTxt K mg CD) (M : DDefs K CD) (B : Bts mg) (DN : Df K mg "is_number_below" sNum ["limit", "thing"] fN dN) (DP : Df K mg "is_plain_int" sPlain ["thing"] fP dP) : FnOk P w K mg base (L2.CX P w) 3 M.fD M.dD ["self", "number"] (spDDX CD (X.cl 3)) := by
  have GN : FnOk P w K mg base CX0 2 fN dN ["limit", "thing"] (spNum K) := ok_num DN B DP
  have neg : FnOk P w K mg base (L2.CX P w) 3 M.fD M.dD ["self", "number"] (fun vs H Q E => ∃ (S : Addr → Prop) (x dx ra : Addr) (v : V) (bss : List (List Int)) (m : Nat), vs = [.ref x, v] ∧ DiskX CD H x dx ra bss m ∧ KnA S H v ∧ numB ((bss.length : Int) + 1) v = false ∧ E (.ref (X.cl 3)) none H) := by
    refine M.FD.okX scDD (fun vs H Q E h => ?_) (fun cdv A outer s H vs Q E hr h => ?_)
    · obtain ⟨S, x, dx, ra, v, bss, m, rfl, _⟩ := h
      rfl
    · obtain ⟨S, x, dx, ra, v, bss, m, rfl, d, kn, nb, k⟩ := h
      obtain ⟨vs, hv, rv⟩ := d.rows
      refine ⟨_, pss_cons (ps_if (pt_not (pt_val (pe_call GN hr rfl DN.m DN.k DN.b .nil pass0 (pa_cons (pe_op op_add (pe_callB call_len_seq (by rfl) B.len PySem.boot_len (pa_cons (pe_fld (pv 0) rfl) pa_nil)) pe_int) (pa_cons (pv 1) pa_nil))))) (pss_one (ps_raise rfl (takes_of rfl rfl rfl rfl) (QS.pmk_sup (X.sup 3 (by decide)) hr rfl (X.g 3 (by decide))))) pss_nil)
        (pss_cons ps_never (pss_one ps_never)), ?_⟩
      refine ⟨_, rfl, x, CD, dx, _, _, rfl, d.at_, T.cl, T.nR, rfl, ra, _, rfl, .inl (SqL.of hv), _, _, rfl, rfl, _, rfl, ?_⟩
      rw [rv.1]
      rcases kn.no (K := K) with ⟨j, rfl⟩ | ⟨e, ni⟩
      · refine ⟨_, _, rfl, .inl ⟨j, rfl, _, rfl, ?_⟩⟩
        have nb : (decide (0 ≤ j) && decide (j < (bss.length : Int) + 1)) = false := nb
        rw [nb]
        exact iteT k
      · exact ⟨_, _, rfl, .inr ⟨ni, _, rfl, iteT k⟩⟩
  refine (fn_or (fn_up (ok_dd T M B DN DP)) neg).imp fun vs H Q E h => ?_
  obtain ⟨S, x, dx, ra, v, bss, m, b, rfl, d, kn, nb, k1, k2⟩ := h
  cases b with
  | false => exact .inr ⟨S, x, dx, ra, v, bss, m, rfl, d, kn, nb, k2 rfl⟩
  | true =>
    cases v with
    | int i =>
      have nb : (decide (0 ≤ i) && decide (i < (bss.length : Int) + 1)) = true := nb
      rw [Bool.and_eq_true, decide_eq_true_eq, decide_eq_true_eq] at nb
      obtain ⟨n, rfl⟩ : ∃ n : Nat, i = (n : Int) := ⟨i.toNat, by omega⟩
      exact .inl ⟨x, dx, ra, bss, m, n, rfl, d, by omega, fun rb H' hrb bu d' => k1 rfl rb n _ H' hrb bu (by omega) d'⟩
    | _ => cases nb
end
end Q

namespace Q
open PySem L2 QR
abbrev sLCall : Stmt := top 72
abbrev sLWord : Stmt := top 74
def spNoP (C : Addr) : Sp := fun vs H Q E => ∃ (p l : Addr) (v : V), vs = [v] ∧ Dec p l H 20 v false ∧ ∀ H', Same H H' → E (.ref C) none H'
/-- what is called -/
def D8 {P : Program} {K : PySem.W.Frag} {mg : Str → Option Value} {CE : Addr} (CD : Addr) (X : Errs P K mg CE) (H : Hp) (n : Int) (x : Addr) (v : V) (Q : VK) (E : XK) : Prop :=
  ((n = 0 ∧ spPaX (X.cl 0) [v] H (fun _ H' => Q .non H') E) ∨ (n = 1 ∧ spMkX (X.cl 0) [v] H (fun _ H' => Q .non H') E) ∨ (n = 2 ∧ spDWX CD (X.cl 0) [.ref x, v] H (fun _ H' => Q .non H') E) ∨
   (n = 3 ∧ spNoP (X.cl 1) [v] H (fun _ H' => Q .non H') E) ∨ (n = 4 ∧ spNoP (X.cl 1) [v] H (fun _ H' => Q .non H') E) ∨ (n = 5 ∧ spDCX CD (X.cl 2) [.ref x, v] H (fun _ H' => Q .non H') E) ∨
   (n = 6 ∧ spDDX CD (X.cl 3) [.ref x, v] H (fun _ H' => Q .non H') E) ∨ (n = 7 ∧ spKPX (X.cl 4) [v] H (fun _ H' => Q .non H') E))
def spLC {P : Program} {K : PySem.W.Frag} {mg : Str → Option Value} {CE : Addr} (CD : Addr) (X : Errs P K mg CE) : Sp := fun vs H Q E => ∃ (n : Int) (x : Addr) (v : V), vs = [.int n, .ref x, v] ∧ (∃ dx ra bss m, DiskX CD H x dx ra bss m) ∧ D8 CD X H n x v Q E
theorem D8.mono {P : Program} {K : PySem.W.Frag} {mg : Str → Option Value} {CE : Addr} {CD : Addr} {X : Errs P K mg CE} {H : Hp} {n : Int} {x : Addr} {v : V} {Q Q' : VK} {E E' : XK} (hQ : ∀ v H', Q v H' → Q' v H') (hE : ∀ c d H', E c d H' → E' c d H') (h : D8 CD X H n x v Q E) : D8 CD X H n x v Q' E' := by
  rcases h with ⟨z, S, v', e, r, k⟩ | ⟨z, S, v', b, e, r, k1, k2⟩ | ⟨z, S, x', dx, ra, v', bss, m, b, e, d, l, r, k1, k2⟩ | ⟨z, p, l, v', e, r, k⟩ | ⟨z, p, l, v', e, r, k⟩ | ⟨z, S, x', dx, ra, v', bss, m, b, e, d, r, k1, k2⟩ | ⟨z, S, x', dx, ra, v', bss, m, b, e, d, r, r2, k1, k2⟩ | ⟨z, S, v', b, e, r, k1, k2⟩
  · exact .inl ⟨z, S, v', e, r, fun H' s => hE _ _ _ (k H' s)⟩
  · exact .inr (.inl ⟨z, S, v', b, e, r, fun eb u H' s => hQ _ _ (k1 eb u H' s), fun eb H' s => hE _ _ _ (k2 eb H' s)⟩)
  · exact .inr (.inr (.inl ⟨z, S, x', dx, ra, v', bss, m, b, e, d, l, r, fun eb u bs H' s d' => hQ _ _ (k1 eb u bs H' s d'), fun eb H' s => hE _ _ _ (k2 eb H' s)⟩))
  · exact .inr (.inr (.inr (.inl ⟨z, p, l, v', e, r, fun H' s => hE _ _ _ (k H' s)⟩)))
  · exact .inr (.inr (.inr (.inr (.inl ⟨z, p, l, v', e, r, fun H' s => hE _ _ _ (k H' s)⟩))))
  · exact .inr (.inr (.inr (.inr (.inr (.inl ⟨z, S, x', dx, ra, v', bss, m, b, e, d, r, fun eb css H' s l d' => hQ _ _ (k1 eb css H' s l d'), fun eb H' s => hE _ _ _ (k2 eb H' s)⟩)))))
  · exact .inr (.inr (.inr (.inr (.inr (.inr (.inl ⟨z, S, x', dx, ra, v', bss, m, b, e, d, r, r2, fun eb rb n k H' h s l d' => hQ _ _ (k1 eb rb n k H' h s l d'), fun eb => hE _ _ _ (k2 eb)⟩))))))
  · exact .inr (.inr (.inr (.inr (.inr (.inr (.inr ⟨z, S, v', b, e, r, fun eb u H' s => hQ _ _ (k1 eb u H' s), fun eb H' s => hE _ _ _ (k2 eb H' s)⟩))))))
def spWordL {P : Program} {K : PySem.W.Frag} {mg : Str → Option Value} {CE : Addr} (CD : Addr) (X : Errs P K mg CE) : Sp := fun vs H Q _ => spLC CD X vs H (fun _ H' => Q (.str "let") H') (fun c d H' => ∃ i, i < 5 ∧ c = .ref (X.cl i) ∧ d = none ∧ ∀ H2, Same H' H2 → Q (.str (wdS i)) H2)
section
variable {P : Program} {w : World} {K : PySem.W.Frag} {mg : Str → Option Value} {base : Heap} {CE : Addr}
theorem KnA.nlt {S : Addr → Prop} {H : Hp} {v : V} (h : KnA S H v) (nt : ¬ TupV H v) (nl : ¬ LstV H v) : ∃ t, TyX K H v t ∧ PySem.W.kitAny K t [.type "list", .type "tuple"] = some false := by
  have two : ∀ t, PySem.W.kitOne K t (.type "list") = some false → PySem.W.kitOne K t (.type "tuple") = some false → PySem.W.kitAny K t [.type "list", .type "tuple"] = some false := fun t h1 h2 => by simp [PySem.W.kitAny, h1, h2]
  rcases h with h | ⟨z, rfl⟩ | ⟨a, rfl, n, ⟨xs, h⟩ | ⟨xs, h⟩ | h⟩
  · rcases h with rfl | ⟨b, rfl⟩ | ⟨i, rfl⟩
    · exact ⟨.type "NoneType", .base .non, two _ (kit_ty (by decide +kernel)) (kit_ty (by decide +kernel))⟩
    · exact ⟨.type "bool", .base (.bl _), two _ (kit_ty (by decide +kernel)) (kit_ty (by decide +kernel))⟩
    · exact ⟨.type "int", .base (.int _), two _ (kit_ty (by decide +kernel)) (kit_ty (by decide +kernel))⟩
  · exact ⟨.type "str", .base (.str _), two _ (kit_ty (by decide +kernel)) (kit_ty (by decide +kernel))⟩
  · exact absurd ⟨a, xs, rfl, h⟩ nl
  · exact absurd ⟨a, xs, rfl, h⟩ nt
  · exact ⟨.type "dict", .base (.dK h), two _ (kit_ty (by decide +kernel)) (kit_ty (by decide +kernel))⟩
theorem ok_kpNL {f fR : Addr} {fd dR : FuncData} (X : Errs P K mg CE) (D : Df K mg "kept_parcels" sKP ["blocks"] f fd) (B : Bts mg) (DR : Df K mg "is_row" sIsRow ["thing"] fR dR) (GR : FnOk P w K mg base CX0 3 fR dR ["thing"] spIsRow2) : FnOk P w K mg base (L2.CX P w) 48 f fd ["blocks"] (fun vs H Q E => ∃ (S : Addr → Prop) (v : V), vs = [v] ∧ ((KnA S H v ∧ ¬ TupV H v ∧ ¬ LstV H v) ∨ ∃ a xs, v = .ref a ∧ H a = some (.lst xs) ∧ xs.length ≤ 200 ∧ ∃ B : V → Bool, (∀ x ∈ xs, RowD S H x (B x)) ∧ xs.all B = false) ∧ ∀ H', Same H H' → E (.ref (X.cl 4)) none H') := by
  refine D.F.okX scKP (fun vs H Q E h => ?_) (fun cdv A outer s H vs Q E hr h => ?_)
  · obtain ⟨S, v, rfl, _⟩ := h
    rfl
  · obtain ⟨S, v, rfl, cs, k⟩ := h
    have nd := scKP.nd
    have hr3 : Room 3 _ := hr.mono (by decide)
    refine ⟨_, pss_cons (ps_if (PW.pt (pw_or (pt_not (pt_val (pe_callB call_isiT (by rfl) B.isinstance PyProof.Rows.boot_isinstance (pa_cons (pv 0) (pa_cons (pe_tup (pa_cons (pe_bltn (v := .ty "list") rfl B.list PyProof.Rows.boot_list rfl) (pa_cons (pe_bltn (v := .ty "tuple") rfl B.tuple PyProof.Rows.boot_tuple rfl) pa_nil))) pa_nil)))))
        (pw_or1 (pt_not (pt_val (pe_callB (cr_all rfl) (by rfl) B.all PyProof.Rows.boot_all (pa_cons (pe_lc (own := [("block", 1)]) (g := gName 1) (tt := tYes) rfl nd (pi_list (pv 0)) (blkOk_by (N := ["blocks", "block", "parcels", "told"]) (sc := defScope sKP) (by decide +kernel)) (fun _ _ _ _ _ => pg_name (i := 1) nd rfl (.inl rfl)) (fun _ _ _ _ _ => pts_nil)
          (fun _ _ _ _ _ => pe_call GR hr3 rfl DR.m DR.k DR.b .nil pass0 (pa_cons (pv 1) pa_nil))) pa_nil))))))) (pss_one (ps_raise rfl (takes_of rfl rfl rfl rfl) (QS.pmk_sup (X.sup 4 (by decide)) hr rfl (X.g 4 (by decide))))) pss_nil)
      (pss_cons ps_never (pss_cons ps_never (pss_one ps_never))), ?_⟩
    refine ⟨_, rfl, (by show 2 ≤ sizeLine; decide), fun tp htp => ?_⟩
    have s1 := sN (o := .tup [.ty "list", .ty "tuple"]) htp
    rcases cs with ⟨kn, nt, nl⟩ | ⟨a, xs, rfl, ha, few, BB, hB, eB⟩
    · obtain ⟨t, ty, kt⟩ := (kn.same s1).nlt (K := K) (fun z => nt (tupV_back kn (.of s1) z)) (fun z => nl (lstV_back kn (.of s1) z))
      exact ⟨v, tp, [.ty "list", .ty "tuple"], t, [.type "list", .type "tuple"], false, rfl, upd_same, .cons (.ty _) (.cons (.ty _) .nil), ty, kt, _, rfl, iteT (k _ s1)⟩
    · refine ⟨.ref a, tp, [.ty "list", .ty "tuple"], .type "list", [.type "list", .type "tuple"], true, rfl, upd_same, .cons (.ty _) (.cons (.ty _) .nil), .base (.lst (s1 _ _ ha)), kit_lst, _, rfl, iteF ?_⟩
      refine ⟨_, rfl, a, rfl, ⟨_, SqL.of (s1 _ _ ha)⟩, fun D hD => lc_list (K := K) (a := a) (xs := xs) (fun i H' => H' D = some (.lst (((xs.take i).map BB).map V.bl)) ∧ Same (upd H tp (.tup [.ty "list", .ty "tuple"])) H') ?_ ?_ ?_ ?_⟩
      · exact ⟨upd_same, sN hD⟩
      · rintro i H' hi ⟨_, s2⟩
        exact SqL.of (s2 _ _ (s1 _ _ ha))
      · rintro i x H' hx ⟨eD, s2⟩
        have hi := (List.getElem?_eq_some_iff.mp hx).1
        refine ⟨rfl, _, rfl, S, x, BB x, rfl, (hB x (List.mem_of_getElem? hx)).same (sT s1 s2), fun H3 s3 => ⟨_, s3 _ _ eD, ?_, ?_, sNew (sT s2 s3) hD⟩⟩
        · rw [List.length_map, List.length_map, List.length_take]
          exact size_ok (by omega)
        · rw [upd_same, take_more hx, List.map_append, List.map_append]
          rfl
      · rintro H2 ⟨eD, s2⟩
        rw [List.take_length] at eD
        refine ⟨D, _, rfl, SqL.of eD, ?_⟩
        rw [all_map_id, eB]
        exact ⟨_, rfl, iteT (k _ (sT s1 s2))⟩
theorem ok_kpNT {f fR : Addr} {fd dR : FuncData} (X : Errs P K mg CE) (D : Df K mg "kept_parcels" sKP ["blocks"] f fd) (B : Bts mg) (DR : Df K mg "is_row" sIsRow ["thing"] fR dR) (GR : FnOk P w K mg base CX0 3 fR dR ["thing"] spIsRow2) : FnOk P w K mg base (L2.CX P w) 48 f fd ["blocks"] (fun vs H Q E => ∃ (S : Addr → Prop) (v : V), vs = [v] ∧ (∃ a xs, v = .ref a ∧ H a = some (.tup xs) ∧ xs.length ≤ 200 ∧ ∃ B : V → Bool, (∀ x ∈ xs, RowD S H x (B x)) ∧ xs.all B = false) ∧ ∀ H', Same H H' → E (.ref (X.cl 4)) none H') := by
  refine D.F.okX scKP (fun vs H Q E h => ?_) (fun cdv A outer s H vs Q E hr h => ?_)
  · obtain ⟨S, v, rfl, _⟩ := h
    rfl
  · obtain ⟨S, v, rfl, cs, k⟩ := h
    have nd := scKP.nd
    have hr3 : Room 3 _ := hr.mono (by decide)
    refine ⟨_, pss_cons (ps_if (PW.pt (pw_or (pt_not (pt_val (pe_callB call_isiT (by rfl) B.isinstance PyProof.Rows.boot_isinstance (pa_cons (pv 0) (pa_cons (pe_tup (pa_cons (pe_bltn (v := .ty "list") rfl B.list PyProof.Rows.boot_list rfl) (pa_cons (pe_bltn (v := .ty "tuple") rfl B.tuple PyProof.Rows.boot_tuple rfl) pa_nil))) pa_nil)))))
        (pw_or1 (pt_not (pt_val (pe_callB (cr_all rfl) (by rfl) B.all PyProof.Rows.boot_all (pa_cons (pe_lc (own := [("block", 1)]) (g := gName 1) (tt := tYes) rfl nd (pi_tup (pv 0)) (blkOk_by (N := ["blocks", "block", "parcels", "told"]) (sc := defScope sKP) (by decide +kernel)) (fun _ _ _ _ _ => pg_name (i := 1) nd rfl (.inl rfl)) (fun _ _ _ _ _ => pts_nil)
          (fun _ _ _ _ _ => pe_call GR hr3 rfl DR.m DR.k DR.b .nil pass0 (pa_cons (pv 1) pa_nil))) pa_nil))))))) (pss_one (ps_raise rfl (takes_of rfl rfl rfl rfl) (QS.pmk_sup (X.sup 4 (by decide)) hr rfl (X.g 4 (by decide))))) pss_nil)
      (pss_cons ps_never (pss_cons ps_never (pss_one ps_never))), ?_⟩
    refine ⟨_, rfl, (by show 2 ≤ sizeLine; decide), fun tp htp => ?_⟩
    have s1 := sN (o := .tup [.ty "list", .ty "tuple"]) htp
    obtain ⟨a, xs, rfl, ha, few, BB, hB, eB⟩ := cs
    refine ⟨.ref a, tp, [.ty "list", .ty "tuple"], .type "tuple", [.type "list", .type "tuple"], true, rfl, upd_same, .cons (.ty _) (.cons (.ty _) .nil), .base (.tup (s1 _ _ ha)), kit_tup, _, rfl, iteF ?_⟩
    refine ⟨_, rfl, a, rfl, ⟨_, SqT.of (s1 _ _ ha)⟩, fun D hD => lc_tup (K := K) (a := a) (xs := xs) (fun i H' => H' D = some (.lst (((xs.take i).map BB).map V.bl)) ∧ Same (upd H tp (.tup [.ty "list", .ty "tuple"])) H') ?_ ?_ ?_ ?_⟩
    · exact ⟨upd_same, sN hD⟩
    · rintro i H' hi ⟨_, s2⟩
      exact SqT.of (s2 _ _ (s1 _ _ ha))
    · rintro i x H' hx ⟨eD, s2⟩
      have hi := (List.getElem?_eq_some_iff.mp hx).1
      refine ⟨rfl, _, rfl, S, x, BB x, rfl, (hB x (List.mem_of_getElem? hx)).same (sT s1 s2), fun H3 s3 => ⟨_, s3 _ _ eD, ?_, ?_, sNew (sT s2 s3) hD⟩⟩
      · rw [List.length_map, List.length_map, List.length_take]
        exact size_ok (by omega)
      · rw [upd_same, take_more hx, List.map_append, List.map_append]
        rfl
    · rintro H2 ⟨eD, s2⟩
      rw [List.take_length] at eD
      refine ⟨D, _, rfl, SqL.of eD, ?_⟩
      rw [all_map_id, eB]
      exact ⟨_, rfl, iteT (k _ (sT s1 s2))⟩
theorem ok_kpX {f fR fU : Addr} {fd dR dU : FuncData} (X : Errs P K mg CE) (D : Df K mg "kept_parcels" sKP ["blocks"] f fd) (B : Bts mg) (DR : Df K mg "is_row" sIsRow ["thing"] fR dR) (GR : FnOk P w K mg base CX0 3 fR dR ["thing"] spIsRow2) (GR1 : FnOk P w K mg base CX0 3 fR dR ["thing"] (spIsRow K)) (DU : Df K mg "unsealed" sUns ["row"] fU dU) (GU : FnOk P w K mg base CX0 47 fU dU ["row"] (spUns K)) : FnOk P w K mg base (L2.CX P w) 48 f fd ["blocks"] (spKPX (X.cl 4)) := by
  refine (fn_or (fn_or (fn_up (ok_kpL D B DR GR1 DU GU)) (fn_up (ok_kpT D B DR GR1 DU GU))) (fn_or (ok_kpNL X D B DR GR) (ok_kpNT X D B DR GR))).imp fun vs H Q E h => ?_
  obtain ⟨S, v, b, rfl, bd, k1, k2⟩ := h
  rcases bd with ⟨a, xs, rfl, n, ha, few, BB, hB, eB⟩ | ⟨rfl, kn, nt, nl⟩
  · cases b with
    | true =>
      obtain ⟨bss, rv⟩ := rows_back hB eB
      rcases ha with ha | ha
      · exact .inl (.inl ⟨a, xs, bss, rfl, ha, rv, by rw [← rv.1]; exact few, fun z ws H' s _ _ => k1 rfl _ H' s⟩)
      · exact .inl (.inr ⟨a, xs, bss, rfl, ha, rv, by rw [← rv.1]; exact few, fun z ws H' s _ _ => k1 rfl _ H' s⟩)
    | false =>
      rcases ha with ha | ha
      · exact .inr (.inl ⟨S, _, rfl, .inr ⟨a, xs, rfl, ha, few, BB, hB, eB⟩, k2 rfl⟩)
      · exact .inr (.inr ⟨S, _, rfl, ⟨a, xs, rfl, ha, few, BB, hB, eB⟩, k2 rfl⟩)
  · exact .inr (.inl ⟨S, v, rfl, .inl ⟨kn, nt, nl⟩, k2 rfl⟩)
theorem ok_roN {f fP fI fT fS : Addr} {fd fdP fdI fdT fdS : FuncData} (X : Errs P K mg CE) (D : Df K mg "row_of" sRowOf ["parcel"] f fd) (B : Bts mg) (C : Cst mg) (DP : Df K mg "is_parcel" sIsPar ["thing"] fP fdP) (DI : Df K mg "is_parcel_within" sIPW ["deep", "thing"] fI fdI) (DT : Df K mg "is_string" sIsStr ["thing"] fT fdT) (DS : Df K mg "is_sign" sIsSg ["number"] fS fdS) : FnOk P w K mg base (L2.CX P w) 25 f fd ["parcel"] (spNoP (X.cl 1)) := by
  have GP : FnOk P w K mg base CX0 24 fP fdP ["thing"] spIsPar2 := ok_ispar2 DP B C DI DT DS
  refine D.F.okX scRowOf (fun vs H Q E h => ?_) (fun cdv A outer s H vs Q E hr h => ?_)
  · obtain ⟨p, l, v, rfl, _⟩ := h
    rfl
  · obtain ⟨p, lp, v, rfl, dec, k⟩ := h
    refine ⟨_, pss_cons (ps_if (pt_not (pt_val (pe_call GP hr rfl DP.m DP.k DP.b .nil pass0 (pa_cons (pv 0) pa_nil)))) (pss_one (ps_raise rfl (takes_of rfl rfl rfl rfl) (QS.pmk_sup (X.sup 1 (by decide)) hr rfl (X.g 1 (by decide))))) pss_nil)
      (pss_cons ps_never (pss_cons ps_never (pss_one ps_never))), ?_⟩
    exact ⟨_, rfl, p, lp, v, false, rfl, dec, fun H1 s1 => ⟨_, rfl, iteT (k H1 s1)⟩⟩
theorem ok_seN {f fR : Addr} {fd fdR : FuncData} (X : Errs P K mg CE) (D : Df K mg "sealed" sSealed ["parcel"] f fd) (DR : Df K mg "row_of" sRowOf ["parcel"] fR fdR) (GR : FnOk P w K mg base (L2.CX P w) 25 fR fdR ["parcel"] (spNoP (X.cl 1))) : FnOk P w K mg base (L2.CX P w) 26 f fd ["parcel"] (spNoP (X.cl 1)) := by
  refine D.F.okX scSealed (fun vs H Q E h => ?_) (fun cdv A outer s H vs Q E hr h => ?_)
  · obtain ⟨p, l, v, rfl, _⟩ := h
    rfl
  · obtain ⟨p, lp, v, rfl, dec, k⟩ := h
    have nd := scSealed.nd
    refine ⟨_, pss_cons (ps_set (i := 1) nd rfl (.inl rfl) (pe_call GR hr rfl DR.m DR.k DR.b .nil (passes_call (takes_of rfl rfl rfl rfl) fun _ _ _ _ h => h) (pa_cons (pv 0) pa_nil))) (pss_one ps_never), ?_⟩
    exact ⟨_, rfl, p, lp, v, rfl, dec, k⟩
theorem scLCall : FnScope ["which", "disk", "thing"] ["which", "disk", "thing"] (defScope sLCall) := ⟨rfl, rfl, rfl, by decide +kernel, rfl, by decide +kernel, by decide +kernel⟩
theorem ok_lcall {CD f fPa fMk fRo fSe fKP : Addr} {fd dPa dMk dRo dSe dKP : FuncData} (X : Errs P K mg CE) (D : Df K mg "_law_call" sLCall ["which", "disk", "thing"] f fd) (T : DTxt K mg CD) (M : DDefs K CD)
    (DPa : Df K mg "parcel_of" sParO ["row"] fPa dPa) (GPa : FnOk P w K mg base (L2.CX P w) 4 fPa dPa ["row"] (spPaX (X.cl 0))) (DMk : Df K mg "mark" sMark ["row"] fMk dMk) (GMk : FnOk P w K mg base (L2.CX P w) 4 fMk dMk ["row"] (spMkX (X.cl 0))) (GW : FnOk P w K mg base (L2.CX P w) 4 M.fW M.dW ["self", "row"] (spDWX CD (X.cl 0)))
    (DRo : Df K mg "row_of" sRowOf ["parcel"] fRo dRo) (GRo : FnOk P w K mg base (L2.CX P w) 25 fRo dRo ["parcel"] (spNoP (X.cl 1))) (DSe : Df K mg "sealed" sSealed ["parcel"] fSe dSe) (GSe : FnOk P w K mg base (L2.CX P w) 26 fSe dSe ["parcel"] (spNoP (X.cl 1)))
    (GC : FnOk P w K mg base (L2.CX P w) 4 M.fC M.dC ["self", "kept"] (spDCX CD (X.cl 2))) (GD : FnOk P w K mg base (L2.CX P w) 3 M.fD M.dD ["self", "number"] (spDDX CD (X.cl 3))) (DKP : Df K mg "kept_parcels" sKP ["blocks"] fKP dKP) (GKP : FnOk P w K mg base (L2.CX P w) 48 fKP dKP ["blocks"] (spKPX (X.cl 4))) :
    FnOk P w K mg base (L2.CX P w) 49 f fd ["which", "disk", "thing"] (spLC CD X) := by
  refine D.F.okX scLCall (fun vs H Q E h => ?_) (fun cdv A outer s H vs Q E hr h => ?_)
  · obtain ⟨n, x, v, rfl, _⟩ := h
    rfl
  · obtain ⟨n, x, v, rfl, ⟨dx, ra, bss, m, dk⟩, h⟩ := h
    have hr3 : Room 3 _ := hr.mono (by decide)
    have hr4 : Room 4 _ := hr.mono (by decide)
    have hr25 : Room 25 _ := hr.mono (by decide)
    have hr26 : Room 26 _ := hr.mono (by decide)
    refine ⟨_, pss_one (ps_if (pt_cmpR op_eq (pv 0) pe_int (nomark _)) (pss_one (ps_expr (pe_call GPa hr4 rfl DPa.m DPa.k DPa.b .nil (passes_call (takes_of rfl rfl rfl rfl) fun _ _ _ _ h => h) (pa_cons (pv 2) pa_nil))))
      (pss_one (ps_if (pt_cmpR op_eq (pv 0) pe_int (nomark _)) (pss_one (ps_expr (pe_call GMk hr4 rfl DMk.m DMk.k DMk.b .nil (passes_call (takes_of rfl rfl rfl rfl) fun _ _ _ _ h => h) (pa_cons (pv 2) pa_nil))))
      (pss_one (ps_if (pt_cmpR op_eq (pv 0) pe_int (nomark _)) (pss_one (ps_expr (pe_meth (pv 1) T.cl M.mW GW hr4 M.bW .nil (passes_call (takes_of rfl rfl rfl rfl) fun _ _ _ _ h => h) (pa_cons (pv 2) pa_nil))))
      (pss_one (ps_if (pt_cmpR op_eq (pv 0) pe_int (nomark _)) (pss_one (ps_expr (pe_call GRo hr25 rfl DRo.m DRo.k DRo.b .nil (passes_call (takes_of rfl rfl rfl rfl) fun _ _ _ _ h => h) (pa_cons (pv 2) pa_nil))))
      (pss_one (ps_if (pt_cmpR op_eq (pv 0) pe_int (nomark _)) (pss_one (ps_expr (pe_call GSe hr26 rfl DSe.m DSe.k DSe.b .nil (passes_call (takes_of rfl rfl rfl rfl) fun _ _ _ _ h => h) (pa_cons (pv 2) pa_nil))))
      (pss_one (ps_if (pt_cmpR op_eq (pv 0) pe_int (nomark _)) (pss_one (ps_expr (pe_meth (pv 1) T.cl M.mC GC hr4 M.bC .nil (passes_call (takes_of rfl rfl rfl rfl) fun _ _ _ _ h => h) (pa_cons (pv 2) pa_nil))))
      (pss_one (ps_if (pt_cmpR op_eq (pv 0) pe_int (nomark _)) (pss_one (ps_expr (pe_meth (pv 1) T.cl M.mD GD hr3 M.bD .nil (passes_call (takes_of rfl rfl rfl rfl) fun _ _ _ _ h => h) (pa_cons (pv 2) pa_nil))))
      (pss_one (ps_expr (pe_call GKP hr rfl DKP.m DKP.k DKP.b .nil (passes_call (takes_of rfl rfl rfl rfl) fun _ _ _ _ h => h) (pa_cons (pv 2) pa_nil))))))))))))))))), ?_⟩
    have no : ∀ {a b : Int} {A B : Prop}, a ≠ b → B → if decide (V.int a = V.int b) = true then A else B := fun n h => by
      rw [decide_eq_false fun z => n (V.int.inj z)]
      exact iteF h
    have yes : ∀ {a : Int} {A B : Prop}, A → if decide (V.int a = V.int a) = true then A else B := fun h => by
      rw [decide_eq_true rfl]
      exact iteT h
    rcases h with ⟨rfl, h⟩ | ⟨rfl, h⟩ | ⟨rfl, h⟩ | ⟨rfl, h⟩ | ⟨rfl, h⟩ | ⟨rfl, h⟩ | ⟨rfl, h⟩ | ⟨rfl, h⟩
    · exact ⟨_, rfl, rfl, _, rfl, yes ⟨_, rfl, h⟩⟩
    · exact ⟨_, rfl, rfl, _, rfl, no (by decide) ⟨_, rfl, rfl, _, rfl, yes ⟨_, rfl, h⟩⟩⟩
    · exact ⟨_, rfl, rfl, _, rfl, no (by decide) ⟨_, rfl, rfl, _, rfl, no (by decide) ⟨_, rfl, rfl, _, rfl, yes ⟨_, rfl, x, dx, _, rfl, dk.at_, rfl, _, rfl, h⟩⟩⟩⟩
    · exact ⟨_, rfl, rfl, _, rfl, no (by decide) ⟨_, rfl, rfl, _, rfl, no (by decide) ⟨_, rfl, rfl, _, rfl, no (by decide) ⟨_, rfl, rfl, _, rfl, yes ⟨_, rfl, h⟩⟩⟩⟩⟩
    · exact ⟨_, rfl, rfl, _, rfl, no (by decide) ⟨_, rfl, rfl, _, rfl, no (by decide) ⟨_, rfl, rfl, _, rfl, no (by decide) ⟨_, rfl, rfl, _, rfl, no (by decide) ⟨_, rfl, rfl, _, rfl, yes ⟨_, rfl, h⟩⟩⟩⟩⟩⟩
    · exact ⟨_, rfl, rfl, _, rfl, no (by decide) ⟨_, rfl, rfl, _, rfl, no (by decide) ⟨_, rfl, rfl, _, rfl, no (by decide) ⟨_, rfl, rfl, _, rfl, no (by decide) ⟨_, rfl, rfl, _, rfl, no (by decide) ⟨_, rfl, rfl, _, rfl, yes ⟨_, rfl, x, dx, _, rfl, dk.at_, rfl, _, rfl, h⟩⟩⟩⟩⟩⟩⟩
    · exact ⟨_, rfl, rfl, _, rfl, no (by decide) ⟨_, rfl, rfl, _, rfl, no (by decide) ⟨_, rfl, rfl, _, rfl, no (by decide) ⟨_, rfl, rfl, _, rfl, no (by decide) ⟨_, rfl, rfl, _, rfl, no (by decide) ⟨_, rfl, rfl, _, rfl, no (by decide) ⟨_, rfl, rfl, _, rfl, yes ⟨_, rfl, x, dx, _, rfl, dk.at_, rfl, _, rfl, h⟩⟩⟩⟩⟩⟩⟩⟩
    · exact ⟨_, rfl, rfl, _, rfl, no (by decide) ⟨_, rfl, rfl, _, rfl, no (by decide) ⟨_, rfl, rfl, _, rfl, no (by decide) ⟨_, rfl, rfl, _, rfl, no (by decide) ⟨_, rfl, rfl, _, rfl, no (by decide) ⟨_, rfl, rfl, _, rfl, no (by decide) ⟨_, rfl, rfl, _, rfl, no (by decide) ⟨_, rfl, h⟩⟩⟩⟩⟩⟩⟩⟩
theorem scLWord : FnScope ["which", "disk", "thing", "word", "e"] ["which", "disk", "thing"] (defScope sLWord) := ⟨rfl, rfl, rfl, by decide +kernel, rfl, by decide +kernel, by decide +kernel⟩
theorem ok_lword {CD f fC fN : Addr} {fd dC dN : FuncData} (X : Errs P K mg CE) (D : Df K mg "_law_word" sLWord ["which", "disk", "thing"] f fd) (DC : Df K mg "_law_call" sLCall ["which", "disk", "thing"] fC dC) (GC : FnOk P w K mg base (L2.CX P w) 49 fC dC ["which", "disk", "thing"] (spLC CD X)) (DN : Df K mg "_law_name" sName ["error"] fN dN) (GN : FnE P w K mg base 1 fN dN ["error"] (spName X)) : FnOk P w K mg base CX0 50 f fd ["which", "disk", "thing"] (spWordL CD X) := by
  refine D.F.ok scLWord (fun vs H Q E h => ?_) (fun cdv A outer s H vs Q E hr h => ?_)
  · obtain ⟨n, x, v, rfl, _⟩ := h
    rfl
  · obtain ⟨n, x, v, rfl, dk, h⟩ := h
    have nd := scLWord.nd
    have hr1 : Room 1 _ := hr.mono (by decide)
    refine ⟨_, pss_cons (ps_set (i := 3) nd rfl (.inl rfl) pe_str)
      (pss_cons (ps_try_as (i := 4) (tb := fun W => tDrop (tCallS (spLC CD X) (WE W) (tCons (tVar 0) (tCons (tVar 1) (tCons (tVar 2) tNil)))))
        (ts := fun a cls d => tAsg (tCallE (spName X) a cls d (tCons (tVar 4) tNil)) (gName 3)) rfl rfl nd rfl rfl ⟨rfl, by decide, .inl X.gE⟩ takes0
        (fun W pn xe tk _ => pss_one (ps_expr (by exact (pe_callS GC hr rfl DC.m DC.k DC.b (fun σ => passAt tk σ) (by exact (pa_cons (pv 0) (pa_cons (pv 1) (pa_cons (pv 2) pa_nil))))))))
        (fun a oe cls d pn hz hf => pss_one (ps_set (i := 3) nd rfl (.inl rfl) (pe_callE GN hr1 hz hf rfl DN.m DN.k DN.b (pa_cons (pv 4) pa_nil)))))
      (pss_one (ps_ret (pv 3)))), ?_⟩
    refine ⟨_, rfl, _, rfl, _, rfl, n, x, v, rfl, dk, h.mono (fun _ H' q => ⟨_, rfl, q⟩) (fun c d H' q => ?_)⟩
    obtain ⟨i, hi, rfl, rfl, q⟩ := q
    exact ⟨true, X.ex i hi, fun _ a ha => ⟨_, rfl, i, hi, rfl, rfl, rfl, fun H2 s2 => ⟨_, rfl, q H2 s2⟩⟩, fun q => nomatch q⟩
end
end Q

namespace Q
open PySem L2 QR
abbrev sLSome : Stmt := top 75
/-- a thing, and what it is made of -/
def Thg (S : Addr → Prop) (H : Hp) (v : V) : Prop := KnA S H v ∧ ∀ a xs, v = .ref a → (H a = some (.lst xs) ∨ H a = some (.tup xs)) → xs.length ≤ 9 ∧ ∀ x ∈ xs, KnA S H x ∧ ∀ b ys, x = .ref b → H b = some (.tup ys) → ys = []
theorem KnA.w {S S' : Addr → Prop} {H : Hp} {v : V} (h : KnA S H v) (m : ∀ a, S' a → S a) : KnA S' H v := h.mv fun a o e n => ⟨fun z => n (m a z), e⟩
theorem Thg.mv {S S' : Addr → Prop} {H H' : Hp} {v : V} (h : Thg S H v) (m : Mv S S' H H') : Thg S' H' v := by
  refine ⟨h.1.mv m, fun a xs e hx => ?_⟩
  subst e
  have hx' : H a = some (.lst xs) ∨ H a = some (.tup xs) := by
    rcases h.1 with k | ⟨z, k⟩ | ⟨b, eb, n, k⟩
    · rcases k with k | ⟨_, k⟩ | ⟨_, k⟩ <;> cases k
    · cases k
    · cases eb
      rcases k with ⟨ys, k⟩ | ⟨ys, k⟩ | k
      · have k' := (m _ _ k n).2
        rw [k'] at hx
        rcases hx with hx | hx
        · cases hx
          exact .inl k
        · cases hx
      · have k' := (m _ _ k n).2
        rw [k'] at hx
        rcases hx with hx | hx
        · cases hx
        · cases hx
          exact .inr k
      · have k' := (m _ _ k n).2
        rw [k'] at hx
        rcases hx with hx | hx <;> cases hx
  obtain ⟨l, al⟩ := h.2 a xs rfl hx'
  refine ⟨l, fun x hx => ⟨(al x hx).1.mv m, fun b ys e hb => ?_⟩⟩
  obtain ⟨b', ys', e', hb'⟩ := tupV_back (al x hx).1 m ⟨b, ys, e, hb⟩
  have := (al x hx).2 b' ys' e' hb'
  subst e
  cases e'
  have k := (al (.ref b) hx).1
  rcases k with k | ⟨z, k⟩ | ⟨c, ec, n, k⟩
  · rcases k with k | ⟨_, k⟩ | ⟨_, k⟩ <;> cases k
  · cases k
  · cases ec
    have := (m _ _ hb' n).2
    rw [this] at hb
    cases hb
    assumption
theorem Thg.same {S : Addr → Prop} {H H' : Hp} {v : V} (h : Thg S H v) (s : Same H H') : Thg S H' v := h.mv (.of s)
theorem thg_sc {S : Addr → Prop} {H : Hp} {v : V} (h : Sc v) : Thg S H v := ⟨.inl h, fun a xs e _ => by
  subst e
  rcases h with k | ⟨_, k⟩ | ⟨_, k⟩ <;> cases k⟩
theorem thg_str {S : Addr → Prop} {H : Hp} {z : Str} : Thg S H (.str z) := ⟨.inr (.inl ⟨z, rfl⟩), fun a xs e _ => by cases e⟩
theorem thg_lst {S : Addr → Prop} {H : Hp} {a : Addr} {xs : List V} (n : ¬ S a) (h : H a = some (.lst xs)) (l : xs.length ≤ 9) (k : ∀ x ∈ xs, KnA S H x ∧ ∀ b ys, x = .ref b → H b = some (.tup ys) → ys = []) : Thg S H (.ref a) := ⟨.inr (.inr ⟨a, rfl, n, .inl ⟨xs, h⟩⟩), fun b ys e hb => by
  cases e
  rw [h] at hb
  rcases hb with hb | hb
  · cases hb
    exact ⟨l, k⟩
  · cases hb⟩
theorem thg_tup {S : Addr → Prop} {H : Hp} {a : Addr} {xs : List V} (n : ¬ S a) (h : H a = some (.tup xs)) (l : xs.length ≤ 9) (k : ∀ x ∈ xs, KnA S H x ∧ ∀ b ys, x = .ref b → H b = some (.tup ys) → ys = []) : Thg S H (.ref a) := ⟨.inr (.inr ⟨a, rfl, n, .inr (.inl ⟨xs, h⟩)⟩), fun b ys e hb => by
  cases e
  rw [h] at hb
  rcases hb with hb | hb
  · cases hb
  · cases hb
    exact ⟨l, k⟩⟩
theorem thg_dct {S : Addr → Prop} {H : Hp} {a : Addr} (n : ¬ S a) (h : H a = some (.dK [])) : Thg S H (.ref a) := ⟨.inr (.inr ⟨a, rfl, n, .inr (.inr h)⟩), fun b ys e hb => by
  cases e
  rw [h] at hb
  rcases hb with hb | hb <;> cases hb⟩
theorem sc_it {S : Addr → Prop} {H : Hp} {x : V} (h : Sc x ∨ ∃ z, x = .str z) : KnA S H x ∧ ∀ b ys, x = .ref b → H b = some (.tup ys) → ys = [] := by
  refine ⟨h.elim .inl (fun h => .inr (.inl h)), fun b ys e _ => ?_⟩
  subst e
  rcases h with (k | ⟨_, k⟩ | ⟨_, k⟩) | ⟨_, k⟩ <;> cases k
/-- things side by side -/
def Thgs (S : Addr → Prop) (H : Hp) (xs : List V) : Prop := ∀ x ∈ xs, Thg S H x
theorem Thgs.same {S : Addr → Prop} {H H' : Hp} {xs : List V} (h : Thgs S H xs) (s : Same H H') : Thgs S H' xs := fun x hx => (h x hx).same s
theorem Thgs.nil {S : Addr → Prop} {H : Hp} : Thgs S H [] := fun x hx => by simp at hx
theorem Thgs.cons {S : Addr → Prop} {H : Hp} {x : V} {xs : List V} (h : Thg S H x) (k : Thgs S H xs) : Thgs S H (x :: xs) := fun y hy => by
  rcases List.mem_cons.mp hy with rfl | hy
  · exact h
  · exact k y hy
def Was (H : Hp) : Addr → Prop := fun a => H a ≠ none
def spDeep2 : Sp := fun vs H Q _ => vs = [] ∧ ∀ a H', Same H H' → Thg (Was H) H' (.ref a) → Q (.ref a) H'
def spLSome : Sp := fun vs H Q _ => ∃ (p l : Addr), vs = [.ref p] ∧ PoolAt H p l ∧ ∀ v H', PoolAt H' p l → Kp p l H H' → Thg (Was H) H' v → Q v H'
theorem was_no {H H1 : Hp} {a : Addr} (s : Same H H1) (n : H1 a = none) : ¬ Was H a := fun z => z (sNo s n)
section
variable {P : Program} {w : World} {K : PySem.W.Frag} {mg : Str → Option Value} {base : Heap}
theorem ok_deep2 {f : Addr} {fd : FuncData} (D : Df K mg "_law_deep" sLDeep [] f fd) (B : Bts mg) : FnOk P w K mg base CX0 1 f fd [] spDeep2 := by
  refine D.F.ok scLDeep (fun vs H Q E h => ?_) (fun cdv A outer s H vs Q E hr h => ?_)
  · obtain ⟨rfl, _⟩ := h
    rfl
  · obtain ⟨rfl, k⟩ := h
    have nd := scLDeep.nd
    refine ⟨_, pss_cons (ps_set (i := 0) nd rfl (.inl rfl) (pe_lst (pa_cons pe_non pa_nil)))
      (pss_cons (ps_for PassesOwn.never rfl (pi_range1 rfl B.range (pa_cons pe_int pa_nil)) (pg_name (i := 1) nd rfl (.inl rfl)) (pss_one (ps_set (i := 0) nd rfl (.inl rfl) (pe_lst (pa_cons (pv 0) pa_nil)))))
      (pss_one (ps_ret (pv 0)))), ?_⟩
    refine ⟨(by show 1 ≤ sizeLine; decide), fun a ha => ?_⟩
    refine ⟨35, rfl, by decide, by decide, for_range (lo := 0) (n := 35) (fun i σ H' => ∃ (b : Addr) (x1 : Option V), σ = [some (.ref b), x1] ∧ (∃ xs, H' b = some (.lst xs)) ∧ ¬ Was H b ∧ Thg (Was H) H' (.ref b) ∧ Same H H') ?_ ?_ ?_⟩
    · refine ⟨a, none, rfl, ⟨_, upd_same⟩, was_no sR ha, thg_lst (was_no sR ha) upd_same (by decide) (fun x hx => ?_), sN ha⟩
      rw [List.mem_singleton.mp hx]
      exact sc_it (.inl (.inl rfl))
    · rintro i σ H' hi ⟨b, x1, rfl, ⟨xs, e⟩, n, t, s1⟩
      refine ⟨_, rfl, (by show 1 ≤ sizeLine; decide), fun c hc => ⟨c, _, rfl, ⟨_, upd_same⟩, was_no s1 hc, thg_lst (was_no s1 hc) upd_same (by show 1 ≤ 9; decide) (fun x hx => ?_), sT s1 (sN hc)⟩⟩
      rw [List.mem_singleton.mp hx]
      refine ⟨(t.same (sN hc)).1, fun b' ys e' hb => ?_⟩
      cases e'
      rw [sN hc _ _ e] at hb
      cases hb
    · rintro σ H' ⟨b, x1, rfl, _, n, t, s1⟩
      exact ⟨_, rfl, k b H' s1 t⟩
theorem scLSome : FnScope ["pool", "some"] ["pool"] (defScope sLSome) := ⟨rfl, rfl, rfl, by decide +kernel, rfl, by decide +kernel, by decide +kernel⟩
theorem ok_lsome {f fD fP : Addr} {fd dD dP : FuncData} (D : Df K mg "_law_some" sLSome ["pool"] f fd) (B : Bts mg) (DD : Df K mg "_law_draw" sDraw ["pool", "many"] fD dD) (DP : Df K mg "_law_deep" sLDeep [] fP dP) : FnOk P w K mg base CX0 2 f fd ["pool"] spLSome := by
  have GD : FnOk P w K mg base CX0 1 fD dD ["pool", "many"] spDraw := ok_draw DD B
  have GP : FnOk P w K mg base CX0 1 fP dP [] spDeep2 := ok_deep2 DP B
  refine D.F.ok scLSome (fun vs H Q E h => ?_) (fun cdv A outer s H vs Q E hr h => ?_)
  · obtain ⟨p, l, rfl, _⟩ := h
    rfl
  · obtain ⟨p, l, rfl, g, k⟩ := h
    have nd := scLSome.nd
    refine ⟨_, pss_cons (ps_set (i := 1) nd rfl (.inl rfl) (pe_lst (pa_cons pe_non (pa_cons pe_bl (pa_cons pe_int (pa_cons pe_int (pa_cons (pe_un un_neg pe_int) (pa_cons pe_int (pa_cons pe_str (pa_cons pe_str (pa_cons (pe_lst pa_nil) (pa_cons (pe_lst (pa_cons pe_int pa_nil)) (pa_cons (pe_tup (pa_cons pe_int pa_nil)) (pa_cons (pe_tup (pa_cons pe_int (pa_cons (pe_un un_neg pe_int) pa_nil)))
        (pa_cons (pe_tup (pa_cons pe_bl pa_nil)) (pa_cons (pe_tup (pa_cons pe_str pa_nil)) (pa_cons (pe_tup (pa_cons (pe_tup pa_nil) pa_nil)) (pa_cons pe_dnewK (pa_cons (pe_call0 GP hr rfl DP.m DP.k DP.b .nil pass0) pa_nil)))))))))))))))))))
      (pss_cons (ps_set (i := 1) nd rfl (.inl rfl) (pe_op op_cat (pv 1) (pe_lst (pa_cons (pe_op op_pow pe_int pe_int) (pa_cons (pe_tup (pa_cons pe_int pa_nil)) (pa_cons (pe_tup (pa_cons pe_int (pa_cons pe_int pa_nil))) pa_nil))))))
      (pss_one (ps_ret (pe_ix ix_list (pv 1) (pe_call GD hr rfl DD.m DD.k DD.b .nil pass0 (pa_cons (pv 0) (pa_cons pe_int pa_nil))) (fun _ _ => rfl))))), ?_⟩
    have it : ∀ {S : Addr → Prop} {H : Hp} {xs : List V}, (∀ x ∈ xs, Sc x ∨ ∃ z, x = .str z) → ∀ x ∈ xs, KnA S H x ∧ ∀ b ys, x = .ref b → H b = some (.tup ys) → ys = [] := fun h x hx => sc_it (h x hx)
    refine ⟨_, rfl, Nat.zero_le _, fun a1 n1 => ?_⟩
    have S1 := sN (o := .lst []) n1
    have T1 : Thgs (Was H) (upd H a1 (.lst [])) [.ref a1] := .cons (thg_lst (was_no sR n1) upd_same (by decide) (fun x hx => by simp at hx)) .nil
    revert S1 T1
    generalize upd H a1 (.lst []) = H1
    intro S1 T1
    refine ⟨(by show 1 ≤ sizeLine; decide), fun a2 n2 => ?_⟩
    have S2 := sT S1 (sN (o := .lst [.int 1]) n2)
    have T2 := (T1.same (sN (o := .lst [.int 1]) n2)).cons (thg_lst (was_no S1 n2) upd_same (by show 1 ≤ 9; decide) (it fun x hx => by rw [List.mem_singleton.mp hx]; exact .inl (.inr (.inr ⟨_, rfl⟩))))
    clear T1
    revert S2 T2
    generalize upd H1 a2 (.lst [.int 1]) = H2
    intro S2 T2
    clear S1 n2
    refine ⟨(by show 1 ≤ sizeLine; decide), fun a3 n3 => ?_⟩
    have S3 := sT S2 (sN (o := .tup [.int 256]) n3)
    have T3 := (T2.same (sN (o := .tup [.int 256]) n3)).cons (thg_tup (was_no S2 n3) upd_same (by show 1 ≤ 9; decide) (it fun x hx => by rw [List.mem_singleton.mp hx]; exact .inl (.inr (.inr ⟨_, rfl⟩))))
    clear T2
    revert S3 T3
    generalize upd H2 a3 (.tup [.int 256]) = H3
    intro S3 T3
    clear S2 n3
    refine ⟨_, rfl, (by show 2 ≤ sizeLine; decide), fun a4 n4 => ?_⟩
    have S4 := sT S3 (sN (o := .tup [.int 1, .int (-1)]) n4)
    have T4 := (T3.same (sN (o := .tup [.int 1, .int (-1)]) n4)).cons (thg_tup (was_no S3 n4) upd_same (by show 2 ≤ 9; decide) (it fun x hx => by
      simp only [List.mem_cons, List.not_mem_nil, or_false] at hx
      rcases hx with rfl | rfl <;> exact .inl (.inr (.inr ⟨_, rfl⟩))))
    clear T3
    revert S4 T4
    generalize upd H3 a4 (.tup [.int 1, .int (-1)]) = H4
    intro S4 T4
    clear S3 n4
    refine ⟨(by show 1 ≤ sizeLine; decide), fun a5 n5 => ?_⟩
    have S5 := sT S4 (sN (o := .tup [.bl true]) n5)
    have T5 := (T4.same (sN (o := .tup [.bl true]) n5)).cons (thg_tup (was_no S4 n5) upd_same (by show 1 ≤ 9; decide) (it fun x hx => by rw [List.mem_singleton.mp hx]; exact .inl (.inr (.inl ⟨_, rfl⟩))))
    clear T4
    revert S5 T5
    generalize upd H4 a5 (.tup [.bl true]) = H5
    intro S5 T5
    clear S4 n5
    refine ⟨(by show 1 ≤ sizeLine; decide), fun a6 n6 => ?_⟩
    have S6 := sT S5 (sN (o := .tup [.str "1"]) n6)
    have T6 := (T5.same (sN (o := .tup [.str "1"]) n6)).cons (thg_tup (was_no S5 n6) upd_same (by show 1 ≤ 9; decide) (it fun x hx => by rw [List.mem_singleton.mp hx]; exact .inr ⟨_, rfl⟩))
    clear T5
    revert S6 T6
    generalize upd H5 a6 (.tup [.str "1"]) = H6
    intro S6 T6
    clear S5 n6
    refine ⟨Nat.zero_le _, fun a7 n7 => ?_⟩
    have S7 := sT S6 (sN (o := .tup []) n7)
    have T7 := T6.same (sN (o := .tup []) n7)
    have e7 : (upd H6 a7 (.tup [])) a7 = some (.tup []) := upd_same
    have w7 := was_no S6 n7
    clear T6
    revert S7 T7 e7
    generalize upd H6 a7 (.tup []) = H7
    intro S7 T7 e7
    clear S6 n7
    refine ⟨(by show 1 ≤ sizeLine; decide), fun a8 n8 => ?_⟩
    have S8 := sT S7 (sN (o := .tup [.ref a7]) n8)
    have e78 := sN (o := .tup [.ref a7]) n8 _ _ e7
    have T8 := (T7.same (sN (o := .tup [.ref a7]) n8)).cons (thg_tup (was_no S7 n8) upd_same (by show 1 ≤ 9; decide) (fun x hx => by
      rw [List.mem_singleton.mp hx]
      refine ⟨.inr (.inr ⟨a7, rfl, w7, .inr (.inl ⟨[], e78⟩)⟩), fun b ys e hb => ?_⟩
      cases e
      rw [e78] at hb
      cases hb
      rfl))
    clear T7 e78
    revert S8 T8
    generalize upd H7 a8 (.tup [.ref a7]) = H8
    intro S8 T8
    clear S7 n8 e7 w7
    refine fun a9 n9 => ?_
    have S9 := sT S8 (sN (o := .dK []) n9)
    have T9 := (T8.same (sN (o := .dK []) n9)).cons (thg_dct (was_no S8 n9) upd_same)
    clear T8
    revert S9 T9
    generalize upd H8 a9 (.dK []) = H9
    intro S9 T9
    clear S8 n9
    refine ⟨rfl, fun a10 H10 s10 t10 => ?_⟩
    have S10 := sT S9 s10
    have T10 := (T9.same s10).cons (x := .ref a10) (t10.mv fun a o e n => ⟨fun z => n (by
      intro z9
      exact z (sNo S9 z9)), e⟩)
    clear T9 t10 s10 S9
    refine ⟨(by show 17 ≤ sizeLine; decide), fun m1 hm1 => ?_⟩
    have E1 : (upd H10 m1 (.lst [.non, .bl true, .int 0, .int 1, .int (-1), .int 2, .str "row", .str "", .ref a1, .ref a2, .ref a3, .ref a4, .ref a5, .ref a6, .ref a8, .ref a9, .ref a10])) m1 = some (.lst [.non, .bl true, .int 0, .int 1, .int (-1), .int 2, .str "row", .str "", .ref a1, .ref a2, .ref a3, .ref a4, .ref a5, .ref a6, .ref a8, .ref a9, .ref a10]) := upd_same
    have s11 := sN (o := .lst [.non, .bl true, .int 0, .int 1, .int (-1), .int 2, .str "row", .str "", .ref a1, .ref a2, .ref a3, .ref a4, .ref a5, .ref a6, .ref a8, .ref a9, .ref a10]) hm1
    have S11 := sT S10 s11
    have T11 := T10.same s11
    show tSeq _ _ _ _ (upd H10 m1 (.lst [.non, .bl true, .int 0, .int 1, .int (-1), .int 2, .str "row", .str "", .ref a1, .ref a2, .ref a3, .ref a4, .ref a5, .ref a6, .ref a8, .ref a9, .ref a10]))
    revert E1 S11 T11
    generalize (upd H10 m1 (.lst [.non, .bl true, .int 0, .int 1, .int (-1), .int 2, .str "row", .str "", .ref a1, .ref a2, .ref a3, .ref a4, .ref a5, .ref a6, .ref a8, .ref a9, .ref a10])) = H11
    intro E1 S11 T11
    clear s11 T10 S10 hm1
    refine ⟨_, rfl, _, _, rfl, rfl, ⟨by decide, by decide, by decide⟩, ?_⟩
    refine ⟨(by show 1 ≤ sizeLine; decide), fun a12 n12 => ?_⟩
    have s12 := sN (o := .tup [.int 0]) n12
    have S12 := sT S11 s12
    have T12 := (T11.same s12).cons (thg_tup (was_no S11 n12) upd_same (by show 1 ≤ 9; decide) (it fun x hx => by rw [List.mem_singleton.mp hx]; exact .inl (.inr (.inr ⟨_, rfl⟩))))
    have E2 := s12 _ _ E1
    revert E2 S12 T12
    generalize upd H11 a12 (.tup [.int 0]) = H12
    intro S12 T12 E2
    clear s12 T11 S11 E1 n12
    refine ⟨(by show 2 ≤ sizeLine; decide), fun a13 n13 => ?_⟩
    have s13 := sN (o := .tup [.int 3, .int 5]) n13
    have S13 := sT S12 s13
    have T13 := (T12.same s13).cons (thg_tup (was_no S12 n13) upd_same (by show 2 ≤ 9; decide) (it fun x hx => by
      simp only [List.mem_cons, List.not_mem_nil, or_false] at hx
      rcases hx with rfl | rfl <;> exact .inl (.inr (.inr ⟨_, rfl⟩))))
    have E3 := s13 _ _ E2
    revert E3 S13 T13
    generalize upd H12 a13 (.tup [.int 3, .int 5]) = H13
    intro S13 T13 E3
    clear s13 T12 S12 E2 n13
    refine ⟨(by show 3 ≤ sizeLine; decide), fun m2 hm2 => ?_⟩
    refine ⟨m1, m2, _, _, rfl, rfl, sN hm2 _ _ E3, upd_same, (by show 20 ≤ sizeLine; decide), fun m3 hm3 => ?_⟩
    have s14 := sT (sN (o := .lst [.int (10 ^ (19 : Int).toNat), .ref a12, .ref a13]) hm2) (sN (o := .lst ([.non, .bl true, .int 0, .int 1, .int (-1), .int 2, .str "row", .str "", .ref a1, .ref a2, .ref a3, .ref a4, .ref a5, .ref a6, .ref a8, .ref a9, .ref a10] ++ [.int (10 ^ (19 : Int).toNat), .ref a12, .ref a13])) hm3)
    have S14 := sT S13 s14
    have T14 := T13.same s14
    have w14 := was_no (sT S13 (sN (o := .lst [.int (10 ^ (19 : Int).toNat), .ref a12, .ref a13]) hm2)) hm3
    have E4 : (upd (upd H13 m2 (.lst [.int (10 ^ (19 : Int).toNat), .ref a12, .ref a13])) m3 (.lst ([.non, .bl true, .int 0, .int 1, .int (-1), .int 2, .str "row", .str "", .ref a1, .ref a2, .ref a3, .ref a4, .ref a5, .ref a6, .ref a8, .ref a9, .ref a10] ++ [.int (10 ^ (19 : Int).toNat), .ref a12, .ref a13]))) m3 = some (.lst ([.non, .bl true, .int 0, .int 1, .int (-1), .int 2, .str "row", .str "", .ref a1, .ref a2, .ref a3, .ref a4, .ref a5, .ref a6, .ref a8, .ref a9, .ref a10] ++ [.int (10 ^ (19 : Int).toNat), .ref a12, .ref a13])) := upd_same
    revert S14 T14 E4
    generalize (upd (upd H13 m2 (.lst [.int (10 ^ (19 : Int).toNat), .ref a12, .ref a13])) m3 (.lst ([.non, .bl true, .int 0, .int 1, .int (-1), .int 2, .str "row", .str "", .ref a1, .ref a2, .ref a3, .ref a4, .ref a5, .ref a6, .ref a8, .ref a9, .ref a10] ++ [.int (10 ^ (19 : Int).toNat), .ref a12, .ref a13]))) = H14
    intro S14 T14 E4
    have all : Thgs (Was H) H14 ([.non, .bl true, .int 0, .int 1, .int (-1), .int 2, .str "row", .str "", .ref a1, .ref a2, .ref a3, .ref a4, .ref a5, .ref a6, .ref a8, .ref a9, .ref a10] ++ [.int (10 ^ (19 : Int).toNat), .ref a12, .ref a13]) := fun x hx => by
      simp only [List.mem_append, List.mem_cons, List.not_mem_nil, or_false] at hx
      rcases hx with (rfl | rfl | rfl | rfl | rfl | rfl | rfl | rfl | rfl | rfl | rfl | rfl | rfl | rfl | rfl | rfl | rfl) | (rfl | rfl | rfl)
      all_goals first
        | exact thg_sc (.inl rfl)
        | exact thg_sc (.inr (.inl ⟨_, rfl⟩))
        | exact thg_sc (.inr (.inr ⟨_, rfl⟩))
        | exact thg_str
        | exact T14 _ (by simp)
    have lx : ([.non, .bl true, .int 0, .int 1, .int (-1), .int 2, .str "row", .str "", .ref a1, .ref a2, .ref a3, .ref a4, .ref a5, .ref a6, .ref a8, .ref a9, .ref a10] ++ [.int (10 ^ (19 : Int).toNat), .ref a12, .ref a13] : List V).length = 20 := rfl
    revert all E4 lx
    generalize ([.non, .bl true, .int 0, .int 1, .int (-1), .int 2, .str "row", .str "", .ref a1, .ref a2, .ref a3, .ref a4, .ref a5, .ref a6, .ref a8, .ref a9, .ref a10] ++ [.int (10 ^ (19 : Int).toNat), .ref a12, .ref a13] : List V) = xs
    intro E4 all lx
    clear T14 T13 S13 E3 s14
    have g14 := g.same S14
    refine ⟨_, rfl, _, rfl, p, l, 20, rfl, g14, by decide, by decide, fun dd H15 d0 d1 g15 k15 => ?_⟩
    obtain ⟨x, hx, ex⟩ := at_in xs d0 (by rw [lx]; exact d1)
    obtain ⟨seed, cnt, cs, px⟩ := g
    have wp : Was H p := fun z => by rw [px.at_] at z; cases z
    have wl : Was H l := fun z => by rw [px.lst] at z; cases z
    have mv : Mv (Was H) (Was H) H14 H15 := fun a o e n => ⟨n, k15 a o e (fun z => n (by rw [z]; exact wp)) (fun z => n (by rw [z]; exact wl))⟩
    exact ⟨m3, _, dd, x, rfl, rfl, SqL.of (mv m3 _ E4 w14).2, ex, k x H15 g15 (fun b o e n1 n2 => k15 b o (S14 b o e) n1 n2) ((all x hx).mv mv)⟩
end
end Q

namespace Q
open PySem L2 QR
abbrev sLDue : Stmt := top 76
def duS (b : Bool) (w : Str) : Str := if b then "let" else w
theorem win_num (v : V) (n : Int) : winB 0 n v = numB (n + 1) v := by
  cases v with
  | int i =>
    show (decide (0 ≤ i) && decide (i ≤ n)) = (decide (0 ≤ i) && decide (i < n + 1))
    by_cases c : i ≤ n
    · rw [decide_eq_true c, decide_eq_true (show i < n + 1 by omega)]
    · rw [decide_eq_false c, decide_eq_false (show ¬ i < n + 1 by omega)]
  | _ => rfl
abbrev ND : List Str := ["which", "blocks", "synced", "thing", "sizes", "right", "row", "many", "size"]
def spDu1 : Sp := fun vs H Q _ => ∃ (S : Addr → Prop) (n : Int) (u w v : V) (b : Bool), vs = [.int n, u, w, v] ∧ n < 3 ∧ RowD S H v b ∧ ∀ H', Same H H' → Q (.str (duS b "row")) H'
def spDu5 : Sp := fun vs H Q _ => ∃ (S : Addr → Prop) (bl : Addr) (us : List V) (bss : List (List Int)) (m : Nat) (v : V) (b : Bool), vs = [.int 5, .ref bl, .int (m : Int), v] ∧ H bl = some (.lst us) ∧ RowsV H us bss ∧ bss.length ≤ 200 ∧ CutD S H v (bss.drop m) b ∧ ∀ H', Same H H' → Q (.str (duS b "cut")) H'
def spDu6 (K : PySem.W.Frag) : Sp := fun vs H Q _ => ∃ (S : Addr → Prop) (bl : Addr) (us : List V) (w v : V) (b : Bool), vs = [.int 6, .ref bl, w, v] ∧ H bl = some (.lst us) ∧ KnA S H v ∧ numB ((us.length : Int) + 1) v = b ∧ Q (.str (duS b "number")) H
def spDu7 : Sp := fun vs H Q _ => ∃ (S : Addr → Prop) (u w v : V) (b : Bool), vs = [.int 7, u, w, v] ∧ BlkD S H v b ∧ ∀ H', Same H H' → Q (.str (duS b "blocks")) H'
section
variable {P : Program} {w : World} {K : PySem.W.Frag} {mg : Str → Option Value} {base : Heap}
theorem no_eq {a b : Int} {A B : Prop} (n : a ≠ b) (h : B) : if decide (V.int a = V.int b) = true then A else B := by
  rw [decide_eq_false fun z => n (V.int.inj z)]
  exact iteF h
theorem yes_eq {a : Int} {A B : Prop} (h : A) : if decide (V.int a = V.int a) = true then A else B := by
  rw [decide_eq_true rfl]
  exact iteT h
theorem no_lt {a b : Int} {A B : Prop} (n : ¬ a < b) (h : B) : if decide (a < b) = true then A else B := by
  rw [decide_eq_false n]
  exact iteF h
theorem yes_lt {a b : Int} {A B : Prop} (n : a < b) (h : A) : if decide (a < b) = true then A else B := by
  rw [decide_eq_true n]
  exact iteT h
theorem scLDue : FnScope ND ["which", "blocks", "synced", "thing"] (defScope sLDue) := ⟨rfl, rfl, rfl, by decide +kernel, rfl, by decide +kernel, by decide +kernel⟩
theorem ok_du1 {f fR : Addr} {fd dR : FuncData} (D : Df K mg "_law_due" sLDue ["which", "blocks", "synced", "thing"] f fd) (B : Bts mg) (DR : Df K mg "_law_is_row" sLIsRow ["thing"] fR dR) : FnOk P w K mg base CX0 3 f fd ["which", "blocks", "synced", "thing"] spDu1 := by
  have GR : FnOk P w K mg base CX0 1 fR dR ["thing"] spIsRow2 := ok_lisrow DR B
  refine D.F.ok scLDue (fun vs H Q E h => ?_) (fun cdv A outer s H vs Q E hr h => ?_)
  · obtain ⟨S, n, u, w, v, b, rfl, _⟩ := h
    rfl
  · obtain ⟨S, n, u, w, v, b, rfl, lt, rd, k⟩ := h
    have hr1 : Room 1 _ := hr.mono (by decide)
    refine ⟨_, pss_cons (ps_if (pt_cmpR op_lt (pv 0) pe_int (nomark _)) (pss_one (ps_ret (pe_ifExp (pt_val (pe_call GR hr1 rfl DR.m DR.k DR.b .nil pass0 (pa_cons (pv 3) pa_nil))) pe_str pe_str))) pss_nil)
      (pss_cons ps_never (pss_cons ps_never (pss_one ps_never))), ?_⟩
    refine ⟨_, rfl, _, _, rfl, rfl, _, rfl, yes_lt lt ⟨_, rfl, S, v, b, rfl, rd, fun H1 s1 => ⟨_, rfl, ?_⟩⟩⟩
    cases b with
    | false => exact iteF (k _ s1)
    | true => exact iteT (k _ s1)
theorem ok_du5 {f fW fI : Addr} {fd dW dI : FuncData} (D : Df K mg "_law_due" sLDue ["which", "blocks", "synced", "thing"] f fd) (B : Bts mg) (DW : Df K mg "_law_is_within" sLWin ["thing", "least", "most"] fW dW) (DI : Df K mg "_law_is_integer" sLInt ["thing"] fI dI) : FnOk P w K mg base CX0 3 f fd ["which", "blocks", "synced", "thing"] spDu5 := by
  have GW : FnOk P w K mg base CX0 2 fW dW ["thing", "least", "most"] spWin2 := ok_lwin DW B DI
  refine D.F.ok scLDue (fun vs H Q E h => ?_) (fun cdv A outer s H vs Q E hr h => ?_)
  · obtain ⟨S, bl, us, bss, m, v, b, rfl, _⟩ := h
    rfl
  · obtain ⟨S, bl, us, bss, m, v, b, rfl, hb, rv, few, cd, k⟩ := h
    have nd := scLDue.nd
    refine ⟨_, pss_cons (ps_if (pt_cmpR op_lt (pv 0) pe_int (nomark _)) pss_never pss_nil)
      (pss_cons (ps_if (pt_cmpR op_eq (pv 0) pe_int (nomark _))
        (pss_cons (ps_setLc (i := 4) (own := [("row", 6)]) (g := gName 6) (tt := tYes) rfl nd rfl rfl (sw_true rfl rfl rfl (by decide +kernel)) (pi_list (pe_slice sl_list (pv 1) (po_some (pv 2)) po_none)) (blkOk_by (N := ND) (sc := defScope sLDue) (by decide +kernel)) (fun _ _ _ _ _ => pg_name (i := 6) nd rfl (.inl rfl)) (fun _ _ _ _ _ => pts_nil)
          (fun _ _ _ _ _ => pe_callB (r := fun xs H Q => ∃ (p : Addr) (ys : List V), xs = [V.ref p] ∧ (SqL K H p ys ∨ SqT K H p ys) ∧ Q (V.int (ys.length : Int)) H) call_len_seq (by rfl) B.len PySem.boot_len (pa_cons (pv 6) pa_nil)))
        (pss_cons (ps_if (PW.pt (pw_or (pt_not (pt_val (pe_callB call_isi (by rfl) B.isinstance PyProof.Rows.boot_isinstance (pa_cons (pv 3) (pa_cons (pe_bltn (v := .ty "tuple") rfl B.tuple PyProof.Rows.boot_tuple rfl) pa_nil)))))
            (pw_or1 (pt_cmpR op_ne (pe_callB call_len_seq (by rfl) B.len PySem.boot_len (pa_cons (pv 3) pa_nil)) (pe_callB call_len_seq (by rfl) B.len PySem.boot_len (pa_cons (pv 4) pa_nil)) (nomark _))))) (pss_one (ps_ret pe_str)) pss_nil)
        (pss_cons (ps_setLc (i := 5) (own := [("many", 7), ("size", 8)]) (g := gTup K 2 (gCons (gName 7) (gCons (gName 8) gNil))) (tt := tYes) rfl nd rfl rfl (sw_true rfl rfl rfl (by decide +kernel)) (pi_zipN rfl B.zip (pa_cons (pv 3) (pa_cons (pv 4) pa_nil))) (blkOk_by (N := ND) (sc := defScope sLDue) (by decide +kernel))
            (fun _ _ _ _ _ => pg_tup rfl (pgs_cons (pg_name (i := 7) nd rfl (.inl rfl)) (pgs_cons (pg_name (i := 8) nd rfl (.inl rfl)) pgs_nil))) (fun _ _ _ _ _ => pts_nil)
            (fun _ _ _ _ _ => pe_call GW hr rfl DW.m DW.k DW.b .nil pass0 (pa_cons (pv 7) (pa_cons pe_int (pa_cons (pv 8) pa_nil)))))
        (pss_one (ps_ret (pe_ifExp (pt_val (pe_callB (cr_all rfl) (by rfl) B.all PyProof.Rows.boot_all (pa_cons (pv 5) pa_nil))) pe_str pe_str)))))) pss_nil)
      (pss_cons ps_never (pss_one ps_never))), ?_⟩
    refine ⟨_, rfl, _, _, rfl, rfl, _, rfl, no_lt (by decide) ?_⟩
    refine ⟨_, rfl, rfl, _, rfl, yes_eq ?_⟩
    refine ⟨_, rfl, _, rfl, _, rfl, bl, us, rfl, SqL.of hb, fun wl hwl => ?_⟩
    rw [cut_fromV]
    have s1 := sN (o := .lst (us.drop m)) hwl
    have ew : (upd H wl (.lst (us.drop m))) wl = some (.lst (us.drop m)) := upd_same
    have rd := (rv.tk (.of s1)).drop m
    have cd1 := cd.mv (.of s1)
    have ld : (us.drop m).length = (bss.drop m).length := rd.1
    have few' : (bss.drop m).length ≤ 200 := by rw [List.length_drop]; omega
    revert s1 ew rd cd1
    generalize (upd H wl (.lst (us.drop m))) = H1
    intro s1 ew rd cd1
    refine ⟨wl, rfl, ⟨_, SqL.of ew⟩, fun D1 hD1 => lc_list (K := K) (a := wl) (xs := us.drop m) (fun i H' => H' D1 = some (.lst ((((bss.drop m).take i).map fun bs => ((bs.length : Nat) : Int)).map V.int)) ∧ i ≤ (us.drop m).length ∧ Same H1 H') ?_ ?_ ?_ ?_⟩
    · exact ⟨upd_same, Nat.zero_le _, sN hD1⟩
    · rintro i H' hi ⟨_, _, s2⟩
      exact SqL.of (s2 _ _ ew)
    · rintro i x H' hx ⟨eD, _, s2⟩
      have hi := (List.getElem?_eq_some_iff.mp hx).1
      have hbs : (bss.drop m)[i]? = some ((bss.drop m)[i]'(by rw [← ld]; exact hi)) := List.getElem?_eq_getElem _
      obtain ⟨q, rfl, hq⟩ := rd.2 i x _ hx hbs
      have hq2 := hq.same s2
      refine ⟨rfl, _, rfl, q, _, rfl, .inr (SqT.of hq2.at_), _, eD, ?_, ?_, hi, sNew s2 hD1⟩
      · rw [List.length_map, List.length_map, List.length_take]
        exact size_ok (by omega)
      · rw [upd_same, take_more hbs, List.map_append, List.map_append, List.length_map]
        rfl
    · rintro H2 ⟨eD, _, s2⟩
      rw [ld, List.take_length] at eD
      have cd2 := cd1.mv (.of s2)
      have s02 := sT s1 s2
      rcases cd2 with ⟨a, xs, rfl, _, ht, hl, kn, rfl⟩ | ⟨rfl, a, xs, rfl, _, ht, hl⟩ | ⟨rfl, kn, nt⟩
      · refine ⟨_, rfl, .ref a, .ty "tuple", .type "tuple", .type "tuple", true, rfl, .ty _, .base (.tup ht), kit_ty (by decide +kernel), _, rfl, iteF ?_⟩
        refine ⟨_, rfl, a, _, rfl, .inr (SqT.of ht), _, rfl, D1, _, rfl, .inl (SqL.of eD), rfl, _, rfl, ?_⟩
        rw [hl, List.length_map, List.length_map, decide_eq_true rfl]
        refine iteF ?_
        refine ⟨_, rfl, _, rfl, a, D1, xs, _, rfl, SqT.of ht, SqL.of eD, fun D2 hD2 => lc_it (walk_zipN (K := K) (a := a) (b := D1) (xs := xs) (ys := ((bss.drop m).map fun bs => ((bs.length : Nat) : Int)).map V.int) (by rw [hl, List.length_map, List.length_map])) (fun i H' => H' D2 = some (.lst (((List.range i).map (cutAt xs (bss.drop m))).map V.bl)) ∧ i ≤ xs.length ∧ Same H2 H') ?_ ?_ ?_ ?_⟩
        · exact ⟨upd_same, Nat.zero_le _, sN hD2⟩
        · rintro i H3 hi ⟨_, _, s3⟩
          exact ⟨SqT.of (s3 _ _ ht), SqL.of (s3 _ _ eD)⟩
        · rintro i v H3 H4 hi ⟨eD2, _, s3⟩ ⟨T, x, y, rfl, hT, rfl, hx, hy⟩
          obtain ⟨n, hn, rfl⟩ := at_ints hy
          rw [List.getElem?_map] at hn
          have hbs : (bss.drop m)[i]? = some ((bss.drop m)[i]'(by rw [← hl]; exact hi)) := List.getElem?_eq_getElem _
          rw [hbs] at hn
          cases hn
          have s4 := sN (o := .tup [x, .int (((bss.drop m)[i]'(by rw [← hl]; exact hi)).length : Int)]) hT
          have kx := (kn x (List.mem_of_getElem? hx)).same (sT s3 s4)
          have ec : cutAt xs (bss.drop m) i = numB (((bss.drop m)[i]'(by rw [← hl]; exact hi)).length + 1) x := by
            unfold cutAt
            rw [show xs[i]? = some x from hx, hbs]
          refine ⟨T, _, rfl, SqT.of upd_same, rfl, _, _, rfl, _, _, rfl, rfl, rfl, ?_⟩
          refine ⟨_, rfl, _, rfl, S, x, 0, _, rfl, kx, ?_⟩
          rw [win_num, ← ec]
          refine ⟨_, s4 _ _ eD2, ?_, ?_, hi, sNew (sT s3 s4) hD2⟩
          · rw [List.length_map, List.length_map, List.length_range]
            exact size_ok (by omega)
          · rw [upd_same, List.range_succ, List.map_append, List.map_append]
            rfl
        · rintro H3 ⟨eD2, _, s3⟩
          refine ⟨_, rfl, D2, _, rfl, SqL.of eD2, ?_⟩
          rw [cutB_all hl]
          refine ⟨_, rfl, ?_⟩
          have k3 := k _ (sT s02 s3)
          revert k3
          generalize cutB xs (bss.drop m) = b
          intro k3
          cases b with
          | false => exact iteF k3
          | true => exact iteT k3
      · refine ⟨_, rfl, .ref a, .ty "tuple", .type "tuple", .type "tuple", true, rfl, .ty _, .base (.tup ht), kit_ty (by decide +kernel), _, rfl, iteF ?_⟩
        refine ⟨_, rfl, a, _, rfl, .inr (SqT.of ht), _, rfl, D1, _, rfl, .inl (SqL.of eD), rfl, _, rfl, ?_⟩
        rw [List.length_map, List.length_map, decide_eq_false (show ¬ V.int (xs.length : Int) = V.int ((bss.drop m).length : Int) from fun z => hl (by have := V.int.inj z; omega))]
        exact iteT (k _ s02)
      · obtain ⟨t, ty, kt⟩ := kn.nt (K := K) nt
        exact ⟨_, rfl, v, .ty "tuple", t, .type "tuple", false, rfl, .ty _, ty, kt, _, rfl, iteT (k _ s02)⟩
theorem ok_du6 {f fW fI : Addr} {fd dW dI : FuncData} (D : Df K mg "_law_due" sLDue ["which", "blocks", "synced", "thing"] f fd) (B : Bts mg) (DW : Df K mg "_law_is_within" sLWin ["thing", "least", "most"] fW dW) (DI : Df K mg "_law_is_integer" sLInt ["thing"] fI dI) : FnOk P w K mg base CX0 3 f fd ["which", "blocks", "synced", "thing"] (spDu6 K) := by
  have GW : FnOk P w K mg base CX0 2 fW dW ["thing", "least", "most"] spWin2 := ok_lwin DW B DI
  refine D.F.ok scLDue (fun vs H Q E h => ?_) (fun cdv A outer s H vs Q E hr h => ?_)
  · obtain ⟨S, bl, us, w, v, b, rfl, _⟩ := h
    rfl
  · obtain ⟨S, bl, us, w, v, b, rfl, hb, kn, nb, k⟩ := h
    refine ⟨_, pss_cons (ps_if (pt_cmpR op_lt (pv 0) pe_int (nomark _)) pss_never pss_nil)
      (pss_cons (ps_if (pt_cmpR op_eq (pv 0) pe_int (nomark _)) pss_never pss_nil)
      (pss_cons (ps_if (pt_cmpR op_eq (pv 0) pe_int (nomark _)) (pss_one (ps_ret (pe_ifExp (pt_val (pe_call GW hr rfl DW.m DW.k DW.b .nil pass0 (pa_cons (pv 3) (pa_cons pe_int (pa_cons (pe_callB call_len_seq (by rfl) B.len PySem.boot_len (pa_cons (pv 1) pa_nil)) pa_nil))))) pe_str pe_str))) pss_nil) (pss_one ps_never))), ?_⟩
    refine ⟨_, rfl, _, _, rfl, rfl, _, rfl, no_lt (by decide) ?_⟩
    refine ⟨_, rfl, rfl, _, rfl, no_eq (by decide) ?_⟩
    refine ⟨_, rfl, rfl, _, rfl, yes_eq ?_⟩
    refine ⟨_, rfl, _, rfl, bl, us, rfl, .inl (SqL.of hb), S, v, 0, _, rfl, kn, ?_⟩
    rw [win_num, nb]
    refine ⟨_, rfl, ?_⟩
    cases b with
    | false => exact iteF k
    | true => exact iteT k
theorem ok_du7L {f fR : Addr} {fd dR : FuncData} (D : Df K mg "_law_due" sLDue ["which", "blocks", "synced", "thing"] f fd) (B : Bts mg) (DR : Df K mg "_law_is_row" sLIsRow ["thing"] fR dR) : FnOk P w K mg base CX0 3 f fd ["which", "blocks", "synced", "thing"] (fun vs H Q _ => ∃ (S : Addr → Prop) (u w v : V) (b : Bool), vs = [.int 7, u, w, v] ∧ ((b = false ∧ KnA S H v ∧ ¬ TupV H v ∧ ¬ LstV H v) ∨ ∃ a xs, v = .ref a ∧ H a = some (.lst xs) ∧ xs.length ≤ 200 ∧ ∃ B : V → Bool, (∀ x ∈ xs, RowD S H x (B x)) ∧ xs.all B = b) ∧ ∀ H', Same H H' → Q (.str (duS b "blocks")) H') := by
  have GR : FnOk P w K mg base CX0 1 fR dR ["thing"] spIsRow2 := ok_lisrow DR B
  refine D.F.ok scLDue (fun vs H Q E h => ?_) (fun cdv A outer s H vs Q E hr h => ?_)
  · obtain ⟨S, u, w, v, b, rfl, _⟩ := h
    rfl
  · obtain ⟨S, u, w, v, b, rfl, cs, k⟩ := h
    have nd := scLDue.nd
    have hr1 : Room 1 _ := hr.mono (by decide)
    refine ⟨_, pss_cons (ps_if (pt_cmpR op_lt (pv 0) pe_int (nomark _)) pss_never pss_nil)
      (pss_cons (ps_if (pt_cmpR op_eq (pv 0) pe_int (nomark _)) pss_never pss_nil)
      (pss_cons (ps_if (pt_cmpR op_eq (pv 0) pe_int (nomark _)) pss_never pss_nil)
      (pss_one (ps_ret (pe_ifExp (PW.pt (pw_and (pt_val (pe_callB call_isiT (by rfl) B.isinstance PyProof.Rows.boot_isinstance (pa_cons (pv 3) (pa_cons (pe_tup (pa_cons (pe_bltn (v := .ty "list") rfl B.list PyProof.Rows.boot_list rfl) (pa_cons (pe_bltn (v := .ty "tuple") rfl B.tuple PyProof.Rows.boot_tuple rfl) pa_nil))) pa_nil))))
        (pw_and1 (pt_val (pe_callB (cr_all rfl) (by rfl) B.all PyProof.Rows.boot_all (pa_cons (pe_lc (own := [("row", 6)]) (g := gName 6) (tt := tYes) rfl nd (pi_list (pv 3)) (blkOk_by (N := ND) (sc := defScope sLDue) (by decide +kernel)) (fun _ _ _ _ _ => pg_name (i := 6) nd rfl (.inl rfl)) (fun _ _ _ _ _ => pts_nil)
          (fun _ _ _ _ _ => pe_call GR hr1 rfl DR.m DR.k DR.b .nil pass0 (pa_cons (pv 6) pa_nil))) pa_nil)))))) pe_str pe_str))))), ?_⟩
    refine ⟨_, rfl, _, _, rfl, rfl, _, rfl, no_lt (by decide) ?_⟩
    refine ⟨_, rfl, rfl, _, rfl, no_eq (by decide) ?_⟩
    refine ⟨_, rfl, rfl, _, rfl, no_eq (by decide) ?_⟩
    refine ⟨_, rfl, (by show 2 ≤ sizeLine; decide), fun tp htp => ?_⟩
    have s1 := sN (o := .tup [.ty "list", .ty "tuple"]) htp
    rcases cs with ⟨rfl, kn, nt, nl⟩ | ⟨a, xs, rfl, ha, few, BB, hB, eB⟩
    · obtain ⟨t, ty, kt⟩ := (kn.same s1).nlt (K := K) (fun z => nt (tupV_back kn (.of s1) z)) (fun z => nl (lstV_back kn (.of s1) z))
      exact ⟨v, tp, [.ty "list", .ty "tuple"], t, [.type "list", .type "tuple"], false, rfl, upd_same, .cons (.ty _) (.cons (.ty _) .nil), ty, kt, _, rfl, iteF (k _ s1)⟩
    · skip
      refine ⟨.ref a, tp, [.ty "list", .ty "tuple"], .type "list", [.type "list", .type "tuple"], true, rfl, upd_same, .cons (.ty _) (.cons (.ty _) .nil), .base (.lst (s1 _ _ ha)), kit_lst, _, rfl, iteT ?_⟩
      refine ⟨_, rfl, a, rfl, ⟨_, SqL.of (s1 _ _ ha)⟩, fun D hD => lc_list (K := K) (a := a) (xs := xs) (fun i H' => H' D = some (.lst (((xs.take i).map BB).map V.bl)) ∧ Same (upd H tp (.tup [.ty "list", .ty "tuple"])) H') ?_ ?_ ?_ ?_⟩
      · exact ⟨upd_same, sN hD⟩
      · rintro i H' hi ⟨_, s2⟩
        exact SqL.of (s2 _ _ (s1 _ _ ha))
      · rintro i x H' hx ⟨eD, s2⟩
        have hi := (List.getElem?_eq_some_iff.mp hx).1
        refine ⟨rfl, _, rfl, S, x, BB x, rfl, (hB x (List.mem_of_getElem? hx)).same (sT s1 s2), fun H3 s3 => ⟨_, s3 _ _ eD, ?_, ?_, sNew (sT s2 s3) hD⟩⟩
        · rw [List.length_map, List.length_map, List.length_take]
          exact size_ok (by omega)
        · rw [upd_same, take_more hx, List.map_append, List.map_append]
          rfl
      · rintro H2 ⟨eD, s2⟩
        rw [List.take_length] at eD
        refine ⟨D, _, rfl, SqL.of eD, ?_⟩
        rw [all_map_id, eB]
        have k3 := k _ (sT s1 s2)
        refine ⟨_, rfl, ?_⟩
        cases b with
        | false => exact iteF k3
        | true => exact iteT k3
theorem ok_du7T {f fR : Addr} {fd dR : FuncData} (D : Df K mg "_law_due" sLDue ["which", "blocks", "synced", "thing"] f fd) (B : Bts mg) (DR : Df K mg "_law_is_row" sLIsRow ["thing"] fR dR) : FnOk P w K mg base CX0 3 f fd ["which", "blocks", "synced", "thing"] (fun vs H Q _ => ∃ (S : Addr → Prop) (u w v : V) (b : Bool), vs = [.int 7, u, w, v] ∧ (∃ a xs, v = .ref a ∧ H a = some (.tup xs) ∧ xs.length ≤ 200 ∧ ∃ B : V → Bool, (∀ x ∈ xs, RowD S H x (B x)) ∧ xs.all B = b) ∧ ∀ H', Same H H' → Q (.str (duS b "blocks")) H') := by
  have GR : FnOk P w K mg base CX0 1 fR dR ["thing"] spIsRow2 := ok_lisrow DR B
  refine D.F.ok scLDue (fun vs H Q E h => ?_) (fun cdv A outer s H vs Q E hr h => ?_)
  · obtain ⟨S, u, w, v, b, rfl, _⟩ := h
    rfl
  · obtain ⟨S, u, w, v, b, rfl, ⟨a, xs, rfl, ha, few, BB, hB, eB⟩, k⟩ := h
    have nd := scLDue.nd
    have hr1 : Room 1 _ := hr.mono (by decide)
    refine ⟨_, pss_cons (ps_if (pt_cmpR op_lt (pv 0) pe_int (nomark _)) pss_never pss_nil)
      (pss_cons (ps_if (pt_cmpR op_eq (pv 0) pe_int (nomark _)) pss_never pss_nil)
      (pss_cons (ps_if (pt_cmpR op_eq (pv 0) pe_int (nomark _)) pss_never pss_nil)
      (pss_one (ps_ret (pe_ifExp (PW.pt (pw_and (pt_val (pe_callB call_isiT (by rfl) B.isinstance PyProof.Rows.boot_isinstance (pa_cons (pv 3) (pa_cons (pe_tup (pa_cons (pe_bltn (v := .ty "list") rfl B.list PyProof.Rows.boot_list rfl) (pa_cons (pe_bltn (v := .ty "tuple") rfl B.tuple PyProof.Rows.boot_tuple rfl) pa_nil))) pa_nil))))
        (pw_and1 (pt_val (pe_callB (cr_all rfl) (by rfl) B.all PyProof.Rows.boot_all (pa_cons (pe_lc (own := [("row", 6)]) (g := gName 6) (tt := tYes) rfl nd (pi_tup (pv 3)) (blkOk_by (N := ND) (sc := defScope sLDue) (by decide +kernel)) (fun _ _ _ _ _ => pg_name (i := 6) nd rfl (.inl rfl)) (fun _ _ _ _ _ => pts_nil)
          (fun _ _ _ _ _ => pe_call GR hr1 rfl DR.m DR.k DR.b .nil pass0 (pa_cons (pv 6) pa_nil))) pa_nil)))))) pe_str pe_str))))), ?_⟩
    refine ⟨_, rfl, _, _, rfl, rfl, _, rfl, no_lt (by decide) ?_⟩
    refine ⟨_, rfl, rfl, _, rfl, no_eq (by decide) ?_⟩
    refine ⟨_, rfl, rfl, _, rfl, no_eq (by decide) ?_⟩
    refine ⟨_, rfl, (by show 2 ≤ sizeLine; decide), fun tp htp => ?_⟩
    have s1 := sN (o := .tup [.ty "list", .ty "tuple"]) htp
    · skip
      refine ⟨.ref a, tp, [.ty "list", .ty "tuple"], .type "tuple", [.type "list", .type "tuple"], true, rfl, upd_same, .cons (.ty _) (.cons (.ty _) .nil), .base (.tup (s1 _ _ ha)), kit_tup, _, rfl, iteT ?_⟩
      refine ⟨_, rfl, a, rfl, ⟨_, SqT.of (s1 _ _ ha)⟩, fun D hD => lc_tup (K := K) (a := a) (xs := xs) (fun i H' => H' D = some (.lst (((xs.take i).map BB).map V.bl)) ∧ Same (upd H tp (.tup [.ty "list", .ty "tuple"])) H') ?_ ?_ ?_ ?_⟩
      · exact ⟨upd_same, sN hD⟩
      · rintro i H' hi ⟨_, s2⟩
        exact SqT.of (s2 _ _ (s1 _ _ ha))
      · rintro i x H' hx ⟨eD, s2⟩
        have hi := (List.getElem?_eq_some_iff.mp hx).1
        refine ⟨rfl, _, rfl, S, x, BB x, rfl, (hB x (List.mem_of_getElem? hx)).same (sT s1 s2), fun H3 s3 => ⟨_, s3 _ _ eD, ?_, ?_, sNew (sT s2 s3) hD⟩⟩
        · rw [List.length_map, List.length_map, List.length_take]
          exact size_ok (by omega)
        · rw [upd_same, take_more hx, List.map_append, List.map_append]
          rfl
      · rintro H2 ⟨eD, s2⟩
        rw [List.take_length] at eD
        refine ⟨D, _, rfl, SqL.of eD, ?_⟩
        rw [all_map_id, eB]
        have k3 := k _ (sT s1 s2)
        refine ⟨_, rfl, ?_⟩
        cases b with
        | false => exact iteF k3
        | true => exact iteT k3
/-- what is due, of each of the five -/
def spLDue (K : PySem.W.Frag) : Sp := fun vs H Q _ => ∃ (S : Addr → Prop) (n : Int) (bl : Addr) (us : List V) (bss : List (List Int)) (m : Nat) (v : V), vs = [.int n, .ref bl, .int (m : Int), v] ∧ H bl = some (.lst us) ∧ RowsV H us bss ∧ bss.length ≤ 200 ∧
  (((n = 1 ∨ n = 2) ∧ ∃ b, RowD S H v b ∧ ∀ H', Same H H' → Q (.str (duS b "row")) H') ∨ (n = 5 ∧ ∃ b, CutD S H v (bss.drop m) b ∧ ∀ H', Same H H' → Q (.str (duS b "cut")) H') ∨
   (n = 6 ∧ ∃ b, KnA S H v ∧ numB ((bss.length : Int) + 1) v = b ∧ Q (.str (duS b "number")) H) ∨ (n = 7 ∧ ∃ b, BlkD S H v b ∧ ∀ H', Same H H' → Q (.str (duS b "blocks")) H'))
theorem ok_ldue {f fR fW fI : Addr} {fd dR dW dI : FuncData} (D : Df K mg "_law_due" sLDue ["which", "blocks", "synced", "thing"] f fd) (B : Bts mg) (DR : Df K mg "_law_is_row" sLIsRow ["thing"] fR dR) (DW : Df K mg "_law_is_within" sLWin ["thing", "least", "most"] fW dW) (DI : Df K mg "_law_is_integer" sLInt ["thing"] fI dI) : FnOk P w K mg base CX0 3 f fd ["which", "blocks", "synced", "thing"] (spLDue K) := by
  refine (fn_or (fn_or (ok_du1 D B DR) (ok_du5 D B DW DI)) (fn_or (ok_du6 D B DW DI) (fn_or (ok_du7L D B DR) (ok_du7T D B DR)))).imp fun vs H Q E h => ?_
  obtain ⟨S, n, bl, us, bss, m, v, rfl, hb, rv, few, h⟩ := h
  rcases h with ⟨hn, b, rd, k⟩ | ⟨rfl, b, cd, k⟩ | ⟨rfl, b, kn, nb, k⟩ | ⟨rfl, b, bd, k⟩
  · exact .inl (.inl ⟨S, n, _, _, v, b, rfl, by rcases hn with rfl | rfl <;> decide, rd, k⟩)
  · exact .inl (.inr ⟨S, bl, us, bss, m, v, b, rfl, hb, rv, few, cd, k⟩)
  · exact .inr (.inl ⟨S, bl, us, _, v, b, rfl, hb, kn, by rw [rv.1]; exact nb, k⟩)
  · rcases bd with ⟨a, xs, rfl, _, ha | ha, l, B, hB, eB⟩ | h
    · exact .inr (.inr (.inl ⟨S, _, _, _, b, rfl, .inr ⟨a, xs, rfl, ha, l, B, hB, eB⟩, k⟩))
    · exact .inr (.inr (.inr ⟨S, _, _, _, b, rfl, ⟨a, xs, rfl, ha, l, B, hB, eB⟩, k⟩))
    · exact .inr (.inr (.inl ⟨S, _, _, v, b, rfl, .inl h, k⟩))
end
end Q

namespace Q
open PySem L2 QR
abbrev sSnd : Stmt := top 77
def spSnd (K : PySem.W.Frag) : Sp := fun vs H Q _ => ∃ (a : Addr) (ns : List Int), vs = [.ref a] ∧ SqL K H a (ns.map V.int) ∧ ns.length ≤ 63 ∧ ∀ H', Q (.bl true) H'
def spHalf (K : PySem.W.Frag) : Sp := fun vs H Q _ => ∃ (a : Addr) (ns : List Int), vs = [.ref a] ∧ SqL K H a (ns.map V.int) ∧ ns.length ≤ 63 ∧ ∀ H', (SqL K H' a (ns.map V.int)) → Q (.bl true) H'
theorem Thg.in {S : Addr → Prop} {H : Hp} {a : Addr} (h : Thg S H (.ref a)) : ¬ S a := by
  rcases h.1 with k | ⟨z, k⟩ | ⟨b, eb, n, k⟩
  · rcases k with k | ⟨_, k⟩ | ⟨_, k⟩ <;> cases k
  · cases k
  · cases eb
    exact n
theorem Thg.row {S : Addr → Prop} {H : Hp} {v : V} (h : Thg S H v) : ∃ b, RowD S H v b := by
  by_cases t : TupV H v
  · obtain ⟨a, xs, rfl, ha⟩ := t
    obtain ⟨l, al⟩ := h.2 a xs rfl (.inr ha)
    exact ⟨_, .inl ⟨a, xs, rfl, h.in, ha, by omega, fun x hx => (al x hx).1, rfl⟩⟩
  · exact ⟨false, .inr ⟨rfl, h.1, t⟩⟩
theorem Thg.cut {S : Addr → Prop} {H : Hp} {v : V} (h : Thg S H v) (bss : List (List Int)) : ∃ b, CutD S H v bss b := by
  by_cases t : TupV H v
  · obtain ⟨a, xs, rfl, ha⟩ := t
    obtain ⟨l, al⟩ := h.2 a xs rfl (.inr ha)
    by_cases c : xs.length = bss.length
    · exact ⟨_, .inl ⟨a, xs, rfl, h.in, ha, c, fun x hx => (al x hx).1, rfl⟩⟩
    · exact ⟨false, .inr (.inl ⟨rfl, a, xs, rfl, h.in, ha, c⟩)⟩
  · exact ⟨false, .inr (.inr ⟨rfl, h.1, t⟩)⟩
theorem it_row {S : Addr → Prop} {H : Hp} {x : V} (k : KnA S H x) (e : ∀ b ys, x = .ref b → H b = some (.tup ys) → ys = []) : ∃ b, RowD S H x b := by
  by_cases t : TupV H x
  · obtain ⟨a, xs, rfl, ha⟩ := t
    have := e a xs rfl ha
    subst this
    have n : ¬ S a := by
      rcases k with k | ⟨z, k⟩ | ⟨b, eb, n, k⟩
      · rcases k with k | ⟨_, k⟩ | ⟨_, k⟩ <;> cases k
      · cases k
      · cases eb
        exact n
    exact ⟨true, .inl ⟨a, [], rfl, n, ha, Nat.zero_le _, fun x hx => by simp at hx, rfl⟩⟩
  · exact ⟨false, .inr ⟨rfl, k, t⟩⟩
theorem Thg.blk {S : Addr → Prop} {H : Hp} {v : V} (h : Thg S H v) : ∃ b, BlkD S H v b := by
  have main : ∀ a xs, v = .ref a → (H a = some (.lst xs) ∨ H a = some (.tup xs)) → ∃ b, BlkD S H v b := fun a xs e hx => by
    obtain ⟨l, al⟩ := h.2 a xs e hx
    subst e
    have ex : ∀ x : V, ∃ b : Bool, x ∈ xs → RowD S H x b := fun x => by
      by_cases hm : x ∈ xs
      · obtain ⟨b, hb⟩ := it_row (al x hm).1 (al x hm).2
        exact ⟨b, fun _ => hb⟩
      · exact ⟨true, fun z => absurd z hm⟩
    exact ⟨_, .inl ⟨a, xs, rfl, h.in, hx, by omega, fun x => Classical.choose (ex x), fun x hx => Classical.choose_spec (ex x) hx, rfl⟩⟩
  by_cases t : TupV H v
  · obtain ⟨a, xs, e, ha⟩ := t
    exact main a xs e (.inr ha)
  · by_cases t2 : LstV H v
    · obtain ⟨a, xs, e, ha⟩ := t2
      exact main a xs e (.inl ha)
    · exact ⟨false, .inr ⟨rfl, h.1, t, t2⟩⟩
/-- the pool and a disk -/
structure D3 (CD : Addr) (H : Hp) (p l x dx ra : Addr) (bss : List (List Int)) (m : Nat) : Prop where
  g : PoolAt H p l
  d : DiskX CD H x dx ra bss m
  n1 : ra ≠ p
  n2 : ra ≠ l
def Sx (p l x ra : Addr) : Addr → Prop := fun a => a = p ∨ a = l ∨ a = x ∨ a = ra
theorem D3.nx {CD : Addr} {H : Hp} {p l x dx ra : Addr} {bss : List (List Int)} {m : Nat} (h : D3 CD H p l x dx ra bss m) : x ≠ p ∧ x ≠ l := by
  obtain ⟨seed, cnt, cs, g⟩ := h.g
  exact ⟨ne_of h.d.at_ g.at_ (fun z => by cases z), ne_of h.d.at_ g.lst (fun z => by cases z)⟩
theorem D3.same {CD : Addr} {H H' : Hp} {p l x dx ra : Addr} {bss : List (List Int)} {m : Nat} (h : D3 CD H p l x dx ra bss m) (s : Same H H') : D3 CD H' p l x dx ra bss m := ⟨h.g.same s, h.d.same s, h.n1, h.n2⟩
theorem D3.kp {CD : Addr} {H H' : Hp} {p l x dx ra : Addr} {bss : List (List Int)} {m : Nat} (h : D3 CD H p l x dx ra bss m) (g : PoolAt H' p l) (k : Kp p l H H') : D3 CD H' p l x dx ra bss m := by
  have tk := h.g.tk k
  obtain ⟨n1, n2⟩ := h.nx
  obtain ⟨vs, hv, rv⟩ := h.d.rows
  exact ⟨g, ⟨k _ _ h.d.at_ n1 n2, ⟨vs, k _ _ hv h.n1 h.n2, rv.tk tk⟩, h.d.le, h.d.few⟩, h.n1, h.n2⟩
theorem D3.mv {CD : Addr} {H H' : Hp} {p l x dx ra rb : Addr} {bss bss' : List (List Int)} {m m' : Nat} (h : D3 CD H p l x dx ra bss m) (u : B2 x ra H H') (d : DiskX CD H' x dx rb bss' m') (nb : rb = ra ∨ H rb = none) : D3 CD H' p l x dx rb bss' m' ∧ Mv (Sx p l x ra) (Sx p l x rb) H H' := by
  obtain ⟨x1, x2⟩ := h.nx
  obtain ⟨seed, cnt, cs, g⟩ := h.g
  have m1 : rb ≠ p := nb.elim (fun e => by rw [e]; exact h.n1) fun n => (ne_of_none g.at_ n).symm
  have m2 : rb ≠ l := nb.elim (fun e => by rw [e]; exact h.n2) fun n => (ne_of_none g.lst n).symm
  refine ⟨⟨⟨seed, cnt, cs, u _ _ g.at_ x1.symm h.n1.symm, u _ _ g.lst x2.symm h.n2.symm, g.ne, g.s0, g.s1⟩, d, m1, m2⟩, fun a o e n => ⟨fun z => ?_, u a o e (fun z => n (.inr (.inr (.inl z)))) (fun z => n (.inr (.inr (.inr z))))⟩⟩
  rcases z with z | z | z | z
  · exact n (.inl z)
  · exact n (.inr (.inl z))
  · exact n (.inr (.inr (.inl z)))
  · rcases nb with e2 | e2
    · exact n (.inr (.inr (.inr (z.trans e2))))
    · rw [← z, e] at e2
      cases e2
theorem D3.tno {CD : Addr} {H : Hp} {p l x dx ra t : Addr} {bss : List (List Int)} {m : Nat} {xs : List V} (h : D3 CD H p l x dx ra bss m) (e : H t = some (.tup xs)) : ¬ Sx p l x ra t := by
  obtain ⟨seed, cnt, cs, g⟩ := h.g
  obtain ⟨vs, hv, _⟩ := h.d.rows
  rintro (z | z | z | z)
  · rw [z, g.at_] at e; cases e
  · rw [z, g.lst] at e; cases e
  · rw [z, h.d.at_] at e; cases e
  · rw [z, hv] at e; cases e
theorem thg_was {H H' : Hp} {v : V} {p l x ra : Addr} (h : Thg (Was H) H' v) (w1 : Was H p) (w2 : Was H l) (w3 : Was H x) (w4 : Was H ra) : Thg (Sx p l x ra) H' v := h.mv fun a o e n => ⟨fun z => n (by
  rcases z with rfl | rfl | rfl | rfl
  · exact w1
  · exact w2
  · exact w3
  · exact w4), e⟩
theorem pa_eq {K : PySem.W.Frag} {H : Hp} {a b : Addr} (ha : H a = some (.lst [.str "parcel", .str "parcel"])) (hb : H b = some (.lst [.str "parcel", .str "parcel"])) {Q : VK} (k : Q (.bl false) H) : rNeD K (.ref a) (.ref b) H Q := by
  refine ⟨.list [.str "parcel", .str "parcel"], .list [.str "parcel", .str "parcel"], .lst (SqL.of ha) (.cons (.str _) (.cons (.str _) .nil)), .lst (SqL.of hb) (.cons (.str _) (.cons (.str _) .nil)), by decide +kernel, by decide +kernel, ?_⟩
  have e : PyData.eqv (.list [.str "parcel", .str "parcel"]) (.list [.str "parcel", .str "parcel"]) = true := by decide +kernel
  rw [e]
  exact k
section
variable {P : Program} {w : World} {K : PySem.W.Frag} {mg : Str → Option Value} {base : Heap} {CE : Addr}
theorem scSnd : FnScope ["script", "pool", "turn", "disk", "block", "thing", "which", "blocks", "synced", "none"] ["script"] (defScope sSnd) := ⟨rfl, rfl, rfl, by decide +kernel, rfl, by decide +kernel, by decide +kernel⟩
theorem ok_snd {CD f fP fD fR fL fS fN fW fDu fRo : Addr} {fd dP dD dR dL dS dN dW dDu dRo : FuncData} (X : Errs P K mg CE) (D : Df K mg "_law_second" sSnd ["script"] f fd) (B : Bts mg) (T : DTxt K mg CD) (M : DDefs K CD)
    (DP : Df K mg "_law_pool" sPool ["script"] fP dP) (DD : Df K mg "_law_draw" sDraw ["pool", "many"] fD dD) (DR : Df K mg "is_row" sIsRow ["thing"] fR dR) (GR : FnOk P w K mg base CX0 3 fR dR ["thing"] (spIsRow K)) (DL : Df K mg "_law_is_row" sLIsRow ["thing"] fL dL) (DS : Df K mg "_law_some" sLSome ["pool"] fS dS) (GS : FnOk P w K mg base CX0 2 fS dS ["pool"] spLSome)
    (DN : Df K mg "_law_nested" sNest ["many", "inner"] fN dN) (DW : Df K mg "_law_word" sLWord ["which", "disk", "thing"] fW dW) (GW : FnOk P w K mg base CX0 50 fW dW ["which", "disk", "thing"] (spWordL CD X)) (DDu : Df K mg "_law_due" sLDue ["which", "blocks", "synced", "thing"] fDu dDu) (GDu : FnOk P w K mg base CX0 3 fDu dDu ["which", "blocks", "synced", "thing"] (spLDue K)) :
    FnOk P w K mg base CX0 51 f fd ["script"] (spSnd K) := by
  have GP : FnOk P w K mg base CX0 1 fP dP ["script"] (spPool K) := ok_pool DP B
  have GD : FnOk P w K mg base CX0 1 fD dD ["pool", "many"] spDraw := ok_draw DD B
  have GL : FnOk P w K mg base CX0 1 fL dL ["thing"] spIsRow2 := ok_lisrow DL B
  have GN : FnOk P w K mg base CX0 1 fN dN ["many", "inner"] spNest := ok_nest DN B
  have GI : FnOk P w K mg base CX0 1 M.fI M.dI ["self"] (spDI CD) := ok_di T M
  have GWr : FnOk P w K mg base CX0 4 M.fW M.dW ["self", "row"] (spDW CD) := ok_dw T M B DR GR
  have GSy : FnOk P w K mg base CX0 1 M.fS M.dS ["self"] (spDS CD) := ok_ds T M B
  have GB : FnOk P w K mg base CX0 1 M.fB M.dB ["self"] (spDB CD) := ok_db T M B
  have GY : FnOk P w K mg base CX0 1 M.fY M.dY ["self"] (spDY CD) := ok_dy T M
  refine D.F.ok scSnd (fun vs H Q E h => ?_) (fun cdv A outer s H vs Q E hr h => ?_)
  · obtain ⟨a, ns, rfl, _⟩ := h
    rfl
  · obtain ⟨a, ns, rfl, hS, hlen, k⟩ := h
    have nd := scSnd.nd
    have hu := hr.units
    have hr1 : Room 1 _ := hr.mono (by decide)
    have hr2 : Room 2 _ := hr.mono (by decide)
    have hr3 : Room 3 _ := hr.mono (by decide)
    have hr4 : Room 4 _ := hr.mono (by decide)
    refine ⟨_, pss_cons (ps_set (i := 1) nd rfl (.inl rfl) (pe_call GP hr1 rfl DP.m DP.k DP.b .nil pass0 (pa_cons (pv 0) pa_nil)))
      (pss_cons (ps_for PassesOwn.never rfl (pi_range1 rfl B.range (pa_cons pe_int pa_nil)) (pg_name (i := 2) nd rfl (.inl rfl))
        (pss_cons (ps_set (i := 3) nd rfl (.inr rfl) (pe_make0 M.mM GI hr2 rfl T.mgC M.bI .nil pass0))
        (pss_cons (ps_for PassesOwn.never rfl (pi_range1 rfl B.range (pa_cons (pe_call GD hr1 rfl DD.m DD.k DD.b .nil pass0 (pa_cons (pv 1) (pa_cons pe_int pa_nil))) pa_nil)) (pg_name (i := 4) nd rfl (.inl rfl))
          (pss_cons (ps_expr (pe_meth (pv 3) T.cl M.mW GWr hr4 M.bW .nil pass0 (pa_cons (pe_tup (pa_cons pe_int (pa_cons pe_int pa_nil))) pa_nil)))
          (pss_one (ps_if (pt_cmpR op_eq (pe_call GD hr1 rfl DD.m DD.k DD.b .nil pass0 (pa_cons (pv 1) (pa_cons pe_int pa_nil))) pe_int (nomark _)) (pss_one (ps_expr (pe_meth0 (pv 3) T.cl M.mS GSy hr1 M.bS .nil pass0))) pss_nil))))
        (pss_cons (ps_set (i := 5) nd rfl (.inl rfl) (pe_call GS hr2 rfl DS.m DS.k DS.b .nil pass0 (pa_cons (pv 1) pa_nil)))
        (pss_cons (ps_for PassesOwn.never rfl (pi_tup (pe_tup (pa_cons pe_int (pa_cons pe_int (pa_cons pe_int (pa_cons pe_int (pa_cons pe_int pa_nil))))))) (pg_name (i := 6) nd rfl (.inl rfl))
          (pss_cons (ps_par (i := 7) (j := 8) rfl nd rfl rfl (by decide) rfl rfl (pa_cons (pe_meth0 (pv 3) T.cl M.mB GB hr1 M.bB .nil pass0) (pa_cons (pe_meth0 (pv 3) T.cl M.mY GY hr1 M.bY .nil pass0) pa_nil)) rfl)
          (pss_one (ps_if (pt_cmpR op_ne (pe_call GW hr rfl DW.m DW.k DW.b .nil pass0 (pa_cons (pv 6) (pa_cons (pv 3) (pa_cons (pv 5) pa_nil)))) (pe_call GDu hr3 rfl DDu.m DDu.k DDu.b .nil pass0 (pa_cons (pv 6) (pa_cons (pv 7) (pa_cons (pv 8) (pa_cons (pv 5) pa_nil))))) (nomark _)) pss_never pss_nil))))
        (C8.pss_cut (ps_if (PW.pt (pw_and (pt_not (pt_val (pe_call GL hr1 rfl DL.m DL.k DL.b .nil pass0 (pa_cons (pv 5) pa_nil)))) (pw_and1 (pt_cmpR op_ne (pe_call GW hr rfl DW.m DW.k DW.b .nil pass0 (pa_cons pe_int (pa_cons (pv 3) (pa_cons (pv 5) pa_nil)))) pe_str (nomark _))))) pss_never pss_nil)
        (pss_cons (ps_set (i := 9) nd rfl (.inr rfl) (pe_ix ix_list (pe_lst (pa_cons pe_str (pa_cons (pe_op op_repS pe_str pe_int) (pa_cons (pe_lst pa_nil) (pa_cons pe_dnewK (pa_cons (pe_tup (pa_cons (pe_lst pa_nil) pa_nil)) (pa_cons (pe_tup (pa_cons pe_str pa_nil)) (pa_cons (pe_call GN hr1 rfl DN.m DN.k DN.b .nil pass0 (pa_cons pe_int (pa_cons pe_int pa_nil))) pa_nil))))))))
            (pe_call GD hr1 rfl DD.m DD.k DD.b .nil pass0 (pa_cons (pv 1) (pa_cons pe_int pa_nil))) (fun _ _ => rfl)))
        (pss_one (ps_if (pt_cmpR (op_neD hu) (pe_lc (own := [("which", 6)]) (g := gName 6) (tt := tYes) rfl nd (pi_tup (pe_tup (pa_cons pe_int (pa_cons pe_int pa_nil)))) (blkOk_by (N := ["script", "pool", "turn", "disk", "block", "thing", "which", "blocks", "synced", "none"]) (sc := defScope sSnd) (by decide +kernel)) (fun _ _ _ _ _ => pg_name (i := 6) nd rfl (.inl rfl)) (fun _ _ _ _ _ => pts_nil)
            (fun _ _ _ _ _ => pe_call GW hr rfl DW.m DW.k DW.b .nil pass0 (pa_cons (pv 6) (pa_cons (pv 3) (pa_cons (pv 9) pa_nil))))) (pe_lst (pa_cons pe_str (pa_cons pe_str pa_nil))) (nomark _)) pss_never pss_nil)))))))))
      (pss_one (ps_ret pe_bl))), ?_⟩
    refine ⟨_, rfl, a, ns, rfl, hS, hlen, fun p l H1 g1 s1 np nl => ?_⟩
    refine ⟨5, rfl, by decide, by decide, for_range (lo := 0) (n := 5) (fun i σ H' => ∃ x2 x3 x4 x5 x6 x7 x8 x9, σ = [some (.ref a), some (.ref p), x2, x3, x4, x5, x6, x7, x8, x9] ∧ PoolAt H' p l) ?_ ?_ ?_⟩
    · exact ⟨none, none, none, none, none, none, none, none, rfl, g1⟩
    · rintro i σ H0 hi ⟨x2, x3, x4, x5, x6, x7, x8, x9, rfl, g0⟩
      clear g1 s1 H1
      refine fun x dx nx ndx nxd => ?_
      have s0 : Same H0 (upd (upd H0 dx (.own x)) x (.ins CD dx [])) := sNew (sNew sR ndx) nx
      refine ⟨x, dx, rfl, upd_same, fun ra H1 hra nrx b1 d1 => ⟨rfl, ?_⟩⟩
      have s1 : Same H0 H1 := fun b o e => b1 b o (s0 b o e) (ne_of_none e nx)
      obtain ⟨nr1, nr2⟩ := (g0.same s0).none hra
      have D1 : D3 CD H1 p l x dx ra [] 0 := ⟨g0.same s1, d1, nr1, nr2⟩
      clear b1 d1 s0 s1 g0 hra nr1 nr2 nrx nx ndx nxd np nl hS
      refine ⟨_, rfl, p, l, 4, rfl, D1.g, by decide, by decide, fun d H2 d0 d1 g2 k2 => ?_⟩
      obtain ⟨n, rfl⟩ : ∃ n' : Nat, d = (n' : Int) := ⟨d.toNat, by omega⟩
      have D2 := D1.kp g2 k2
      clear D1 g2 k2
      refine ⟨n, rfl, by omega, by omega, for_range (lo := 0) (n := n) (fun j σ H' => ∃ (rb : Addr) (bss : List (List Int)) (m : Nat) (t2 y4 : Option V), σ = [some (.ref a), some (.ref p), t2, some (.ref x), y4, x5, x6, x7, x8, x9] ∧ D3 CD H' p l x dx rb bss m ∧ bss.length ≤ j) ?_ ?_ ?_⟩
      · exact ⟨ra, [], 0, _, _, rfl, D2, Nat.le_refl _⟩
      · rintro j σ H3 hj ⟨rb, bss, m, t2, y4, rfl, D3', lb⟩
        refine ⟨_, rfl, x, dx, _, rfl, D3'.d.at_, rfl, (by show 2 ≤ sizeLine; decide), fun t ht => ?_⟩
        have s4 := sN (o := .tup [.int 1, .int 2]) ht
        have D4 := D3'.same s4
        refine ⟨x, dx, rb, t, bss, m, [1, 2], rfl, D4.d, by omega, ⟨upd_same, fun b hb => by simp at hb; omega, by decide⟩, fun H5 u5 d5 => ?_⟩
        obtain ⟨D5, _⟩ := D4.mv (fun c o e n n' => u5 c o e n') d5 (.inl rfl)
        clear D4 D3' u5 d5 s4
        refine ⟨_, rfl, p, l, 2, rfl, D5.g, by decide, by decide, fun d' H6 _ _ g6 k6 => ?_⟩
        have D6 := D5.kp g6 k6
        clear D5 g6 k6
        have lb' : (bss ++ [[1, 2]]).length ≤ j + 1 := by rw [List.length_append]; show _ + 1 ≤ _; omega
        refine ⟨rfl, _, rfl, ite2 (fun _ => ?_) (fun _ => ?_)⟩
        · refine ⟨_, rfl, x, dx, _, rfl, D6.d.at_, rfl, x, dx, rb, bss ++ [[1, 2]], m, rfl, D6.d, fun H7 u7 d7 => ?_⟩
          obtain ⟨D7, _⟩ := D6.mv (fun c o e n n' => u7 c o e n) d7 (.inl rfl)
          exact ⟨rb, _, _, _, _, rfl, D7, lb'⟩
        · exact ⟨rb, _, _, _, _, rfl, D6, lb'⟩
      rintro σ H3 ⟨ra, bss, m, t2, y4, rfl, D3', lb⟩
      clear D2
      have lb : bss.length ≤ 3 := by omega
      refine ⟨_, rfl, p, l, rfl, D3'.g, fun v H4 g4 k4 t4 => ?_⟩
      have D4 := D3'.kp g4 k4
      have T4 : Thg (Sx p l x ra) H4 v := by
        obtain ⟨seed, cnt, cs, g⟩ := D3'.g
        obtain ⟨vs, hv, _⟩ := D3'.d.rows
        exact thg_was t4 (fun z => by rw [g.at_] at z; cases z) (fun z => by rw [g.lst] at z; cases z) (fun z => by rw [D3'.d.at_] at z; cases z) (fun z => by rw [hv] at z; cases z)
      clear D3' g4 k4 t4
      refine ⟨(by show 5 ≤ sizeLine; decide), fun tw htw => ?_⟩
      have s5 := sN (o := .tup [.int 1, .int 2, .int 5, .int 6, .int 7]) htw
      have w5 : (upd H4 tw (.tup [.int 1, .int 2, .int 5, .int 6, .int 7])) tw = some (.tup [.int 1, .int 2, .int 5, .int 6, .int 7]) := upd_same
      have D5 := D4.same s5
      have T5 := T4.same s5
      revert D5 T5 w5
      generalize (upd H4 tw (.tup [.int 1, .int 2, .int 5, .int 6, .int 7])) = H5
      intro w5 D5 T5
      clear D4 T4 s5 htw
      refine ⟨tw, rfl, ⟨_, SqT.of w5⟩, for_tup (K := K) (a := tw) (xs := [.int 1, .int 2, .int 5, .int 6, .int 7]) (fun j σ H' => ∃ (ra : Addr) (bss : List (List Int)) (m : Nat) (y6 y7 y8 : Option V), σ = [some (.ref a), some (.ref p), t2, some (.ref x), y4, some v, y6, y7, y8, x9] ∧ D3 CD H' p l x dx ra bss m ∧ bss.length ≤ 3 + j ∧ Thg (Sx p l x ra) H' v ∧ H' tw = some (.tup [.int 1, .int 2, .int 5, .int 6, .int 7])) ?_ ?_ ?_ ?_⟩
      · exact ⟨ra, bss, m, _, _, _, rfl, D5, lb, T5, w5⟩
      · rintro j σ H' hj ⟨ra, bss, m, y6, y7, y8, rfl, _, _, _, w⟩
        exact SqT.of w
      · rintro j it σ H5' hx ⟨ra, bss, m, y6, y7, y8, rfl, D5', lb5, T5', w5'⟩
        have hj : j < 5 := (List.getElem?_eq_some_iff.mp hx).1
        refine ⟨_, rfl, x, dx, _, rfl, D5'.d.at_, rfl, x, dx, ra, bss, m, rfl, D5'.d, fun z H6 hz s6 hr6 => ?_⟩
        obtain ⟨us, z6, r6⟩ := hr6
        have D6 := D5'.same s6
        have T6 := T5'.same s6
        have w6 := s6 _ _ w5'
        have few6 := D6.d.few
        have nz : ¬ Sx p l x ra z := by
          obtain ⟨seed, cnt, cs, g⟩ := D5'.g
          obtain ⟨vs, hv, _⟩ := D5'.d.rows
          rintro (e | e | e | e)
          · rw [e, g.at_] at hz; cases hz
          · rw [e, g.lst] at hz; cases hz
          · rw [e, D5'.d.at_] at hz; cases hz
          · rw [e, hv] at hz; cases hz
        clear D5' T5' w5' hz s6
        refine ⟨_, rfl, x, dx, _, rfl, D6.d.at_, rfl, x, dx, ra, bss, m, rfl, D6.d, _, _, rfl, ?_⟩
        have hit : it = .int 1 ∨ it = .int 2 ∨ it = .int 5 ∨ it = .int 6 ∨ it = .int 7 := by
          have := List.mem_of_getElem? hx
          simpa using this
        clear hx
        rcases hit with rfl | rfl | rfl | rfl | rfl
        · obtain ⟨b, rd⟩ := T6.row
          refine ⟨_, rfl, _, rfl, _, rfl, 1, x, v, rfl, ⟨dx, ra, bss, m, D6.d⟩, .inr (.inl ⟨rfl, Sx p l x ra, v, b, rfl, rd, fun eb u H7 s7 => ?_, fun eb H7' s7' => ⟨0, by decide, rfl, rfl, fun H7 s77 => ?_⟩⟩)⟩
          · subst eb
            have mv : Mv (Sx p l x ra) (Sx p l x ra) H6 H7 := .of s7
            have D7 := D6.same s7
            have T7 := T6.mv mv
            have tk7 : Tk H6 H7 := fun b xs e => (mv b _ e (D6.tno e)).2
            have z7 := (mv z _ z6 nz).2
            have w7 := tk7 _ _ w6
            have lg7 : bss.length ≤ 3 + (j + 1) := by omega
            refine ⟨_, rfl, _, rfl, _, rfl, _, rfl, Sx p l x ra, 1, z, us, bss, m, v, rfl, z7, r6.tk tk7, few6, .inl ⟨.inl rfl, true, rd.mv mv, fun H8 s8 => ?_⟩⟩
            refine ⟨rfl, _, rfl, iteNS rfl ?_⟩
            exact ⟨ra, bss, m, _, _, _, rfl, D7.same s8, lg7, T7.same s8, s8 _ _ w7⟩
          · subst eb
            have s7 := sT s7' s77
            have mv : Mv (Sx p l x ra) (Sx p l x ra) H6 H7 := .of s7
            have D7 := D6.same s7
            have T7 := T6.mv mv
            have tk7 : Tk H6 H7 := fun b xs e => (mv b _ e (D6.tno e)).2
            have z7 := (mv z _ z6 nz).2
            have w7 := tk7 _ _ w6
            have lg7 : bss.length ≤ 3 + (j + 1) := by omega
            refine ⟨_, rfl, _, rfl, _, rfl, _, rfl, Sx p l x ra, 1, z, us, bss, m, v, rfl, z7, r6.tk tk7, few6, .inl ⟨.inl rfl, false, rd.mv mv, fun H8 s8 => ?_⟩⟩
            refine ⟨rfl, _, rfl, iteNS rfl ?_⟩
            exact ⟨ra, bss, m, _, _, _, rfl, D7.same s8, lg7, T7.same s8, s8 _ _ w7⟩
        · obtain ⟨b, rd⟩ := T6.row
          refine ⟨_, rfl, _, rfl, _, rfl, 2, x, v, rfl, ⟨dx, ra, bss, m, D6.d⟩, .inr (.inr (.inl ⟨rfl, Sx p l x ra, x, dx, ra, v, bss, m, b, rfl, D6.d, by omega, rd, fun eb u bs H7 u7 d7 => ?_, fun eb H7' s7' => ⟨0, by decide, rfl, rfl, fun H7 s77 => ?_⟩⟩))⟩
          · subst eb
            obtain ⟨D7, mv⟩ := D6.mv (fun c o e n n' => u7 c o e n') d7 (.inl rfl)
            have T7 := T6.mv mv
            have tk7 : Tk H6 H7 := fun b xs e => (mv b _ e (D6.tno e)).2
            have z7 := (mv z _ z6 nz).2
            have w7 := tk7 _ _ w6
            have lg7 : (bss ++ [bs]).length ≤ 3 + (j + 1) := by rw [List.length_append]; show _ + 1 ≤ _; omega
            refine ⟨_, rfl, _, rfl, _, rfl, _, rfl, Sx p l x ra, 2, z, us, bss, m, v, rfl, z7, r6.tk tk7, few6, .inl ⟨.inr rfl, true, rd.mv mv, fun H8 s8 => ?_⟩⟩
            refine ⟨rfl, _, rfl, iteNS rfl ?_⟩
            exact ⟨ra, bss ++ [bs], m, _, _, _, rfl, D7.same s8, lg7, T7.same s8, s8 _ _ w7⟩
          · subst eb
            have s7 := sT s7' s77
            have mv : Mv (Sx p l x ra) (Sx p l x ra) H6 H7 := .of s7
            have D7 := D6.same s7
            have T7 := T6.mv mv
            have tk7 : Tk H6 H7 := fun b xs e => (mv b _ e (D6.tno e)).2
            have z7 := (mv z _ z6 nz).2
            have w7 := tk7 _ _ w6
            have lg7 : bss.length ≤ 3 + (j + 1) := by omega
            refine ⟨_, rfl, _, rfl, _, rfl, _, rfl, Sx p l x ra, 2, z, us, bss, m, v, rfl, z7, r6.tk tk7, few6, .inl ⟨.inr rfl, false, rd.mv mv, fun H8 s8 => ?_⟩⟩
            refine ⟨rfl, _, rfl, iteNS rfl ?_⟩
            exact ⟨ra, bss, m, _, _, _, rfl, D7.same s8, lg7, T7.same s8, s8 _ _ w7⟩
        · obtain ⟨b, cd⟩ := T6.cut (bss.drop m)
          refine ⟨_, rfl, _, rfl, _, rfl, 5, x, v, rfl, ⟨dx, ra, bss, m, D6.d⟩, .inr (.inr (.inr (.inr (.inr (.inl ⟨rfl, Sx p l x ra, x, dx, ra, v, bss, m, b, rfl, D6.d, cd, fun eb css H7 u7 lc d7 => ?_, fun eb H7' s7' => ⟨2, by decide, rfl, rfl, fun H7 s77 => ?_⟩⟩)))))⟩
          · subst eb
            obtain ⟨D7, mv⟩ := D6.mv u7 d7 (.inl rfl)
            have T7 := T6.mv mv
            have tk7 : Tk H6 H7 := fun b xs e => (mv b _ e (D6.tno e)).2
            have z7 := (mv z _ z6 nz).2
            have w7 := tk7 _ _ w6
            have lg7 : css.length ≤ 3 + (j + 1) := by omega
            refine ⟨_, rfl, _, rfl, _, rfl, _, rfl, Sx p l x ra, 5, z, us, bss, m, v, rfl, z7, r6.tk tk7, few6, .inr (.inl ⟨rfl, true, cd.mv mv, fun H8 s8 => ?_⟩)⟩
            refine ⟨rfl, _, rfl, iteNS rfl ?_⟩
            exact ⟨ra, css, bss.length, _, _, _, rfl, D7.same s8, lg7, T7.same s8, s8 _ _ w7⟩
          · subst eb
            have s7 := sT s7' s77
            have mv : Mv (Sx p l x ra) (Sx p l x ra) H6 H7 := .of s7
            have D7 := D6.same s7
            have T7 := T6.mv mv
            have tk7 : Tk H6 H7 := fun b xs e => (mv b _ e (D6.tno e)).2
            have z7 := (mv z _ z6 nz).2
            have w7 := tk7 _ _ w6
            have lg7 : bss.length ≤ 3 + (j + 1) := by omega
            refine ⟨_, rfl, _, rfl, _, rfl, _, rfl, Sx p l x ra, 5, z, us, bss, m, v, rfl, z7, r6.tk tk7, few6, .inr (.inl ⟨rfl, false, cd.mv mv, fun H8 s8 => ?_⟩)⟩
            refine ⟨rfl, _, rfl, iteNS rfl ?_⟩
            exact ⟨ra, bss, m, _, _, _, rfl, D7.same s8, lg7, T7.same s8, s8 _ _ w7⟩
        · obtain ⟨b, nb⟩ : ∃ b, numB ((bss.length : Int) + 1) v = b := ⟨_, rfl⟩
          have kn := T6.1
          refine ⟨_, rfl, _, rfl, _, rfl, 6, x, v, rfl, ⟨dx, ra, bss, m, D6.d⟩, .inr (.inr (.inr (.inr (.inr (.inr (.inl ⟨rfl, Sx p l x ra, x, dx, ra, v, bss, m, b, rfl, D6.d, kn, nb, fun eb rb n' k' H7 hrb u7 ln d7 => ?_, fun eb => ⟨3, by decide, rfl, rfl, fun H7 s7 => ?_⟩⟩))))))⟩
          · subst eb
            obtain ⟨D7, mv⟩ := D6.mv (fun c o e n n' => u7 c o e n) d7 (.inr hrb)
            have T7 := T6.mv mv
            have tk7 : Tk H6 H7 := fun b xs e => (mv b _ e (D6.tno e)).2
            have z7 := (mv z _ z6 nz).2
            have w7 := tk7 _ _ w6
            have lg7 : (bss.take n').length ≤ 3 + (j + 1) := by rw [List.length_take]; omega
            refine ⟨_, rfl, _, rfl, _, rfl, _, rfl, Sx p l x rb, 6, z, us, bss, m, v, rfl, z7, r6.tk tk7, few6, .inr (.inr (.inl ⟨rfl, true, kn.mv mv, nb, ?_⟩))⟩
            refine ⟨rfl, _, rfl, iteNS rfl ?_⟩
            exact ⟨rb, bss.take n', k', _, _, _, rfl, D7, lg7, T7, w7⟩
          · subst eb
            have mv : Mv (Sx p l x ra) (Sx p l x ra) H6 H7 := .of s7
            have D7 := D6.same s7
            have T7 := T6.mv mv
            have tk7 : Tk H6 H7 := fun b xs e => (mv b _ e (D6.tno e)).2
            have z7 := (mv z _ z6 nz).2
            have w7 := tk7 _ _ w6
            have lg7 : bss.length ≤ 3 + (j + 1) := by omega
            refine ⟨_, rfl, _, rfl, _, rfl, _, rfl, Sx p l x ra, 6, z, us, bss, m, v, rfl, z7, r6.tk tk7, few6, .inr (.inr (.inl ⟨rfl, false, kn.mv mv, nb, ?_⟩))⟩
            refine ⟨rfl, _, rfl, iteNS rfl ?_⟩
            exact ⟨ra, bss, m, _, _, _, rfl, D7, lg7, T7, w7⟩
        · obtain ⟨b, bd⟩ := T6.blk
          refine ⟨_, rfl, _, rfl, _, rfl, 7, x, v, rfl, ⟨dx, ra, bss, m, D6.d⟩, .inr (.inr (.inr (.inr (.inr (.inr (.inr ⟨rfl, Sx p l x ra, v, b, rfl, bd, fun eb u H7 s7 => ?_, fun eb H7' s7' => ⟨4, by decide, rfl, rfl, fun H7 s77 => ?_⟩⟩))))))⟩
          · subst eb
            have mv : Mv (Sx p l x ra) (Sx p l x ra) H6 H7 := .of s7
            have D7 := D6.same s7
            have T7 := T6.mv mv
            have tk7 : Tk H6 H7 := fun b xs e => (mv b _ e (D6.tno e)).2
            have z7 := (mv z _ z6 nz).2
            have w7 := tk7 _ _ w6
            have lg7 : bss.length ≤ 3 + (j + 1) := by omega
            refine ⟨_, rfl, _, rfl, _, rfl, _, rfl, Sx p l x ra, 7, z, us, bss, m, v, rfl, z7, r6.tk tk7, few6, .inr (.inr (.inr ⟨rfl, true, bd.mv mv, fun H8 s8 => ?_⟩))⟩
            refine ⟨rfl, _, rfl, iteNS rfl ?_⟩
            exact ⟨ra, bss, m, _, _, _, rfl, D7.same s8, lg7, T7.same s8, s8 _ _ w7⟩
          · subst eb
            have s7 := sT s7' s77
            have mv : Mv (Sx p l x ra) (Sx p l x ra) H6 H7 := .of s7
            have D7 := D6.same s7
            have T7 := T6.mv mv
            have tk7 : Tk H6 H7 := fun b xs e => (mv b _ e (D6.tno e)).2
            have z7 := (mv z _ z6 nz).2
            have w7 := tk7 _ _ w6
            have lg7 : bss.length ≤ 3 + (j + 1) := by omega
            refine ⟨_, rfl, _, rfl, _, rfl, _, rfl, Sx p l x ra, 7, z, us, bss, m, v, rfl, z7, r6.tk tk7, few6, .inr (.inr (.inr ⟨rfl, false, bd.mv mv, fun H8 s8 => ?_⟩))⟩
            refine ⟨rfl, _, rfl, iteNS rfl ?_⟩
            exact ⟨ra, bss, m, _, _, _, rfl, D7.same s8, lg7, T7.same s8, s8 _ _ w7⟩
      rintro σ H6 ⟨ra, bss, m, y6, y7, y8, rfl, D6, lb6, T6, _⟩
      clear D5 T5 w5 lb
      refine ⟨fun σ H' => σ = [some (.ref a), some (.ref p), t2, some (.ref x), y4, some v, y6, y7, y8, x9] ∧ D3 CD H' p l x dx ra bss m, ?_, ?_⟩
      · obtain ⟨b, rd⟩ := T6.row
        refine ⟨_, rfl, Sx p l x ra, v, b, rfl, rd, fun H7 s7 => ⟨_, rfl, ?_⟩⟩
        cases b with
        | true => exact iteF ⟨rfl, D6.same s7⟩
        | false =>
          refine iteT ⟨_, rfl, _, rfl, 0, x, v, rfl, ⟨dx, ra, bss, m, D6.d.same s7⟩, .inl ⟨rfl, Sx p l x ra, v, rfl, rd.same s7, fun H8 s8 => ⟨0, by decide, rfl, rfl, fun H9 s9 => ?_⟩⟩⟩
          exact ⟨rfl, _, rfl, iteNS rfl ⟨rfl, ((D6.same s7).same s8).same s9⟩⟩
      rintro σ H7 ⟨rfl, D7⟩
      clear D6 T6
      refine ⟨21, rfl, rfl, .inr rfl, ?_⟩
      refine ⟨Nat.zero_le _, fun b1 n1 => ?_⟩
      have s8 := sN (o := .lst []) n1
      have D8 := D7.same s8
      obtain ⟨q11, q12⟩ := D7.g.none n1
      have E1 : (upd H7 b1 (.lst [])) b1 = some (.lst []) := upd_same
      revert D8 E1
      generalize (upd H7 b1 (.lst [])) = H8
      intro D8 E1
      clear D7 s8 n1
      refine fun b2 n2 => ?_
      have s9 := sN (o := .dK []) n2
      have D9 := D8.same s9
      have E1 := s9 _ _ E1
      obtain ⟨q21, q22⟩ := D8.g.none n2
      have E2 : (upd H8 b2 (.dK [])) b2 = some (.dK []) := upd_same
      revert D9 E1 E2
      generalize (upd H8 b2 (.dK [])) = H9
      intro D9 E1 E2
      clear D8 s9 n2
      refine ⟨Nat.zero_le _, fun b3 n3 => ?_⟩
      have s10 := sN (o := .lst []) n3
      have D10 := D9.same s10
      have E1 := s10 _ _ E1
      have E2 := s10 _ _ E2
      obtain ⟨q31, q32⟩ := D9.g.none n3
      have E3 : (upd H9 b3 (.lst [])) b3 = some (.lst []) := upd_same
      revert D10 E1 E2 E3
      generalize (upd H9 b3 (.lst [])) = H10
      intro D10 E1 E2 E3
      clear D9 s10 n3
      refine ⟨(by show 1 ≤ sizeLine; decide), fun b4 n4 => ?_⟩
      have s11 := sN (o := .tup [.ref b3]) n4
      have D11 := D10.same s11
      have E1 := s11 _ _ E1
      have E2 := s11 _ _ E2
      have E3 := s11 _ _ E3
      have E4 : (upd H10 b4 (.tup [.ref b3])) b4 = some (.tup [.ref b3]) := upd_same
      revert D11 E1 E2 E3 E4
      generalize (upd H10 b4 (.tup [.ref b3])) = H11
      intro D11 E1 E2 E3 E4
      clear D10 s11 n4
      refine ⟨(by show 1 ≤ sizeLine; decide), fun b5 n5 => ?_⟩
      have s12 := sN (o := .tup [.str ""]) n5
      have D12 := D11.same s12
      have E1 := s12 _ _ E1
      have E2 := s12 _ _ E2
      have E3 := s12 _ _ E3
      have E4 := s12 _ _ E4
      have E5 : (upd H11 b5 (.tup [.str ""])) b5 = some (.tup [.str ""]) := upd_same
      revert D12 E1 E2 E3 E4 E5
      generalize (upd H11 b5 (.tup [.str ""])) = H12
      intro D12 E1 E2 E3 E4 E5
      clear D11 s12 n5
      refine ⟨21, .int 0, rfl, by decide, fun nv H13 s13 nst => ?_⟩
      have D13 := D12.same s13
      have E1 := s13 _ _ E1
      have E2 := s13 _ _ E2
      have E3 := s13 _ _ E3
      have E4 := s13 _ _ E4
      have E5 := s13 _ _ E5
      clear D12 s13
      have e0 : V.str "" = V.str (sOf []) := rfl
      have empty : BadA p l H13 (.str "") := .inr ⟨[], e0, Nat.zero_le _, .inl rfl⟩
      have all : ∀ y ∈ ([.str "", .str (sOf (List.replicate (21 : Int).toNat 97)), .ref b1, .ref b2, .ref b4, .ref b5, nv] : List V), BadU p l H13 20 y := fun y hy => by
        simp only [List.mem_cons, List.not_mem_nil, or_false] at hy
        rcases hy with rfl | rfl | rfl | rfl | rfl | rfl | rfl
        · exact .atom empty
        · exact .atom (.inr ⟨_, rfl, by rw [List.length_replicate]; decide, .inr (.inl (by rw [List.length_replicate]; decide))⟩)
        · exact .atom (.inl ⟨b1, rfl, .inl ⟨[], E1⟩, q11, q12⟩)
        · exact .atom (.inl ⟨b2, rfl, .inr E2, q21, q22⟩)
        · have bb : BadU p l H13 19 (.ref b3) := .atom (.inl ⟨b3, rfl, .inl ⟨[], E3⟩, q31, q32⟩)
          exact .inr ⟨b4, _, rfl, E4, (by show 1 ≤ 9000; decide), fun x hx => by rw [List.mem_singleton.mp hx]; exact .inr bb, _, List.mem_singleton.mpr rfl, bb⟩
        · have bb : BadU p l H13 19 (.str "") := .atom empty
          exact .inr ⟨b5, _, rfl, E5, (by show 1 ≤ 9000; decide), fun x hx => by rw [List.mem_singleton.mp hx]; exact .inr bb, _, List.mem_singleton.mpr rfl, bb⟩
        · exact nest_deep (by decide) nst
      have lx : ([.str "", .str (sOf (List.replicate (21 : Int).toNat 97)), .ref b1, .ref b2, .ref b4, .ref b5, nv] : List V).length = 7 := rfl
      refine ⟨(by show 7 ≤ sizeLine; decide), fun m1 hm1 => ?_⟩
      revert all lx
      generalize ([.str "", .str (sOf (List.replicate (21 : Int).toNat 97)), .ref b1, .ref b2, .ref b4, .ref b5, nv] : List V) = xs
      intro all lx
      clear E1 E2 E3 E4 E5 empty nst q11 q12 q21 q22 q31 q32
      have s14 := sN (o := .lst xs) hm1
      have D14 := D13.same s14
      obtain ⟨q1, q2⟩ := D13.g.none hm1
      have all := fun y hy => (all y hy).fm (.of s14)
      have E1 : (upd H13 m1 (.lst xs)) m1 = some (.lst xs) := upd_same
      revert D14 E1 all
      generalize (upd H13 m1 (.lst xs)) = H14
      intro D14 all E1
      clear D13 s14 hm1
      refine ⟨_, rfl, p, l, 7, rfl, D14.g, by decide, by decide, fun dd H15 d0 d1 g15 k15 => ?_⟩
      obtain ⟨y, hy, ey⟩ := at_in xs d0 (by rw [lx]; exact d1)
      have D15 := D14.kp g15 k15
      have dec : Dec p l H15 20 y false := .inr ⟨rfl, (all y hy).fm (.kpg D14.g k15)⟩
      refine ⟨m1, _, dd, y, rfl, rfl, SqL.of (k15 _ _ E1 q1 q2), ey, ?_⟩
      clear D14 all E1 k15 g15 hy ey
      -- the two words
      refine ⟨(by show 2 ≤ sizeLine; decide), fun t ht => ?_⟩
      have s16 := sN (o := .tup [.int 3, .int 4]) ht
      have D16 := D15.same s16
      have dec := dec.same s16
      have Et : (upd H15 t (.tup [.int 3, .int 4])) t = some (.tup [.int 3, .int 4]) := upd_same
      revert D16 dec Et
      generalize (upd H15 t (.tup [.int 3, .int 4])) = H16
      intro D16 dec Et
      clear D15 s16 ht
      refine ⟨t, rfl, ⟨_, SqT.of Et⟩, fun DD hDD => lc_tup (K := K) (a := t) (xs := [.int 3, .int 4]) (fun j H' => H' DD = some (.lst (List.replicate j (.str "parcel"))) ∧ Same H16 H') ?_ ?_ ?_ ?_⟩
      · exact ⟨upd_same, sN hDD⟩
      · rintro j H' hj ⟨_, s⟩
        exact SqT.of (s _ _ Et)
      · rintro j it H' hx ⟨eD, s⟩
        have hj : j < 2 := (List.getElem?_eq_some_iff.mp hx).1
        have dec' := dec.same s
        have fin : ∀ H2, Same H' H2 → ∃ acc, H2 DD = some (.lst acc) ∧ acc.length < sizeLine ∧ (upd H2 DD (.lst (acc ++ [.str "parcel"]))) DD = some (.lst (List.replicate (j + 1) (.str "parcel"))) ∧ Same H16 (upd H2 DD (.lst (acc ++ [.str "parcel"]))) := fun H2 s2 => ⟨_, s2 _ _ eD, by rw [List.length_replicate]; exact size_ok (by omega), by rw [upd_same, List.replicate_succ'], sNew (sT s s2) hDD⟩
        rcases (by omega : j = 0 ∨ j = 1) with rfl | rfl
        · cases hx
          exact ⟨rfl, _, rfl, _, rfl, _, rfl, 3, x, y, rfl, ⟨dx, ra, bss, m, D16.d.same s⟩, .inr (.inr (.inr (.inl ⟨rfl, p, l, y, rfl, dec', fun H2 s2 => ⟨1, by decide, rfl, rfl, fun H3 s3 => fin H3 (sT s2 s3)⟩⟩)))⟩
        · cases hx
          exact ⟨rfl, _, rfl, _, rfl, _, rfl, 4, x, y, rfl, ⟨dx, ra, bss, m, D16.d.same s⟩, .inr (.inr (.inr (.inr (.inl ⟨rfl, p, l, y, rfl, dec', fun H2 s2 => ⟨1, by decide, rfl, rfl, fun H3 s3 => fin H3 (sT s2 s3)⟩⟩))))⟩
      · rintro H17 ⟨eD, s⟩
        refine ⟨(by show 2 ≤ sizeLine; decide), fun e he => ?_⟩
        have s18 := sN (o := .lst [.str "parcel", .str "parcel"]) he
        exact pa_eq (s18 _ _ eD) upd_same ⟨_, rfl, iteF ⟨_, _, _, _, _, _, _, _, rfl, (D16.same (sT s s18)).g⟩⟩
    · rintro σ H' ⟨x2, x3, x4, x5, x6, x7, x8, x9, rfl, g⟩
      exact k H'
end
end Q

namespace Q
open PySem L2
abbrev sHand : Stmt := top 57
abbrev sTake : Stmt := top 58
abbrev sPick : Stmt := top 59
def HL (l : Addr) (i : Nat) (r s c : Int) : List V := [.ref l, .int (i : Int), .int r, .int s, .int c]
/-- the drawing hand at p -/
structure HandX (H : Hp) (p l : Addr) (ns : List Int) (i : Nat) (r s c : Int) : Prop where
  at_ : H p = some (.lst (HL l i r s c))
  lst : H l = some (.lst (ns.map V.int))
  len : ns.length ≤ 63
  r0 : 0 ≤ r
  s0 : 0 ≤ s
  s1 : s < 2147483647
def HandAt (H : Hp) (p l : Addr) : Prop := ∃ ns i r s c, HandX H p l ns i r s c
/-- nothing is otherwise but at p -/
def But (p : Addr) (H H' : Hp) : Prop := ∀ b, b ≠ p → H' b = H b
theorem But.rfl' {p : Addr} {H : Hp} : But p H H := fun _ _ => rfl
theorem But.upd {p : Addr} {H H' : Hp} {o : HO} (h : But p H H') : But p H (upd H' p o) := fun b hb => by rw [upd_ne hb]; exact h b hb
theorem But.trans {p : Addr} {H H1 H2 : Hp} (h : But p H H1) (g : But p H1 H2) : But p H H2 := fun b hb => (g b hb).trans (h b hb)
theorem HandX.np {H : Hp} {p l : Addr} {ns : List Int} {i : Nat} {r s c : Int} (h : HandX H p l ns i r s c) : l ≠ p := fun e => by
  have h1 := h.at_
  rw [← e, h.lst] at h1
  have h2 := HO.lst.inj (Option.some.inj h1)
  cases ns with
  | nil => exact absurd h2 (by simp [HL])
  | cons a t =>
    rw [List.map_cons] at h2
    exact V.noConfusion (List.cons.inj h2).1
theorem HandX.put {H H' : Hp} {p l : Addr} {ns : List Int} {i i' : Nat} {r s c r' s' c' : Int} (h : HandX H p l ns i r s c) (e : H' p = some (.lst (HL l i' r' s' c'))) (b : But p H H') (h0 : 0 ≤ r') (h1 : 0 ≤ s') (h2 : s' < 2147483647) : HandX H' p l ns i' r' s' c' :=
  ⟨e, by rw [b l h.np]; exact h.lst, h.len, h0, h1, h2⟩
def spHand (K : PySem.W.Frag) : Sp := fun vs H Q _ => ∃ (a : Addr) (ns : List Int), vs = [.ref a] ∧ SqL K H a (ns.map V.int) ∧ ns.length ≤ 63 ∧
  ∀ (p l : Addr) (H' : Hp), HandAt H' p l → H p = none → H l = none → Same H H' → Q (.ref p) H'
def spTake : Sp := fun vs H Q _ => ∃ (p l : Addr) (m : Int), vs = [.ref p, .int m] ∧ HandAt H p l ∧ 0 < m ∧ m < 1099511627776 ∧ ∀ (d : Int) (H' : Hp), 0 ≤ d → d < m → HandAt H' p l → But p H H' → Q (.int d) H'
section
variable {P : Program} {w : World} {K : PySem.W.Frag} {mg : Str → Option Value} {base : Heap}
theorem scHand : FnScope ["script"] ["script"] (defScope sHand) := ⟨rfl, rfl, rfl, by decide +kernel, rfl, by decide +kernel, by decide +kernel⟩
theorem ok_hand {f : Addr} {fd : FuncData} (F : Fun K "_law_hand" "_law_hand" sHand f fd) (B : Bts mg) : FnOk P w K mg base CX0 1 f fd ["script"] (spHand K) := by
  refine F.ok scHand (fun vs H Q E h => ?_) (fun cdv A outer s H vs Q E hr h => ?_)
  · obtain ⟨a, ns, rfl, _⟩ := h
    rfl
  · obtain ⟨a, ns, rfl, hS, hlen, k⟩ := h
    refine ⟨_, pss_one (ps_ret (pe_lst (pa_cons (pe_callTy call_list_of (by rfl) B.list PyProof.Rows.boot_list (pa_cons (pv 0) pa_nil)) (pa_cons pe_int (pa_cons pe_int (pa_cons pe_int (pa_cons pe_int pa_nil))))))), ?_⟩
    refine ⟨_, rfl, a, _, rfl, .inl hS, fun l hl => ?_⟩
    refine ⟨(by show 5 ≤ sizeLine; decide), fun p hp => ?_⟩
    have npl : p ≠ l := fun e => by rw [e, upd_same] at hp; cases hp
    rw [upd_ne npl] at hp
    refine k p l _ ⟨ns, 0, 0, 1, 0, upd_same, ?_, hlen, by decide, by decide, by decide⟩ hp hl fun b o e => ?_
    · rw [upd_ne npl.symm, upd_same]
    · rw [upd_ne (ne_of_none e hp), upd_ne (ne_of_none e hl)]
      exact e
theorem scTake : FnScope ["hand", "many", "cell", "found", "number"] ["hand", "many"] (defScope sTake) := ⟨rfl, rfl, rfl, by decide +kernel, rfl, by decide +kernel, by decide +kernel⟩
theorem ok_take {f : Addr} {fd : FuncData} (F : Fun K "_law_take" "_law_take" sTake f fd) (B : Bts mg) : FnOk P w K mg base CX0 1 f fd ["hand", "many"] spTake := by
  refine F.ok scTake (fun vs H Q E h => ?_) (fun cdv A outer s H vs Q E hr h => ?_)
  · obtain ⟨p, l, m, rfl, _⟩ := h
    rfl
  · obtain ⟨p, l, m, rfl, ⟨ns, i, r, s, c, hx⟩, hm0, hm1, k⟩ := h
    have nd := scTake.nd
    refine ⟨_, pss_cons (ps_asg (pe_op op_add (pe_ix ix_list (pv 0) pe_int (fun _ _ => rfl)) pe_int) (pg_sub (pv 0) pe_int set_list))
      (C8.pss_cut (ps_if (PW.pt (pw_and (pt_cmpR op_eq (pe_ix ix_list (pv 0) pe_int (fun _ _ => rfl)) pe_int (nomark _))
            (pw_and1 (pt_cmpR op_lt (pe_ix ix_list (pv 0) pe_int (fun _ _ => rfl)) (pe_callB call_len_seq (by rfl) B.len PySem.boot_len (pa_cons (pe_ix ix_list (pv 0) pe_int (fun _ _ => rfl)) pa_nil)) (nomark _)))))
          (pss_cons (ps_set (i := 2) nd rfl (.inl rfl) (pe_callTy call_int1 (by rfl) B.int PyProof.Rows.boot_int (pa_cons (pe_ix ix_list (pe_ix ix_list (pv 0) pe_int (fun _ _ => rfl)) (pe_ix ix_list (pv 0) pe_int (fun _ _ => rfl)) (fun _ _ => rfl)) pa_nil)))
          (pss_cons (ps_asg (pe_op op_add (pe_ix ix_list (pv 0) pe_int (fun _ _ => rfl)) pe_int) (pg_sub (pv 0) pe_int set_list))
          (pss_one (ps_if (pt_cmpR op_ge (pv 2) (pe_op op_pow pe_int pe_int) (nomark _))
            (pss_one (ps_asg (pv 2) (pg_sub (pv 0) pe_int set_list)))
            (pss_one (ps_asg (pe_op op_mod (pe_callTy call_int1 (by rfl) B.int PyProof.Rows.boot_int (pa_cons (pe_op op_add (pe_op op_add (pe_op op_mul (pe_ix ix_list (pv 0) pe_int (fun _ _ => rfl)) pe_int) (pe_op op_mod (pe_callTy call_int1 (by rfl) B.int PyProof.Rows.boot_int (pa_cons (pv 2) pa_nil)) pe_int)) pe_int) pa_nil)) pe_int) (pg_sub (pv 0) pe_int set_list)))))))
          pss_nil)
      (pss_cons (ps_if (pt_cmpR op_gt (pe_ix ix_list (pv 0) pe_int (fun _ _ => rfl)) pe_int (nomark _))
          (pss_cons (ps_set (i := 3) nd rfl (.inl rfl) (pe_op op_mod (pe_callTy call_int1 (by rfl) B.int PyProof.Rows.boot_int (pa_cons (pe_ix ix_list (pv 0) pe_int (fun _ _ => rfl)) pa_nil)) (pv 1)))
          (pss_cons (ps_asg (pe_op op_fdivW (pe_callTy call_int1 (by rfl) B.int PyProof.Rows.boot_int (pa_cons (pe_ix ix_list (pv 0) pe_int (fun _ _ => rfl)) pa_nil)) (pv 1)) (pg_sub (pv 0) pe_int set_list))
          (pss_one (ps_ret (pv 3)))))
          pss_nil)
      (pss_cons (ps_asg (pe_op op_mod (pe_callTy call_int1 (by rfl) B.int PyProof.Rows.boot_int (pa_cons (pe_op op_add (pe_op op_mul (pe_ix ix_list (pv 0) pe_int (fun _ _ => rfl)) pe_int) (pe_op op_mul pe_int (pe_ix ix_list (pv 0) pe_int (fun _ _ => rfl)))) pa_nil)) pe_int) (pg_sub (pv 0) pe_int set_list))
      (pss_cons (ps_set (i := 4) nd rfl (.inl rfl) (pe_op op_mod (pe_callTy call_int1 (by rfl) B.int PyProof.Rows.boot_int (pa_cons (pe_op op_mul (pe_ix ix_list (pv 0) pe_int (fun _ _ => rfl)) (pe_op op_add (pe_op op_fdiv (pe_ix ix_list (pv 0) pe_int (fun _ _ => rfl)) pe_int) pe_int)) pa_nil)) pe_int))
      (pss_cons (ps_set (i := 4) nd rfl (.inl rfl) (pe_op op_mod (pe_callTy call_int1 (by rfl) B.int PyProof.Rows.boot_int (pa_cons (pe_op op_mul (pv 4) (pe_op op_add (pe_op op_fdiv (pv 4) pe_int) pe_int)) pa_nil)) pe_int))
      (pss_one (ps_ret (pe_op op_mod (pe_callTy call_int1 (by rfl) B.int PyProof.Rows.boot_int (pa_cons (pe_op op_fdiv (pv 4) pe_int) pa_nil)) (pv 1))))))))), ?_⟩
    -- hand[4] = hand[4] + 1
    refine ⟨_, rfl, p, _, 4, _, rfl, rfl, SqL.of hx.at_, rfl, _, _, rfl, rfl, _, rfl, p, _, 4, 4, rfl, rfl, hx.at_, rfl, ?_⟩
    have b1 : But p H (upd H p (.lst (HL l i r s (c + 1)))) := But.rfl'.upd
    have x1 : HandX (upd H p (.lst (HL l i r s (c + 1)))) p l ns i r s (c + 1) := hx.put upd_same b1 hx.r0 hx.s0 hx.s1
    show C8.tCut _ _ _ _ (upd H p (.lst (HL l i r s (c + 1))))
    revert b1 x1
    generalize upd H p (.lst (HL l i r s (c + 1))) = H1
    intro b1 x1
    refine ⟨fun σ H2 => ∃ x2 i r s c, σ = [some (.ref p), some (.int m), x2, none, none] ∧ HandX H2 p l ns i r s c ∧ But p H H2, ?_, ?_⟩
    · refine ⟨_, rfl, p, _, 2, _, rfl, rfl, SqL.of x1.at_, rfl, rfl, _, rfl, ?_⟩
      refine ite2 (fun _ => ?_) (fun _ => ?_)
      · refine ⟨_, rfl, p, _, 1, _, rfl, rfl, SqL.of x1.at_, rfl, _, rfl, p, _, 0, _, rfl, rfl, SqL.of x1.at_, rfl, l, _, rfl, .inl (SqL.of x1.lst), _, _, rfl, rfl, _, rfl, ?_⟩
        refine ite2 (fun c2 => ?_) (fun _ => ?_)
        · -- cell = int(hand[0][hand[1]])
          have hi : i < ns.length := by
            have z := of_decide_eq_true c2
            rw [List.length_map] at z
            omega
          have hg : atI (ns.map V.int) (i : Int) = some (V.int ns[i]) := atI_nat (by rw [List.getElem?_map, List.getElem?_eq_getElem hi]; rfl)
          refine ⟨_, rfl, p, _, 0, _, rfl, rfl, SqL.of x1.at_, rfl, _, rfl, p, _, 1, _, rfl, rfl, SqL.of x1.at_, rfl, l, _, _, _, rfl, rfl, SqL.of x1.lst, hg, .inl ⟨_, rfl, ?_⟩⟩
          -- hand[1] = hand[1] + 1
          refine ⟨_, rfl, p, _, 1, _, rfl, rfl, SqL.of x1.at_, rfl, _, _, rfl, rfl, _, rfl, p, _, 1, 1, rfl, rfl, x1.at_, rfl, ?_⟩
          have e1 : ((i : Int) + 1) = ((i + 1 : Nat) : Int) := by omega
          have b2 : But p H (upd H1 p (.lst (HL l (i + 1) r s (c + 1)))) := b1.upd
          have x2 : HandX (upd H1 p (.lst (HL l (i + 1) r s (c + 1)))) p l ns (i + 1) r s (c + 1) := x1.put upd_same But.rfl'.upd x1.r0 x1.s0 x1.s1
          have eH : upd H1 p (.lst ((HL l i r s (c + 1)).set 1 (V.int ((i : Int) + 1)))) = upd H1 p (.lst (HL l (i + 1) r s (c + 1))) := by
            rw [e1]
            rfl
          rw [eH]
          revert b2 x2
          generalize upd H1 p (.lst (HL l (i + 1) r s (c + 1))) = H2
          intro b2 x2
          refine ⟨_, rfl, _, _, rfl, rfl, ⟨by decide, by decide, by decide⟩, _, _, rfl, rfl, _, rfl, ?_⟩
          refine ite2 (fun c3 => ?_) (fun _ => ?_)
          · refine ⟨_, rfl, _, rfl, p, _, 2, 2, rfl, rfl, x2.at_, rfl, ?_⟩
            refine ⟨_, i + 1, ns[i], s, c + 1, rfl, x2.put upd_same But.rfl'.upd ?_ x2.s0 x2.s1, b2.upd⟩
            have z := of_decide_eq_true c3
            refine Int.le_trans ?_ z
            decide
          · refine ⟨_, rfl, p, _, 3, _, rfl, rfl, SqL.of x2.at_, rfl, _, _, rfl, rfl, .inr ⟨by decide, by decide⟩, _, rfl, .inl ⟨_, rfl, ?_⟩⟩
            refine ⟨_, _, rfl, rfl, (by decide : (0 : Int) < 2147483647), _, _, rfl, rfl, _, _, rfl, rfl, .inl ⟨_, rfl, ?_⟩⟩
            refine ⟨_, _, rfl, rfl, (by decide : (0 : Int) < 2147483647), _, rfl, p, _, 3, 3, rfl, rfl, x2.at_, rfl, ?_⟩
            exact ⟨_, i + 1, r, _, c + 1, rfl, x2.put upd_same But.rfl'.upd x2.r0 (Int.emod_nonneg _ (by decide)) (Int.emod_lt_of_pos _ (by decide)), b2.upd⟩
        · exact ⟨_, i, r, s, c + 1, rfl, x1, b1⟩
      · exact ⟨_, i, r, s, c + 1, rfl, x1, b1⟩
    · rintro σ H2 ⟨x2, i, r, s, c, rfl, y1, c1⟩
      refine ⟨_, rfl, p, _, 2, _, rfl, rfl, SqL.of y1.at_, rfl, _, _, rfl, rfl, _, rfl, ?_⟩
      refine ite2 (fun _ => ?_) (fun _ => ?_)
      · -- found = int(hand[2]) % many; hand[2] = int(hand[2]) // many; return found
        refine ⟨_, rfl, p, _, 2, _, rfl, rfl, SqL.of y1.at_, rfl, .inl ⟨_, rfl, ?_⟩⟩
        refine ⟨_, rfl, _, _, rfl, rfl, hm0, ?_⟩
        refine ⟨_, rfl, p, _, 2, _, rfl, rfl, SqL.of y1.at_, rfl, .inl ⟨_, rfl, ?_⟩⟩
        refine ⟨_, rfl, _, _, rfl, rfl, wide_div (b := 40) hm0 (by omega) (by decide) (by decide), _, rfl, p, _, 2, 2, rfl, rfl, y1.at_, rfl, ?_⟩
        refine ⟨_, rfl, k _ _ (Int.emod_nonneg _ (by omega)) (Int.emod_lt_of_pos _ hm0) ⟨ns, i, _, s, c, y1.put upd_same But.rfl'.upd (Int.ediv_nonneg y1.r0 (by omega)) y1.s0 y1.s1⟩ c1.upd⟩
      · -- hand[3] = int(hand[3] * 69621 + 7919 * hand[4]) % 2147483647
        refine ⟨_, rfl, p, _, 3, _, rfl, rfl, SqL.of y1.at_, rfl, _, _, rfl, rfl, .inr ⟨by decide, by decide⟩, _, rfl, p, _, 4, _, rfl, rfl, SqL.of y1.at_, rfl, _, _, rfl, rfl, .inl ⟨by decide, by decide⟩, _, _, rfl, rfl, .inl ⟨_, rfl, ?_⟩⟩
        refine ⟨_, _, rfl, rfl, (by decide : (0 : Int) < 2147483647), _, rfl, p, _, 3, 3, rfl, rfl, y1.at_, rfl, ?_⟩
        have z0 : 0 ≤ (s * 69621 + 7919 * c) % 2147483647 := Int.emod_nonneg _ (by decide)
        have z1 : (s * 69621 + 7919 * c) % 2147483647 < 2147483647 := Int.emod_lt_of_pos _ (by decide)
        have b2 : But p H (upd H2 p (.lst (HL l i r ((s * 69621 + 7919 * c) % 2147483647) c))) := c1.upd
        have y2 : HandX (upd H2 p (.lst (HL l i r ((s * 69621 + 7919 * c) % 2147483647) c))) p l ns i r ((s * 69621 + 7919 * c) % 2147483647) c := y1.put upd_same But.rfl'.upd y1.r0 z0 z1
        show tSeq _ _ _ _ (upd H2 p (.lst (HL l i r ((s * 69621 + 7919 * c) % 2147483647) c)))
        revert b2 y2
        generalize upd H2 p (.lst (HL l i r ((s * 69621 + 7919 * c) % 2147483647) c)) = H3
        revert z0 z1
        generalize (s * 69621 + 7919 * c) % 2147483647 = s2
        intro z0 z1 b2 y2
        refine ⟨_, rfl, p, _, 3, _, rfl, rfl, SqL.of y2.at_, rfl, _, rfl, p, _, 3, _, rfl, rfl, SqL.of y2.at_, rfl, _, _, rfl, rfl, ⟨by decide, by decide⟩, _, _, rfl, rfl, _, _, rfl, rfl, .inl ⟨by omega, by omega⟩, .inl ⟨_, rfl, ?_⟩⟩
        refine ⟨_, _, rfl, rfl, (by decide : (0 : Int) < 2147483647), ?_⟩
        have q0 : 0 ≤ (s2 * (s2 / 1009 + 69621)) % 2147483647 := Int.emod_nonneg _ (by decide)
        have q1 : (s2 * (s2 / 1009 + 69621)) % 2147483647 < 2147483647 := Int.emod_lt_of_pos _ (by decide)
        revert q0 q1
        generalize (s2 * (s2 / 1009 + 69621)) % 2147483647 = n1
        intro q0 q1
        refine ⟨_, rfl, _, rfl, _, _, rfl, rfl, ⟨by decide, by decide⟩, _, _, rfl, rfl, _, _, rfl, rfl, .inl ⟨by omega, by omega⟩, .inl ⟨_, rfl, ?_⟩⟩
        refine ⟨_, _, rfl, rfl, (by decide : (0 : Int) < 2147483399), ?_⟩
        refine ⟨_, rfl, _, _, rfl, rfl, ⟨by decide, by decide⟩, .inl ⟨_, rfl, ?_⟩⟩
        refine ⟨_, rfl, _, _, rfl, rfl, hm0, ?_⟩
        exact k _ _ (Int.emod_nonneg _ (by omega)) (Int.emod_lt_of_pos _ hm0) ⟨ns, i, r, s2, c, y2⟩ b2
end
end Q

namespace L2
open PySem PySem.Spec PyProof.Rows
/-! o.m(e) within a try: what is raised, by the slots -/
def tMethW (C : Addr) (m : Str) (sp : Sp) (E : List (Option V) → XK) (ta : TE) (t : TA) : TE := fun σ H Q => ta σ H fun x H1 => ∃ a dx fs, x = .ref a ∧ H1 a = some (.ins C dx fs) ∧ fs.lookup m = none ∧ t σ H1 fun xs H2 => sp (x :: xs) H2 Q (E σ)
theorem pe_methW {X : Cx} {CX : CXT} {k : Nat} {C g : Addr} {gd : FuncData} {ps : List Str} {sp : Sp} {m : Str} {o e : Expr} {es : List Expr} {ta : TE} {t : TA} {apos cpos : Pos} {E : List (Option V) → XK} {pl : Sem Bool} (ho : PE X o ta) (cc : Cls X.K C) (hm : Meth X.K C m g) (G : FnOk X.prog X.w X.K X.mg X.base CX k g gd ps sp) (room : Room k X.A) (bd : Binds X.K gd ps []) (px : ∀ σ, PassesAt CX X σ (E σ)) (hs : PA X (e :: es) t)
    (h1 : starEach (e :: es) X.env = (false, eval e X.env) :: starEach es X.env := by rfl) (h2 : (backTo cpos (starEach es X.env)).any (·.1) = false := by rfl)
    (h3 : eval (.Call (.Attribute o m apos) (e :: es) [] cpos) X.env = (do
      let rv ← eval o X.env
      standAt apos.atName
      let (gf, fst) ← holding [rv] (getMethod rv m pl)
      callWith cpos gf fst (backTo cpos (starEach (e :: es) X.env)) (backToKw cpos (keywordEach [] X.env))) := by rfl) :
    PE X (.Call (.Attribute o m apos) (e :: es) [] cpos) (tMethW C m sp E ta t) := by
  refine ⟨fun pins s σ H Q I want => PySem.W.methodCall_KW (pl := pl) (thn (ho.run pins s σ H _ I want) fun u s1 ⟨x, H1, I1, rx, a, dx, fs, ex, ea, l, q⟩ => ?_) h3⟩
  subst ex
  cases rx
  refine getmeth_ok I1 ea cc hm l ?_
  refine PySem.W.callWith_K (first := [.ref a]) (h₀ := X.base) I.ok.mod.kin hm.kp (thn (hs.run cpos pins s1 σ H1 _ I1 q) fun us s2 ⟨xs, H2, I2, rs, q2⟩ => ⟨I2.kIn, ?_⟩) h1 h2
  exact run_fnS (us := .ref a :: us) (vs := .ref a :: xs) G room bd (px σ) I2 (.cons rfl rs) q2
end L2
namespace Q
open PySem L2 QR
abbrev sSameG : Stmt := top 62
abbrev sOddL : Stmt := top 63
theorem op_alt {X : Cx} {f : Value → Value → Sem Value} {r1 r2 : R2} (h1 : OpR X f r1) (h2 : OpR X f r2) : OpR X f (fun x y H Q => r1 x y H Q ∨ r2 x y H Q) := by
  intro pins s σ H x y v u Q I rx ry h
  exact h.elim (h1 pins s σ H x y v u Q I rx ry) (h2 pins s σ H x y v u Q I rx ry)
/-- alike, of nesting below n -/
def Sm (H : Hp) : Nat → V → V → Prop
  | 0 => fun _ _ => False
  | n + 1 => fun u v => (Sc u ∧ u = v) ∨ (∃ z : Str, u = .str z ∧ v = .str z) ∨
      ∃ (a b : Addr) (xs ys : List V), u = .ref a ∧ v = .ref b ∧ ((H a = some (.tup xs) ∧ H b = some (.tup ys)) ∨ (H a = some (.lst xs) ∧ H b = some (.lst ys))) ∧ xs.length = ys.length ∧ ∀ (i : Nat) (x y : V), xs[i]? = some x → ys[i]? = some y → Sm H n x y
theorem Sm.same {H H' : Hp} (s : Same H H') : ∀ {n : Nat} {u v : V}, Sm H n u v → Sm H' n u v
  | 0, _, _, h => h.elim
  | n + 1, u, v, h => by
    rcases h with h | h | ⟨a, b, xs, ys, e1, e2, h1, hl, k⟩
    · exact .inl h
    · exact .inr (.inl h)
    · exact .inr (.inr ⟨a, b, xs, ys, e1, e2, h1.elim (fun h => .inl ⟨s _ _ h.1, s _ _ h.2⟩) (fun h => .inr ⟨s _ _ h.1, s _ _ h.2⟩), hl, fun i x y hx hy => (k i x y hx hy).same s⟩)
theorem sm_sc {H : Hp} {n : Nat} {u : V} (h : Sc u) : Sm H (n + 1) u u := .inl ⟨h, rfl⟩
theorem sm_i {H : Hp} {n : Nat} (i : Int) : Sm H (n + 1) (.int i) (.int i) := sm_sc (.inr (.inr ⟨i, rfl⟩))
theorem sm_s {H : Hp} {n : Nat} (z : Str) : Sm H (n + 1) (.str z) (.str z) := .inr (.inl ⟨z, rfl, rfl⟩)
/-- side by side -/
def Sms (H : Hp) (n : Nat) : List V → List V → Prop
  | [], [] => True
  | x :: xs, y :: ys => Sm H n x y ∧ Sms H n xs ys
  | _, _ => False
theorem Sms.len {H : Hp} {n : Nat} : ∀ {xs ys : List V}, Sms H n xs ys → xs.length = ys.length
  | [], [], _ => rfl
  | x :: xs, y :: ys, h => by rw [List.length_cons, List.length_cons, Sms.len h.2]
  | [], _ :: _, h => h.elim
  | _ :: _, [], h => h.elim
theorem Sms.at {H : Hp} {n : Nat} : ∀ {xs ys : List V}, Sms H n xs ys → ∀ (i : Nat) (x y : V), xs[i]? = some x → ys[i]? = some y → Sm H n x y
  | [], [], _, i, x, y, hx, _ => by simp at hx
  | a :: xs, b :: ys, h, 0, x, y, hx, hy => by
    cases hx
    cases hy
    exact h.1
  | a :: xs, b :: ys, h, i + 1, x, y, hx, hy => Sms.at h.2 i x y hx hy
  | [], _ :: _, h, _, _, _, _, _ => h.elim
  | _ :: _, [], h, _, _, _, _, _ => h.elim
theorem sm_tup {H : Hp} {n : Nat} {a b : Addr} {xs ys : List V} (ha : H a = some (.tup xs)) (hb : H b = some (.tup ys)) (h : Sms H n xs ys) : Sm H (n + 1) (.ref a) (.ref b) := .inr (.inr ⟨a, b, xs, ys, rfl, rfl, .inl ⟨ha, hb⟩, h.len, h.at⟩)
theorem sm_lst {H : Hp} {n : Nat} {a b : Addr} {xs ys : List V} (ha : H a = some (.lst xs)) (hb : H b = some (.lst ys)) (h : Sms H n xs ys) : Sm H (n + 1) (.ref a) (.ref b) := .inr (.inr ⟨a, b, xs, ys, rfl, rfl, .inr ⟨ha, hb⟩, h.len, h.at⟩)
def spSameG (n : Nat) : Sp := fun vs H Q _ => ∃ u v : V, vs = [u, v] ∧ Sm H n u v ∧ ∀ H', Same H H' → Q (.bl true) H'
/-- all but the hand's list -/
def XtP (p : Addr) (H H' : Hp) : Prop := ∀ b o, H b = some o → b ≠ p → H' b = some o
theorem XtP.but {p : Addr} {H H1 H2 : Hp} (h : XtP p H H1) (b : But p H1 H2) : XtP p H H2 := fun c o e n => by rw [b c n]; exact h c o e n
theorem XtP.st {p : Addr} {H H1 H2 : Hp} (h : XtP p H H1) (s : Same H1 H2) : XtP p H H2 := fun c o e n => s c o (h c o e n)
def spOddL : Sp := fun vs H Q _ => ∃ (p l : Addr), vs = [.ref p] ∧ HandAt H p l ∧ ∀ v H', HandAt H' p l → XtP p H H' → Thg (Was H) H' v → Q v H'
def spPickL : Sp := fun vs H Q _ => ∃ (p l t : Addr) (xs : List V), vs = [.ref p, .ref t] ∧ HandAt H p l ∧ H t = some (.lst xs) ∧ t ≠ p ∧ 0 < xs.length ∧ xs.length < 1000 ∧
  ∀ (v : V) (H' : Hp), v ∈ xs → HandAt H' p l → But p H H' → Q v H'
theorem HandAt.same {H H' : Hp} {p l : Addr} (h : HandAt H p l) (s : Same H H') : HandAt H' p l := by
  obtain ⟨ns, i, r, t, c, x⟩ := h
  exact ⟨ns, i, r, t, c, s _ _ x.at_, s _ _ x.lst, x.len, x.r0, x.s0, x.s1⟩
section
variable {P : Program} {w : World} {K : PySem.W.Frag} {mg : Str → Option Value} {base : Heap}
theorem op_isB {X : Cx} : OpR X (compareOp .Is) (fun x y H Q => ((∃ i : Int, x = .int i) ∨ (∃ z : Str, x = .str z) ∨ ∃ a : Addr, x = .ref a) ∧ (∃ b : Bool, y = .bl b ∧ Q (.bl false) H) ∨ ∃ a b, x = .bl a ∧ y = .bl b ∧ Q (.bl (decide (a = b))) H) := op_alt op_is_xb op_is_bl
theorem scSameG : FnScope ["actual", "due", "one", "other"] ["actual", "due"] (defScope sSameG) := ⟨rfl, rfl, rfl, by decide +kernel, rfl, by decide +kernel, by decide +kernel⟩
theorem ok_sameG {f fI : Addr} {fd fdI : FuncData} (D : Df K mg "_law_same" sSameG ["actual", "due"] f fd) (B : Bts mg) (DI : Df K mg "_law_is_integer" sLInt ["thing"] fI fdI) : ∀ n, FnOk P w K mg base CX0 (n + 1) f fd ["actual", "due"] (spSameG n)
  | 0 => by
    refine D.F.ok scSameG (fun vs H Q E h => ?_) (fun cdv A outer s H vs Q E hr h => ?_)
    · obtain ⟨u, v, rfl, _⟩ := h
      rfl
    · obtain ⟨u, v, rfl, h, _⟩ := h
      exact h.elim
  | n + 1 => by
    have IH := ok_sameG D B DI n
    have GI : FnOk P w K mg base CX0 1 fI fdI ["thing"] spInt2 := ok_lint DI B
    refine D.F.ok scSameG (fun vs H Q E h => ?_) (fun cdv A outer s H vs Q E hr h => ?_)
    · obtain ⟨u, v, rfl, _⟩ := h
      rfl
    · obtain ⟨u, v, rfl, h, k⟩ := h
      have nd := scSameG.nd
      have hr1 : Room 1 _ := hr.mono (by omega)
      have hrn : Room (n + 1) _ := hr.mono (by omega)
      refine ⟨_, pss_cons (ps_if (pt_cmp (pc_isN (pv 1))) (pss_one (ps_ret (pe_cmp (pc_isN (pv 0)) rfl))) pss_nil)
        (pss_cons (ps_if (pt_cmpR op_isB (pv 1) pe_bl (nomark _)) (pss_one (ps_ret (pe_cmpR op_isB (pv 0) pe_bl (nomark _)))) pss_nil)
        (pss_cons (ps_if (pt_cmpR op_isB (pv 1) pe_bl (nomark _)) (pss_one (ps_ret (pe_cmpR op_isB (pv 0) pe_bl (nomark _)))) pss_nil)
        (pss_cons (ps_if (pt_val (pe_callB call_isi (by rfl) B.isinstance PyProof.Rows.boot_isinstance (pa_cons (pv 1) (pa_cons (pe_bltn (v := .ty "int") rfl B.int PyProof.Rows.boot_int rfl) pa_nil))))
          (pss_one (ps_ret (pe_and (pe_call GI hr1 rfl DI.m DI.k DI.b .nil pass0 (pa_cons (pv 0) pa_nil)) (pe_one (pe_cmpR op_eq (pv 0) (pv 1) (nomark _)))))) pss_nil)
        (pss_cons (ps_if (pt_val (pe_callB call_isi (by rfl) B.isinstance PyProof.Rows.boot_isinstance (pa_cons (pv 1) (pa_cons (pe_bltn (v := .ty "str") rfl B.str PyProof.Rows.boot_str rfl) pa_nil))))
          (pss_one (ps_ret (pe_and (pe_callB call_isi (by rfl) B.isinstance PyProof.Rows.boot_isinstance (pa_cons (pv 0) (pa_cons (pe_bltn (v := .ty "str") rfl B.str PyProof.Rows.boot_str rfl) pa_nil))) (pe_one (pe_cmpR op_eq (pv 0) (pv 1) (nomark _)))))) pss_nil)
        (pss_cons (ps_if (PW.pt (pw_or (pt_cmpR op_ne (pe_callB call_isi (by rfl) B.isinstance PyProof.Rows.boot_isinstance (pa_cons (pv 1) (pa_cons (pe_bltn (v := .ty "tuple") rfl B.tuple PyProof.Rows.boot_tuple rfl) pa_nil))) (pe_callB call_isi (by rfl) B.isinstance PyProof.Rows.boot_isinstance (pa_cons (pv 0) (pa_cons (pe_bltn (v := .ty "tuple") rfl B.tuple PyProof.Rows.boot_tuple rfl) pa_nil))) (nomark _))
          (pw_or1 (pt_cmpR op_ne (pe_callB call_isi (by rfl) B.isinstance PyProof.Rows.boot_isinstance (pa_cons (pv 1) (pa_cons (pe_bltn (v := .ty "list") rfl B.list PyProof.Rows.boot_list rfl) pa_nil))) (pe_callB call_isi (by rfl) B.isinstance PyProof.Rows.boot_isinstance (pa_cons (pv 0) (pa_cons (pe_bltn (v := .ty "list") rfl B.list PyProof.Rows.boot_list rfl) pa_nil))) (nomark _))))) pss_never pss_nil)
        (pss_cons (ps_if (pt_cmpR op_ne (pe_callB call_len_seq (by rfl) B.len PySem.boot_len (pa_cons (pv 0) pa_nil)) (pe_callB call_len_seq (by rfl) B.len PySem.boot_len (pa_cons (pv 1) pa_nil)) (nomark _)) pss_never pss_nil)
        (pss_cons (ps_for PassesOwn.never rfl (RZ.pi_zipA rfl B.zip (pa_cons (pv 0) (pa_cons (pv 1) pa_nil))) (pg_tup rfl (pgs_cons (pg_name (i := 2) nd rfl (.inl rfl)) (pgs_cons (pg_name (i := 3) nd rfl (.inl rfl)) pgs_nil)))
          (pss_one (ps_if (pt_not (pt_val (pe_call IH hrn rfl D.m D.k D.b .nil pass0 (pa_cons (pv 2) (pa_cons (pv 3) pa_nil))))) pss_never pss_nil)))
        (pss_one (ps_ret pe_bl))))))))), ?_⟩
      rcases h with ⟨(rfl | ⟨b, rfl⟩ | ⟨i, rfl⟩), rfl⟩ | ⟨z, rfl, rfl⟩ | ⟨a, b, xs, ys, rfl, rfl, hab, hl, hk⟩
      · refine ⟨_, rfl, _, rfl, iteT ?_⟩
        exact ⟨_, rfl, k _ sR⟩
      · refine ⟨_, rfl, _, rfl, iteF ?_⟩
        refine ⟨_, rfl, .inr ⟨b, true, rfl, rfl, _, rfl, ?_⟩⟩
        cases b with
        | true => exact iteT ⟨_, rfl, .inr ⟨true, true, rfl, rfl, k _ sR⟩⟩
        | false =>
          refine iteF ⟨_, rfl, .inr ⟨false, false, rfl, rfl, _, rfl, iteT ?_⟩⟩
          exact ⟨_, rfl, .inr ⟨false, false, rfl, rfl, k _ sR⟩⟩
      · refine ⟨_, rfl, _, rfl, iteF ?_⟩
        refine ⟨_, rfl, .inl ⟨.inl ⟨i, rfl⟩, true, rfl, _, rfl, iteF ?_⟩⟩
        refine ⟨_, rfl, .inl ⟨.inl ⟨i, rfl⟩, false, rfl, _, rfl, iteF ?_⟩⟩
        refine ⟨_, rfl, .int i, .ty "int", .type "int", .type "int", true, rfl, .ty _, .base (.int _), kInt_int, _, rfl, iteT ?_⟩
        refine ⟨_, rfl, (fun _ => False), .int i, rfl, .inl (.inr (.inr ⟨i, rfl⟩)), _, rfl, iteT ?_⟩
        refine ⟨_, rfl, _, rfl, rfl, ?_⟩
        rw [decide_eq_true rfl]
        exact k _ sR
      · refine ⟨_, rfl, _, rfl, iteF ?_⟩
        refine ⟨_, rfl, .inl ⟨.inr (.inl ⟨z, rfl⟩), true, rfl, _, rfl, iteF ?_⟩⟩
        refine ⟨_, rfl, .inl ⟨.inr (.inl ⟨z, rfl⟩), false, rfl, _, rfl, iteF ?_⟩⟩
        refine ⟨_, rfl, .str z, .ty "int", .type "str", .type "int", false, rfl, .ty _, .base (.str _), kit_ty (by decide +kernel), _, rfl, iteF ?_⟩
        refine ⟨_, rfl, .str z, .ty "str", .type "str", .type "str", true, rfl, .ty _, .base (.str _), kit_ty (by decide +kernel), _, rfl, iteT ?_⟩
        refine ⟨_, rfl, .str z, .ty "str", .type "str", .type "str", true, rfl, .ty _, .base (.str _), kit_ty (by decide +kernel), _, rfl, iteT ?_⟩
        refine ⟨_, rfl, _, rfl, rfl, ?_⟩
        rw [decide_eq_true rfl]
        exact k _ sR
      · refine ⟨_, rfl, _, rfl, iteF ?_⟩
        refine ⟨_, rfl, .inl ⟨.inr (.inr ⟨b, rfl⟩), true, rfl, _, rfl, iteF ?_⟩⟩
        refine ⟨_, rfl, .inl ⟨.inr (.inr ⟨b, rfl⟩), false, rfl, _, rfl, iteF ?_⟩⟩
        rcases hab with ⟨ha, hb⟩ | ⟨ha, hb⟩
        · refine ⟨_, rfl, .ref b, .ty "int", .type "tuple", .type "int", false, rfl, .ty _, .base (.tup hb), kit_ty (by decide +kernel), _, rfl, iteF ?_⟩
          refine ⟨_, rfl, .ref b, .ty "str", .type "tuple", .type "str", false, rfl, .ty _, .base (.tup hb), kit_ty (by decide +kernel), _, rfl, iteF ?_⟩
          refine ⟨_, rfl, .ref b, .ty "tuple", .type "tuple", .type "tuple", true, rfl, .ty _, .base (.tup hb), kit_ty (by decide +kernel), _, rfl, .ref a, .ty "tuple", .type "tuple", .type "tuple", true, rfl, .ty _, .base (.tup ha), kit_ty (by decide +kernel), rfl, _, rfl, iteF ?_⟩
          refine ⟨_, rfl, .ref b, .ty "list", .type "tuple", .type "list", false, rfl, .ty _, .base (.tup hb), kit_ty (by decide +kernel), _, rfl, .ref a, .ty "list", .type "tuple", .type "list", false, rfl, .ty _, .base (.tup ha), kit_ty (by decide +kernel), rfl, _, rfl, iteF ?_⟩
          refine ⟨_, rfl, a, xs, rfl, .inr (SqT.of ha), _, rfl, b, ys, rfl, .inr (SqT.of hb), rfl, _, rfl, ?_⟩
          rw [hl, decide_eq_true rfl]
          refine iteF ⟨_, rfl, _, rfl, a, b, xs, ys, rfl, .inr ⟨SqT.of ha, SqT.of hb, RZ.for_zipT hl (fun i σ H' => ∃ x2 x3, σ = [some (.ref a), some (.ref b), x2, x3] ∧ Same H H') ⟨none, none, rfl, sR⟩ ?_ ?_ ?_⟩⟩
          · rintro i σ H' ⟨x2, x3, rfl, s1⟩
            exact ⟨SqT.of (s1 _ _ ha), SqT.of (s1 _ _ hb)⟩
          · rintro i x y T σ H' hx hy ⟨x2, x3, rfl, s1⟩ hT
            have s2 : Same H (upd H' T (.tup [x, y])) := sT s1 (sN hT)
            refine ⟨T, _, rfl, SqT.of upd_same, rfl, _, _, rfl, _, _, rfl, rfl, ?_⟩
            refine ⟨_, rfl, _, rfl, x, y, rfl, (hk i x y hx hy).same s2, fun H2 s3 => ⟨_, rfl, iteF ?_⟩⟩
            exact ⟨_, _, rfl, sT s2 s3⟩
          · rintro σ H' ⟨x2, x3, rfl, s1⟩
            exact k _ s1
        · refine ⟨_, rfl, .ref b, .ty "int", .type "list", .type "int", false, rfl, .ty _, .base (.lst hb), kit_ty (by decide +kernel), _, rfl, iteF ?_⟩
          refine ⟨_, rfl, .ref b, .ty "str", .type "list", .type "str", false, rfl, .ty _, .base (.lst hb), kit_ty (by decide +kernel), _, rfl, iteF ?_⟩
          refine ⟨_, rfl, .ref b, .ty "tuple", .type "list", .type "tuple", false, rfl, .ty _, .base (.lst hb), kit_ty (by decide +kernel), _, rfl, .ref a, .ty "tuple", .type "list", .type "tuple", false, rfl, .ty _, .base (.lst ha), kit_ty (by decide +kernel), rfl, _, rfl, iteF ?_⟩
          refine ⟨_, rfl, .ref b, .ty "list", .type "list", .type "list", true, rfl, .ty _, .base (.lst hb), kit_ty (by decide +kernel), _, rfl, .ref a, .ty "list", .type "list", .type "list", true, rfl, .ty _, .base (.lst ha), kit_ty (by decide +kernel), rfl, _, rfl, iteF ?_⟩
          refine ⟨_, rfl, a, xs, rfl, .inl (SqL.of ha), _, rfl, b, ys, rfl, .inl (SqL.of hb), rfl, _, rfl, ?_⟩
          rw [hl, decide_eq_true rfl]
          refine iteF ⟨_, rfl, _, rfl, a, b, xs, ys, rfl, .inl ⟨SqL.of ha, SqL.of hb, RZ.for_zipL hl (fun i σ H' => ∃ x2 x3, σ = [some (.ref a), some (.ref b), x2, x3] ∧ Same H H') ⟨none, none, rfl, sR⟩ ?_ ?_ ?_⟩⟩
          · rintro i σ H' ⟨x2, x3, rfl, s1⟩
            exact ⟨SqL.of (s1 _ _ ha), SqL.of (s1 _ _ hb)⟩
          · rintro i x y T σ H' hx hy ⟨x2, x3, rfl, s1⟩ hT
            have s2 : Same H (upd H' T (.tup [x, y])) := sT s1 (sN hT)
            refine ⟨T, _, rfl, SqT.of upd_same, rfl, _, _, rfl, _, _, rfl, rfl, ?_⟩
            refine ⟨_, rfl, _, rfl, x, y, rfl, (hk i x y hx hy).same s2, fun H2 s3 => ⟨_, rfl, iteF ?_⟩⟩
            exact ⟨_, _, rfl, sT s2 s3⟩
          · rintro σ H' ⟨x2, x3, rfl, s1⟩
            exact k _ s1
theorem scPick : FnScope ["hand", "things"] ["hand", "things"] (defScope sPick) := ⟨rfl, rfl, rfl, by decide +kernel, rfl, by decide +kernel, by decide +kernel⟩
theorem ok_pickL {f fT : Addr} {fd fdT : FuncData} (D : Df K mg "_law_pick" sPick ["hand", "things"] f fd) (B : Bts mg) (DT : Df K mg "_law_take" sTake ["hand", "many"] fT fdT) : FnOk P w K mg base CX0 2 f fd ["hand", "things"] spPickL := by
  have GT : FnOk P w K mg base CX0 1 fT fdT ["hand", "many"] spTake := ok_take DT.F B
  refine D.F.ok scPick (fun vs H Q E h => ?_) (fun cdv A outer s H vs Q E hr h => ?_)
  · obtain ⟨p, l, t, xs, rfl, _⟩ := h
    rfl
  · obtain ⟨p, l, t, xs, rfl, hh, ht, ntp, h0, h1, k⟩ := h
    refine ⟨_, pss_one (ps_ret (pe_ix ix_list (pv 1) (pe_call GT hr rfl DT.m DT.k DT.b .nil pass0 (pa_cons (pv 0) (pa_cons (pe_callB call_len_seq (by rfl) B.len PySem.boot_len (pa_cons (pv 1) pa_nil)) pa_nil))) (fun _ _ => rfl))), ?_⟩
    refine ⟨_, rfl, _, rfl, _, rfl, t, _, rfl, .inl (SqL.of ht), p, l, _, rfl, hh, by omega, by omega, fun d H' d0 d1 hh' hb => ?_⟩
    obtain ⟨v, hv, ev⟩ := at_in xs d0 d1
    exact ⟨t, xs, d, v, rfl, rfl, SqL.of (by rw [hb t ntp]; exact ht), ev, k _ _ hv hh' hb⟩
theorem scOddL : FnScope ["hand", "way"] ["hand"] (defScope sOddL) := ⟨rfl, rfl, rfl, by decide +kernel, rfl, by decide +kernel, by decide +kernel⟩
end
end Q

namespace Q
open PySem L2 QR
section
variable {P : Program} {w : World} {K : PySem.W.Frag} {mg : Str → Option Value} {base : Heap}
theorem ok_oddL {f fT : Addr} {fd dT : FuncData} (D : Df K mg "_law_odd" sOddL ["hand"] f fd) (B : Bts mg) (DT : Df K mg "_law_take" sTake ["hand", "many"] fT dT) : FnOk P w K mg base CX0 2 f fd ["hand"] spOddL := by
  have GT : FnOk P w K mg base CX0 1 fT dT ["hand", "many"] spTake := ok_take DT.F B
  refine D.F.ok scOddL (fun vs H Q E h => ?_) (fun cdv A outer s H vs Q E hr h => ?_)
  · obtain ⟨p, l, rfl, _⟩ := h
    rfl
  · obtain ⟨p, l, rfl, g, k⟩ := h
    have nd := scOddL.nd
    refine ⟨_, pss_cons (ps_set (i := 1) nd rfl (.inl rfl) (pe_call GT hr rfl DT.m DT.k DT.b .nil pass0 (pa_cons (pv 0) (pa_cons pe_int pa_nil))))
      (pss_cons (ps_if (pt_cmpR op_lt (pv 1) pe_int (nomark _)) (pss_one (ps_ret (pe_ix ix_list (pe_lst (pa_cons pe_non (pa_cons pe_bl (pa_cons pe_bl (pa_cons pe_str (pa_cons pe_str (pa_cons pe_str pa_nil))))))) (pv 1) (fun _ _ => rfl)))) pss_nil)
      (pss_cons (ps_if (pt_cmpR op_lt (pv 1) pe_int (nomark _)) (pss_one (ps_ret (pe_ix ix_list (pe_lst (pa_cons (pe_tup pa_nil) (pa_cons (pe_lst pa_nil) (pa_cons pe_dnewK (pa_cons (pe_tup (pa_cons pe_int pa_nil)) (pa_cons (pe_lst (pa_cons pe_int (pa_cons pe_int pa_nil))) (pa_cons (pe_tup (pa_cons (pe_tup pa_nil) pa_nil)) pa_nil))))))) (pe_op op_sub (pv 1) pe_int) (fun _ _ => rfl)))) pss_nil)
      (pss_one (ps_ret (pe_ix ix_list (pe_lst (pa_cons (pe_un un_neg pe_int) (pa_cons pe_int (pa_cons (pe_op op_sub (pe_op op_pow pe_int pe_int) pe_int) (pa_cons (pe_tup (pa_cons pe_int (pa_cons pe_int pa_nil))) (pa_cons (pe_tup (pa_cons pe_bl (pa_cons pe_int pa_nil))) (pa_cons (pe_tup (pa_cons pe_int (pa_cons pe_int (pa_cons pe_int pa_nil)))) pa_nil))))))) (pe_op op_sub (pv 1) pe_int) (fun _ _ => rfl)))))), ?_⟩
    have it : ∀ {S : Addr → Prop} {H : Hp} {xs : List V}, (∀ x ∈ xs, Sc x ∨ ∃ z, x = .str z) → ∀ x ∈ xs, KnA S H x ∧ ∀ b ys, x = .ref b → H b = some (.tup ys) → ys = [] := fun h x hx => sc_it (h x hx)
    refine ⟨_, rfl, p, l, 18, rfl, g, by decide, by decide, fun way H0 w0 w1 g0 b0 => ?_⟩
    have W0 : ∀ {a : Addr} {H1 : Hp}, Same H0 H1 → H1 a = none → ¬ Was H a := fun {a H1} s n z => by
      have n0 := sNo s n
      by_cases e : a = p
      · obtain ⟨ns, i, r, t, c, x⟩ := g0
        rw [e, x.at_] at n0
        cases n0
      · rw [b0 a e] at n0
        exact z n0
    have X0 : XtP p H H0 := fun b o e n => by rw [b0 b n]; exact e
    refine ⟨_, rfl, _, _, rfl, rfl, _, rfl, ite2 (fun c => ?_) (fun c => ?_)⟩
    · have c : way < 6 := of_decide_eq_true c
      refine ⟨(by show 6 ≤ sizeLine; decide), fun m hm => ?_⟩
      obtain ⟨v, hv, ev⟩ := at_in ([.non, .bl true, .bl false, .str "", .str "do", .str "0"] : List V) w0 c
      have s1 := sN (o := .lst [.non, .bl true, .bl false, .str "", .str "do", .str "0"]) hm
      refine ⟨_, rfl, m, _, way, v, rfl, rfl, SqL.of upd_same, ev, k v _ (g0.same s1) (X0.st s1) ?_⟩
      simp only [List.mem_cons, List.not_mem_nil, or_false] at hv
      rcases hv with rfl | rfl | rfl | rfl | rfl | rfl
      · exact thg_sc (.inl rfl)
      · exact thg_sc (.inr (.inl ⟨_, rfl⟩))
      · exact thg_sc (.inr (.inl ⟨_, rfl⟩))
      all_goals exact thg_str
    have c : ¬ way < 6 := fun z => c (decide_eq_true z)
    refine ⟨_, rfl, _, _, rfl, rfl, _, rfl, ite2 (fun c2 => ?_) (fun c2 => ?_)⟩
    · have c2 : way < 12 := of_decide_eq_true c2
      refine ⟨Nat.zero_le _, fun a1 n1 => ?_⟩
      have S1 := sN (o := .tup []) n1
      have T1 : Thgs (Was H) (upd H0 a1 (.tup [])) [.ref a1] := .cons (thg_tup (W0 sR n1) upd_same (by decide) (fun x hx => by simp at hx)) .nil
      revert S1 T1
      generalize upd H0 a1 (.tup []) = H1
      intro S1 T1
      refine ⟨Nat.zero_le _, fun a2 n2 => ?_⟩
      have S2 := sT S1 (sN (o := .lst []) n2)
      have T2 := (T1.same (sN (o := .lst []) n2)).cons (thg_lst (W0 S1 n2) upd_same (by decide) (fun x hx => by simp at hx))
      clear T1
      revert S2 T2
      generalize upd H1 a2 (.lst []) = H2
      intro S2 T2
      clear S1 n2
      refine fun a3 n3 => ?_
      have S3 := sT S2 (sN (o := .dK []) n3)
      have T3 := (T2.same (sN (o := .dK []) n3)).cons (thg_dct (W0 S2 n3) upd_same)
      clear T2
      revert S3 T3
      generalize upd H2 a3 (.dK []) = H3
      intro S3 T3
      clear S2 n3
      refine ⟨(by show 1 ≤ sizeLine; decide), fun a4 n4 => ?_⟩
      have S4 := sT S3 (sN (o := .tup [.int 0]) n4)
      have T4 := (T3.same (sN (o := .tup [.int 0]) n4)).cons (thg_tup (W0 S3 n4) upd_same (by show 1 ≤ 9; decide) (it fun x hx => by rw [List.mem_singleton.mp hx]; exact .inl (.inr (.inr ⟨_, rfl⟩))))
      clear T3
      revert S4 T4
      generalize upd H3 a4 (.tup [.int 0]) = H4
      intro S4 T4
      clear S3 n4
      refine ⟨(by show 2 ≤ sizeLine; decide), fun a5 n5 => ?_⟩
      have S5 := sT S4 (sN (o := .lst [.int 0, .int 0]) n5)
      have T5 := (T4.same (sN (o := .lst [.int 0, .int 0]) n5)).cons (thg_lst (W0 S4 n5) upd_same (by show 2 ≤ 9; decide) (it fun x hx => by
        simp only [List.mem_cons, List.not_mem_nil, or_false] at hx
        rcases hx with rfl | rfl <;> exact .inl (.inr (.inr ⟨_, rfl⟩))))
      clear T4
      revert S5 T5
      generalize upd H4 a5 (.lst [.int 0, .int 0]) = H5
      intro S5 T5
      clear S4 n5
      refine ⟨Nat.zero_le _, fun a6 n6 => ?_⟩
      have S6 := sT S5 (sN (o := .tup []) n6)
      have T6 := T5.same (sN (o := .tup []) n6)
      have e6 : (upd H5 a6 (.tup [])) a6 = some (.tup []) := upd_same
      have w6 := W0 S5 n6
      clear T5
      revert S6 T6 e6
      generalize upd H5 a6 (.tup []) = H6
      intro S6 T6 e6
      clear S5 n6
      refine ⟨(by show 1 ≤ sizeLine; decide), fun a7 n7 => ?_⟩
      have S7 := sT S6 (sN (o := .tup [.ref a6]) n7)
      have e67 := sN (o := .tup [.ref a6]) n7 _ _ e6
      have T7 := (T6.same (sN (o := .tup [.ref a6]) n7)).cons (thg_tup (W0 S6 n7) upd_same (by show 1 ≤ 9; decide) (fun x hx => by
        rw [List.mem_singleton.mp hx]
        refine ⟨.inr (.inr ⟨a6, rfl, w6, .inr (.inl ⟨[], e67⟩)⟩), fun b ys e hb => ?_⟩
        cases e
        rw [e67] at hb
        cases hb
        rfl))
      clear T6 e67
      revert S7 T7
      generalize upd H6 a7 (.tup [.ref a6]) = H7
      intro S7 T7
      clear S6 n7 e6 w6
      refine ⟨(by show 6 ≤ sizeLine; decide), fun m hm => ?_⟩
      obtain ⟨v, hv, ev⟩ := at_in ([.ref a1, .ref a2, .ref a3, .ref a4, .ref a5, .ref a7] : List V) (d := way - 6) (by omega) (by show way - 6 < 6; omega)
      have s8 := sN (o := .lst [.ref a1, .ref a2, .ref a3, .ref a4, .ref a5, .ref a7]) hm
      refine ⟨_, rfl, _, _, rfl, rfl, m, _, way - 6, v, rfl, rfl, SqL.of upd_same, ev, k v _ (g0.same (sT S7 s8)) (X0.st (sT S7 s8)) (T7.same s8 v ?_)⟩
      simp only [List.mem_cons, List.not_mem_nil, or_false] at hv ⊢
      rcases hv with rfl | rfl | rfl | rfl | rfl | rfl <;> simp
    · have c2 : ¬ way < 12 := fun z => c2 (decide_eq_true z)
      refine ⟨_, rfl, _, _, rfl, rfl, ⟨by decide, by decide, by decide⟩, _, _, rfl, rfl, (by show 2 ≤ sizeLine; decide), fun a1 n1 => ?_⟩
      have S1 := sN (o := .tup [.int 0, .int 13]) n1
      have T1 : Thgs (Was H) (upd H0 a1 (.tup [.int 0, .int 13])) [.ref a1] := .cons (thg_tup (W0 sR n1) upd_same (by show 2 ≤ 9; decide) (it fun x hx => by
        simp only [List.mem_cons, List.not_mem_nil, or_false] at hx
        rcases hx with rfl | rfl <;> exact .inl (.inr (.inr ⟨_, rfl⟩)))) .nil
      revert S1 T1
      generalize upd H0 a1 (.tup [.int 0, .int 13]) = H1
      intro S1 T1
      refine ⟨(by show 2 ≤ sizeLine; decide), fun a2 n2 => ?_⟩
      have S2 := sT S1 (sN (o := .tup [.bl true, .int 0]) n2)
      have T2 := (T1.same (sN (o := .tup [.bl true, .int 0]) n2)).cons (thg_tup (W0 S1 n2) upd_same (by show 2 ≤ 9; decide) (it fun x hx => by
        simp only [List.mem_cons, List.not_mem_nil, or_false] at hx
        rcases hx with rfl | rfl
        · exact .inl (.inr (.inl ⟨_, rfl⟩))
        · exact .inl (.inr (.inr ⟨_, rfl⟩))))
      clear T1
      revert S2 T2
      generalize upd H1 a2 (.tup [.bl true, .int 0]) = H2
      intro S2 T2
      clear S1 n2
      refine ⟨(by show 3 ≤ sizeLine; decide), fun a3 n3 => ?_⟩
      have S3 := sT S2 (sN (o := .tup [.int 0, .int 0, .int 0]) n3)
      have T3 := (T2.same (sN (o := .tup [.int 0, .int 0, .int 0]) n3)).cons (thg_tup (W0 S2 n3) upd_same (by show 3 ≤ 9; decide) (it fun x hx => by
        simp only [List.mem_cons, List.not_mem_nil, or_false] at hx
        rcases hx with rfl | rfl | rfl <;> exact .inl (.inr (.inr ⟨_, rfl⟩))))
      clear T2
      revert S3 T3
      generalize upd H2 a3 (.tup [.int 0, .int 0, .int 0]) = H3
      intro S3 T3
      clear S2 n3
      refine ⟨(by show 6 ≤ sizeLine; decide), fun m hm => ?_⟩
      obtain ⟨v, hv, ev⟩ := at_in ([.int (-1), .int 13, .int (10 ^ (20 : Int).toNat - 1), .ref a1, .ref a2, .ref a3] : List V) (d := way - 12) (by omega) (by show way - 12 < 6; omega)
      have s8 := sN (o := .lst [.int (-1), .int 13, .int (10 ^ (20 : Int).toNat - 1), .ref a1, .ref a2, .ref a3]) hm
      refine ⟨_, rfl, _, _, rfl, rfl, m, _, way - 12, v, rfl, rfl, SqL.of upd_same, ev, k v _ (g0.same (sT S3 s8)) (X0.st (sT S3 s8)) ?_⟩
      have T8 := T3.same s8
      simp only [List.mem_cons, List.not_mem_nil, or_false] at hv
      rcases hv with rfl | rfl | rfl | rfl | rfl | rfl
      · exact thg_sc (.inr (.inr ⟨_, rfl⟩))
      · exact thg_sc (.inr (.inr ⟨_, rfl⟩))
      · exact thg_sc (.inr (.inr ⟨_, rfl⟩))
      all_goals exact T8 _ (by simp)
end
end Q

namespace Q
open PySem L2 QR
abbrev sOI : Stmt := inClass (top 15) 0
abbrev sOP : Stmt := inClass (top 15) 1
abbrev sOK : Stmt := inClass (top 15) 2
abbrev sOM : Stmt := inClass (top 15) 4
abbrev sOS : Stmt := inClass (top 15) 5
abbrev sNI : Stmt := inClass (top 16) 0
abbrev sNT : Stmt := inClass (top 16) 1
abbrev sNN : Stmt := inClass (top 16) 2
abbrev sNH : Stmt := inClass (top 16) 3
abbrev sNS : Stmt := inClass (top 16) 4
structure LCst (mg : Str → Option Value) : Prop where
  numbers : ∃ t, mg "NUMBERS" = some (.int 4294967296 t)
  held : ∃ t, mg "HELD_AHEAD" = some (.int 1000 t)
  max : mg "max" = none
  sorted : mg "sorted" = none
def oF (kt : Nat) (la : Addr) : List (Str × V) := [("_known_taken", .int (kt : Int)), ("_things", .ref la)]
def nF (t : Nat) (d : Addr) : List (Str × V) := [("_many_taken", .int (t : Int)), ("_kept", .ref d)]
theorem oF_k (kt k2 : Nat) (la : Addr) : putF "_known_taken" (.int (k2 : Int)) (oF kt la) = oF k2 la := by
  unfold oF putF
  rw [if_pos rfl]
theorem oF_t (kt : Nat) (la lb : Addr) : putF "_things" (.ref lb) (oF kt la) = oF kt lb := by
  unfold oF putF
  rw [if_neg (by decide +kernel)]
  unfold putF
  rw [if_pos rfl]
theorem nF_m (t t2 : Nat) (d : Addr) : putF "_many_taken" (.int (t2 : Int)) (nF t d) = nF t2 d := by
  unfold nF putF
  rw [if_pos rfl]
/-- the end at which things are put -/
structure OutX (CO : Addr) (H : Hp) (x dx la : Addr) (kt : Nat) (xs : List V) : Prop where
  at_ : H x = some (.ins CO dx (oF kt la))
  lst : H la = some (.lst xs)
  few : xs.length ≤ 9000
/-- the end at which things are taken -/
structure IncX (CN : Addr) (H : Hp) (x dx d : Addr) (t : Nat) (kvs : List (Key × V)) : Prop where
  at_ : H x = some (.ins CN dx (nF t d))
  dct : H d = some (.dK kvs)
  few : kvs.length ≤ 9000
theorem OutX.same {CO : Addr} {H H' : Hp} {x dx la : Addr} {kt : Nat} {xs : List V} (h : OutX CO H x dx la kt xs) (s : Same H H') : OutX CO H' x dx la kt xs := ⟨s _ _ h.at_, s _ _ h.lst, h.few⟩
theorem OutX.ne {CO : Addr} {H : Hp} {x dx la : Addr} {kt : Nat} {xs : List V} (h : OutX CO H x dx la kt xs) : x ≠ la := ne_of h.at_ h.lst (fun z => by cases z)
theorem IncX.same {CO : Addr} {H H' : Hp} {x dx d : Addr} {t : Nat} {kvs : List (Key × V)} (h : IncX CO H x dx d t kvs) (s : Same H H') : IncX CO H' x dx d t kvs := ⟨s _ _ h.at_, s _ _ h.dct, h.few⟩
theorem IncX.ne {CO : Addr} {H : Hp} {x dx d : Addr} {t : Nat} {kvs : List (Key × V)} (h : IncX CO H x dx d t kvs) : x ≠ d := ne_of h.at_ h.dct (fun z => by cases z)
/-- what is taken now, how many are taken then, what is held -/
def drain : Nat → Nat → List (Key × V) → List V × Nat × List (Key × V)
  | 0, t, kvs => ([], t, kvs)
  | n + 1, t, kvs => match valV kvs (.inl (t : Int)) with
    | none => ([], t, kvs)
    | some v => (v :: (drain n (t + 1) (dropK kvs (.inl (t : Int)))).1, (drain n (t + 1) (dropK kvs (.inl (t : Int)))).2)
theorem drop_lt {kvs : List (Key × V)} {k : Key} {v : V} (h : valV kvs k = some v) : (dropK kvs k).length < kvs.length := by
  unfold dropK
  induction kvs with
  | nil => cases h
  | cons p r ih =>
    by_cases e : p.1 = k
    · rw [List.filter_cons, if_neg (by simp [e])]
      exact Nat.lt_succ_of_le (List.length_filter_le _ _)
    · rw [List.filter_cons, if_pos (by simp [e])]
      rw [valV_neg e] at h
      exact Nat.succ_lt_succ (ih h)
theorem drain_fuel : ∀ (n m t : Nat) (kvs : List (Key × V)), kvs.length ≤ n → kvs.length ≤ m → drain n t kvs = drain m t kvs
  | 0, 0, t, kvs, _, _ => rfl
  | 0, m + 1, t, kvs, h, _ => by
    have : kvs = [] := List.eq_nil_of_length_eq_zero (by omega)
    subst this
    rfl
  | n + 1, 0, t, kvs, _, h => by
    have : kvs = [] := List.eq_nil_of_length_eq_zero (by omega)
    subst this
    rfl
  | n + 1, m + 1, t, kvs, h1, h2 => by
    unfold drain
    cases e : valV kvs (.inl (t : Int)) with
    | none => rfl
    | some v =>
      have l := drop_lt e
      rw [drain_fuel n m (t + 1) _ (by omega) (by omega)]
def drn (t : Nat) (kvs : List (Key × V)) : List V × Nat × List (Key × V) := drain kvs.length t kvs
theorem drn_none {t : Nat} {kvs : List (Key × V)} (h : valV kvs (.inl (t : Int)) = none) : drn t kvs = ([], t, kvs) := by
  unfold drn
  cases kvs with
  | nil => rfl
  | cons p r =>
    rw [List.length_cons]
    unfold drain
    rw [h]
theorem drn_some {t : Nat} {kvs : List (Key × V)} {v : V} (h : valV kvs (.inl (t : Int)) = some v) : drn t kvs = (v :: (drn (t + 1) (dropK kvs (.inl (t : Int)))).1, (drn (t + 1) (dropK kvs (.inl (t : Int)))).2) := by
  have l := drop_lt h
  unfold drn
  cases e : kvs.length with
  | zero => omega
  | succ n =>
    conv => lhs; unfold drain
    rw [h]
    show (v :: (drain n _ _).1, (drain n _ _).2) = _
    rw [drain_fuel n (dropK kvs (.inl (t : Int))).length (t + 1) _ (by omega) (Nat.le_refl _)]
/-- what is held behind hearing -/
def held1 (t i : Nat) (v : V) (kvs : List (Key × V)) : List (Key × V) := if t ≤ i ∧ i < t + 1000 ∧ (valV kvs (.inl (i : Int))).isSome = false then putK kvs (.inl (i : Int)) v else kvs
structure OTxt (K : PySem.W.Frag) (mg : Str → Option Value) (CO : Addr) : Prop where
  cl : Cls K CO
  nK : NoAttr K CO "_known_taken"
  nT : NoAttr K CO "_things"
  mgC : mg "Outgoing" = some (.ref CO)
structure NTxt (K : PySem.W.Frag) (mg : Str → Option Value) (CN : Addr) : Prop where
  cl : Cls K CN
  nM : NoAttr K CN "_many_taken"
  nK : NoAttr K CN "_kept"
  mgC : mg "Incoming" = some (.ref CN)
structure ODefs (K : PySem.W.Frag) (CO : Addr) where
  fI : Addr
  dI : FuncData
  FI : Fun K "__init__" "Outgoing.__init__" sOI fI dI
  bI : Binds K dI ["self"] []
  mM : Mk K CO fI
  fP : Addr
  dP : FuncData
  FP : Fun K "put" "Outgoing.put" sOP fP dP
  bP : Binds K dP ["self", "thing"] []
  mP : Meth K CO "put" fP
  fK : Addr
  dK : FuncData
  FK : Fun K "known" "Outgoing.known" sOK fK dK
  bK : Binds K dK ["self", "number"] []
  mK : Meth K CO "known" fK
  fM : Addr
  dM : FuncData
  FM : Fun K "many_put" "Outgoing.many_put" sOM fM dM
  bM : Binds K dM ["self"] []
  mP2 : Meth K CO "many_put" fM
  fS : Addr
  dS : FuncData
  FS : Fun K "state" "Outgoing.state" sOS fS dS
  bS : Binds K dS ["self"] []
  mS : Meth K CO "state" fS
structure NDefs (K : PySem.W.Frag) (CN : Addr) where
  fI : Addr
  dI : FuncData
  FI : Fun K "__init__" "Incoming.__init__" sNI fI dI
  bI : Binds K dI ["self"] []
  mM : Mk K CN fI
  fT : Addr
  dT : FuncData
  FT : Fun K "take" "Incoming.take" sNT fT dT
  bT : Binds K dT ["self", "number", "thing"] []
  mT : Meth K CN "take" fT
  fN : Addr
  dN : FuncData
  FN : Fun K "taken" "Incoming.taken" sNN fN dN
  bN : Binds K dN ["self"] []
  mN : Meth K CN "taken" fN
  fH : Addr
  dH : FuncData
  FH : Fun K "held" "Incoming.held" sNH fH dH
  bH : Binds K dH ["self"] []
  mH : Meth K CN "held" fH
  fS : Addr
  dS : FuncData
  FS : Fun K "state" "Incoming.state" sNS fS dS
  bS : Binds K dS ["self"] []
  mS : Meth K CN "state" fS
def spOI (CO : Addr) : Sp := fun vs H Q _ => ∃ (x dx : Addr), vs = [.ref x] ∧ H x = some (.ins CO dx []) ∧ ∀ la H', H la = none → la ≠ x → Bu x H H' → OutX CO H' x dx la 0 [] → Q .non H'
def spOP (CO : Addr) : Sp := fun vs H Q _ => ∃ (x dx la : Addr) (kt : Nat) (xs : List V) (v : V), vs = [.ref x, v] ∧ OutX CO H x dx la kt xs ∧ xs.length < 9000 ∧ ∀ H', Bu la H H' → OutX CO H' x dx la kt (xs ++ [v]) → Q (.int ((kt + xs.length : Nat) : Int)) H'
def spOM (CO : Addr) : Sp := fun vs H Q _ => ∃ (x dx la : Addr) (kt : Nat) (xs : List V), vs = [.ref x] ∧ OutX CO H x dx la kt xs ∧ Q (.int ((kt + xs.length : Nat) : Int)) H
def spOS (CO : Addr) : Sp := fun vs H Q _ => ∃ (x dx la : Addr) (kt : Nat) (xs : List V), vs = [.ref x] ∧ OutX CO H x dx la kt xs ∧ ∀ t u H', Same H H' → H' t = some (.tup [.int (kt : Int), .ref u]) → H' u = some (.tup xs) → Q (.ref t) H'
def spOK (CO CX : Addr) : Sp := fun vs H Q E => ∃ (S : Addr → Prop) (x dx la : Addr) (kt : Nat) (xs : List V) (v : V), vs = [.ref x, v] ∧ OutX CO H x dx la kt xs ∧ KnA S H v ∧
  (∀ i : Nat, v = .int (i : Int) → i ≤ kt + xs.length → ∀ lb H', H lb = none → Bu x H H' → OutX CO H' x dx lb (kt + (i - kt)) (xs.drop (i - kt)) → Q (.int ((i - kt : Nat) : Int)) H') ∧ (numB ((kt + xs.length : Nat) + 1 : Int) v = false → E (.ref CX) none H)
def spNI (CN : Addr) : Sp := fun vs H Q _ => ∃ (x dx : Addr), vs = [.ref x] ∧ H x = some (.ins CN dx []) ∧ ∀ d H', H d = none → d ≠ x → Bu x H H' → IncX CN H' x dx d 0 [] → Q .non H'
def spNN (CN : Addr) : Sp := fun vs H Q _ => ∃ (x dx d : Addr) (t : Nat) (kvs : List (Key × V)), vs = [.ref x] ∧ IncX CN H x dx d t kvs ∧ Q (.int (t : Int)) H
def spNT (CN CX : Addr) : Sp := fun vs H Q E => ∃ (S : Addr → Prop) (x dx d : Addr) (t : Nat) (kvs : List (Key × V)) (v thing : V), vs = [.ref x, v, thing] ∧ IncX CN H x dx d t kvs ∧ kvs.length < 9000 ∧ KnA S H v ∧
  (∀ i : Nat, v = .int (i : Int) → i < 4294967296 → ∀ z H', H z = none → B2 x d H H' → H' z = some (.lst (drn t (held1 t i thing kvs)).1) → IncX CN H' x dx d (drn t (held1 t i thing kvs)).2.1 (drn t (held1 t i thing kvs)).2.2 → Q (.ref z) H') ∧ (numB 4294967296 v = false → E (.ref CX) none H)
section
variable {P : Program} {w : World} {K : PySem.W.Frag} {mg : Str → Option Value} {base : Heap}
theorem scOI : FnScope ["self"] ["self"] (defScope sOI) := ⟨rfl, rfl, rfl, by decide +kernel, rfl, by decide +kernel, by decide +kernel⟩
theorem ok_oI {CO : Addr} (T : OTxt K mg CO) (M : ODefs K CO) : FnOk P w K mg base CX0 1 M.fI M.dI ["self"] (spOI CO) := by
  refine M.FI.ok scOI (fun vs H Q E h => ?_) (fun cdv A outer s H vs Q E hr h => ?_)
  · obtain ⟨x, dx, rfl, _⟩ := h
    rfl
  · obtain ⟨x, dx, rfl, e, k⟩ := h
    refine ⟨_, pss_cons (ps_fld (pv 0) pe_int rfl) (pss_one (ps_fld (pv 0) (pe_lst pa_nil) rfl)), ?_⟩
    refine ⟨_, rfl, x, CO, dx, _, rfl, e, T.cl, T.nK, (by show 0 < 1000; decide), ?_⟩
    refine ⟨Nat.zero_le _, fun la hla => ?_⟩
    have nx : la ≠ x := fun z => by rw [z, upd_same] at hla; cases hla
    have hla' : H la = none := by rw [upd_ne nx] at hla; exact hla
    refine ⟨_, rfl, x, CO, dx, _, rfl, by rw [upd_ne nx.symm, upd_same], T.cl, T.nT, (by show 1 < 1000; decide), ?_⟩
    refine k la _ hla' nx (fun b o eb n => by rw [upd_ne n, upd_ne (ne_of_none eb hla'), upd_ne n]; exact eb) ⟨?_, by rw [upd_ne nx, upd_same], Nat.zero_le _⟩
    rw [upd_same]
    show some (HO.ins CO dx (putF "_things" (.ref la) [("_known_taken", V.int ((0 : Nat) : Int))])) = _
    unfold putF
    rw [if_neg (by decide +kernel)]
    rfl
theorem scOM : FnScope ["self"] ["self"] (defScope sOM) := ⟨rfl, rfl, rfl, by decide +kernel, rfl, by decide +kernel, by decide +kernel⟩
theorem ok_oM {CO : Addr} (T : OTxt K mg CO) (M : ODefs K CO) (B : Bts mg) : FnOk P w K mg base CX0 1 M.fM M.dM ["self"] (spOM CO) := by
  refine M.FM.ok scOM (fun vs H Q E h => ?_) (fun cdv A outer s H vs Q E hr h => ?_)
  · obtain ⟨x, dx, la, kt, xs, rfl, _⟩ := h
    rfl
  · obtain ⟨x, dx, la, kt, xs, rfl, o, k⟩ := h
    refine ⟨_, pss_one (ps_ret (pe_op op_add (pe_fld (pv 0) rfl) (pe_callB call_len_seq (by rfl) B.len PySem.boot_len (pa_cons (pe_fld (pv 0) rfl) pa_nil)))), ?_⟩
    exact ⟨_, rfl, x, CO, dx, _, _, rfl, o.at_, T.cl, T.nK, rfl, _, rfl, x, CO, dx, _, _, rfl, o.at_, T.cl, T.nT, rfl, la, _, rfl, .inl (SqL.of o.lst), _, _, rfl, rfl, k⟩
theorem scOP : FnScope ["self", "thing"] ["self", "thing"] (defScope sOP) := ⟨rfl, rfl, rfl, by decide +kernel, rfl, by decide +kernel, by decide +kernel⟩
theorem ok_oP {CO : Addr} (T : OTxt K mg CO) (M : ODefs K CO) (B : Bts mg) : FnOk P w K mg base CX0 2 M.fP M.dP ["self", "thing"] (spOP CO) := by
  have GM : FnOk P w K mg base CX0 1 M.fM M.dM ["self"] (spOM CO) := ok_oM T M B
  refine M.FP.ok scOP (fun vs H Q E h => ?_) (fun cdv A outer s H vs Q E hr h => ?_)
  · obtain ⟨x, dx, la, kt, xs, v, rfl, _⟩ := h
    rfl
  · obtain ⟨x, dx, la, kt, xs, v, rfl, o, lt, k⟩ := h
    refine ⟨_, pss_cons (ps_expr (pe_bm PySem.F.plainAttrs_list PySem.F.slot_list_append PySem.F.type_list_append mt_append (pe_fld (pv 0) rfl) (pa_cons (pv 1) pa_nil)))
      (pss_one (ps_ret (pe_op op_sub (pe_meth0 (pv 0) T.cl M.mP2 GM hr M.bM .nil pass0) pe_int))), ?_⟩
    refine ⟨_, rfl, x, CO, dx, _, _, rfl, o.at_, T.cl, T.nT, rfl, .inl ⟨rfl, _, SqL.of o.lst⟩, _, rfl, la, _, _, rfl, rfl, o.lst, size_ok (by omega), ?_⟩
    have o2 : OutX CO (upd H la (.lst (xs ++ [v]))) x dx la kt (xs ++ [v]) := ⟨by rw [upd_ne o.ne]; exact o.at_, upd_same, by rw [List.length_append]; show _ + 1 ≤ _; omega⟩
    refine ⟨_, rfl, x, dx, _, rfl, o2.at_, rfl, x, dx, la, kt, xs ++ [v], rfl, o2, _, _, rfl, rfl, ?_⟩
    have e : ((kt + (xs ++ [v]).length : Nat) : Int) - 1 = ((kt + xs.length : Nat) : Int) := by
      rw [List.length_append]
      show ((kt + (xs.length + 1) : Nat) : Int) - 1 = _
      omega
    show Q (V.int (((kt + (xs ++ [v]).length : Nat) : Int) - 1)) _
    rw [e]
    exact k _ (Bu.rf.at) o2
theorem scOS : FnScope ["self"] ["self"] (defScope sOS) := ⟨rfl, rfl, rfl, by decide +kernel, rfl, by decide +kernel, by decide +kernel⟩
theorem ok_oS {CO : Addr} (T : OTxt K mg CO) (M : ODefs K CO) (B : Bts mg) : FnOk P w K mg base CX0 1 M.fS M.dS ["self"] (spOS CO) := by
  refine M.FS.ok scOS (fun vs H Q E h => ?_) (fun cdv A outer s H vs Q E hr h => ?_)
  · obtain ⟨x, dx, la, kt, xs, rfl, _⟩ := h
    rfl
  · obtain ⟨x, dx, la, kt, xs, rfl, o, k⟩ := h
    refine ⟨_, pss_one (ps_ret (pe_tup (pa_cons (pe_fld (pv 0) rfl) (pa_cons (pe_callTy call_tuple_of (by rfl) B.tuple PyProof.Rows.boot_tuple (pa_cons (pe_fld (pv 0) rfl) pa_nil)) pa_nil)))), ?_⟩
    refine ⟨_, rfl, x, CO, dx, _, _, rfl, o.at_, T.cl, T.nK, rfl, _, rfl, x, CO, dx, _, _, rfl, o.at_, T.cl, T.nT, rfl, la, _, rfl, .inl ⟨SqL.of o.lst, fun u hu => ?_⟩⟩
    exact ⟨(by show 2 ≤ sizeLine; decide), fun t ht => k t u _ (sT (sN hu) (sN ht)) upd_same (sN ht _ _ upd_same)⟩
theorem scOK : FnScope ["self", "number", "let_go"] ["self", "number"] (defScope sOK) := ⟨rfl, rfl, rfl, by decide +kernel, rfl, by decide +kernel, by decide +kernel⟩
theorem ok_oK {CO CX fX fN fP : Addr} {dN dP : FuncData} (T : OTxt K mg CO) (M : ODefs K CO) (B : Bts mg) (L : LCst mg) (XS : QS.SupC P K mg CX fX "NoNumber.__init__") (gX : mg "NoNumber" = some (.ref CX)) (DN : Df K mg "is_number_below" sNum ["limit", "thing"] fN dN) (DP : Df K mg "is_plain_int" sPlain ["thing"] fP dP) : FnOk P w K mg base (L2.CX P w) 3 M.fK M.dK ["self", "number"] (spOK CO CX) := by
  have GM : FnOk P w K mg base CX0 1 M.fM M.dM ["self"] (spOM CO) := ok_oM T M B
  have GN : FnOk P w K mg base CX0 2 fN dN ["limit", "thing"] (spNum K) := ok_num DN B DP
  refine M.FK.okX scOK (fun vs H Q E h => ?_) (fun cdv A outer s H vs Q E hr h => ?_)
  · obtain ⟨S, x, dx, la, kt, xs, v, rfl, _⟩ := h
    rfl
  · obtain ⟨S, x, dx, la, kt, xs, v, rfl, o, kn, k1, k2⟩ := h
    have nd := scOK.nd
    have hr1 : Room 1 _ := hr.mono (by decide)
    refine ⟨_, pss_cons (ps_if (pt_not (pt_val (pe_call GN hr rfl DN.m DN.k DN.b .nil pass0 (pa_cons (pe_op op_add (pe_meth0 (pv 0) T.cl M.mP2 GM hr1 M.bM .nil pass0) pe_int) (pa_cons (pv 1) pa_nil))))) (pss_one (ps_raise rfl (takes_of rfl rfl rfl rfl) (QS.pmk_sup XS hr rfl gX))) pss_nil)
      (pss_cons (ps_set (i := 2) nd rfl (.inl rfl) (pe_callB (call_max2 rfl) (by rfl) L.max PyProof.Rows.boot_max (pa_cons pe_int (pa_cons (pe_op op_sub (pv 1) (pe_fld (pv 0) rfl)) pa_nil))))
      (pss_cons (ps_fld (pv 0) (pe_slice sl_list (pe_fld (pv 0) rfl) (po_some (pv 2)) po_none) rfl)
      (pss_cons (ps_fldaug (pv 0) (pv 2) in_add)
      (pss_one (ps_ret (pv 2)))))), ?_⟩
    refine ⟨_, rfl, x, dx, _, rfl, o.at_, rfl, x, dx, la, kt, xs, rfl, o, _, _, rfl, rfl, _, rfl, _, _, rfl, ?_⟩
    by_cases nb : numB ((kt + xs.length : Nat) + 1 : Int) v = true
    case neg =>
      have nb : numB ((kt + xs.length : Nat) + 1 : Int) v = false := by
        cases e : numB ((kt + xs.length : Nat) + 1 : Int) v with
        | false => rfl
        | true => exact absurd e nb
      rcases kn.no (K := K) with ⟨j, rfl⟩ | ⟨e, ni⟩
      · refine .inl ⟨j, rfl, _, rfl, ?_⟩
        have nb' : (decide (0 ≤ j) && decide (j < ((kt + xs.length : Nat) : Int) + 1)) = false := nb
        rw [nb']
        exact iteT (k2 nb)
      · exact .inr ⟨ni, _, rfl, iteT (k2 nb)⟩
    cases v with
    | int j =>
      have nb' : (decide (0 ≤ j) && decide (j < ((kt + xs.length : Nat) : Int) + 1)) = true := nb
      have nb2 := nb'
      rw [Bool.and_eq_true, decide_eq_true_eq, decide_eq_true_eq] at nb2
      obtain ⟨i, rfl⟩ : ∃ i : Nat, j = (i : Int) := ⟨j.toNat, by omega⟩
      refine .inl ⟨(i : Int), rfl, _, rfl, ?_⟩
      rw [nb']
      refine iteF ?_
      refine ⟨_, rfl, _, rfl, x, CO, dx, _, _, rfl, o.at_, T.cl, T.nK, rfl, _, _, rfl, rfl, _, _, rfl, ?_⟩
      have em : (if (i : Int) - (kt : Int) > 0 then (i : Int) - (kt : Int) else 0) = ((i - kt : Nat) : Int) := by
        by_cases c : (i : Int) - (kt : Int) > 0
        · rw [if_pos c]; omega
        · rw [if_neg c]; omega
      show gName 2 (V.int (if (i : Int) - (kt : Int) > 0 then (i : Int) - (kt : Int) else 0)) _ _ _
      rw [em]
      refine ⟨_, rfl, x, CO, dx, _, _, rfl, o.at_, T.cl, T.nT, rfl, _, rfl, _, rfl, la, xs, rfl, SqL.of o.lst, fun lb hlb => ?_⟩
      rw [cut_fromV]
      have nx : x ≠ lb := ne_of_none o.at_ hlb
      refine ⟨_, rfl, x, CO, dx, _, rfl, by rw [upd_ne nx]; exact o.at_, T.cl, T.nT, (by show 2 < 1000; decide), ?_⟩
      rw [oF_t]
      refine ⟨_, rfl, x, CO, dx, _, _, rfl, upd_same, T.cl, T.nK, rfl, _, rfl, _, _, rfl, rfl, dx, _, upd_same, (by show 2 < 1000; decide), ?_⟩
      rw [show ((kt : Nat) : Int) + ((i - kt : Nat) : Int) = ((kt + (i - kt) : Nat) : Int) by omega, oF_k]
      refine ⟨_, rfl, k1 i rfl (by omega) lb _ hlb (fun b u eb n => ?_) ⟨upd_same, by rw [upd_ne nx.symm, upd_ne nx.symm, upd_same], by rw [List.length_drop]; have := o.few; omega⟩⟩
      rw [upd_ne n, upd_ne n, upd_ne (ne_of_none eb hlb)]
      exact eb
    | _ => cases nb
theorem scNI : FnScope ["self"] ["self"] (defScope sNI) := ⟨rfl, rfl, rfl, by decide +kernel, rfl, by decide +kernel, by decide +kernel⟩
theorem ok_nI {CN : Addr} (T : NTxt K mg CN) (M : NDefs K CN) : FnOk P w K mg base CX0 1 M.fI M.dI ["self"] (spNI CN) := by
  refine M.FI.ok scNI (fun vs H Q E h => ?_) (fun cdv A outer s H vs Q E hr h => ?_)
  · obtain ⟨x, dx, rfl, _⟩ := h
    rfl
  · obtain ⟨x, dx, rfl, e, k⟩ := h
    refine ⟨_, pss_cons (ps_fld (pv 0) pe_int rfl) (pss_one (ps_fld (pv 0) pe_dnewK rfl)), ?_⟩
    refine ⟨_, rfl, x, CN, dx, _, rfl, e, T.cl, T.nM, (by show 0 < 1000; decide), ?_⟩
    refine fun d hd => ?_
    have nx : d ≠ x := fun z => by rw [z, upd_same] at hd; cases hd
    have hd' : H d = none := by rw [upd_ne nx] at hd; exact hd
    refine ⟨_, rfl, x, CN, dx, _, rfl, by rw [upd_ne nx.symm, upd_same], T.cl, T.nK, (by show 1 < 1000; decide), ?_⟩
    refine k d _ hd' nx (fun b o eb n => by rw [upd_ne n, upd_ne (ne_of_none eb hd'), upd_ne n]; exact eb) ⟨?_, by rw [upd_ne nx, upd_same], Nat.zero_le _⟩
    rw [upd_same]
    show some (HO.ins CN dx (putF "_kept" (.ref d) [("_many_taken", V.int ((0 : Nat) : Int))])) = _
    unfold putF
    rw [if_neg (by decide +kernel)]
    rfl
theorem scNN : FnScope ["self"] ["self"] (defScope sNN) := ⟨rfl, rfl, rfl, by decide +kernel, rfl, by decide +kernel, by decide +kernel⟩
theorem ok_nN {CN : Addr} (T : NTxt K mg CN) (M : NDefs K CN) : FnOk P w K mg base CX0 1 M.fN M.dN ["self"] (spNN CN) := by
  refine M.FN.ok scNN (fun vs H Q E h => ?_) (fun cdv A outer s H vs Q E hr h => ?_)
  · obtain ⟨x, dx, d, t, kvs, rfl, _⟩ := h
    rfl
  · obtain ⟨x, dx, d, t, kvs, rfl, o, k⟩ := h
    refine ⟨_, pss_one (ps_ret (pe_fld (pv 0) rfl)), ?_⟩
    exact ⟨_, rfl, x, CN, dx, _, _, rfl, o.at_, T.cl, T.nM, rfl, k⟩
theorem scNT : FnScope ["self", "number", "thing", "now"] ["self", "number", "thing"] (defScope sNT) := ⟨rfl, rfl, rfl, by decide +kernel, rfl, by decide +kernel, by decide +kernel⟩
theorem ok_nT {CN CX fX fN fP : Addr} {dN dP : FuncData} (T : NTxt K mg CN) (M : NDefs K CN) (B : Bts mg) (L : LCst mg) (XS : QS.SupC P K mg CX fX "NoNumber.__init__") (gX : mg "NoNumber" = some (.ref CX)) (DN : Df K mg "is_number_below" sNum ["limit", "thing"] fN dN) (DP : Df K mg "is_plain_int" sPlain ["thing"] fP dP) : FnOk P w K mg base (L2.CX P w) 3 M.fT M.dT ["self", "number", "thing"] (spNT CN CX) := by
  have GN : FnOk P w K mg base CX0 2 fN dN ["limit", "thing"] (spNum K) := ok_num DN B DP
  obtain ⟨t1, h1⟩ := L.numbers
  obtain ⟨t2, h2⟩ := L.held
  refine M.FT.okX scNT (fun vs H Q E h => ?_) (fun cdv A outer s H vs Q E hr h => ?_)
  · obtain ⟨S, x, dx, d, t, kvs, v, thing, rfl, _⟩ := h
    rfl
  · obtain ⟨S, x, dx, d, t, kvs, v, thing, rfl, o, few, kn, k1, k2⟩ := h
    have nd := scNT.nd
    have hu := hu_of hr
    refine ⟨_, pss_cons (ps_if (pt_not (pt_val (pe_call GN hr rfl DN.m DN.k DN.b .nil pass0 (pa_cons (pe_glob (v := .int 4294967296) rfl h1 ⟨_, rfl⟩) (pa_cons (pv 1) pa_nil))))) (pss_one (ps_raise rfl (takes_of rfl rfl rfl rfl) (QS.pmk_sup XS hr rfl gX))) pss_nil)
      (C8.pss_cut (ps_if (PW.pt (pw_and (pt_chain op_le op_lt (pe_fld (pv 0) rfl) (pv 1) (pe_op op_add (pe_fld (pv 0) rfl) (pe_glob (v := .int 1000) rfl h2 ⟨_, rfl⟩))) (pw_and1 (pt_cmp (pc_dnotin hu (pv 1) (pe_fld (pv 0) rfl)))))) (pss_one (ps_dput hu (pe_fld (pv 0) rfl) (pv 1) (pv 2) rfl)) pss_nil)
      (pss_cons (ps_set (i := 3) nd rfl (.inl rfl) (pe_lst pa_nil))
      (pss_cons (ps_while (passes_of rfl) (pt_cmp (pc_din hu (pe_fld (pv 0) rfl) (pe_fld (pv 0) rfl)))
        (pss_cons (ps_expr (pe_bm PySem.F.plainAttrs_list PySem.F.slot_list_append PySem.F.type_list_append mt_append (pv 3) (pa_cons (pe_dpop1 (pe_fld (pv 0) rfl) (pe_fld (pv 0) rfl) ⟨rfl, rfl, rfl, rfl⟩) pa_nil)))
        (pss_one (ps_fldaug (pv 0) pe_int in_add))))
      (pss_one (ps_ret (pv 3)))))), ?_⟩
    refine ⟨_, rfl, _, _, rfl, ?_⟩
    by_cases nb : numB 4294967296 v = true
    case neg =>
      have nb : numB 4294967296 v = false := by
        cases e : numB 4294967296 v with
        | false => rfl
        | true => exact absurd e nb
      rcases kn.no (K := K) with ⟨j, rfl⟩ | ⟨e, ni⟩
      · refine .inl ⟨j, rfl, _, rfl, ?_⟩
        have nb' : (decide (0 ≤ j) && decide (j < 4294967296)) = false := nb
        rw [nb']
        exact iteT (k2 nb)
      · exact .inr ⟨ni, _, rfl, iteT (k2 nb)⟩
    cases v with
    | int j =>
      have nb' : (decide (0 ≤ j) && decide (j < 4294967296)) = true := nb
      have nb2 := nb'
      rw [Bool.and_eq_true, decide_eq_true_eq, decide_eq_true_eq] at nb2
      obtain ⟨i, rfl⟩ : ∃ i : Nat, j = (i : Int) := ⟨j.toNat, by omega⟩
      refine .inl ⟨(i : Int), rfl, _, rfl, ?_⟩
      rw [nb']
      refine iteF ?_
      have kk := k1 i rfl (by omega)
      clear k1 k2 nb nb' kn
      refine ⟨fun σ H' => σ = [some (.ref x), some (.int (i : Int)), some thing, none] ∧ IncX CN H' x dx d t (held1 t i thing kvs) ∧ B2 x d H H', ?_, ?_⟩
      · refine ⟨_, rfl, x, CN, dx, _, _, rfl, o.at_, T.cl, T.nM, rfl, _, rfl, _, _, rfl, rfl, _, rfl, ?_⟩
        by_cases c1 : t ≤ i
        case neg =>
          rw [decide_eq_false (by omega : ¬ ((t : Int) ≤ (i : Int)))]
          exact iteF ⟨_, rfl, iteF ⟨rfl, by unfold held1; rw [if_neg (fun z => c1 z.1)]; exact o, .rf⟩⟩
        rw [decide_eq_true (by omega : ((t : Int) ≤ (i : Int)))]
        refine iteT ⟨_, rfl, x, CN, dx, _, _, rfl, o.at_, T.cl, T.nM, rfl, _, _, rfl, rfl, _, _, rfl, rfl, ?_⟩
        refine ⟨_, rfl, ite2 (fun c2 => ?_) (fun c2 => ?_)⟩
        case refine_2 =>
          have c2 : ¬ ((i : Int) < (t : Int) + 1000) := fun z => c2 (decide_eq_true z)
          exact ⟨rfl, by unfold held1; rw [if_neg (fun z => c2 (by have := z.2.1; omega))]; exact o, .rf⟩
        have c2 : (i : Int) < (t : Int) + 1000 := of_decide_eq_true c2
        have c2 : i < t + 1000 := by omega
        refine ⟨_, rfl, _, rfl, x, CN, dx, _, _, rfl, o.at_, T.cl, T.nK, rfl, d, _, rfl, DGet.k (k := Sum.inl (i : Int)) o.dct, _, rfl, ?_⟩
        cases ev : valV kvs (Sum.inl (i : Int) : Key) with
        | some u =>
          exact iteF ⟨rfl, by unfold held1; rw [if_neg (fun z => by rw [ev] at z; cases z.2.2)]; exact o, .rf⟩
        | none =>
          refine iteT ⟨_, rfl, _, rfl, x, CN, dx, _, _, rfl, o.at_, T.cl, T.nK, rfl, _, rfl, d, _, rfl, DPut.k (k := Sum.inl (i : Int)) o.dct (size_ok (by omega)), rfl, ?_, fun b u e n1 n2 => by rw [upd_ne n2]; exact e⟩
          unfold held1
          rw [if_pos ⟨c1, c2, by rw [ev]; rfl⟩]
          refine ⟨by rw [upd_ne o.ne]; exact o.at_, upd_same, ?_⟩
          rw [putK_new _ ev, List.length_append]
          show _ + 1 ≤ _
          omega
      · rintro σ H1 ⟨rfl, o1, b1⟩
        refine ⟨Nat.zero_le _, fun z hz => ?_⟩
        have s2 := sN (o := .lst []) hz
        have hz0 : H z = none := by
          cases e : H z with
          | none => rfl
          | some u =>
            have n1 : z ≠ x := (ne_of_none o1.at_ hz).symm
            have n2 : z ≠ d := (ne_of_none o1.dct hz).symm
            rw [b1 z u e n1 n2] at hz
            cases hz
        refine ⟨fun m σ H' => ∃ (t' : Nat) (kvs' : List (Key × V)) (acc : List V), σ = [some (.ref x), some (.int (i : Int)), some thing, some (.ref z)] ∧ IncX CN H' x dx d t' kvs' ∧ H' z = some (.lst acc) ∧ drn t (held1 t i thing kvs) = (acc ++ (drn t' kvs').1, (drn t' kvs').2) ∧ B2 x d H H' ∧ acc.length + kvs'.length ≤ 9000 ∧ m = kvs'.length, ⟨_, t, _, [], rfl, o1.same s2, upd_same, rfl, b1.st s2, by have := o1.few; show 0 + _ ≤ _; omega, rfl⟩, ?_⟩
        rintro m σ H2 ⟨t', kvs', acc, rfl, o2, ez, ed, b2, fw, rfl⟩
        refine ⟨_, rfl, x, CN, dx, _, _, rfl, o2.at_, T.cl, T.nM, rfl, _, rfl, x, CN, dx, _, _, rfl, o2.at_, T.cl, T.nK, rfl, d, _, rfl, DGet.k (k := Sum.inl (t' : Int)) o2.dct, _, rfl, ?_⟩
        have nzd : z ≠ d := ne_of ez o2.dct (fun q => by cases q)
        have nzx : z ≠ x := ne_of ez o2.at_ (fun q => by cases q)
        cases ev : valV kvs' (Sum.inl (t' : Int) : Key) with
        | none =>
          refine iteF ⟨_, rfl, ?_⟩
          rw [drn_none ev, List.append_nil] at ed
          rw [ed] at kk
          exact kk z H2 hz0 b2 ez o2
        | some v =>
          have lt := drop_lt ev
          refine iteT ⟨fun σ' H' => σ' = [some (.ref x), some (.int (i : Int)), some thing, some (.ref z)] ∧ IncX CN H' x dx d (t' + 1) (dropK kvs' (.inl (t' : Int))) ∧ H' z = some (.lst (acc ++ [v])) ∧ B2 x d H H', ?_, ?_⟩
          · rintro σ' H' ⟨rfl, o3, e3, b3⟩
            refine ⟨_, lt, t' + 1, _, acc ++ [v], rfl, o3, e3, ?_, b3, ?_, rfl⟩
            · rw [ed, drn_some ev, List.append_assoc]
              rfl
            · rw [List.length_append]
              show _ + 1 + _ ≤ _
              omega
          refine ⟨_, rfl, .inl ⟨rfl, _, SqL.of ez⟩, _, rfl, x, CN, dx, _, _, rfl, o2.at_, T.cl, T.nK, rfl, d, rfl, .inl ⟨_, .inl o2.dct⟩, _, rfl, x, CN, dx, _, _, rfl, o2.at_, T.cl, T.nM, rfl, kvs', Sum.inl (t' : Int), v, o2.dct, rfl, ev, ?_⟩
          refine ⟨z, acc, v, rfl, rfl, by rw [upd_ne nzd]; exact ez, size_ok (by omega), ?_⟩
          have ex : (upd (upd H2 d (.dK (dropK kvs' (.inl (t' : Int))))) z (.lst (acc ++ [v]))) x = some (.ins CN dx (nF t' d)) := by
            rw [upd_ne nzx.symm, upd_ne o2.ne]
            exact o2.at_
          refine ⟨_, rfl, x, CN, dx, _, _, rfl, ex, T.cl, T.nM, rfl, _, _, rfl, rfl, dx, _, ex, (by show 2 < 1000; decide), rfl, ⟨?_, ?_, by have := o2.few; omega⟩, ?_, ?_⟩
          · rw [upd_same]
            exact congrArg (fun l => some (HO.ins CN dx l)) (nF_m t' (t' + 1) d)
          · rw [upd_ne o2.ne.symm, upd_ne nzd.symm, upd_same]
          · rw [upd_ne nzx, upd_same]
          · intro b u e n1 n2
            have nbz : b ≠ z := ne_of_none e hz0
            rw [upd_ne n1, upd_ne nbz, upd_ne n2]
            exact b2 b u e n1 n2
    | _ => cases nb
end
end Q

namespace L2
open PySem PySem.Spec PyProof.Rows
theorem pe_fldK {X : Cx} {K : PySem.W.Frag} {e : Expr} {f : Str} {pos : Pos} {ta : TE} (hK : X.K = K) (he : PE X e ta) (hb : attributeBase e f X.env (eval e X.env) = eval e X.env) : PE X (.Attribute e f pos) (tFld K ta f) := by
  subst hK
  exact pe_fld he hb
end L2
namespace Q
open PySem L2 QR
abbrev sKnown : Stmt := top 64
abbrev sTaken : Stmt := top 65
def spNH (CN : Addr) : Sp := fun vs H Q _ => ∃ (x dx d : Addr) (t : Nat), vs = [.ref x] ∧ IncX CN H x dx d t [] ∧ ∀ u H', Same H H' → H' u = some (.tup []) → Q (.ref u) H'
def spNS (CN : Addr) : Sp := fun vs H Q _ => ∃ (x dx d : Addr) (t : Nat), vs = [.ref x] ∧ IncX CN H x dx d t [] ∧ ∀ r u H', Same H H' → H' r = some (.tup [.int (t : Int), .ref u]) → H' u = some (.tup []) → Q (.ref r) H'
def spKnown (CO : Addr) : Sp := fun vs H Q _ => ∃ (S : Addr → Prop) (x dx la : Addr) (kt : Nat) (xs : List V) (v : V), vs = [.ref x, v] ∧ OutX CO H x dx la kt xs ∧ KnA S H v ∧
  (∀ i : Nat, v = .int (i : Int) → i ≤ kt + xs.length → ∀ r lb H', H lb = none → Bu x H H' → OutX CO H' x dx lb (kt + (i - kt)) (xs.drop (i - kt)) → H' r = some (.tup [.str "told", .int ((i - kt : Nat) : Int)]) → Q (.ref r) H') ∧
  (numB ((kt + xs.length : Nat) + 1 : Int) v = false → ∀ r H', Same H H' → H' r = some (.tup [.str "NoNumber"]) → Q (.ref r) H')
def spTaken (CN : Addr) : Sp := fun vs H Q _ => ∃ (S : Addr → Prop) (x dx d : Addr) (t : Nat) (v : V), vs = [.ref x, v] ∧ IncX CN H x dx d t [] ∧ KnA S H v ∧ (∀ i : Nat, v = .int (i : Int) → ¬ (t < i ∧ i < t + 1000)) ∧
  (v = .int (t : Int) → t < 4294967296 → ∀ r z th H', B2 x d H H' → IncX CN H' x dx d (t + 1) [] → H' r = some (.tup [.str "told", .ref z]) → H' z = some (.lst [.ref th]) → H' th = some (.tup [.str "x", .int (t : Int)]) → Q (.ref r) H') ∧
  (∀ i : Nat, v = .int (i : Int) → i < 4294967296 → ¬ (t ≤ i ∧ i < t + 1000) → ∀ r z H', B2 x d H H' → IncX CN H' x dx d t [] → H' r = some (.tup [.str "told", .ref z]) → H' z = some (.lst []) → Q (.ref r) H') ∧
  (numB 4294967296 v = false → ∀ r H', Same H H' → H' r = some (.tup [.str "NoNumber"]) → Q (.ref r) H')
theorem drn_nil (t : Nat) : drn t [] = ([], t, []) := drn_none valV_nil
theorem held_one (t : Nat) (v : V) : held1 t t v [] = [(.inl (t : Int), v)] := by
  unfold held1
  rw [if_pos ⟨Nat.le_refl _, by omega, rfl⟩]
  rfl
theorem held_no {t i : Nat} (v : V) (h : ¬ (t ≤ i ∧ i < t + 1000)) : held1 t i v [] = [] := by
  unfold held1
  rw [if_neg (fun z => h ⟨z.1, z.2.1⟩)]
theorem drn_one (t : Nat) (v : V) : drn t [((.inl (t : Int) : Key), v)] = ([v], t + 1, []) := by
  have e : valV [((.inl (t : Int) : Key), v)] (.inl (t : Int)) = some v := valV_pos rfl
  rw [drn_some e]
  have d : dropK [((.inl (t : Int) : Key), v)] (.inl (t : Int)) = [] := by
    unfold dropK
    rw [List.filter_cons, if_neg (by simp)]
    rfl
  rw [d, drn_nil]
theorem ne_of_none' {H : Hp} {a b : Addr} {o : HO} (h : H a = some o) (n : H b = none) : b ≠ a := fun e => by rw [e, h] at n; cases n
section
variable {P : Program} {w : World} {K : PySem.W.Frag} {mg : Str → Option Value} {base : Heap}
theorem scNH : FnScope ["self"] ["self"] (defScope sNH) := ⟨rfl, rfl, rfl, by decide +kernel, rfl, by decide +kernel, by decide +kernel⟩
theorem ok_nH {CN : Addr} (T : NTxt K mg CN) (M : NDefs K CN) (B : Bts mg) (L : LCst mg) : FnOk P w K mg base CX0 1 M.fH M.dH ["self"] (spNH CN) := by
  refine M.FH.ok scNH (fun vs H Q E h => ?_) (fun cdv A outer s H vs Q E hr h => ?_)
  · obtain ⟨x, dx, d, t, rfl, _⟩ := h
    rfl
  · obtain ⟨x, dx, d, t, rfl, o, k⟩ := h
    refine ⟨_, pss_one (ps_ret (pe_callTy call_tuple_of (by rfl) B.tuple PyProof.Rows.boot_tuple (pa_cons (pe_callB cr_sortedI (by rfl) L.sorted PyProof.Rows.boot_sorted (pa_cons (pe_callTy (call_listD rfl) (by rfl) B.list PyProof.Rows.boot_list (pa_cons (pe_fld (pv 0) rfl) pa_nil)) pa_nil)) pa_nil))), ?_⟩
    refine ⟨_, rfl, x, CN, dx, _, _, rfl, o.at_, T.cl, T.nK, rfl, d, _, rfl, .inl o.dct, fun a ha => ?_⟩
    have s1 := sN (o := .lst []) ha
    refine ⟨a, [], rfl, SqL.of upd_same, fun ns' b hp _ hb => ?_⟩
    have e : ns' = [] := List.Perm.eq_nil hp
    subst e
    have s2 := sT s1 (sN (o := .lst []) hb)
    exact ⟨b, _, rfl, .inl ⟨SqL.of upd_same, fun u hu => k u _ (sT s2 (sN hu)) upd_same⟩⟩
theorem scNS : FnScope ["self", "number"] ["self"] (defScope sNS) := ⟨rfl, rfl, rfl, by decide +kernel, rfl, by decide +kernel, by decide +kernel⟩
theorem ok_nS {CN : Addr} (T : NTxt K mg CN) (M : NDefs K CN) (B : Bts mg) (L : LCst mg) : FnOk P w K mg base CX0 2 M.fS M.dS ["self"] (spNS CN) := by
  have GH : FnOk P w K mg base CX0 1 M.fH M.dH ["self"] (spNH CN) := ok_nH T M B L
  refine M.FS.ok scNS (fun vs H Q E h => ?_) (fun cdv A outer s H vs Q E hr h => ?_)
  · obtain ⟨x, dx, d, t, rfl, _⟩ := h
    rfl
  · obtain ⟨x, dx, d, t, rfl, o, k⟩ := h
    have nd := scNS.nd
    have hu := hu_of hr
    refine ⟨_, pss_one (ps_ret (pe_tup (pa_cons (pe_fld (pv 0) rfl) (pa_cons (pe_callTy call_tuple_of (by rfl) B.tuple PyProof.Rows.boot_tuple (pa_cons (pe_lc (own := [("number", 1)]) (g := gName 1) (tt := tYes) rfl nd (pi_tup (pe_meth0 (pv 0) T.cl M.mH GH hr M.bH .nil pass0))
      (blkOk_by (N := ["self", "number"]) (sc := defScope sNS) (by decide +kernel)) (fun _ _ _ _ _ => pg_name (i := 1) nd rfl (.inl rfl)) (fun _ _ _ _ _ => pts_nil)
      (fun _ _ _ _ _ => pe_tup (pa_cons (pv 1) (pa_cons (pe_dget (hu_of hr) (pe_fldK (K := K) rfl (pv 0) rfl) (pv 1) (by intro _ _; rfl)) pa_nil)))) pa_nil)) pa_nil)))), ?_⟩
    refine ⟨_, rfl, x, CN, dx, _, _, rfl, o.at_, T.cl, T.nM, rfl, _, rfl, x, dx, _, rfl, o.at_, rfl, x, dx, d, t, rfl, o, fun u H1 s1 hu1 => ?_⟩
    refine ⟨u, rfl, ⟨_, SqT.of hu1⟩, fun D hD => lc_tup (K := K) (a := u) (xs := []) (fun i H' => H' = upd H1 D (.lst [])) rfl ?_ ?_ ?_⟩
    · rintro i H' _ rfl
      exact SqT.of (sN hD _ _ hu1)
    · rintro i y H' hi
      cases hi
    · rintro H' rfl
      have s2 := sT s1 (sN (o := .lst []) hD)
      refine ⟨D, _, rfl, .inl ⟨SqL.of upd_same, fun v hv => ?_⟩⟩
      have s3 := sT s2 (sN (o := .tup []) hv)
      exact ⟨(by show 2 ≤ sizeLine; decide), fun r hr2 => k r v _ (sT s3 (sN hr2)) upd_same (sN hr2 _ _ upd_same)⟩
theorem scKnown : FnScope ["out", "number"] ["out", "number"] (defScope sKnown) := ⟨rfl, rfl, rfl, by decide +kernel, rfl, by decide +kernel, by decide +kernel⟩
theorem ok_known {CO CE f fN fP : Addr} {fd dN dP : FuncData} (X : Errs P K mg CE) (D : Df K mg "_law_known" sKnown ["out", "number"] f fd) (T : OTxt K mg CO) (M : ODefs K CO) (B : Bts mg) (L : LCst mg) (DN : Df K mg "is_number_below" sNum ["limit", "thing"] fN dN) (DP : Df K mg "is_plain_int" sPlain ["thing"] fP dP) : FnOk P w K mg base CX0 4 f fd ["out", "number"] (spKnown CO) := by
  have GK : FnOk P w K mg base (L2.CX P w) 3 M.fK M.dK ["self", "number"] (spOK CO (X.cl 3)) := ok_oK T M B L (X.sup 3 (by decide)) (X.g 3 (by decide)) DN DP
  refine D.F.ok scKnown (fun vs H Q E h => ?_) (fun cdv A outer s H vs Q E hr h => ?_)
  · obtain ⟨S, x, dx, la, kt, xs, v, rfl, _⟩ := h
    rfl
  · obtain ⟨S, x, dx, la, kt, xs, v, rfl, o, kn, k1, k2⟩ := h
    have nd := scKnown.nd
    refine ⟨_, pss_one (ps_try_only (tb := fun W => tRet (tTup (tCons (tC (.str "told")) (tCons (tMethW CO "known" (spOK CO (X.cl 3)) (WE W) (tVar 0) (tCons (tVar 1) tNil)) tNil)))) (ts := fun a cls d => tRet (tTup (tCons (tC (.str "NoNumber")) tNil))) rfl rfl ⟨rfl, by decide, .inl (X.g 3 (by decide))⟩ takes0
      (fun W pn xe tk _ => pss_one (ps_ret (pe_tup (pa_cons pe_str (pa_cons (by exact (pe_methW (pv 0) T.cl M.mK GK hr M.bK (fun σ => passAt tk σ) (by exact (pa_cons (pv 1) pa_nil)))) pa_nil))))) (fun a oe cls d pn _ _ => pss_one (ps_ret (pe_tup (pa_cons pe_str pa_nil))))), ?_⟩
    refine ⟨_, rfl, x, dx, _, rfl, o.at_, rfl, _, rfl, S, x, dx, la, kt, xs, v, rfl, o, kn, fun i e hi lb H' hlb bu o' => ?_, fun nb => ?_⟩
    · refine ⟨(by show 2 ≤ sizeLine; decide), fun r hr2 => ?_⟩
      have s2 := sN (o := .tup [.str "told", .int ((i - kt : Nat) : Int)]) hr2
      exact k1 i e hi r lb _ hlb (bu.st s2) (o'.same s2) upd_same
    · exact ⟨true, X.exO 3 (by decide), fun _ a ha => ⟨(by show 1 ≤ sizeLine; decide), fun r hr2 => k2 nb r _ (sN hr2) upd_same⟩, fun q => nomatch q⟩
theorem scTaken : FnScope ["end", "number"] ["end", "number"] (defScope sTaken) := ⟨rfl, rfl, rfl, by decide +kernel, rfl, by decide +kernel, by decide +kernel⟩
theorem ok_taken {CN CE f fN fP : Addr} {fd dN dP : FuncData} (X : Errs P K mg CE) (D : Df K mg "_law_taken" sTaken ["end", "number"] f fd) (T : NTxt K mg CN) (M : NDefs K CN) (B : Bts mg) (L : LCst mg) (DN : Df K mg "is_number_below" sNum ["limit", "thing"] fN dN) (DP : Df K mg "is_plain_int" sPlain ["thing"] fP dP) : FnOk P w K mg base CX0 4 f fd ["end", "number"] (spTaken CN) := by
  have GT : FnOk P w K mg base (L2.CX P w) 3 M.fT M.dT ["self", "number", "thing"] (spNT CN (X.cl 3)) := ok_nT T M B L (X.sup 3 (by decide)) (X.g 3 (by decide)) DN DP
  refine D.F.ok scTaken (fun vs H Q E h => ?_) (fun cdv A outer s H vs Q E hr h => ?_)
  · obtain ⟨S, x, dx, d, t, v, rfl, _⟩ := h
    rfl
  · obtain ⟨S, x, dx, d, t, v, rfl, o, kn, kno, k1, k2, k3⟩ := h
    have nd := scTaken.nd
    refine ⟨_, pss_one (ps_try_only (tb := fun W => tRet (tTup (tCons (tC (.str "told")) (tCons (tMethW CN "take" (spNT CN (X.cl 3)) (WE W) (tVar 0) (tCons (tVar 1) (tCons (tTup (tCons (tC (.str "x")) (tCons (tVar 1) tNil))) tNil))) tNil)))) (ts := fun a cls d => tRet (tTup (tCons (tC (.str "NoNumber")) tNil))) rfl rfl ⟨rfl, by decide, .inl (X.g 3 (by decide))⟩ takes0
      (fun W pn xe tk _ => pss_one (ps_ret (pe_tup (pa_cons pe_str (pa_cons (by exact (pe_methW (pv 0) T.cl M.mT GT hr M.bT (fun σ => passAt tk σ) (by exact (pa_cons (pv 1) (pa_cons (pe_tup (pa_cons pe_str (pa_cons (pv 1) pa_nil))) pa_nil))))) pa_nil))))) (fun a oe cls d pn _ _ => pss_one (ps_ret (pe_tup (pa_cons pe_str pa_nil))))), ?_⟩
    refine ⟨_, rfl, x, dx, _, rfl, o.at_, rfl, _, rfl, _, rfl, (by show 2 ≤ sizeLine; decide), fun th hth => ?_⟩
    have s1 := sN (o := .tup [.str "x", v]) hth
    refine ⟨S, x, dx, d, t, [], v, .ref th, rfl, o.same s1, (by show 0 < 9000; decide), kn.same s1, fun i e hi z H' hz bu ez o' => ?_, fun nb => ?_⟩
    · subst e
      have eth : H' th = some (.tup [.str "x", .int (i : Int)]) := bu _ _ upd_same (ne_of_none' o.at_ hth) (ne_of_none' o.dct hth)
      have bu1 : B2 x d H H' := (B2.of s1).tr bu
      refine ⟨(by show 2 ≤ sizeLine; decide), fun r hr2 => ?_⟩
      have s2 := sN (o := .tup [.str "told", .ref z]) hr2
      by_cases c : t ≤ i ∧ i < t + 1000
      · by_cases c2 : i = t
        · subst c2
          rw [held_one, drn_one] at ez o'
          exact k1 rfl hi r z th _ (bu1.st s2) (o'.same s2) upd_same (s2 _ _ ez) (s2 _ _ eth)
        · exact absurd ⟨by omega, c.2⟩ (kno i rfl)
      · rw [held_no _ c, drn_nil] at ez o'
        exact k2 i rfl hi c r z _ (bu1.st s2) (o'.same s2) upd_same (s2 _ _ ez)
    · exact ⟨true, X.exO 3 (by decide), fun _ a ha => ⟨(by show 1 ≤ sizeLine; decide), fun r hr2 => k3 nb r _ (sT s1 (sN hr2)) upd_same⟩, fun q => nomatch q⟩
end
end Q

namespace Q
open PySem L2 QR
abbrev sFst : Stmt := top 66
def U0 : Addr → Prop := fun _ => False
theorem KnA.un {S : Addr → Prop} {H : Hp} {v : V} (h : KnA S H v) : KnA U0 H v := by
  rcases h with h | h | ⟨a, e, n, h⟩
  · exact .inl h
  · exact .inr (.inl h)
  · exact .inr (.inr ⟨a, e, id, h⟩)
theorem kn_i {H : Hp} {i : Int} : KnA U0 H (.int i) := .inl (.inr (.inr ⟨i, rfl⟩))
theorem kn_b {H : Hp} {b : Bool} : KnA U0 H (.bl b) := .inl (.inr (.inl ⟨b, rfl⟩))
theorem kn_n {H : Hp} : KnA U0 H .non := .inl (.inl rfl)
theorem kn_s {H : Hp} {z : Str} : KnA U0 H (.str z) := .inr (.inl ⟨z, rfl⟩)
theorem HandAt.mv {H H' : Hp} {p l : Addr} (h : HandAt H p l) (f : ∀ c xs, H c = some (.lst xs) → c = p ∨ c = l → H' c = some (.lst xs)) : HandAt H' p l := by
  obtain ⟨ns, i, r, t, c, x⟩ := h
  exact ⟨ns, i, r, t, c, f _ _ x.at_ (.inl rfl), f _ _ x.lst (.inr rfl), x.len, x.r0, x.s0, x.s1⟩
theorem HandAt.pl {H : Hp} {p l : Addr} (h : HandAt H p l) : (∃ xs, H p = some (.lst xs)) ∧ ∃ xs, H l = some (.lst xs) := by
  obtain ⟨ns, i, r, t, c, x⟩ := h
  exact ⟨⟨_, x.at_⟩, _, x.lst⟩
/-- the two ends, the hand beside -/
structure Lk (CO CN : Addr) (H0 H : Hp) (p l x dx la e de d : Addr) (gone taken : Nat) (xs : List V) : Prop where
  g : HandAt H p l
  o : OutX CO H x dx la gone xs
  n : IncX CN H e de d taken []
  t : ∀ v ∈ xs, ∃ (a : Addr) (z : Int), v = .ref a ∧ H a = some (.tup [.str "thing", .int z])
  xe : x ≠ e
  pla : p ≠ la
  lla : l ≠ la
  s : Same H0 H
  np : H0 p = none
  nx : H0 x = none
  nla : H0 la = none
  ne : H0 e = none
  nd : H0 d = none
section
variable {CO CN : Addr} {H0 H H' : Hp} {p l x dx la lb e de d : Addr} {gone taken g' t' n : Nat} {xs : List V}
theorem Lk.same (h : Lk CO CN H0 H p l x dx la e de d gone taken xs) (s : Same H H') : Lk CO CN H0 H' p l x dx la e de d gone taken xs :=
  ⟨h.g.same s, h.o.same s, h.n.same s, fun v hv => by obtain ⟨a, z, e1, e2⟩ := h.t v hv; exact ⟨a, z, e1, s _ _ e2⟩, h.xe, h.pla, h.lla, sT h.s s, h.np, h.nx, h.nla, h.ne, h.nd⟩
theorem Lk.xp (h : Lk CO CN H0 H p l x dx la e de d gone taken xs) (b : XtP p H H') (g2 : HandAt H' p l) : Lk CO CN H0 H' p l x dx la e de d gone taken xs := by
  obtain ⟨⟨ps, hp⟩, _⟩ := h.g.pl
  refine ⟨g2, ⟨b _ _ h.o.at_ (ne_of h.o.at_ hp (fun z => by cases z)), b _ _ h.o.lst h.pla.symm, h.o.few⟩, ⟨b _ _ h.n.at_ (ne_of h.n.at_ hp (fun z => by cases z)), b _ _ h.n.dct (ne_of h.n.dct hp (fun z => by cases z)), h.n.few⟩, fun v hv => ?_, h.xe, h.pla, h.lla, fun c o ec => b _ _ (h.s c o ec) (ne_of_none ec h.np), h.np, h.nx, h.nla, h.ne, h.nd⟩
  obtain ⟨a, z, e1, e2⟩ := h.t v hv
  exact ⟨a, z, e1, b _ _ e2 (ne_of e2 hp (fun z => by cases z))⟩
theorem Lk.bp (h : Lk CO CN H0 H p l x dx la e de d gone taken xs) (b : But p H H') (g2 : HandAt H' p l) : Lk CO CN H0 H' p l x dx la e de d gone taken xs :=
  h.xp (fun c o ec n => by rw [b c n]; exact ec) g2
theorem Lk.kn (h : Lk CO CN H0 H p l x dx la e de d gone taken xs) (b : Bu x H H') (o2 : OutX CO H' x dx lb g' (xs.drop n)) (hlb : H lb = none) : Lk CO CN H0 H' p l x dx lb e de d g' taken (xs.drop n) := by
  obtain ⟨⟨ps, hp⟩, ⟨ls, hl⟩⟩ := h.g.pl
  refine ⟨h.g.mv (fun c ys ec _ => b _ _ ec (ne_of ec h.o.at_ (fun z => by cases z))), o2, ⟨b _ _ h.n.at_ h.xe.symm, b _ _ h.n.dct (ne_of h.n.dct h.o.at_ (fun z => by cases z)), h.n.few⟩, fun v hv => ?_, h.xe, ne_of_none hp hlb, ne_of_none hl hlb, fun c o ec => b _ _ (h.s c o ec) (ne_of_none ec h.nx), h.np, h.nx, sNo h.s hlb, h.ne, h.nd⟩
  obtain ⟨a, z, e1, e2⟩ := h.t v (List.mem_of_mem_drop hv)
  exact ⟨a, z, e1, b _ _ e2 (ne_of e2 h.o.at_ (fun z => by cases z))⟩
theorem Lk.tk (h : Lk CO CN H0 H p l x dx la e de d gone taken xs) (b : B2 e d H H') (n2 : IncX CN H' e de d t' []) : Lk CO CN H0 H' p l x dx la e de d gone t' xs := by
  refine ⟨h.g.mv (fun c ys ec _ => b _ _ ec (ne_of ec h.n.at_ (fun z => by cases z)) (ne_of ec h.n.dct (fun z => by cases z))), ⟨b _ _ h.o.at_ h.xe (ne_of h.o.at_ h.n.dct (fun z => by cases z)), b _ _ h.o.lst (ne_of h.o.lst h.n.at_ (fun z => by cases z)) (ne_of h.o.lst h.n.dct (fun z => by cases z)), h.o.few⟩, n2, fun v hv => ?_, h.xe, h.pla, h.lla, fun c o ec => b _ _ (h.s c o ec) (ne_of_none ec h.ne) (ne_of_none ec h.nd), h.np, h.nx, h.nla, h.ne, h.nd⟩
  obtain ⟨a, z, e1, e2⟩ := h.t v hv
  exact ⟨a, z, e1, b _ _ e2 (ne_of e2 h.n.at_ (fun z => by cases z)) (ne_of e2 h.n.dct (fun z => by cases z))⟩
theorem Lk.pt {th : Addr} {k : Int} (h : Lk CO CN H0 H p l x dx la e de d gone taken xs) (b : Bu la H H') (eth : H th = some (.tup [.str "thing", .int k])) (o2 : OutX CO H' x dx la gone (xs ++ [.ref th])) : Lk CO CN H0 H' p l x dx la e de d gone taken (xs ++ [.ref th]) := by
  refine ⟨h.g.mv (fun c ys ec q => b _ _ ec (by rcases q with rfl | rfl; exact h.pla; exact h.lla)), o2, ⟨b _ _ h.n.at_ (ne_of h.n.at_ h.o.lst (fun z => by cases z)), b _ _ h.n.dct (ne_of h.n.dct h.o.lst (fun z => by cases z)), h.n.few⟩, fun v hv => ?_, h.xe, h.pla, h.lla, fun c o ec => b _ _ (h.s c o ec) (ne_of_none ec h.nla), h.np, h.nx, h.nla, h.ne, h.nd⟩
  rcases List.mem_append.mp hv with hv | hv
  · obtain ⟨a, z, e1, e2⟩ := h.t v hv
    exact ⟨a, z, e1, b _ _ e2 (ne_of e2 h.o.lst (fun z => by cases z))⟩
  · rw [List.mem_singleton.mp hv]
    exact ⟨th, k, rfl, b _ _ eth (ne_of eth h.o.lst (fun z => by cases z))⟩
end
/-- things of the one kind are alike -/
theorem sm_things {H : Hp} {xs : List V} {n : Nat} (h : ∀ v ∈ xs, ∃ (a : Addr) (z : Int), v = .ref a ∧ H a = some (.tup [.str "thing", .int z])) : Sms H (n + 2) xs xs := by
  induction xs with
  | nil => trivial
  | cons v r ih =>
    refine ⟨?_, ih (fun y hy => h y (List.mem_cons_of_mem _ hy))⟩
    obtain ⟨a, z, rfl, ea⟩ := h v List.mem_cons_self
    exact sm_tup ea ea ⟨sm_s _, sm_i _, trivial⟩
theorem ne_nn {K : PySem.W.Frag} {H : Hp} {a b : Addr} (ha : H a = some (.tup [.str "NoNumber"])) (hb : H b = some (.tup [.str "NoNumber"])) {Q : VK} (k : Q (.bl false) H) : rNeD K (.ref a) (.ref b) H Q := by
  refine ⟨.tuple [.str "NoNumber"], .tuple [.str "NoNumber"], .tup (SqT.of ha) (.cons (.str _) .nil), .tup (SqT.of hb) (.cons (.str _) .nil), by decide +kernel, by decide +kernel, ?_⟩
  have e : PyData.eqv (.tuple [.str "NoNumber"]) (.tuple [.str "NoNumber"]) = true := by decide +kernel
  rw [e]
  exact k
theorem ne_tn {K : PySem.W.Frag} {H : Hp} {a b c d : Addr} (ha : H a = some (.tup [.str "told", .ref c])) (hc : H c = some (.lst [])) (hb : H b = some (.tup [.str "told", .ref d])) (hd : H d = some (.lst [])) {Q : VK} (k : Q (.bl false) H) : rNeD K (.ref a) (.ref b) H Q := by
  refine ⟨.tuple [.str "told", .list []], .tuple [.str "told", .list []], .tup (SqT.of ha) (.cons (.str _) (.cons (.lst (SqL.of hc) .nil) .nil)), .tup (SqT.of hb) (.cons (.str _) (.cons (.lst (SqL.of hd) .nil) .nil)), by decide +kernel, by decide +kernel, ?_⟩
  have e : PyData.eqv (.tuple [.str "told", .list []]) (.tuple [.str "told", .list []]) = true := by decide +kernel
  rw [e]
  exact k
theorem win_numV {n : Int} (v : V) : winB 0 n v = numB (n + 1) v := by
  cases v with
  | int j =>
    show (decide (0 ≤ j) && decide (j ≤ n)) = (decide (0 ≤ j) && decide (j < n + 1))
    congr 1
    exact decide_eq_decide.mpr ⟨fun h => by omega, fun h => by omega⟩
  | _ => rfl
def spFst (K : PySem.W.Frag) : Sp := fun vs H Q _ => ∃ (a : Addr) (ns : List Int), vs = [.ref a] ∧ SqL K H a (ns.map V.int) ∧ ns.length ≤ 63 ∧ ∀ H', Same H H' → Q (.bl true) H'
section
variable {P : Program} {w : World} {K : PySem.W.Frag} {mg : Str → Option Value} {base : Heap} {CE : Addr}
theorem scFst : FnScope ["script", "hand", "out", "end", "many", "k", "gone", "taken", "some", "number", "state", "told"] ["script"] (defScope sFst) := ⟨rfl, rfl, rfl, by decide +kernel, rfl, by decide +kernel, by decide +kernel⟩
theorem ok_fst {CO CN f fH fT fPk fO fKn fTk fW fI fS fN fP : Addr} {fd dH dT dPk dO dKn dTk dW dI dS dN dP : FuncData} (X : Errs P K mg CE) (D : Df K mg "_law_first" sFst ["script"] f fd) (B : Bts mg) (L : LCst mg) (TO : OTxt K mg CO) (MO : ODefs K CO) (TN : NTxt K mg CN) (MN : NDefs K CN)
    (DH : Df K mg "_law_hand" sHand ["script"] fH dH) (DT : Df K mg "_law_take" sTake ["hand", "many"] fT dT) (DPk : Df K mg "_law_pick" sPick ["hand", "things"] fPk dPk) (DO : Df K mg "_law_odd" sOddL ["hand"] fO dO) (DKn : Df K mg "_law_known" sKnown ["out", "number"] fKn dKn) (DTk : Df K mg "_law_taken" sTaken ["end", "number"] fTk dTk)
    (DW : Df K mg "_law_is_within" sLWin ["thing", "least", "most"] fW dW) (DI : Df K mg "_law_is_integer" sLInt ["thing"] fI dI) (DS : Df K mg "_law_same" sSameG ["actual", "due"] fS dS) (DN : Df K mg "is_number_below" sNum ["limit", "thing"] fN dN) (DP : Df K mg "is_plain_int" sPlain ["thing"] fP dP) :
    FnOk P w K mg base CX0 6 f fd ["script"] (spFst K) := by
  have GH : FnOk P w K mg base CX0 1 fH dH ["script"] (spHand K) := ok_hand DH.F B
  have GT : FnOk P w K mg base CX0 1 fT dT ["hand", "many"] spTake := ok_take DT.F B
  have GP : FnOk P w K mg base CX0 2 fPk dPk ["hand", "things"] spPickL := ok_pickL DPk B DT
  have GO : FnOk P w K mg base CX0 2 fO dO ["hand"] spOddL := ok_oddL DO B DT
  have GKn : FnOk P w K mg base CX0 4 fKn dKn ["out", "number"] (spKnown CO) := ok_known X DKn TO MO B L DN DP
  have GTk : FnOk P w K mg base CX0 4 fTk dTk ["end", "number"] (spTaken CN) := ok_taken X DTk TN MN B L DN DP
  have GW : FnOk P w K mg base CX0 2 fW dW ["thing", "least", "most"] spWin2 := ok_lwin DW B DI
  have GS : FnOk P w K mg base CX0 5 fS dS ["actual", "due"] (spSameG 4) := ok_sameG DS B DI 4
  have GOI : FnOk P w K mg base CX0 1 MO.fI MO.dI ["self"] (spOI CO) := ok_oI TO MO
  have GOP : FnOk P w K mg base CX0 2 MO.fP MO.dP ["self", "thing"] (spOP CO) := ok_oP TO MO B
  have GOM : FnOk P w K mg base CX0 1 MO.fM MO.dM ["self"] (spOM CO) := ok_oM TO MO B
  have GOS : FnOk P w K mg base CX0 1 MO.fS MO.dS ["self"] (spOS CO) := ok_oS TO MO B
  have GNI : FnOk P w K mg base CX0 1 MN.fI MN.dI ["self"] (spNI CN) := ok_nI TN MN
  have GNN : FnOk P w K mg base CX0 1 MN.fN MN.dN ["self"] (spNN CN) := ok_nN TN MN
  have GNS : FnOk P w K mg base CX0 2 MN.fS MN.dS ["self"] (spNS CN) := ok_nS TN MN B L
  refine D.F.ok scFst (fun vs H Q E h => ?_) (fun cdv A outer s H vs Q E hr h => ?_)
  · obtain ⟨a, ns, rfl, _⟩ := h
    rfl
  · obtain ⟨a, ns, rfl, hS, hlen, k⟩ := h
    have nd := scFst.nd
    have hu := hr.units
    have hr1 : Room 1 _ := hr.mono (by decide)
    have hr2 : Room 2 _ := hr.mono (by decide)
    have hr4 : Room 4 _ := hr.mono (by decide)
    have hr5 : Room 5 _ := hr.mono (by decide)
    refine ⟨_, (pss_cons (ps_set (i := 1) nd rfl (.inl rfl) (pe_call GH hr1 rfl DH.m DH.k DH.b .nil pass0 (pa_cons (pv 0) pa_nil)))
        (pss_cons (ps_set (i := 2) nd rfl (.inl rfl) (pe_make0 MO.mM GOI hr2 rfl TO.mgC MO.bI .nil pass0))
        (pss_cons (ps_set (i := 3) nd rfl (.inl rfl) (pe_make0 MN.mM GNI hr2 rfl TN.mgC MN.bI .nil pass0))
        (pss_cons (ps_set (i := 4) nd rfl (.inl rfl) (pe_call GT hr1 rfl DT.m DT.k DT.b .nil pass0 (pa_cons (pv 1) (pa_cons pe_int pa_nil))))
        (pss_cons (ps_for PassesOwn.never rfl (pi_range1 rfl B.range (pa_cons (pv 4) pa_nil)) (pg_name (i := 5) nd rfl (.inl rfl)) (pss_one (ps_expr (pe_meth (pv 2) TO.cl MO.mP GOP hr2 MO.bP .nil pass0 (pa_cons (pe_tup (pa_cons pe_str (pa_cons (pv 5) pa_nil))) pa_nil)))))
        (pss_cons (ps_set (i := 6) nd rfl (.inl rfl) pe_int)
        (pss_cons (ps_set (i := 7) nd rfl (.inl rfl) pe_int)
        (pss_cons (ps_for PassesOwn.never rfl (pi_range1 rfl B.range (pa_cons pe_int pa_nil)) (pg_name (i := 5) nd rfl (.inl rfl)) (pss_cons (ps_set (i := 8) nd rfl (.inl rfl) (pe_lst (pa_cons (pe_call GT hr1 rfl DT.m DT.k DT.b .nil pass0 (pa_cons (pv 1) (pa_cons (pe_op op_add (pv 4) pe_int) pa_nil))) (pa_cons (pv 4) (pa_cons (pe_op op_add (pv 4) pe_int) (pa_cons (pe_un un_neg pe_int) (pa_cons pe_bl (pa_cons pe_non (pa_cons pe_str (pa_cons (pe_call GO hr2 rfl DO.m DO.k DO.b .nil pass0 (pa_cons (pv 1) pa_nil)) (pa_cons (pe_op op_pow pe_int pe_int) pa_nil)))))))))))
        (pss_cons (ps_set (i := 9) nd rfl (.inl rfl) (pe_call GP hr2 rfl DPk.m DPk.k DPk.b .nil pass0 (pa_cons (pv 1) (pa_cons (pv 8) pa_nil))))
        (pss_cons (ps_set (i := 10) nd rfl (.inl rfl) (pe_meth0 (pv 2) TO.cl MO.mS GOS hr1 MO.bS .nil pass0))
        (C8.pss_cut (ps_set (i := 11) nd rfl (.inl rfl) (pe_call GKn hr4 rfl DKn.m DKn.k DKn.b .nil pass0 (pa_cons (pv 2) (pa_cons (pv 9) pa_nil))))
        (C8.pss_cut (ps_if (pt_val (pe_call GW hr2 rfl DW.m DW.k DW.b .nil pass0 (pa_cons (pv 9) (pa_cons pe_int (pa_cons (pv 4) pa_nil))))) (pss_cons (ps_if (pt_not (pt_val (pe_call GS hr5 rfl DS.m DS.k DS.b .nil pass0 (pa_cons (pv 11) (pa_cons (pe_tup (pa_cons pe_str (pa_cons (pe_callB (call_max2 rfl) (by rfl) L.max PyProof.Rows.boot_max (pa_cons pe_int (pa_cons (pe_op op_sub (pv 9) (pv 6)) pa_nil))) pa_nil))) pa_nil))))) pss_never pss_nil)
        (pss_one (ps_set (i := 6) nd rfl (.inl rfl) (pe_callB (call_max2 rfl) (by rfl) L.max PyProof.Rows.boot_max (pa_cons (pv 6) (pa_cons (pv 9) pa_nil)))))) (pss_one (ps_if (PW.pt (pw_or (pt_cmpR (op_neD hu) (pv 11) (pe_tup (pa_cons pe_str pa_nil)) (nomark _)) (pw_or1 (pt_not (pt_val (pe_call GS hr5 rfl DS.m DS.k DS.b .nil pass0 (pa_cons (pe_meth0 (pv 2) TO.cl MO.mS GOS hr1 MO.bS .nil pass0) (pa_cons (pv 10) pa_nil)))))))) pss_never pss_nil)))
        (pss_cons (ps_set (i := 9) nd rfl (.inl rfl) (pe_call GP hr2 rfl DPk.m DPk.k DPk.b .nil pass0 (pa_cons (pv 1) (pa_cons (pe_lst (pa_cons (pv 7) (pa_cons (pv 7) (pa_cons (pv 7) (pa_cons (pe_op op_sub (pe_op op_pow pe_int pe_int) pe_int) (pa_cons (pe_op op_pow pe_int pe_int) (pa_cons (pe_un un_neg pe_int) (pa_cons pe_bl (pa_cons pe_non (pa_cons (pe_tup (pa_cons pe_int pa_nil)) (pa_cons (pe_call GO hr2 rfl DO.m DO.k DO.b .nil pass0 (pa_cons (pv 1) pa_nil)) pa_nil))))))))))) pa_nil))))
        (C8.pss_cut (ps_if (pt_val (pe_call GW hr2 rfl DW.m DW.k DW.b .nil pass0 (pa_cons (pv 9) (pa_cons (pe_op op_add (pv 7) pe_int) (pa_cons (pe_op op_add (pv 7) pe_int) pa_nil))))) (pss_one (ps_set (i := 9) nd rfl (.inl rfl) (pv 7))) pss_nil)
        (pss_cons (ps_set (i := 10) nd rfl (.inl rfl) (pe_meth0 (pv 3) TN.cl MN.mS GNS hr2 MN.bS .nil pass0))
        (C8.pss_cut (ps_set (i := 11) nd rfl (.inl rfl) (pe_call GTk hr4 rfl DTk.m DTk.k DTk.b .nil pass0 (pa_cons (pv 3) (pa_cons (pv 9) pa_nil))))
        (pss_one (ps_if (pt_not (pt_val (pe_call GW hr2 rfl DW.m DW.k DW.b .nil pass0 (pa_cons (pv 9) (pa_cons pe_int (pa_cons (pe_op op_sub (pe_op op_pow pe_int pe_int) pe_int) pa_nil)))))) (pss_one (ps_if (PW.pt (pw_or (pt_cmpR (op_neD hu) (pv 11) (pe_tup (pa_cons pe_str pa_nil)) (nomark _)) (pw_or1 (pt_not (pt_val (pe_call GS hr5 rfl DS.m DS.k DS.b .nil pass0 (pa_cons (pe_meth0 (pv 3) TN.cl MN.mS GNS hr2 MN.bS .nil pass0) (pa_cons (pv 10) pa_nil)))))))) pss_never pss_nil)) (pss_one (ps_if (pt_cmpR op_eq (pv 9) (pv 7) (nomark _)) (pss_cons (ps_if (pt_not (pt_val (pe_call GS hr5 rfl DS.m DS.k DS.b .nil pass0 (pa_cons (pv 11) (pa_cons (pe_tup (pa_cons pe_str (pa_cons (pe_lst (pa_cons (pe_tup (pa_cons pe_str (pa_cons (pv 9) pa_nil))) pa_nil)) pa_nil))) pa_nil))))) pss_never pss_nil)
        (pss_one (ps_set (i := 7) nd rfl (.inl rfl) (pe_op op_add (pv 7) pe_int)))) (pss_one (ps_if (pt_cmpR (op_neD hu) (pv 11) (pe_tup (pa_cons pe_str (pa_cons (pe_lst pa_nil) pa_nil))) (nomark _)) pss_never pss_nil))))))))))))))))
        (pss_one (ps_ret (pe_and (pe_call GS hr5 rfl DS.m DS.k DS.b .nil pass0 (pa_cons (pe_meth0 (pv 2) TO.cl MO.mP2 GOM hr1 MO.bM .nil pass0) (pa_cons (pv 4) pa_nil))) (pe_one (pe_call GS hr5 rfl DS.m DS.k DS.b .nil pass0 (pa_cons (pe_meth0 (pv 3) TN.cl MN.mN GNN hr1 MN.bN .nil pass0) (pa_cons (pv 7) pa_nil))))))))))))))), ?_⟩
--RD
    refine ⟨_, rfl, a, ns, rfl, hS, hlen, fun p l H1 g1 np nl s1 => ?_⟩
    intro x dx nx ndx nex
    have w2 : Same H1 (upd (upd H1 dx (.own x)) x (.ins CO dx [])) := fun b o e => by
      rw [upd_ne (ne_of_none e nx), upd_ne (ne_of_none e ndx)]
      exact e
    refine ⟨x, dx, rfl, upd_same, fun la H2 nla lax b2 o2 => ⟨rfl, ?_⟩⟩
    have s2 : Same H1 H2 := fun b o e => b2 b o (w2 b o e) (ne_of_none e nx)
    intro e de ne nde nee
    have w3 : Same H2 (upd (upd H2 de (.own e)) e (.ins CN de [])) := fun b o q => by
      rw [upd_ne (ne_of_none q ne), upd_ne (ne_of_none q nde)]
      exact q
    refine ⟨e, de, rfl, upd_same, fun d H3 nd2 dne b3 n3 => ⟨rfl, ?_⟩⟩
    have s3 : Same H2 H3 := fun b o q => b3 b o (w3 b o q) (ne_of_none q ne)
    have nla1 : H1 la = none := sNo w2 nla
    have k3 : Lk CO CN H H3 p l x dx la e de d 0 0 [] := by
      obtain ⟨⟨ps, hp⟩, ⟨ls, hl⟩⟩ := g1.pl
      exact ⟨(g1.same s2).same s3, o2.same s3, n3, fun v hv => by simp at hv, ne_of_none o2.at_ ne, ne_of_none hp nla1, ne_of_none hl nla1, sT s1 (sT s2 s3), np, sNo s1 nx, sNo s1 nla1, sNo s1 (sNo s2 ne), sNo s1 (sNo s2 (sNo w3 nd2))⟩
    clear g1 nl s1 nx ndx nex w2 nla lax b2 o2 s2 ne nde nee w3 nd2 dne b3 n3 s3 nla1 np
    refine ⟨_, rfl, p, l, 9, rfl, k3.g, by decide, by decide, fun m H4 m0 m1 g4 b4 => ?_⟩
    have k4 := k3.bp b4 g4
    obtain ⟨M, rfl⟩ : ∃ M : Nat, m = (M : Int) := ⟨m.toNat, by omega⟩
    clear k3 m0 b4 g4
    have eM : ((M : Int)).toNat = M := Int.toNat_natCast M
    refine ⟨_, rfl, (M : Int), rfl, by omega, by omega, for_range (lo := 0) (n := (M : Int).toNat) (fun i σ H' => ∃ (x5 : Option V) (xs : List V), σ = [some (.ref a), some (.ref p), some (.ref x), some (.ref e), some (.int (M : Int)), x5, none, none, none, none, none, none] ∧ Lk CO CN H H' p l x dx la e de d 0 0 xs ∧ xs.length = i) ⟨none, [], rfl, k4, rfl⟩ ?_ ?_⟩
    · rintro i σ H5 hi ⟨x5, xs, rfl, k5, len⟩
      rw [eM] at hi
      refine ⟨_, rfl, x, dx, _, rfl, k5.o.at_, rfl, _, rfl, (by show 2 ≤ sizeLine; decide), fun th hth => ?_⟩
      have k6 := k5.same (sN (o := .tup [.str "thing", .int (0 + (i : Int))]) hth)
      refine ⟨x, dx, la, 0, xs, .ref th, rfl, k6.o, by omega, fun H7 b7 o7 => ?_⟩
      exact ⟨_, xs ++ [.ref th], rfl, k6.pt b7 upd_same o7, by rw [List.length_append, len]; rfl⟩
    clear k4
    rintro σ H5 ⟨x5, xs, rfl, k5, len⟩
    rw [eM] at len
    refine ⟨(8 : Int), rfl, by decide, by decide, for_range (lo := 0) (n := (8 : Int).toNat) (fun i σ H' => ∃ (gone taken : Nat) (la : Addr) (xs : List V) (x5 x8 x9 x10 x11 : Option V), σ = [some (.ref a), some (.ref p), some (.ref x), some (.ref e), some (.int (M : Int)), x5, some (.int (gone : Int)), some (.int (taken : Int)), x8, x9, x10, x11] ∧ Lk CO CN H H' p l x dx la e de d gone taken xs ∧ gone + xs.length = M ∧ taken ≤ i) ⟨0, 0, la, xs, _, none, none, none, none, rfl, k5, by omega, Nat.le_refl _⟩ ?_ ?_⟩
    · clear k5 len
      rintro i σ H6 hi ⟨gone, taken, la, xs, x5, x8, x9, x10, x11, rfl, k6, len, tk⟩
      have hi8 : i < 8 := hi
      have hpw : ∀ {q : Addr} {ys : List V} {G : Hp}, Lk CO CN H G p l x dx la e de d gone taken xs → G q = some (.tup ys) → q ≠ p := fun kk eq => by
        obtain ⟨⟨ps, hp⟩, _⟩ := kk.g.pl
        exact ne_of eq hp (fun z => by cases z)
      refine ⟨_, rfl, _, rfl, _, _, rfl, rfl, p, l, _, rfl, k6.g, by omega, by omega, fun n1 H7 _ _ g7 b7 => ?_⟩
      have k7 := k6.bp b7 g7
      clear b7 g7
      refine ⟨_, rfl, _, rfl, _, _, rfl, rfl, _, rfl, _, rfl, p, l, rfl, k7.g, fun ov H8 g8 b8 t8 => ?_⟩
      have k8 := k7.xp b8 g8
      refine ⟨_, _, rfl, rfl, ⟨by decide, by decide, by decide⟩, (by show 9 ≤ sizeLine; decide), fun sm hsm => ?_⟩
      have s9 := sN (o := .lst [.int n1, .int (M : Int), .int ((M : Int) + 1), .int (-1), .bl true, .non, .str "0", ov, .int (10 ^ (19 : Int).toNat)]) hsm
      have k9 := k8.same s9
      have t9 := t8.same s9
      have nsm : sm ≠ p := by
        obtain ⟨⟨ps, hp⟩, _⟩ := k8.g.pl
        exact (ne_of_none hp hsm).symm
      refine ⟨_, rfl, _, rfl, p, l, sm, _, rfl, k9.g, upd_same, nsm, (by show 0 < 9; decide), (by show 9 < 1000; decide), fun v H10 hv g10 b10 => ?_⟩
      have k10 := k9.bp b10 g10
      have kv : KnA U0 H10 v := by
        simp only [List.mem_cons, List.not_mem_nil, or_false] at hv
        rcases hv with rfl | rfl | rfl | rfl | rfl | rfl | rfl | rfl | rfl
        · exact kn_i
        · exact kn_i
        · exact kn_i
        · exact kn_i
        · exact kn_b
        · exact kn_n
        · exact kn_s
        · refine t9.1.mv fun c o ec nc => ⟨id, ?_⟩
          have np : c ≠ p := fun z => nc (by
            obtain ⟨⟨ps, hp⟩, _⟩ := k7.g.pl
            show H7 c ≠ none
            rw [z, hp]
            exact fun q => by cases q)
          rw [b10 c np]
          exact ec
        · exact kn_i
      clear t9 t8 s9 k9 k8 b8 g8 k7 b10 g10 hv nsm hsm k6
      refine ⟨_, rfl, x, dx, _, rfl, k10.o.at_, rfl, x, dx, la, gone, xs, rfl, k10.o, fun r u H11 s11 er eu => ?_⟩
      have k11 := k10.same s11
      have kv := kv.same s11
      clear k10 s11
      refine ⟨fun σ' H' => ∃ (v : V) (r u tl : Addr) (x8 : Option V), σ' = [some (.ref a), some (.ref p), some (.ref x), some (.ref e), some (.int (M : Int)), some (.int (0 + (i : Int))), some (.int (gone : Int)), some (.int (taken : Int)), x8, some v, some (.ref r), some (.ref tl)] ∧ KnA U0 H' v ∧
        ((∃ j : Nat, v = .int (j : Int) ∧ j ≤ M ∧ ∃ (lb : Addr) (ys : List V), Lk CO CN H H' p l x dx lb e de d (gone + (j - gone)) taken ys ∧ gone + (j - gone) + ys.length = M ∧ H' tl = some (.tup [.str "told", .int ((j - gone : Nat) : Int)])) ∨
         (numB ((M : Int) + 1) v = false ∧ Lk CO CN H H' p l x dx la e de d gone taken xs ∧ H' r = some (.tup [.int (gone : Int), .ref u]) ∧ H' u = some (.tup xs) ∧ H' tl = some (.tup [.str "NoNumber"]))), ?_, ?_⟩
      · refine ⟨_, rfl, _, rfl, U0, x, dx, la, gone, xs, v, rfl, k11.o, kv, fun j ev hj tl lb H12 hlb b12 o12 et => ?_, fun nb tl H12 s12 et => ?_⟩
        · subst ev
          exact ⟨_, r, u, tl, _, rfl, kn_i, .inl ⟨j, rfl, by omega, lb, _, k11.kn b12 o12 hlb, by rw [List.length_drop]; omega, et⟩⟩
        · rw [len] at nb
          exact ⟨v, r, u, tl, _, rfl, kv.same s12, .inr ⟨nb, k11.same s12, s12 _ _ er, s12 _ _ eu, et⟩⟩
      clear k11 kv er eu
      rintro σ' H12 ⟨v, r, u, tl, x8, rfl, kv, cs⟩
      refine ⟨fun σ' H' => ∃ (gone : Nat) (la : Addr) (xs : List V) (x8 x9 x10 x11 : Option V), σ' = [some (.ref a), some (.ref p), some (.ref x), some (.ref e), some (.int (M : Int)), some (.int (0 + (i : Int))), some (.int (gone : Int)), some (.int (taken : Int)), x8, x9, x10, x11] ∧ Lk CO CN H H' p l x dx la e de d gone taken xs ∧ gone + xs.length = M, ?_, ?_⟩
      · refine ⟨_, rfl, _, rfl, U0, v, _, _, rfl, kv, _, rfl, ?_⟩
        rw [win_numV]
        rcases cs with ⟨j, rfl, hj, lb, ys, k12, len2, et⟩ | ⟨nb, k12, er, eu, et⟩
        · have hnb : numB ((M : Int) + 1) (V.int (j : Int)) = true := by
            show (decide (0 ≤ (j : Int)) && decide ((j : Int) < (M : Int) + 1)) = true
            rw [decide_eq_true (by omega : 0 ≤ (j : Int)), decide_eq_true (by omega : (j : Int) < (M : Int) + 1)]
            rfl
          rw [hnb]
          refine iteT ⟨_, rfl, _, rfl, _, rfl, _, _, rfl, rfl, _, _, rfl, ?_⟩
          have em : (if (j : Int) - (gone : Int) > 0 then (j : Int) - (gone : Int) else 0) = ((j - gone : Nat) : Int) := by
            by_cases c : (j : Int) - (gone : Int) > 0
            · rw [if_pos c]; omega
            · rw [if_neg c]; omega
          rw [em]
          refine ⟨(by show 2 ≤ sizeLine; decide), fun b hb => ?_⟩
          have s13 := sN (o := .tup [.str "told", .int ((j - gone : Nat) : Int)]) hb
          refine ⟨_, _, rfl, sm_tup (s13 _ _ et) upd_same ⟨sm_s _, sm_i _, trivial⟩, fun H14 s14 => ⟨_, rfl, iteF ?_⟩⟩
          refine ⟨_, rfl, _, rfl, _, _, rfl, ?_⟩
          have em2 : (if (j : Int) > (gone : Int) then (j : Int) else (gone : Int)) = ((gone + (j - gone) : Nat) : Int) := by
            by_cases c : (j : Int) > (gone : Int)
            · rw [if_pos c]; omega
            · rw [if_neg c]; omega
          rw [em2]
          exact ⟨_, lb, ys, _, _, _, _, rfl, (k12.same s13).same s14, len2⟩
        · rw [nb]
          refine iteF ⟨_, rfl, (by show 1 ≤ sizeLine; decide), fun b hb => ?_⟩
          have s13 := sN (o := .tup [.str "NoNumber"]) hb
          have k13 := k12.same s13
          refine ne_nn (s13 _ _ et) upd_same ⟨_, rfl, iteF ?_⟩
          refine ⟨_, rfl, x, dx, _, rfl, k13.o.at_, rfl, x, dx, la, gone, xs, rfl, k13.o, fun r2 u2 H14 s14 er2 eu2 => ?_⟩
          have k14 := k13.same s14
          refine ⟨_, rfl, _, _, rfl, sm_tup er2 (s14 _ _ (s13 _ _ er)) ⟨sm_i _, sm_tup eu2 (s14 _ _ (s13 _ _ eu)) (sm_things k14.t), trivial⟩, fun H15 s15 => ⟨_, rfl, iteF ?_⟩⟩
          exact ⟨gone, la, xs, _, _, _, _, rfl, k14.same s15, len⟩
      clear cs kv hpw len
      rintro σ' H12 ⟨gone, la, xs, x8, x9, x10, x11, rfl, k12, len⟩
      refine ⟨_, rfl, _, rfl, _, rfl, _, rfl, _, _, rfl, rfl, ⟨by decide, by decide, by decide⟩, _, _, rfl, rfl, _, _, rfl, rfl, ⟨by decide, by decide, by decide⟩, _, rfl, (by show 1 ≤ sizeLine; decide), fun q hq => ?_⟩
      have k13 := k12.same (sN (o := .tup [.int 0]) hq)
      have eq13 : (upd H12 q (.tup [.int 0])) q = some (.tup [.int 0]) := upd_same
      revert k13 eq13
      generalize upd H12 q (.tup [.int 0]) = H13
      intro k13 eq13
      have nqp : q ≠ p := by
        obtain ⟨⟨ps, hp⟩, _⟩ := k13.g.pl
        exact ne_of eq13 hp (fun z => by cases z)
      refine ⟨_, rfl, p, l, rfl, k13.g, fun ov H14 g14 b14 t14 => ?_⟩
      have k14 := k13.xp b14 g14
      have eq14 := b14 _ _ eq13 nqp
      refine ⟨(by show 10 ≤ sizeLine; decide), fun sm hsm => ?_⟩
      have s15 := sN (o := .lst [.int (taken : Int), .int (taken : Int), .int (taken : Int), .int ((2 : Int) ^ (32 : Int).toNat - 1), .int ((2 : Int) ^ (32 : Int).toNat), .int (-1), .bl false, .non, .ref q, ov]) hsm
      have k15 := k14.same s15
      have t15 := t14.same s15
      have eq15 := s15 _ _ eq14
      have nsm : sm ≠ p := by
        obtain ⟨⟨ps, hp⟩, _⟩ := k14.g.pl
        exact (ne_of_none hp hsm).symm
      refine ⟨p, l, sm, _, rfl, k15.g, upd_same, nsm, (by show 0 < 10; decide), (by show 10 < 1000; decide), fun v H16 hv g16 b16 => ?_⟩
      have k16 := k15.bp b16 g16
      have kv : KnA U0 H16 v := by
        simp only [List.mem_cons, List.not_mem_nil, or_false] at hv
        rcases hv with rfl | rfl | rfl | rfl | rfl | rfl | rfl | rfl | rfl | rfl
        · exact kn_i
        · exact kn_i
        · exact kn_i
        · exact kn_i
        · exact kn_i
        · exact kn_i
        · exact kn_b
        · exact kn_n
        · exact .inr (.inr ⟨q, rfl, id, .inr (.inl ⟨_, by rw [b16 q nqp]; exact eq15⟩)⟩)
        · refine t15.1.mv fun c o ec nc => ⟨id, ?_⟩
          have np : c ≠ p := fun z => nc (by
            obtain ⟨⟨ps, hp⟩, _⟩ := k13.g.pl
            show H13 c ≠ none
            rw [z, hp]
            exact fun q => by cases q)
          rw [b16 c np]
          exact ec
      clear t15 t14 s15 k15 k14 b14 g14 k13 b16 g16 hv nsm hsm eq13 eq14 eq15 nqp hq k12
      refine ⟨fun σ' H' => ∃ (v : V) (x8 x10 x11 : Option V), σ' = [some (.ref a), some (.ref p), some (.ref x), some (.ref e), some (.int (M : Int)), some (.int (0 + (i : Int))), some (.int (gone : Int)), some (.int (taken : Int)), x8, some v, x10, x11] ∧ KnA U0 H' v ∧ (∀ j : Nat, v = .int (j : Int) → ¬ (taken < j ∧ j < taken + 1000)) ∧ Lk CO CN H H' p l x dx la e de d gone taken xs, ?_, ?_⟩
      · refine ⟨_, rfl, _, rfl, _, _, rfl, rfl, _, rfl, _, _, rfl, rfl, U0, v, _, _, rfl, kv, _, rfl, ?_⟩
        cases hb : winB ((taken : Int) + 1) ((taken : Int) + 999) v with
        | true => exact iteT ⟨_, rfl, _, _, _, _, rfl, kn_i, fun j ej => by cases ej; omega, k16⟩
        | false =>
          refine iteF ⟨v, _, _, _, rfl, kv, fun j ej c => ?_, k16⟩
          subst ej
          have hb : (decide ((taken : Int) + 1 ≤ (j : Int)) && decide ((j : Int) ≤ (taken : Int) + 999)) = false := hb
          rw [decide_eq_true (by omega : (taken : Int) + 1 ≤ (j : Int)), decide_eq_true (by omega : (j : Int) ≤ (taken : Int) + 999)] at hb
          cases hb
      clear k16 kv
      rintro σ' H16 ⟨v, x8, x10, x11, rfl, kv, kno, k16⟩
      refine ⟨_, rfl, e, de, _, rfl, k16.n.at_, rfl, e, de, d, taken, rfl, k16.n, fun r u H17 s17 er eu => ?_⟩
      have k17 := k16.same s17
      have kv := kv.same s17
      clear k16 s17
      refine ⟨fun σ' H' => ∃ (r tl : Addr) (x8 : Option V), σ' = [some (.ref a), some (.ref p), some (.ref x), some (.ref e), some (.int (M : Int)), some (.int (0 + (i : Int))), some (.int (gone : Int)), some (.int (taken : Int)), x8, some v, some (.ref r), some (.ref tl)] ∧
        ((v = .int (taken : Int) ∧ ∃ (z th : Addr), Lk CO CN H H' p l x dx la e de d gone (taken + 1) xs ∧ H' tl = some (.tup [.str "told", .ref z]) ∧ H' z = some (.lst [.ref th]) ∧ H' th = some (.tup [.str "x", .int (taken : Int)])) ∨
         (∃ j : Nat, v = .int (j : Int) ∧ j < 4294967296 ∧ j ≠ taken ∧ ∃ (z : Addr), Lk CO CN H H' p l x dx la e de d gone taken xs ∧ H' tl = some (.tup [.str "told", .ref z]) ∧ H' z = some (.lst [])) ∨
         (numB 4294967296 v = false ∧ KnA U0 H' v ∧ Lk CO CN H H' p l x dx la e de d gone taken xs ∧ H' r = some (.tup [.int (taken : Int), .ref u]) ∧ H' u = some (.tup []) ∧ H' tl = some (.tup [.str "NoNumber"]))), ?_, ?_⟩
      · refine ⟨_, rfl, _, rfl, U0, e, de, d, taken, v, rfl, k17.n, kv, kno, fun ev lt tl z th H18 b18 n18 et ez eth => ?_, fun j ev lt nr tl z H18 b18 n18 et ez => ?_, fun nb tl H18 s18 et => ?_⟩
        · exact ⟨r, tl, _, rfl, .inl ⟨ev, z, th, k17.tk b18 n18, et, ez, eth⟩⟩
        · exact ⟨r, tl, _, rfl, .inr (.inl ⟨j, ev, lt, fun c => nr ⟨by omega, by omega⟩, z, k17.tk b18 n18, et, ez⟩)⟩
        · exact ⟨r, tl, _, rfl, .inr (.inr ⟨nb, kv.same s18, k17.same s18, s18 _ _ er, s18 _ _ eu, et⟩)⟩
      clear k17 kv er eu kno
      rintro σ' H18 ⟨r, tl, x8, rfl, cs⟩
      have e32 : ∀ v, winB 0 ((2 : Int) ^ (32 : Int).toNat - 1) v = numB 4294967296 v := fun v => by
        rw [show ((2 : Int) ^ (32 : Int).toNat - 1) = 4294967295 from by decide]
        exact win_num v 4294967295
      rcases cs with ⟨rfl, z, th, k18, et, ez, eth⟩ | ⟨j, rfl, lt, ne, z, k18, et, ez⟩ | ⟨nb, kv, k18, er, eu, et⟩
      · have hnb : numB 4294967296 (V.int (taken : Int)) = true := by
          show (decide (0 ≤ (taken : Int)) && decide ((taken : Int) < 4294967296)) = true
          rw [decide_eq_true (by omega : 0 ≤ (taken : Int)), decide_eq_true (by omega : (taken : Int) < 4294967296)]
          rfl
        refine ⟨_, rfl, _, _, rfl, rfl, ⟨by decide, by decide, by decide⟩, _, _, rfl, rfl, U0, .int (taken : Int), _, _, rfl, kn_i, _, rfl, ?_⟩
        rw [e32]
        rw [hnb]
        refine iteF ⟨_, rfl, _, rfl, rfl, _, rfl, ite2 (fun _ => ?_) (fun c => absurd (decide_eq_true rfl) c)⟩
        refine ⟨_, rfl, _, rfl, (by show 2 ≤ sizeLine; decide), fun q1 h1 => ?_⟩
        have s19 := sN (o := .tup [.str "x", .int (taken : Int)]) h1
        have k19 := k18.same s19
        have e19 : (upd H18 q1 (.tup [.str "x", .int (taken : Int)])) q1 = some (.tup [.str "x", .int (taken : Int)]) := upd_same
        have et := s19 _ _ et
        have ez := s19 _ _ ez
        have eth := s19 _ _ eth
        refine ⟨(by show 1 ≤ sizeLine; decide), fun q2 h2 => ?_⟩
        have s20 := sN (o := .lst [.ref q1]) h2
        have e20 : (upd (upd H18 q1 (.tup [.str "x", .int (taken : Int)])) q2 (.lst [.ref q1])) q2 = some (.lst [.ref q1]) := upd_same
        have e19 := s20 _ _ e19
        refine ⟨(by show 2 ≤ sizeLine; decide), fun q3 h3 => ?_⟩
        have s21 := sN (o := .tup [.str "told", .ref q2]) h3
        refine ⟨_, _, rfl, sm_tup (s21 _ _ (s20 _ _ et)) upd_same ⟨sm_s _, sm_lst (s21 _ _ (s20 _ _ ez)) (s21 _ _ e20) ⟨sm_tup (s21 _ _ (s20 _ _ eth)) (s21 _ _ e19) ⟨sm_s _, sm_i _, trivial⟩, trivial⟩, trivial⟩, fun H22 s22 => ⟨_, rfl, iteF ?_⟩⟩
        exact ⟨_, rfl, _, _, rfl, rfl, gone, taken + 1, la, xs, _, _, _, _, _, rfl, ((k19.same s20).same s21).same s22, len, by omega⟩
      · have hnb : numB 4294967296 (V.int (j : Int)) = true := by
          show (decide (0 ≤ (j : Int)) && decide ((j : Int) < 4294967296)) = true
          rw [decide_eq_true (by omega : 0 ≤ (j : Int)), decide_eq_true (by omega : (j : Int) < 4294967296)]
          rfl
        refine ⟨_, rfl, _, _, rfl, rfl, ⟨by decide, by decide, by decide⟩, _, _, rfl, rfl, U0, .int (j : Int), _, _, rfl, kn_i, _, rfl, ?_⟩
        rw [e32]
        rw [hnb]
        refine iteF ⟨_, rfl, _, rfl, rfl, _, rfl, ite2 (fun c => ?_) (fun _ => ?_)⟩
        · have c := of_decide_eq_true c
          injection c with c
          exact absurd (by omega) ne
        refine ⟨_, rfl, Nat.zero_le _, fun q1 h1 => ?_⟩
        have s19 := sN (o := .lst []) h1
        have e19 : (upd H18 q1 (.lst [])) q1 = some (.lst []) := upd_same
        refine ⟨(by show 2 ≤ sizeLine; decide), fun q2 h2 => ?_⟩
        have s20 := sN (o := .tup [.str "told", .ref q1]) h2
        exact ne_tn (s20 _ _ (s19 _ _ et)) (s20 _ _ (s19 _ _ ez)) upd_same (s20 _ _ e19) ⟨_, rfl, iteF ⟨gone, taken, la, xs, _, _, _, _, _, rfl, (k18.same s19).same s20, len, by omega⟩⟩
      · refine ⟨_, rfl, _, _, rfl, rfl, ⟨by decide, by decide, by decide⟩, _, _, rfl, rfl, U0, v, _, _, rfl, kv, _, rfl, ?_⟩
        rw [e32]
        rw [nb]
        refine iteT ⟨_, rfl, (by show 1 ≤ sizeLine; decide), fun b hb => ?_⟩
        have s19 := sN (o := .tup [.str "NoNumber"]) hb
        have k19 := k18.same s19
        refine ne_nn (s19 _ _ et) upd_same ⟨_, rfl, iteF ?_⟩
        refine ⟨_, rfl, e, de, _, rfl, k19.n.at_, rfl, e, de, d, taken, rfl, k19.n, fun r2 u2 H20 s20 er2 eu2 => ?_⟩
        refine ⟨_, rfl, _, _, rfl, sm_tup er2 (s20 _ _ (s19 _ _ er)) ⟨sm_i _, sm_tup eu2 (s20 _ _ (s19 _ _ eu)) trivial, trivial⟩, fun H21 s21 => ⟨_, rfl, iteF ?_⟩⟩
        exact ⟨gone, taken, la, xs, _, _, _, _, _, rfl, (k19.same s20).same s21, len, by omega⟩
    · clear k5 len
      rintro σ H6 ⟨gone, taken, la, xs, x5, x8, x9, x10, x11, rfl, k6, len, tk⟩
      refine ⟨_, rfl, x, dx, _, rfl, k6.o.at_, rfl, x, dx, la, gone, xs, rfl, k6.o, _, rfl, _, _, rfl, ?_, fun H7 s7 => ⟨_, rfl, iteT ?_⟩⟩
      · rw [len]
        exact sm_i _
      have k7 := k6.same s7
      refine ⟨_, rfl, e, de, _, rfl, k7.n.at_, rfl, e, de, d, taken, [], rfl, k7.n, _, rfl, _, _, rfl, sm_i _, fun H8 s8 => k H8 (k7.same s8).s⟩
end
end Q

namespace Q
open PySem L2 QR
theorem exm_ot {K : PySem.W.Frag} {A S : Addr} {b : Bool} (h1 : PySem.W.subIn K (.ref S) (.type "BaseException") = some true) (h2 : PySem.W.isClsIn K S = true) (h3 : PySem.W.typeIn K (.ref S) = some (.type "type")) (h4 : PySem.W.subIn K (.ref A) (.ref S) = some b) : PySem.W.exmOne K (.ref A) (.ref S) = some b := by
  have u1 : (PySem.W.subIn K (.ref S) (.type "BaseException") == some true) = true := by rw [h1] <;> rfl
  have u2 : ((PySem.W.clsIn K S).isSome && PySem.W.typeIn K (.ref S) == some (.type "type")) = true := by
    have z : (PySem.W.clsIn K S).isSome = true := h2
    rw [z, h3] <;> rfl
  show (if (PySem.W.subIn K (.ref S) (.type "BaseException") == some true) = true then (if ((PySem.W.clsIn K S).isSome && PySem.W.typeIn K (.ref S) == some (.type "type")) = true then PySem.W.subIn K (.ref A) (.ref S) else none) else none) = some b
  rw [if_pos u1, if_pos u2, h4]
theorem kit_self {K : PySem.W.Frag} {C : Addr} : PySem.W.kitOne K (.ref C) (.ref C) = some true := by
  unfold PySem.W.kitOne
  rw [if_pos (beq_self_eq_true _)]
theorem kit_ve {K : PySem.W.Frag} {C : Addr} (h : PySem.W.subIn K (.ref C) (.type "ValueError") = some true) : PySem.W.kitOne K (.ref C) (.type "ValueError") = some true := by
  unfold PySem.W.kitOne
  rw [if_neg (fun z => nomatch z)]
  show (if PySem.W.kitMeta "ValueError" = true then _ else none) = some true
  rw [if_pos (by decide +kernel)]
  exact h
theorem kit_clsN {K : PySem.W.Frag} {C S : Addr} (h2 : PySem.W.isClsIn K S = true) (h3 : PySem.W.typeIn K (.ref S) = some (.type "type")) (h4 : PySem.W.subIn K (.ref C) (.ref S) = some false) (h5 : PySem.W.subIn K (.ref C) (.ref C) = some true) : PySem.W.kitOne K (.ref C) (.ref S) = some false := by
  have u2 : ((PySem.W.clsIn K S).isSome && PySem.W.typeIn K (.ref S) == some (.type "type")) = true := by
    have z : (PySem.W.clsIn K S).isSome = true := h2
    rw [z, h3] <;> rfl
  unfold PySem.W.kitOne
  split
  · rename_i e
    have e : Value.ref C = Value.ref S := eq_of_beq e
    injection e with e
    subst e
    rw [h4] at h5
    cases h5
  · show (if ((PySem.W.clsIn K S).isSome && PySem.W.typeIn K (.ref S) == some (.type "type")) = true then PySem.W.subIn K (.ref C) (.ref S) else none) = some false
    rw [if_pos u2]
    exact h4
/-- what is asked of one error -/
structure Er1 (P : Program) (K : PySem.W.Frag) (mg : Str → Option Value) (CE C f : Addr) (nm ini : Str) : Prop where
  sup : QS.SupC P K mg C f ini
  g : mg nm = some (.ref C)
  ex : PySem.W.exmOne K (.ref C) (.ref CE) = some true
  exO : PySem.W.exmOne K (.ref C) (.ref C) = some true
  e : ExcC K C
  c : PySem.W.isClsIn K C = true
  v : PySem.W.kitOne K (.ref C) (.type "ValueError") = some true
def errsOf {P : Program} {K : PySem.W.Frag} {mg : Str → Option Value} {CE C0 C1 C2 C3 C4 f0 f1 f2 f3 f4 : Addr} (e0 : Er1 P K mg CE C0 f0 "NoRow" "NoRow.__init__") (e1 : Er1 P K mg CE C1 f1 "NoParcel" "NoParcel.__init__") (e2 : Er1 P K mg CE C2 f2 "NoCut" "NoCut.__init__") (e3 : Er1 P K mg CE C3 f3 "NoNumber" "NoNumber.__init__") (e4 : Er1 P K mg CE C4 f4 "NoBlocks" "NoBlocks.__init__")
    (k01 : PySem.W.kitOne K (.ref C0) (.ref C1) = some false) (k02 : PySem.W.kitOne K (.ref C0) (.ref C2) = some false) (k03 : PySem.W.kitOne K (.ref C0) (.ref C3) = some false) (k04 : PySem.W.kitOne K (.ref C0) (.ref C4) = some false) (k10 : PySem.W.kitOne K (.ref C1) (.ref C0) = some false) (k12 : PySem.W.kitOne K (.ref C1) (.ref C2) = some false) (k13 : PySem.W.kitOne K (.ref C1) (.ref C3) = some false) (k14 : PySem.W.kitOne K (.ref C1) (.ref C4) = some false) (k20 : PySem.W.kitOne K (.ref C2) (.ref C0) = some false) (k21 : PySem.W.kitOne K (.ref C2) (.ref C1) = some false) (k23 : PySem.W.kitOne K (.ref C2) (.ref C3) = some false) (k24 : PySem.W.kitOne K (.ref C2) (.ref C4) = some false) (k30 : PySem.W.kitOne K (.ref C3) (.ref C0) = some false) (k31 : PySem.W.kitOne K (.ref C3) (.ref C1) = some false) (k32 : PySem.W.kitOne K (.ref C3) (.ref C2) = some false) (k34 : PySem.W.kitOne K (.ref C3) (.ref C4) = some false) (k40 : PySem.W.kitOne K (.ref C4) (.ref C0) = some false) (k41 : PySem.W.kitOne K (.ref C4) (.ref C1) = some false) (k42 : PySem.W.kitOne K (.ref C4) (.ref C2) = some false) (k43 : PySem.W.kitOne K (.ref C4) (.ref C3) = some false)
    (gE : mg "RoundError" = some (.ref CE)) (noV : mg "ValueError" = none) : Errs P K mg CE where
  cl := fun | 0 => C0 | 1 => C1 | 2 => C2 | 3 => C3 | _ => C4
  fl := fun | 0 => f0 | 1 => f1 | 2 => f2 | 3 => f3 | _ => f4
  sup := fun i hi => by
    match i, hi with
    | 0, _ => exact e0.sup
    | 1, _ => exact e1.sup
    | 2, _ => exact e2.sup
    | 3, _ => exact e3.sup
    | 4, _ => exact e4.sup
    | n + 5, h => exact absurd h (by omega)
  g := fun i hi => by
    match i, hi with
    | 0, _ => exact e0.g
    | 1, _ => exact e1.g
    | 2, _ => exact e2.g
    | 3, _ => exact e3.g
    | 4, _ => exact e4.g
    | n + 5, h => exact absurd h (by omega)
  ex := fun i hi => by
    match i, hi with
    | 0, _ => exact e0.ex
    | 1, _ => exact e1.ex
    | 2, _ => exact e2.ex
    | 3, _ => exact e3.ex
    | 4, _ => exact e4.ex
    | n + 5, h => exact absurd h (by omega)
  exO := fun i hi => by
    match i, hi with
    | 0, _ => exact e0.exO
    | 1, _ => exact e1.exO
    | 2, _ => exact e2.exO
    | 3, _ => exact e3.exO
    | 4, _ => exact e4.exO
    | n + 5, h => exact absurd h (by omega)
  e := fun i hi => by
    match i, hi with
    | 0, _ => exact e0.e
    | 1, _ => exact e1.e
    | 2, _ => exact e2.e
    | 3, _ => exact e3.e
    | 4, _ => exact e4.e
    | n + 5, h => exact absurd h (by omega)
  c := fun i hi => by
    match i, hi with
    | 0, _ => exact e0.c
    | 1, _ => exact e1.c
    | 2, _ => exact e2.c
    | 3, _ => exact e3.c
    | 4, _ => exact e4.c
    | n + 5, h => exact absurd h (by omega)
  v := fun i hi => by
    match i, hi with
    | 0, _ => exact e0.v
    | 1, _ => exact e1.v
    | 2, _ => exact e2.v
    | 3, _ => exact e3.v
    | 4, _ => exact e4.v
    | n + 5, h => exact absurd h (by omega)
  k := fun i j hi hj => by
    match i, hi, j, hj with
    | 0, _, 0, _ => exact kit_self
    | 0, _, 1, _ => exact k01
    | 0, _, 2, _ => exact k02
    | 0, _, 3, _ => exact k03
    | 0, _, 4, _ => exact k04
    | 1, _, 0, _ => exact k10
    | 1, _, 1, _ => exact kit_self
    | 1, _, 2, _ => exact k12
    | 1, _, 3, _ => exact k13
    | 1, _, 4, _ => exact k14
    | 2, _, 0, _ => exact k20
    | 2, _, 1, _ => exact k21
    | 2, _, 2, _ => exact kit_self
    | 2, _, 3, _ => exact k23
    | 2, _, 4, _ => exact k24
    | 3, _, 0, _ => exact k30
    | 3, _, 1, _ => exact k31
    | 3, _, 2, _ => exact k32
    | 3, _, 3, _ => exact kit_self
    | 3, _, 4, _ => exact k34
    | 4, _, 0, _ => exact k40
    | 4, _, 1, _ => exact k41
    | 4, _, 2, _ => exact k42
    | 4, _, 3, _ => exact k43
    | 4, _, 4, _ => exact kit_self
    | n + 5, h, _, _ => exact absurd h (by omega)
    | _, _, n + 5, h => exact absurd h (by omega)
  gE := gE
  noV := noV
structure PD36 (K : PySem.W.Frag) (mg : Str → Option Value) where
  f0 : Addr
  d0 : FuncData
  D0 : Df K mg "is_plain_int" sPlain ["thing"] f0 d0
  f1 : Addr
  d1 : FuncData
  D1 : Df K mg "is_number_below" sNum ["limit", "thing"] f1 d1
  f2 : Addr
  d2 : FuncData
  D2 : Df K mg "is_row" sIsRow ["thing"] f2 d2
  f3 : Addr
  d3 : FuncData
  D3 : Df K mg "is_sign" sIsSg ["number"] f3 d3
  f4 : Addr
  d4 : FuncData
  D4 : Df K mg "sign_of" sSgOf ["number"] f4 d4
  f5 : Addr
  d5 : FuncData
  D5 : Df K mg "is_string" sIsStr ["thing"] f5 d5
  f6 : Addr
  d6 : FuncData
  D6 : Df K mg "is_parcel_within" sIPW ["deep", "thing"] f6 d6
  f7 : Addr
  d7 : FuncData
  D7 : Df K mg "is_parcel" sIsPar ["thing"] f7 d7
  f8 : Addr
  d8 : FuncData
  D8 : Df K mg "row_of" sRowOf ["parcel"] f8 d8
  f9 : Addr
  d9 : FuncData
  D9 : Df K mg "read_whole_row" sRAll ["row"] f9 d9
  f10 : Addr
  d10 : FuncData
  D10 : Df K mg "parcel_of" sParO ["row"] f10 d10
  f11 : Addr
  d11 : FuncData
  D11 : Df K mg "mark_of" sMkOf ["row"] f11 d11
  f12 : Addr
  d12 : FuncData
  D12 : Df K mg "mark" sMark ["row"] f12 d12
  f13 : Addr
  d13 : FuncData
  D13 : Df K mg "seal_of" sSeal ["row"] f13 d13
  f14 : Addr
  d14 : FuncData
  D14 : Df K mg "sealed" sSealed ["parcel"] f14 d14
  f15 : Addr
  d15 : FuncData
  D15 : Df K mg "unsealed" sUns ["row"] f15 d15
  f16 : Addr
  d16 : FuncData
  D16 : Df K mg "is_cut" sCut ["waiting", "thing"] f16 d16
  f17 : Addr
  d17 : FuncData
  D17 : Df K mg "kept_parcels" sKP ["blocks"] f17 d17
structure LD36 (K : PySem.W.Frag) (mg : Str → Option Value) where
  f0 : Addr
  d0 : FuncData
  D0 : Df K mg "_law_hand" sHand ["script"] f0 d0
  f1 : Addr
  d1 : FuncData
  D1 : Df K mg "_law_take" sTake ["hand", "many"] f1 d1
  f2 : Addr
  d2 : FuncData
  D2 : Df K mg "_law_pick" sPick ["hand", "things"] f2 d2
  f3 : Addr
  d3 : FuncData
  D3 : Df K mg "_law_is_integer" sLInt ["thing"] f3 d3
  f4 : Addr
  d4 : FuncData
  D4 : Df K mg "_law_is_within" sLWin ["thing", "least", "most"] f4 d4
  f5 : Addr
  d5 : FuncData
  D5 : Df K mg "_law_same" sSameG ["actual", "due"] f5 d5
  f6 : Addr
  d6 : FuncData
  D6 : Df K mg "_law_odd" sOddL ["hand"] f6 d6
  f7 : Addr
  d7 : FuncData
  D7 : Df K mg "_law_known" sKnown ["out", "number"] f7 d7
  f8 : Addr
  d8 : FuncData
  D8 : Df K mg "_law_taken" sTaken ["end", "number"] f8 d8
  f9 : Addr
  d9 : FuncData
  D9 : Df K mg "_law_first" sFst ["script"] f9 d9
  f10 : Addr
  d10 : FuncData
  D10 : Df K mg "_law_pool" sPool ["script"] f10 d10
  f11 : Addr
  d11 : FuncData
  D11 : Df K mg "_law_draw" sDraw ["pool", "many"] f11 d11
  f12 : Addr
  d12 : FuncData
  D12 : Df K mg "_law_deep" sLDeep [] f12 d12
  f13 : Addr
  d13 : FuncData
  D13 : Df K mg "_law_nested" sNest ["many", "inner"] f13 d13
  f14 : Addr
  d14 : FuncData
  D14 : Df K mg "_law_is_row" sLIsRow ["thing"] f14 d14
  f15 : Addr
  d15 : FuncData
  D15 : Df K mg "_law_call" sLCall ["which", "disk", "thing"] f15 d15
  f16 : Addr
  d16 : FuncData
  D16 : Df K mg "_law_name" sName ["error"] f16 d16
  f17 : Addr
  d17 : FuncData
  D17 : Df K mg "_law_word" sLWord ["which", "disk", "thing"] f17 d17
  f18 : Addr
  d18 : FuncData
  D18 : Df K mg "_law_some" sLSome ["pool"] f18 d18
  f19 : Addr
  d19 : FuncData
  D19 : Df K mg "_law_due" sLDue ["which", "blocks", "synced", "thing"] f19 d19
  f20 : Addr
  d20 : FuncData
  D20 : Df K mg "_law_second" sSnd ["script"] f20 d20
section
variable {P : Program} {w : World} {K : PySem.W.Frag} {mg : Str → Option Value} {base : Heap} {CE : Addr}
theorem scLaw : FnScope ["script"] ["script"] (defScope sLaw) := ⟨rfl, rfl, rfl, by decide +kernel, rfl, by decide +kernel, by decide +kernel⟩
theorem ok_law {f CR CB fB CD CO CN : Addr} {fd dB : FuncData} (F : Fun K "law" "law" sLaw f fd) (B : Bts mg) (C : Cst mg) (BA : Bare K mg) (T : RTxt K mg CR) (M : RDefs K CR) (BT : BTxt K mg CB fB dB) (TD : DTxt K mg CD) (MD : DDefs K CD) (LC : LCst mg) (TO : OTxt K mg CO) (MO : ODefs K CO) (TN : NTxt K mg CN) (MN : NDefs K CN) (X : Errs P K mg CE) (A : PD36 K mg) (L : LD36 K mg) : FnOk P w K mg base CX0 52 f fd ["script"] (spLaw K) := by
  have GRow : FnOk P w K mg base CX0 3 A.f2 A.d2 ["thing"] (spIsRow K) := ok_isrow A.D2 B C A.D0 A.D1
  have GRow2 : FnOk P w K mg base CX0 3 A.f2 A.d2 ["thing"] (spIsRow2) := ok_isrow2 A.D2 B C A.D0 A.D1
  have GA : FnOk P w K mg base (L2.CX P w) 46 A.f9 A.d9 ["row"] (spRAll CB) := ok_rall A.D9 T M B C BA BT A.D3 A.D4
  have GU : FnOk P w K mg base CX0 47 A.f15 A.d15 ["row"] (spUns K) := ok_uns A.D15 B C BT A.D2 GRow A.D13 A.D11 A.D9 GA
  have GMk : FnOk P w K mg base (L2.CX P w) 4 A.f12 A.d12 ["row"] (spMkX (X.cl 0)) := ok_mkX X A.D12 C A.D2 A.D11 GRow2
  have GPa : FnOk P w K mg base (L2.CX P w) 4 A.f10 A.d10 ["row"] (spPaX (X.cl 0)) := ok_paX X A.D10 A.D2 GRow2
  have GDw : FnOk P w K mg base (L2.CX P w) 4 MD.fW MD.dW ["self", "row"] (spDWX CD (X.cl 0)) := ok_dwN X TD MD B A.D2 GRow2
  have GDc : FnOk P w K mg base (L2.CX P w) 4 MD.fC MD.dC ["self", "kept"] (spDCX CD (X.cl 2)) := ok_dcX X TD MD B A.D16 A.D1 A.D0
  have GDd : FnOk P w K mg base (L2.CX P w) 3 MD.fD MD.dD ["self", "number"] (spDDX CD (X.cl 3)) := ok_ddX X TD MD B A.D1 A.D0
  have GKP : FnOk P w K mg base (L2.CX P w) 48 A.f17 A.d17 ["blocks"] (spKPX (X.cl 4)) := ok_kpX X A.D17 B A.D2 GRow2 GRow A.D15 GU
  have GRo : FnOk P w K mg base (L2.CX P w) 25 A.f8 A.d8 ["parcel"] (spNoP (X.cl 1)) := ok_roN X A.D8 B C A.D7 A.D6 A.D5 A.D3
  have GSe : FnOk P w K mg base (L2.CX P w) 26 A.f14 A.d14 ["parcel"] (spNoP (X.cl 1)) := ok_seN X A.D14 A.D8 GRo
  have GCa : FnOk P w K mg base (L2.CX P w) 49 L.f15 L.d15 ["which", "disk", "thing"] (spLC CD X) := ok_lcall X L.D15 TD MD A.D10 GPa A.D12 GMk GDw A.D8 GRo A.D14 GSe GDc GDd A.D17 GKP
  have GNm : FnE P w K mg base 1 L.f16 L.d16 ["error"] (spName X) := ok_name L.D16 B X
  have GWd : FnOk P w K mg base CX0 50 L.f17 L.d17 ["which", "disk", "thing"] (spWordL CD X) := ok_lword X L.D17 L.D15 GCa L.D16 GNm
  have GSo : FnOk P w K mg base CX0 2 L.f18 L.d18 ["pool"] (spLSome) := ok_lsome L.D18 B L.D11 L.D12
  have GDu : FnOk P w K mg base CX0 3 L.f19 L.d19 ["which", "blocks", "synced", "thing"] (spLDue K) := ok_ldue L.D19 B L.D14 L.D4 L.D3
  have G2 : FnOk P w K mg base CX0 51 L.f20 L.d20 ["script"] (spSnd K) := ok_snd (fRo := A.f0) (dRo := A.d0) X L.D20 B TD MD L.D10 L.D11 A.D2 GRow L.D14 L.D18 GSo L.D13 L.D17 GWd L.D19 GDu
  have G1 : FnOk P w K mg base CX0 6 L.f9 L.d9 ["script"] (spFst K) := ok_fst X L.D9 B LC TO MO TN MN L.D0 L.D1 L.D2 L.D6 L.D7 L.D8 L.D4 L.D3 L.D5 A.D1 A.D0
  refine F.ok scLaw (fun vs H Q E h => ?_) (fun cdv Ar outer s H vs Q E hr h => ?_)
  · obtain ⟨a, ns, rfl, _⟩ := h
    rfl
  · obtain ⟨a, ns, rfl, hS, hlen, k⟩ := h
    have hr6 : Room 6 _ := hr.mono (by decide)
    refine ⟨_, pss_one (ps_ret (pe_and (pe_call G1 hr6 rfl L.D9.m L.D9.k L.D9.b .nil pass0 (pa_cons (pv 0) pa_nil)) (pe_one (pe_call G2 hr rfl L.D20.m L.D20.k L.D20.b .nil pass0 (pa_cons (pv 0) pa_nil))))), ?_⟩
    exact ⟨_, rfl, a, ns, rfl, hS, hlen, fun H' s1 => ⟨_, rfl, iteT ⟨_, rfl, a, ns, rfl, s1.seq hS, hlen, fun H'' => k H''⟩⟩⟩
end
end Q

namespace Q
open PySem L2 QR QS
theorem exm_me {K : PySem.W.Frag} {S : Addr} (h1 : PySem.W.subIn K (.ref S) (.type "BaseException") = some true) (h2 : PySem.W.isClsIn K S = true) (h3 : PySem.W.typeIn K (.ref S) = some (.type "type")) (h4 : PySem.W.subIn K (.ref S) (.ref S) = some true) : PySem.W.exmOne K (.ref S) (.ref S) = some true := by
  have u1 : (PySem.W.subIn K (.ref S) (.type "BaseException") == some true) = true := by rw [h1] <;> rfl
  have u2 : ((PySem.W.clsIn K S).isSome && PySem.W.typeIn K (.ref S) == some (.type "type")) = true := by
    have z : (PySem.W.clsIn K S).isSome = true := h2
    rw [z, h3] <;> rfl
  show (if (PySem.W.subIn K (.ref S) (.type "BaseException") == some true) = true then (if ((PySem.W.clsIn K S).isSome && PySem.W.typeIn K (.ref S) == some (.type "type")) = true then PySem.W.subIn K (.ref S) (.ref S) else none) else none) = some true
  rw [if_pos u1, if_pos u2, h4]

theorem all_mk {l : PySem.W.OpenLaw} {w : World} {K : PySem.W.Frag} {h : Heap} {mg : Str → Option Value} {fa : Addr} (X : K.In h) (G : h.Ns mainGlobals mg) (hfa : mg "law" = some (.ref fa))
    {tc_BYTES : Tok}
    {tc_MOST_DEEP : Tok}
    {tc_MOST_SIGNS : Tok}
    {tc_FROM_0_ON : Tok}
    {tc_BELOW_0 : Tok}
    {tc_STRING : Tok}
    {tc_TUPLE : Tok}
    {tc_FIRST_SIGN : Tok}
    {tc_NO_SIGN : Tok}
    {tc_LAST_SIGN : Tok}
    {tc_MARK_FACTOR : Tok}
    {tc_MARKS : Tok}
    {tc_SEALS : Tok}
    {tc_SEAL_LENGTH : Tok}
    {tc_NUMBERS : Tok}
    {tc_HELD_AHEAD : Tok}
    {CR : Addr} {tsb tsa : Tok} {aBA : Addr} {itBA : Array Value} {nuBA : Nat} {slBA : Array (Option Value)}
    {CB fB : Addr} {nmB qB : Str} {NB : Addr} {bsB bmB : List Value} {snB : List Str} {subB : List Value} {abB : Bool} {colB : Option Bool} {ddB : Option Addr} {k0B k1B k2B k3B k5B : Option Value} {ocB : Value} {odB anB : Option Addr} {slB : Array (Option Value)} {kVB dcB pmB cdB ctB : Value}
    {fmI : Addr} {ocmI kVmI dcmI pmmI cdmI ctmI : Value} {odmI anmI : Option Addr} {slmI : Array (Option Value)}
    {fmD : Addr} {ocmD kVmD dcmD pmmD cdmD ctmD : Value} {odmD anmD : Option Addr} {slmD : Array (Option Value)}
    {fmW : Addr} {ocmW kVmW dcmW pmmW cdmW ctmW : Value} {odmW anmW : Option Addr} {slmW : Array (Option Value)}
    {fmS : Addr} {ocmS kVmS dcmS pmmS cdmS ctmS : Value} {odmS anmS : Option Addr} {slmS : Array (Option Value)}
    {fmT : Addr} {ocmT kVmT dcmT pmmT cdmT ctmT : Value} {odmT anmT : Option Addr} {slmT : Array (Option Value)}
    {fmP : Addr} {ocmP kVmP dcmP pmmP cdmP ctmP : Value} {odmP anmP : Option Addr} {slmP : Array (Option Value)}
    {CD CO CN CE : Addr}
    {fdI : Addr} {ocdI kVdI dcdI pmdI cddI ctdI : Value} {oddI andI : Option Addr} {sldI : Array (Option Value)}
    {fdW : Addr} {ocdW kVdW dcdW pmdW cddW ctdW : Value} {oddW andW : Option Addr} {sldW : Array (Option Value)}
    {fdS : Addr} {ocdS kVdS dcdS pmdS cddS ctdS : Value} {oddS andS : Option Addr} {sldS : Array (Option Value)}
    {fdB : Addr} {ocdB kVdB dcdB pmdB cddB ctdB : Value} {oddB andB : Option Addr} {sldB : Array (Option Value)}
    {fdY : Addr} {ocdY kVdY dcdY pmdY cddY ctdY : Value} {oddY andY : Option Addr} {sldY : Array (Option Value)}
    {fdC : Addr} {ocdC kVdC dcdC pmdC cddC ctdC : Value} {oddC andC : Option Addr} {sldC : Array (Option Value)}
    {fdD : Addr} {ocdD kVdD dcdD pmdD cddD ctdD : Value} {oddD andD : Option Addr} {sldD : Array (Option Value)}
    {fdK : Addr} {ocdK kVdK dcdK pmdK cddK ctdK : Value} {oddK andK : Option Addr} {sldK : Array (Option Value)}
    {foI : Addr} {ocoI kVoI dcoI pmoI cdoI ctoI : Value} {odoI anoI : Option Addr} {sloI : Array (Option Value)}
    {foP : Addr} {ocoP kVoP dcoP pmoP cdoP ctoP : Value} {odoP anoP : Option Addr} {sloP : Array (Option Value)}
    {foK : Addr} {ocoK kVoK dcoK pmoK cdoK ctoK : Value} {odoK anoK : Option Addr} {sloK : Array (Option Value)}
    {foM : Addr} {ocoM kVoM dcoM pmoM cdoM ctoM : Value} {odoM anoM : Option Addr} {sloM : Array (Option Value)}
    {foS : Addr} {ocoS kVoS dcoS pmoS cdoS ctoS : Value} {odoS anoS : Option Addr} {sloS : Array (Option Value)}
    {fnI : Addr} {ocnI kVnI dcnI pmnI cdnI ctnI : Value} {odnI annI : Option Addr} {slnI : Array (Option Value)}
    {fnT : Addr} {ocnT kVnT dcnT pmnT cdnT ctnT : Value} {odnT annT : Option Addr} {slnT : Array (Option Value)}
    {fnN : Addr} {ocnN kVnN dcnN pmnN cdnN ctnN : Value} {odnN annN : Option Addr} {slnN : Array (Option Value)}
    {fnH : Addr} {ocnH kVnH dcnH pmnH cdnH ctnH : Value} {odnH annH : Option Addr} {slnH : Array (Option Value)}
    {fnS : Addr} {ocnS kVnS dcnS pmnS cdnS ctnS : Value} {odnS annS : Option Addr} {slnS : Array (Option Value)}
    {Cr fr cdar ccr : Addr} {nmr qr : Str} {Nr : Addr} {bsr bmr : List Value} {snr : List Str} {subr : List Value} {abr : Bool} {colr : Option Bool} {ddr : Option Addr} {k0r k1r k2r k3r k5r : Option Value} {ocr : Value} {odr : Option Addr} {docr pmr : Value} {anr : Option Addr} {ctr : Value} {oslr : Array (Option Value)} {pr q1r q2r q3r q4r q5r : Pos} {cclr clr : Value} {cddr cldr : Option Addr} {ccsr cslr : Array (Option Value)} {vsr : Array Value} {filer : Str} {tfr : Tok}
    {Cp fp cdap ccp : Addr} {nmp qp : Str} {Np : Addr} {bsp bmp : List Value} {snp : List Str} {subp : List Value} {abp : Bool} {colp : Option Bool} {ddp : Option Addr} {k0p k1p k2p k3p k5p : Option Value} {ocp : Value} {odp : Option Addr} {docp pmp : Value} {anp : Option Addr} {ctp : Value} {oslp : Array (Option Value)} {pp q1p q2p q3p q4p q5p : Pos} {cclp clp : Value} {cddp cldp : Option Addr} {ccsp cslp : Array (Option Value)} {vsp : Array Value} {filep : Str} {tfp : Tok}
    {Cc fc cdac ccc : Addr} {nmc qc : Str} {Nc : Addr} {bsc bmc : List Value} {snc : List Str} {subc : List Value} {abc : Bool} {colc : Option Bool} {ddc : Option Addr} {k0c k1c k2c k3c k5c : Option Value} {occ : Value} {odc : Option Addr} {docc pmc : Value} {anc : Option Addr} {ctc : Value} {oslc : Array (Option Value)} {pc q1c q2c q3c q4c q5c : Pos} {cclc clc : Value} {cddc cldc : Option Addr} {ccsc cslc : Array (Option Value)} {vsc : Array Value} {filec : Str} {tfc : Tok}
    {Cn fn cdan ccn : Addr} {nmn qn : Str} {Nn : Addr} {bsn bmn : List Value} {snn : List Str} {subn : List Value} {abn : Bool} {coln : Option Bool} {ddn : Option Addr} {k0n k1n k2n k3n k5n : Option Value} {ocn : Value} {odn : Option Addr} {docn pmn : Value} {ann : Option Addr} {ctn : Value} {osln : Array (Option Value)} {pn q1n q2n q3n q4n q5n : Pos} {ccln cln : Value} {cddn cldn : Option Addr} {ccsn csln : Array (Option Value)} {vsn : Array Value} {filen : Str} {tfn : Tok}
    {Cb fb cdab ccb : Addr} {nmb qb : Str} {Nb : Addr} {bsb bmb : List Value} {snb : List Str} {subb : List Value} {abb : Bool} {colb : Option Bool} {ddb : Option Addr} {k0b k1b k2b k3b k5b : Option Value} {ocb : Value} {odb : Option Addr} {docb pmb : Value} {anb : Option Addr} {ctb : Value} {oslb : Array (Option Value)} {pb q1b q2b q3b q4b q5b : Pos} {cclb clb : Value} {cddb cldb : Option Addr} {ccsb cslb : Array (Option Value)} {vsb : Array Value} {fileb : Str} {tfb : Tok}
    {f0 : Addr} {od0 an0 : Option Addr} {sl0 : Array (Option Value)} {oc0 kV0 dc0 pm0 cd0 ct0 : Value}
    {f1 : Addr} {od1 an1 : Option Addr} {sl1 : Array (Option Value)} {oc1 kV1 dc1 pm1 cd1 ct1 : Value}
    {f2 : Addr} {od2 an2 : Option Addr} {sl2 : Array (Option Value)} {oc2 kV2 dc2 pm2 cd2 ct2 : Value}
    {f3 : Addr} {od3 an3 : Option Addr} {sl3 : Array (Option Value)} {oc3 kV3 dc3 pm3 cd3 ct3 : Value}
    {f4 : Addr} {od4 an4 : Option Addr} {sl4 : Array (Option Value)} {oc4 kV4 dc4 pm4 cd4 ct4 : Value}
    {f5 : Addr} {od5 an5 : Option Addr} {sl5 : Array (Option Value)} {oc5 kV5 dc5 pm5 cd5 ct5 : Value}
    {f6 : Addr} {od6 an6 : Option Addr} {sl6 : Array (Option Value)} {oc6 kV6 dc6 pm6 cd6 ct6 : Value}
    {f7 : Addr} {od7 an7 : Option Addr} {sl7 : Array (Option Value)} {oc7 kV7 dc7 pm7 cd7 ct7 : Value}
    {f8 : Addr} {od8 an8 : Option Addr} {sl8 : Array (Option Value)} {oc8 kV8 dc8 pm8 cd8 ct8 : Value}
    {f9 : Addr} {od9 an9 : Option Addr} {sl9 : Array (Option Value)} {oc9 kV9 dc9 pm9 cd9 ct9 : Value}
    {f10 : Addr} {od10 an10 : Option Addr} {sl10 : Array (Option Value)} {oc10 kV10 dc10 pm10 cd10 ct10 : Value}
    {f11 : Addr} {od11 an11 : Option Addr} {sl11 : Array (Option Value)} {oc11 kV11 dc11 pm11 cd11 ct11 : Value}
    {f12 : Addr} {od12 an12 : Option Addr} {sl12 : Array (Option Value)} {oc12 kV12 dc12 pm12 cd12 ct12 : Value}
    {f13 : Addr} {od13 an13 : Option Addr} {sl13 : Array (Option Value)} {oc13 kV13 dc13 pm13 cd13 ct13 : Value}
    {f14 : Addr} {od14 an14 : Option Addr} {sl14 : Array (Option Value)} {oc14 kV14 dc14 pm14 cd14 ct14 : Value}
    {f15 : Addr} {od15 an15 : Option Addr} {sl15 : Array (Option Value)} {oc15 kV15 dc15 pm15 cd15 ct15 : Value}
    {f16 : Addr} {od16 an16 : Option Addr} {sl16 : Array (Option Value)} {oc16 kV16 dc16 pm16 cd16 ct16 : Value}
    {f17 : Addr} {od17 an17 : Option Addr} {sl17 : Array (Option Value)} {oc17 kV17 dc17 pm17 cd17 ct17 : Value}
    {f18 : Addr} {od18 an18 : Option Addr} {sl18 : Array (Option Value)} {oc18 kV18 dc18 pm18 cd18 ct18 : Value}
    {f19 : Addr} {od19 an19 : Option Addr} {sl19 : Array (Option Value)} {oc19 kV19 dc19 pm19 cd19 ct19 : Value}
    {f20 : Addr} {od20 an20 : Option Addr} {sl20 : Array (Option Value)} {oc20 kV20 dc20 pm20 cd20 ct20 : Value}
    {f21 : Addr} {od21 an21 : Option Addr} {sl21 : Array (Option Value)} {oc21 kV21 dc21 pm21 cd21 ct21 : Value}
    {f22 : Addr} {od22 an22 : Option Addr} {sl22 : Array (Option Value)} {oc22 kV22 dc22 pm22 cd22 ct22 : Value}
    {f23 : Addr} {od23 an23 : Option Addr} {sl23 : Array (Option Value)} {oc23 kV23 dc23 pm23 cd23 ct23 : Value}
    {f24 : Addr} {od24 an24 : Option Addr} {sl24 : Array (Option Value)} {oc24 kV24 dc24 pm24 cd24 ct24 : Value}
    {f25 : Addr} {od25 an25 : Option Addr} {sl25 : Array (Option Value)} {oc25 kV25 dc25 pm25 cd25 ct25 : Value}
    {f26 : Addr} {od26 an26 : Option Addr} {sl26 : Array (Option Value)} {oc26 kV26 dc26 pm26 cd26 ct26 : Value}
    {f27 : Addr} {od27 an27 : Option Addr} {sl27 : Array (Option Value)} {oc27 kV27 dc27 pm27 cd27 ct27 : Value}
    {f28 : Addr} {od28 an28 : Option Addr} {sl28 : Array (Option Value)} {oc28 kV28 dc28 pm28 cd28 ct28 : Value}
    {f29 : Addr} {od29 an29 : Option Addr} {sl29 : Array (Option Value)} {oc29 kV29 dc29 pm29 cd29 ct29 : Value}
    {f30 : Addr} {od30 an30 : Option Addr} {sl30 : Array (Option Value)} {oc30 kV30 dc30 pm30 cd30 ct30 : Value}
    {f31 : Addr} {od31 an31 : Option Addr} {sl31 : Array (Option Value)} {oc31 kV31 dc31 pm31 cd31 ct31 : Value}
    {f32 : Addr} {od32 an32 : Option Addr} {sl32 : Array (Option Value)} {oc32 kV32 dc32 pm32 cd32 ct32 : Value}
    {f33 : Addr} {od33 an33 : Option Addr} {sl33 : Array (Option Value)} {oc33 kV33 dc33 pm33 cd33 ct33 : Value}
    {f34 : Addr} {od34 an34 : Option Addr} {sl34 : Array (Option Value)} {oc34 kV34 dc34 pm34 cd34 ct34 : Value}
    {f35 : Addr} {od35 an35 : Option Addr} {sl35 : Array (Option Value)} {oc35 kV35 dc35 pm35 cd35 ct35 : Value}
    {f36 : Addr} {od36 an36 : Option Addr} {sl36 : Array (Option Value)} {oc36 kV36 dc36 pm36 cd36 ct36 : Value}
    {f37 : Addr} {od37 an37 : Option Addr} {sl37 : Array (Option Value)} {oc37 kV37 dc37 pm37 cd37 ct37 : Value}
    {f38 : Addr} {od38 an38 : Option Addr} {sl38 : Array (Option Value)} {oc38 kV38 dc38 pm38 cd38 ct38 : Value}
    {f39 : Addr} {od39 an39 : Option Addr} {sl39 : Array (Option Value)} {oc39 kV39 dc39 pm39 cd39 ct39 : Value}
    (a0 : PySem.W.nsIn K mainGlobals "is_plain_int" = some (some (.ref f0)))
    (l0 : K.lookup f0 = some ⟨oc0, od0, .func (PySem.W.fnOf "is_plain_int" "is_plain_int" (defArgs sPlain) (defBody sPlain) (defScope sPlain) .none kV0 dc0 pm0 an0 cd0 ct0), sl0⟩)
    (c0 : PySem.W.codeIn K cd0 "is_plain_int" = true)
    (k0 : PySem.W.keepIn K (.ref f0) = true)
    (a1 : PySem.W.nsIn K mainGlobals "is_number_below" = some (some (.ref f1)))
    (l1 : K.lookup f1 = some ⟨oc1, od1, .func (PySem.W.fnOf "is_number_below" "is_number_below" (defArgs sNum) (defBody sNum) (defScope sNum) .none kV1 dc1 pm1 an1 cd1 ct1), sl1⟩)
    (c1 : PySem.W.codeIn K cd1 "is_number_below" = true)
    (k1 : PySem.W.keepIn K (.ref f1) = true)
    (a2 : PySem.W.nsIn K mainGlobals "is_row" = some (some (.ref f2)))
    (l2 : K.lookup f2 = some ⟨oc2, od2, .func (PySem.W.fnOf "is_row" "is_row" (defArgs sIsRow) (defBody sIsRow) (defScope sIsRow) .none kV2 dc2 pm2 an2 cd2 ct2), sl2⟩)
    (c2 : PySem.W.codeIn K cd2 "is_row" = true)
    (k2 : PySem.W.keepIn K (.ref f2) = true)
    (a3 : PySem.W.nsIn K mainGlobals "is_sign" = some (some (.ref f3)))
    (l3 : K.lookup f3 = some ⟨oc3, od3, .func (PySem.W.fnOf "is_sign" "is_sign" (defArgs sIsSg) (defBody sIsSg) (defScope sIsSg) .none kV3 dc3 pm3 an3 cd3 ct3), sl3⟩)
    (c3 : PySem.W.codeIn K cd3 "is_sign" = true)
    (k3 : PySem.W.keepIn K (.ref f3) = true)
    (a4 : PySem.W.nsIn K mainGlobals "sign_of" = some (some (.ref f4)))
    (l4 : K.lookup f4 = some ⟨oc4, od4, .func (PySem.W.fnOf "sign_of" "sign_of" (defArgs sSgOf) (defBody sSgOf) (defScope sSgOf) .none kV4 dc4 pm4 an4 cd4 ct4), sl4⟩)
    (c4 : PySem.W.codeIn K cd4 "sign_of" = true)
    (k4 : PySem.W.keepIn K (.ref f4) = true)
    (a5 : PySem.W.nsIn K mainGlobals "is_string" = some (some (.ref f5)))
    (l5 : K.lookup f5 = some ⟨oc5, od5, .func (PySem.W.fnOf "is_string" "is_string" (defArgs sIsStr) (defBody sIsStr) (defScope sIsStr) .none kV5 dc5 pm5 an5 cd5 ct5), sl5⟩)
    (c5 : PySem.W.codeIn K cd5 "is_string" = true)
    (k5 : PySem.W.keepIn K (.ref f5) = true)
    (a6 : PySem.W.nsIn K mainGlobals "is_parcel_within" = some (some (.ref f6)))
    (l6 : K.lookup f6 = some ⟨oc6, od6, .func (PySem.W.fnOf "is_parcel_within" "is_parcel_within" (defArgs sIPW) (defBody sIPW) (defScope sIPW) .none kV6 dc6 pm6 an6 cd6 ct6), sl6⟩)
    (c6 : PySem.W.codeIn K cd6 "is_parcel_within" = true)
    (k6 : PySem.W.keepIn K (.ref f6) = true)
    (a7 : PySem.W.nsIn K mainGlobals "is_parcel" = some (some (.ref f7)))
    (l7 : K.lookup f7 = some ⟨oc7, od7, .func (PySem.W.fnOf "is_parcel" "is_parcel" (defArgs sIsPar) (defBody sIsPar) (defScope sIsPar) .none kV7 dc7 pm7 an7 cd7 ct7), sl7⟩)
    (c7 : PySem.W.codeIn K cd7 "is_parcel" = true)
    (k7 : PySem.W.keepIn K (.ref f7) = true)
    (a8 : PySem.W.nsIn K mainGlobals "row_of" = some (some (.ref f8)))
    (l8 : K.lookup f8 = some ⟨oc8, od8, .func (PySem.W.fnOf "row_of" "row_of" (defArgs sRowOf) (defBody sRowOf) (defScope sRowOf) .none kV8 dc8 pm8 an8 cd8 ct8), sl8⟩)
    (c8 : PySem.W.codeIn K cd8 "row_of" = true)
    (k8 : PySem.W.keepIn K (.ref f8) = true)
    (a9 : PySem.W.nsIn K mainGlobals "read_whole_row" = some (some (.ref f9)))
    (l9 : K.lookup f9 = some ⟨oc9, od9, .func (PySem.W.fnOf "read_whole_row" "read_whole_row" (defArgs sRAll) (defBody sRAll) (defScope sRAll) .none kV9 dc9 pm9 an9 cd9 ct9), sl9⟩)
    (c9 : PySem.W.codeIn K cd9 "read_whole_row" = true)
    (k9 : PySem.W.keepIn K (.ref f9) = true)
    (a10 : PySem.W.nsIn K mainGlobals "parcel_of" = some (some (.ref f10)))
    (l10 : K.lookup f10 = some ⟨oc10, od10, .func (PySem.W.fnOf "parcel_of" "parcel_of" (defArgs sParO) (defBody sParO) (defScope sParO) .none kV10 dc10 pm10 an10 cd10 ct10), sl10⟩)
    (c10 : PySem.W.codeIn K cd10 "parcel_of" = true)
    (k10 : PySem.W.keepIn K (.ref f10) = true)
    (a11 : PySem.W.nsIn K mainGlobals "mark_of" = some (some (.ref f11)))
    (l11 : K.lookup f11 = some ⟨oc11, od11, .func (PySem.W.fnOf "mark_of" "mark_of" (defArgs sMkOf) (defBody sMkOf) (defScope sMkOf) .none kV11 dc11 pm11 an11 cd11 ct11), sl11⟩)
    (c11 : PySem.W.codeIn K cd11 "mark_of" = true)
    (k11 : PySem.W.keepIn K (.ref f11) = true)
    (a12 : PySem.W.nsIn K mainGlobals "mark" = some (some (.ref f12)))
    (l12 : K.lookup f12 = some ⟨oc12, od12, .func (PySem.W.fnOf "mark" "mark" (defArgs sMark) (defBody sMark) (defScope sMark) .none kV12 dc12 pm12 an12 cd12 ct12), sl12⟩)
    (c12 : PySem.W.codeIn K cd12 "mark" = true)
    (k12 : PySem.W.keepIn K (.ref f12) = true)
    (a13 : PySem.W.nsIn K mainGlobals "seal_of" = some (some (.ref f13)))
    (l13 : K.lookup f13 = some ⟨oc13, od13, .func (PySem.W.fnOf "seal_of" "seal_of" (defArgs sSeal) (defBody sSeal) (defScope sSeal) .none kV13 dc13 pm13 an13 cd13 ct13), sl13⟩)
    (c13 : PySem.W.codeIn K cd13 "seal_of" = true)
    (k13 : PySem.W.keepIn K (.ref f13) = true)
    (a14 : PySem.W.nsIn K mainGlobals "sealed" = some (some (.ref f14)))
    (l14 : K.lookup f14 = some ⟨oc14, od14, .func (PySem.W.fnOf "sealed" "sealed" (defArgs sSealed) (defBody sSealed) (defScope sSealed) .none kV14 dc14 pm14 an14 cd14 ct14), sl14⟩)
    (c14 : PySem.W.codeIn K cd14 "sealed" = true)
    (k14 : PySem.W.keepIn K (.ref f14) = true)
    (a15 : PySem.W.nsIn K mainGlobals "unsealed" = some (some (.ref f15)))
    (l15 : K.lookup f15 = some ⟨oc15, od15, .func (PySem.W.fnOf "unsealed" "unsealed" (defArgs sUns) (defBody sUns) (defScope sUns) .none kV15 dc15 pm15 an15 cd15 ct15), sl15⟩)
    (c15 : PySem.W.codeIn K cd15 "unsealed" = true)
    (k15 : PySem.W.keepIn K (.ref f15) = true)
    (a16 : PySem.W.nsIn K mainGlobals "is_cut" = some (some (.ref f16)))
    (l16 : K.lookup f16 = some ⟨oc16, od16, .func (PySem.W.fnOf "is_cut" "is_cut" (defArgs sCut) (defBody sCut) (defScope sCut) .none kV16 dc16 pm16 an16 cd16 ct16), sl16⟩)
    (c16 : PySem.W.codeIn K cd16 "is_cut" = true)
    (k16 : PySem.W.keepIn K (.ref f16) = true)
    (a17 : PySem.W.nsIn K mainGlobals "kept_parcels" = some (some (.ref f17)))
    (l17 : K.lookup f17 = some ⟨oc17, od17, .func (PySem.W.fnOf "kept_parcels" "kept_parcels" (defArgs sKP) (defBody sKP) (defScope sKP) .none kV17 dc17 pm17 an17 cd17 ct17), sl17⟩)
    (c17 : PySem.W.codeIn K cd17 "kept_parcels" = true)
    (k17 : PySem.W.keepIn K (.ref f17) = true)
    (a18 : PySem.W.nsIn K mainGlobals "_law_hand" = some (some (.ref f18)))
    (l18 : K.lookup f18 = some ⟨oc18, od18, .func (PySem.W.fnOf "_law_hand" "_law_hand" (defArgs sHand) (defBody sHand) (defScope sHand) .none kV18 dc18 pm18 an18 cd18 ct18), sl18⟩)
    (c18 : PySem.W.codeIn K cd18 "_law_hand" = true)
    (k18 : PySem.W.keepIn K (.ref f18) = true)
    (a19 : PySem.W.nsIn K mainGlobals "_law_take" = some (some (.ref f19)))
    (l19 : K.lookup f19 = some ⟨oc19, od19, .func (PySem.W.fnOf "_law_take" "_law_take" (defArgs sTake) (defBody sTake) (defScope sTake) .none kV19 dc19 pm19 an19 cd19 ct19), sl19⟩)
    (c19 : PySem.W.codeIn K cd19 "_law_take" = true)
    (k19 : PySem.W.keepIn K (.ref f19) = true)
    (a20 : PySem.W.nsIn K mainGlobals "_law_pick" = some (some (.ref f20)))
    (l20 : K.lookup f20 = some ⟨oc20, od20, .func (PySem.W.fnOf "_law_pick" "_law_pick" (defArgs sPick) (defBody sPick) (defScope sPick) .none kV20 dc20 pm20 an20 cd20 ct20), sl20⟩)
    (c20 : PySem.W.codeIn K cd20 "_law_pick" = true)
    (k20 : PySem.W.keepIn K (.ref f20) = true)
    (a21 : PySem.W.nsIn K mainGlobals "_law_is_integer" = some (some (.ref f21)))
    (l21 : K.lookup f21 = some ⟨oc21, od21, .func (PySem.W.fnOf "_law_is_integer" "_law_is_integer" (defArgs sLInt) (defBody sLInt) (defScope sLInt) .none kV21 dc21 pm21 an21 cd21 ct21), sl21⟩)
    (c21 : PySem.W.codeIn K cd21 "_law_is_integer" = true)
    (k21 : PySem.W.keepIn K (.ref f21) = true)
    (a22 : PySem.W.nsIn K mainGlobals "_law_is_within" = some (some (.ref f22)))
    (l22 : K.lookup f22 = some ⟨oc22, od22, .func (PySem.W.fnOf "_law_is_within" "_law_is_within" (defArgs sLWin) (defBody sLWin) (defScope sLWin) .none kV22 dc22 pm22 an22 cd22 ct22), sl22⟩)
    (c22 : PySem.W.codeIn K cd22 "_law_is_within" = true)
    (k22 : PySem.W.keepIn K (.ref f22) = true)
    (a23 : PySem.W.nsIn K mainGlobals "_law_same" = some (some (.ref f23)))
    (l23 : K.lookup f23 = some ⟨oc23, od23, .func (PySem.W.fnOf "_law_same" "_law_same" (defArgs sSameG) (defBody sSameG) (defScope sSameG) .none kV23 dc23 pm23 an23 cd23 ct23), sl23⟩)
    (c23 : PySem.W.codeIn K cd23 "_law_same" = true)
    (k23 : PySem.W.keepIn K (.ref f23) = true)
    (a24 : PySem.W.nsIn K mainGlobals "_law_odd" = some (some (.ref f24)))
    (l24 : K.lookup f24 = some ⟨oc24, od24, .func (PySem.W.fnOf "_law_odd" "_law_odd" (defArgs sOddL) (defBody sOddL) (defScope sOddL) .none kV24 dc24 pm24 an24 cd24 ct24), sl24⟩)
    (c24 : PySem.W.codeIn K cd24 "_law_odd" = true)
    (k24 : PySem.W.keepIn K (.ref f24) = true)
    (a25 : PySem.W.nsIn K mainGlobals "_law_known" = some (some (.ref f25)))
    (l25 : K.lookup f25 = some ⟨oc25, od25, .func (PySem.W.fnOf "_law_known" "_law_known" (defArgs sKnown) (defBody sKnown) (defScope sKnown) .none kV25 dc25 pm25 an25 cd25 ct25), sl25⟩)
    (c25 : PySem.W.codeIn K cd25 "_law_known" = true)
    (k25 : PySem.W.keepIn K (.ref f25) = true)
    (a26 : PySem.W.nsIn K mainGlobals "_law_taken" = some (some (.ref f26)))
    (l26 : K.lookup f26 = some ⟨oc26, od26, .func (PySem.W.fnOf "_law_taken" "_law_taken" (defArgs sTaken) (defBody sTaken) (defScope sTaken) .none kV26 dc26 pm26 an26 cd26 ct26), sl26⟩)
    (c26 : PySem.W.codeIn K cd26 "_law_taken" = true)
    (k26 : PySem.W.keepIn K (.ref f26) = true)
    (a27 : PySem.W.nsIn K mainGlobals "_law_first" = some (some (.ref f27)))
    (l27 : K.lookup f27 = some ⟨oc27, od27, .func (PySem.W.fnOf "_law_first" "_law_first" (defArgs sFst) (defBody sFst) (defScope sFst) .none kV27 dc27 pm27 an27 cd27 ct27), sl27⟩)
    (c27 : PySem.W.codeIn K cd27 "_law_first" = true)
    (k27 : PySem.W.keepIn K (.ref f27) = true)
    (a28 : PySem.W.nsIn K mainGlobals "_law_pool" = some (some (.ref f28)))
    (l28 : K.lookup f28 = some ⟨oc28, od28, .func (PySem.W.fnOf "_law_pool" "_law_pool" (defArgs sPool) (defBody sPool) (defScope sPool) .none kV28 dc28 pm28 an28 cd28 ct28), sl28⟩)
    (c28 : PySem.W.codeIn K cd28 "_law_pool" = true)
    (k28 : PySem.W.keepIn K (.ref f28) = true)
    (a29 : PySem.W.nsIn K mainGlobals "_law_draw" = some (some (.ref f29)))
    (l29 : K.lookup f29 = some ⟨oc29, od29, .func (PySem.W.fnOf "_law_draw" "_law_draw" (defArgs sDraw) (defBody sDraw) (defScope sDraw) .none kV29 dc29 pm29 an29 cd29 ct29), sl29⟩)
    (c29 : PySem.W.codeIn K cd29 "_law_draw" = true)
    (k29 : PySem.W.keepIn K (.ref f29) = true)
    (a30 : PySem.W.nsIn K mainGlobals "_law_deep" = some (some (.ref f30)))
    (l30 : K.lookup f30 = some ⟨oc30, od30, .func (PySem.W.fnOf "_law_deep" "_law_deep" (defArgs sLDeep) (defBody sLDeep) (defScope sLDeep) .none kV30 dc30 pm30 an30 cd30 ct30), sl30⟩)
    (c30 : PySem.W.codeIn K cd30 "_law_deep" = true)
    (k30 : PySem.W.keepIn K (.ref f30) = true)
    (a31 : PySem.W.nsIn K mainGlobals "_law_nested" = some (some (.ref f31)))
    (l31 : K.lookup f31 = some ⟨oc31, od31, .func (PySem.W.fnOf "_law_nested" "_law_nested" (defArgs sNest) (defBody sNest) (defScope sNest) .none kV31 dc31 pm31 an31 cd31 ct31), sl31⟩)
    (c31 : PySem.W.codeIn K cd31 "_law_nested" = true)
    (k31 : PySem.W.keepIn K (.ref f31) = true)
    (a32 : PySem.W.nsIn K mainGlobals "_law_is_row" = some (some (.ref f32)))
    (l32 : K.lookup f32 = some ⟨oc32, od32, .func (PySem.W.fnOf "_law_is_row" "_law_is_row" (defArgs sLIsRow) (defBody sLIsRow) (defScope sLIsRow) .none kV32 dc32 pm32 an32 cd32 ct32), sl32⟩)
    (c32 : PySem.W.codeIn K cd32 "_law_is_row" = true)
    (k32 : PySem.W.keepIn K (.ref f32) = true)
    (a33 : PySem.W.nsIn K mainGlobals "_law_call" = some (some (.ref f33)))
    (l33 : K.lookup f33 = some ⟨oc33, od33, .func (PySem.W.fnOf "_law_call" "_law_call" (defArgs sLCall) (defBody sLCall) (defScope sLCall) .none kV33 dc33 pm33 an33 cd33 ct33), sl33⟩)
    (c33 : PySem.W.codeIn K cd33 "_law_call" = true)
    (k33 : PySem.W.keepIn K (.ref f33) = true)
    (a34 : PySem.W.nsIn K mainGlobals "_law_name" = some (some (.ref f34)))
    (l34 : K.lookup f34 = some ⟨oc34, od34, .func (PySem.W.fnOf "_law_name" "_law_name" (defArgs sName) (defBody sName) (defScope sName) .none kV34 dc34 pm34 an34 cd34 ct34), sl34⟩)
    (c34 : PySem.W.codeIn K cd34 "_law_name" = true)
    (k34 : PySem.W.keepIn K (.ref f34) = true)
    (a35 : PySem.W.nsIn K mainGlobals "_law_word" = some (some (.ref f35)))
    (l35 : K.lookup f35 = some ⟨oc35, od35, .func (PySem.W.fnOf "_law_word" "_law_word" (defArgs sLWord) (defBody sLWord) (defScope sLWord) .none kV35 dc35 pm35 an35 cd35 ct35), sl35⟩)
    (c35 : PySem.W.codeIn K cd35 "_law_word" = true)
    (k35 : PySem.W.keepIn K (.ref f35) = true)
    (a36 : PySem.W.nsIn K mainGlobals "_law_some" = some (some (.ref f36)))
    (l36 : K.lookup f36 = some ⟨oc36, od36, .func (PySem.W.fnOf "_law_some" "_law_some" (defArgs sLSome) (defBody sLSome) (defScope sLSome) .none kV36 dc36 pm36 an36 cd36 ct36), sl36⟩)
    (c36 : PySem.W.codeIn K cd36 "_law_some" = true)
    (k36 : PySem.W.keepIn K (.ref f36) = true)
    (a37 : PySem.W.nsIn K mainGlobals "_law_due" = some (some (.ref f37)))
    (l37 : K.lookup f37 = some ⟨oc37, od37, .func (PySem.W.fnOf "_law_due" "_law_due" (defArgs sLDue) (defBody sLDue) (defScope sLDue) .none kV37 dc37 pm37 an37 cd37 ct37), sl37⟩)
    (c37 : PySem.W.codeIn K cd37 "_law_due" = true)
    (k37 : PySem.W.keepIn K (.ref f37) = true)
    (a38 : PySem.W.nsIn K mainGlobals "_law_second" = some (some (.ref f38)))
    (l38 : K.lookup f38 = some ⟨oc38, od38, .func (PySem.W.fnOf "_law_second" "_law_second" (defArgs sSnd) (defBody sSnd) (defScope sSnd) .none kV38 dc38 pm38 an38 cd38 ct38), sl38⟩)
    (c38 : PySem.W.codeIn K cd38 "_law_second" = true)
    (k38 : PySem.W.keepIn K (.ref f38) = true)
    (a39 : PySem.W.nsIn K mainGlobals "law" = some (some (.ref f39)))
    (l39 : K.lookup f39 = some ⟨oc39, od39, .func (PySem.W.fnOf "law" "law" (defArgs sLaw) (defBody sLaw) (defScope sLaw) .none kV39 dc39 pm39 an39 cd39 ct39), sl39⟩)
    (c39 : PySem.W.codeIn K cd39 "law" = true)
    (k39 : PySem.W.keepIn K (.ref f39) = true)
    (r_aC : PySem.W.nsIn K mainGlobals "RowReader" = some (some (.ref CR)))
    (r_pg : PySem.W.plainGet K CR Str.empty = true)
    (r_hd : PySem.W.hasDictIn K CR = true)
    (r_po : PySem.W.plainOver K CR = true)
    (r_sa : PySem.W.findIn K (.ref CR) "__setattr__" = some (some (.builtin "object.__setattr__")))
    (r_mk : PySem.W.makesIn K CR = true)
    (r_kc : PySem.W.keepIn K (.ref CR) = true)
    (r_n0 : PySem.W.findIn K (.ref CR) "row" = some none)
    (r_n1 : PySem.W.findIn K (.ref CR) "at" = some none)
    (mIf : PySem.W.findIn K (.ref CR) "__init__" = some (some (.ref fmI)))
    (mIi : PySem.W.isFn K (.ref fmI) = true)
    (mIl : K.lookup fmI = some ⟨ocmI, odmI, .func (PySem.W.fnOf "__init__" "RowReader.__init__" (defArgs sRInit) (defBody sRInit) (defScope sRInit) .none kVmI dcmI pmmI anmI cdmI ctmI), slmI⟩)
    (mIc : PySem.W.codeIn K cdmI "RowReader.__init__" = true)
    (mIk : PySem.W.keepIn K (.ref fmI) = true)
    (mDf : PySem.W.findIn K (.ref CR) "due_byte" = some (some (.ref fmD)))
    (mDi : PySem.W.isFn K (.ref fmD) = true)
    (mDl : K.lookup fmD = some ⟨ocmD, odmD, .func (PySem.W.fnOf "due_byte" "RowReader.due_byte" (defArgs sDue) (defBody sDue) (defScope sDue) .none kVmD dcmD pmmD anmD cdmD ctmD), slmD⟩)
    (mDc : PySem.W.codeIn K cdmD "RowReader.due_byte" = true)
    (mDk : PySem.W.keepIn K (.ref fmD) = true)
    (mWf : PySem.W.findIn K (.ref CR) "read_whole" = some (some (.ref fmW)))
    (mWi : PySem.W.isFn K (.ref fmW) = true)
    (mWl : K.lookup fmW = some ⟨ocmW, odmW, .func (PySem.W.fnOf "read_whole" "RowReader.read_whole" (defArgs sRW) (defBody sRW) (defScope sRW) .none kVmW dcmW pmmW anmW cdmW ctmW), slmW⟩)
    (mWc : PySem.W.codeIn K cdmW "RowReader.read_whole" = true)
    (mWk : PySem.W.keepIn K (.ref fmW) = true)
    (mSf : PySem.W.findIn K (.ref CR) "read_string" = some (some (.ref fmS)))
    (mSi : PySem.W.isFn K (.ref fmS) = true)
    (mSl : K.lookup fmS = some ⟨ocmS, odmS, .func (PySem.W.fnOf "read_string" "RowReader.read_string" (defArgs sRS) (defBody sRS) (defScope sRS) .none kVmS dcmS pmmS anmS cdmS ctmS), slmS⟩)
    (mSc : PySem.W.codeIn K cdmS "RowReader.read_string" = true)
    (mSk : PySem.W.keepIn K (.ref fmS) = true)
    (mTf : PySem.W.findIn K (.ref CR) "read_tuple" = some (some (.ref fmT)))
    (mTi : PySem.W.isFn K (.ref fmT) = true)
    (mTl : K.lookup fmT = some ⟨ocmT, odmT, .func (PySem.W.fnOf "read_tuple" "RowReader.read_tuple" (defArgs sRT) (defBody sRT) (defScope sRT) .none kVmT dcmT pmmT anmT cdmT ctmT), slmT⟩)
    (mTc : PySem.W.codeIn K cdmT "RowReader.read_tuple" = true)
    (mTk : PySem.W.keepIn K (.ref fmT) = true)
    (mPf : PySem.W.findIn K (.ref CR) "read_parcel" = some (some (.ref fmP)))
    (mPi : PySem.W.isFn K (.ref fmP) = true)
    (mPl : K.lookup fmP = some ⟨ocmP, odmP, .func (PySem.W.fnOf "read_parcel" "RowReader.read_parcel" (defArgs sRP) (defBody sRP) (defScope sRP) .none kVmP dcmP pmmP anmP cdmP ctmP), slmP⟩)
    (mPc : PySem.W.codeIn K cdmP "RowReader.read_parcel" = true)
    (mPk : PySem.W.keepIn K (.ref fmP) = true)
    (sSB : PySem.W.nsIn K mainGlobals "SIGNS_BELOW" = some (some (.str (PySem.Str.ofString " !\"#$") tsb)))
    (sSA : PySem.W.nsIn K mainGlobals "SIGNS_ABOVE" = some (some (.str (PySem.Str.ofString "&'()*+,-./0123456789:;<=>?@ABCDEFGHIJKLMNOPQRSTUVWXYZ[\\]^_`abcdefghijklmnopqrstuvwxyz{|}~") tsa)))
    (bBA : PySem.W.nsIn K mainGlobals "BARE" = some (some (.ref aBA)))
    (lBA : K.lookup aBA = some ⟨.type "tuple", none, .seq itBA nuBA, slBA⟩)
    (zBA : itBA.size ≤ 64)
    (vBA : Vals [V.non, .bl false, .bl true] itBA.toList)
    (wN : PySem.W.nsIn K mainGlobals "BadRow" = some (some (.ref CB)))
    (wl : K.lookup CB = some (PySem.excClassObj nmB qB CB NB bsB bmB true snB subB abB colB ddB k0B k1B k2B k3B k5B "ValueError.__new__"))
    (wbm : PySem.HandSPX.refsVE bmB = true)
    (wi : PySem.W.findIn K (.ref CB) "__init__" = some (some (.ref fB)))
    (wt : PySem.W.typeIn K (.ref fB) = some (.type "function"))
    (wk : PySem.W.keepIn K (.ref CB) = true)
    (wb : PySem.W.subIn K (.ref CB) (.type "BaseException") = some true)
    (wy : PySem.W.typeIn K (.ref CB) = some (.type "type"))
    (ws : PySem.W.subIn K (.ref CB) (.ref CB) = some true)
    (wz : PySem.W.isClsIn K CB = true)
    (wsa : PySem.W.findIn K (.ref CB) "__setattr__" = some (some (.builtin "object.__setattr__")))
    (wp : PySem.W.findIn K (.ref CB) "place" = some none)
    (wga : PySem.W.findIn K (.ref CB) "__getattribute__" = some (some (.builtin "BaseException.__getattribute__")))
    (wgg : PySem.W.findIn K (.ref CB) "__getattr__" = some none)
    (whd : PySem.W.hasDictIn K CB = true)
    (wf : K.lookup fB = some ⟨ocB, odB, .func (PySem.W.fnOf "__init__" "BadRow.__init__" (defArgs sPlace) (defBody sPlace) (defScope sPlace) .none kVB dcB pmB anB cdB ctB), slB⟩)
    (wc : PySem.W.codeIn K cdB "BadRow.__init__" = true)
    (wkf : PySem.W.keepIn K (.ref fB) = true)
    (d_aC : PySem.W.nsIn K mainGlobals "Disk" = some (some (.ref CD)))
    (d_pg : PySem.W.plainGet K CD Str.empty = true)
    (d_hd : PySem.W.hasDictIn K CD = true)
    (d_po : PySem.W.plainOver K CD = true)
    (d_sa : PySem.W.findIn K (.ref CD) "__setattr__" = some (some (.builtin "object.__setattr__")))
    (d_mk : PySem.W.makesIn K CD = true)
    (d_kc : PySem.W.keepIn K (.ref CD) = true)
    (d_n0 : PySem.W.findIn K (.ref CD) "_rows" = some none)
    (d_n1 : PySem.W.findIn K (.ref CD) "_many_synced" = some none)
    (dIf : PySem.W.findIn K (.ref CD) "__init__" = some (some (.ref fdI)))
    (dIi : PySem.W.isFn K (.ref fdI) = true)
    (dIl : K.lookup fdI = some ⟨ocdI, oddI, .func (PySem.W.fnOf "__init__" "Disk.__init__" (defArgs sDI) (defBody sDI) (defScope sDI) .none kVdI dcdI pmdI andI cddI ctdI), sldI⟩)
    (dIc : PySem.W.codeIn K cddI "Disk.__init__" = true)
    (dIk : PySem.W.keepIn K (.ref fdI) = true)
    (dWf : PySem.W.findIn K (.ref CD) "write" = some (some (.ref fdW)))
    (dWi : PySem.W.isFn K (.ref fdW) = true)
    (dWl : K.lookup fdW = some ⟨ocdW, oddW, .func (PySem.W.fnOf "write" "Disk.write" (defArgs sDW) (defBody sDW) (defScope sDW) .none kVdW dcdW pmdW andW cddW ctdW), sldW⟩)
    (dWc : PySem.W.codeIn K cddW "Disk.write" = true)
    (dWk : PySem.W.keepIn K (.ref fdW) = true)
    (dSf : PySem.W.findIn K (.ref CD) "sync" = some (some (.ref fdS)))
    (dSi : PySem.W.isFn K (.ref fdS) = true)
    (dSl : K.lookup fdS = some ⟨ocdS, oddS, .func (PySem.W.fnOf "sync" "Disk.sync" (defArgs sDS) (defBody sDS) (defScope sDS) .none kVdS dcdS pmdS andS cddS ctdS), sldS⟩)
    (dSc : PySem.W.codeIn K cddS "Disk.sync" = true)
    (dSk : PySem.W.keepIn K (.ref fdS) = true)
    (dBf : PySem.W.findIn K (.ref CD) "blocks" = some (some (.ref fdB)))
    (dBi : PySem.W.isFn K (.ref fdB) = true)
    (dBl : K.lookup fdB = some ⟨ocdB, oddB, .func (PySem.W.fnOf "blocks" "Disk.blocks" (defArgs sDB) (defBody sDB) (defScope sDB) .none kVdB dcdB pmdB andB cddB ctdB), sldB⟩)
    (dBc : PySem.W.codeIn K cddB "Disk.blocks" = true)
    (dBk : PySem.W.keepIn K (.ref fdB) = true)
    (dYf : PySem.W.findIn K (.ref CD) "synced" = some (some (.ref fdY)))
    (dYi : PySem.W.isFn K (.ref fdY) = true)
    (dYl : K.lookup fdY = some ⟨ocdY, oddY, .func (PySem.W.fnOf "synced" "Disk.synced" (defArgs sDY) (defBody sDY) (defScope sDY) .none kVdY dcdY pmdY andY cddY ctdY), sldY⟩)
    (dYc : PySem.W.codeIn K cddY "Disk.synced" = true)
    (dYk : PySem.W.keepIn K (.ref fdY) = true)
    (dCf : PySem.W.findIn K (.ref CD) "cut" = some (some (.ref fdC)))
    (dCi : PySem.W.isFn K (.ref fdC) = true)
    (dCl : K.lookup fdC = some ⟨ocdC, oddC, .func (PySem.W.fnOf "cut" "Disk.cut" (defArgs sDC) (defBody sDC) (defScope sDC) .none kVdC dcdC pmdC andC cddC ctdC), sldC⟩)
    (dCc : PySem.W.codeIn K cddC "Disk.cut" = true)
    (dCk : PySem.W.keepIn K (.ref fdC) = true)
    (dDf : PySem.W.findIn K (.ref CD) "drop" = some (some (.ref fdD)))
    (dDi : PySem.W.isFn K (.ref fdD) = true)
    (dDl : K.lookup fdD = some ⟨ocdD, oddD, .func (PySem.W.fnOf "drop" "Disk.drop" (defArgs sDD) (defBody sDD) (defScope sDD) .none kVdD dcdD pmdD andD cddD ctdD), sldD⟩)
    (dDc : PySem.W.codeIn K cddD "Disk.drop" = true)
    (dDk : PySem.W.keepIn K (.ref fdD) = true)
    (dKf : PySem.W.findIn K (.ref CD) "copy" = some (some (.ref fdK)))
    (dKi : PySem.W.isFn K (.ref fdK) = true)
    (dKl : K.lookup fdK = some ⟨ocdK, oddK, .func (PySem.W.fnOf "copy" "Disk.copy" (defArgs sDK) (defBody sDK) (defScope sDK) .none kVdK dcdK pmdK andK cddK ctdK), sldK⟩)
    (dKc : PySem.W.codeIn K cddK "Disk.copy" = true)
    (dKk : PySem.W.keepIn K (.ref fdK) = true)
    (o_aC : PySem.W.nsIn K mainGlobals "Outgoing" = some (some (.ref CO)))
    (o_pg : PySem.W.plainGet K CO Str.empty = true)
    (o_hd : PySem.W.hasDictIn K CO = true)
    (o_po : PySem.W.plainOver K CO = true)
    (o_sa : PySem.W.findIn K (.ref CO) "__setattr__" = some (some (.builtin "object.__setattr__")))
    (o_mk : PySem.W.makesIn K CO = true)
    (o_kc : PySem.W.keepIn K (.ref CO) = true)
    (o_n0 : PySem.W.findIn K (.ref CO) "_known_taken" = some none)
    (o_n1 : PySem.W.findIn K (.ref CO) "_things" = some none)
    (oIf : PySem.W.findIn K (.ref CO) "__init__" = some (some (.ref foI)))
    (oIi : PySem.W.isFn K (.ref foI) = true)
    (oIl : K.lookup foI = some ⟨ocoI, odoI, .func (PySem.W.fnOf "__init__" "Outgoing.__init__" (defArgs sOI) (defBody sOI) (defScope sOI) .none kVoI dcoI pmoI anoI cdoI ctoI), sloI⟩)
    (oIc : PySem.W.codeIn K cdoI "Outgoing.__init__" = true)
    (oIk : PySem.W.keepIn K (.ref foI) = true)
    (oPf : PySem.W.findIn K (.ref CO) "put" = some (some (.ref foP)))
    (oPi : PySem.W.isFn K (.ref foP) = true)
    (oPl : K.lookup foP = some ⟨ocoP, odoP, .func (PySem.W.fnOf "put" "Outgoing.put" (defArgs sOP) (defBody sOP) (defScope sOP) .none kVoP dcoP pmoP anoP cdoP ctoP), sloP⟩)
    (oPc : PySem.W.codeIn K cdoP "Outgoing.put" = true)
    (oPk : PySem.W.keepIn K (.ref foP) = true)
    (oKf : PySem.W.findIn K (.ref CO) "known" = some (some (.ref foK)))
    (oKi : PySem.W.isFn K (.ref foK) = true)
    (oKl : K.lookup foK = some ⟨ocoK, odoK, .func (PySem.W.fnOf "known" "Outgoing.known" (defArgs sOK) (defBody sOK) (defScope sOK) .none kVoK dcoK pmoK anoK cdoK ctoK), sloK⟩)
    (oKc : PySem.W.codeIn K cdoK "Outgoing.known" = true)
    (oKk : PySem.W.keepIn K (.ref foK) = true)
    (oMf : PySem.W.findIn K (.ref CO) "many_put" = some (some (.ref foM)))
    (oMi : PySem.W.isFn K (.ref foM) = true)
    (oMl : K.lookup foM = some ⟨ocoM, odoM, .func (PySem.W.fnOf "many_put" "Outgoing.many_put" (defArgs sOM) (defBody sOM) (defScope sOM) .none kVoM dcoM pmoM anoM cdoM ctoM), sloM⟩)
    (oMc : PySem.W.codeIn K cdoM "Outgoing.many_put" = true)
    (oMk : PySem.W.keepIn K (.ref foM) = true)
    (oSf : PySem.W.findIn K (.ref CO) "state" = some (some (.ref foS)))
    (oSi : PySem.W.isFn K (.ref foS) = true)
    (oSl : K.lookup foS = some ⟨ocoS, odoS, .func (PySem.W.fnOf "state" "Outgoing.state" (defArgs sOS) (defBody sOS) (defScope sOS) .none kVoS dcoS pmoS anoS cdoS ctoS), sloS⟩)
    (oSc : PySem.W.codeIn K cdoS "Outgoing.state" = true)
    (oSk : PySem.W.keepIn K (.ref foS) = true)
    (n_aC : PySem.W.nsIn K mainGlobals "Incoming" = some (some (.ref CN)))
    (n_pg : PySem.W.plainGet K CN Str.empty = true)
    (n_hd : PySem.W.hasDictIn K CN = true)
    (n_po : PySem.W.plainOver K CN = true)
    (n_sa : PySem.W.findIn K (.ref CN) "__setattr__" = some (some (.builtin "object.__setattr__")))
    (n_mk : PySem.W.makesIn K CN = true)
    (n_kc : PySem.W.keepIn K (.ref CN) = true)
    (n_n0 : PySem.W.findIn K (.ref CN) "_many_taken" = some none)
    (n_n1 : PySem.W.findIn K (.ref CN) "_kept" = some none)
    (nIf : PySem.W.findIn K (.ref CN) "__init__" = some (some (.ref fnI)))
    (nIi : PySem.W.isFn K (.ref fnI) = true)
    (nIl : K.lookup fnI = some ⟨ocnI, odnI, .func (PySem.W.fnOf "__init__" "Incoming.__init__" (defArgs sNI) (defBody sNI) (defScope sNI) .none kVnI dcnI pmnI annI cdnI ctnI), slnI⟩)
    (nIc : PySem.W.codeIn K cdnI "Incoming.__init__" = true)
    (nIk : PySem.W.keepIn K (.ref fnI) = true)
    (nTf : PySem.W.findIn K (.ref CN) "take" = some (some (.ref fnT)))
    (nTi : PySem.W.isFn K (.ref fnT) = true)
    (nTl : K.lookup fnT = some ⟨ocnT, odnT, .func (PySem.W.fnOf "take" "Incoming.take" (defArgs sNT) (defBody sNT) (defScope sNT) .none kVnT dcnT pmnT annT cdnT ctnT), slnT⟩)
    (nTc : PySem.W.codeIn K cdnT "Incoming.take" = true)
    (nTk : PySem.W.keepIn K (.ref fnT) = true)
    (nNf : PySem.W.findIn K (.ref CN) "taken" = some (some (.ref fnN)))
    (nNi : PySem.W.isFn K (.ref fnN) = true)
    (nNl : K.lookup fnN = some ⟨ocnN, odnN, .func (PySem.W.fnOf "taken" "Incoming.taken" (defArgs sNN) (defBody sNN) (defScope sNN) .none kVnN dcnN pmnN annN cdnN ctnN), slnN⟩)
    (nNc : PySem.W.codeIn K cdnN "Incoming.taken" = true)
    (nNk : PySem.W.keepIn K (.ref fnN) = true)
    (nHf : PySem.W.findIn K (.ref CN) "held" = some (some (.ref fnH)))
    (nHi : PySem.W.isFn K (.ref fnH) = true)
    (nHl : K.lookup fnH = some ⟨ocnH, odnH, .func (PySem.W.fnOf "held" "Incoming.held" (defArgs sNH) (defBody sNH) (defScope sNH) .none kVnH dcnH pmnH annH cdnH ctnH), slnH⟩)
    (nHc : PySem.W.codeIn K cdnH "Incoming.held" = true)
    (nHk : PySem.W.keepIn K (.ref fnH) = true)
    (nSf : PySem.W.findIn K (.ref CN) "state" = some (some (.ref fnS)))
    (nSi : PySem.W.isFn K (.ref fnS) = true)
    (nSl : K.lookup fnS = some ⟨ocnS, odnS, .func (PySem.W.fnOf "state" "Incoming.state" (defArgs sNS) (defBody sNS) (defScope sNS) .none kVnS dcnS pmnS annS cdnS ctnS), slnS⟩)
    (nSc : PySem.W.codeIn K cdnS "Incoming.state" = true)
    (nSk : PySem.W.keepIn K (.ref fnS) = true)
    (eN : PySem.W.nsIn K mainGlobals "RoundError" = some (some (.ref CE)))
    (eb : PySem.W.subIn K (.ref CE) (.type "BaseException") = some true)
    (ez : PySem.W.isClsIn K CE = true)
    (ey : PySem.W.typeIn K (.ref CE) = some (.type "type"))
    (hsp : PySem.W.specialIn K (.builtin "object.__class__") "__get__" = some (some (.builtin "getset_descriptor.__get__")))
    (htk : PySem.W.takesIn K (.builtin "object.__class__") = true)
    (en_r : PySem.W.subIn K (.ref Cr) (.ref CE) = some true)
    (nga_r : PySem.W.findIn K (.ref Cr) "__getattribute__" = some (some (.builtin "BaseException.__getattribute__")))
    (ngg_r : PySem.W.findIn K (.ref Cr) "__getattr__" = some none)
    (nhd_r : PySem.W.hasDictIn K Cr = true)
    (nac_r : PySem.W.findIn K (.ref Cr) "__class__" = some (some (.builtin "object.__class__")))
    (nmo_r : PySem.W.mroIn K Cr (.type "object") = some true)
    (en_p : PySem.W.subIn K (.ref Cp) (.ref CE) = some true)
    (nga_p : PySem.W.findIn K (.ref Cp) "__getattribute__" = some (some (.builtin "BaseException.__getattribute__")))
    (ngg_p : PySem.W.findIn K (.ref Cp) "__getattr__" = some none)
    (nhd_p : PySem.W.hasDictIn K Cp = true)
    (nac_p : PySem.W.findIn K (.ref Cp) "__class__" = some (some (.builtin "object.__class__")))
    (nmo_p : PySem.W.mroIn K Cp (.type "object") = some true)
    (en_c : PySem.W.subIn K (.ref Cc) (.ref CE) = some true)
    (nga_c : PySem.W.findIn K (.ref Cc) "__getattribute__" = some (some (.builtin "BaseException.__getattribute__")))
    (ngg_c : PySem.W.findIn K (.ref Cc) "__getattr__" = some none)
    (nhd_c : PySem.W.hasDictIn K Cc = true)
    (nac_c : PySem.W.findIn K (.ref Cc) "__class__" = some (some (.builtin "object.__class__")))
    (nmo_c : PySem.W.mroIn K Cc (.type "object") = some true)
    (en_n : PySem.W.subIn K (.ref Cn) (.ref CE) = some true)
    (nga_n : PySem.W.findIn K (.ref Cn) "__getattribute__" = some (some (.builtin "BaseException.__getattribute__")))
    (ngg_n : PySem.W.findIn K (.ref Cn) "__getattr__" = some none)
    (nhd_n : PySem.W.hasDictIn K Cn = true)
    (nac_n : PySem.W.findIn K (.ref Cn) "__class__" = some (some (.builtin "object.__class__")))
    (nmo_n : PySem.W.mroIn K Cn (.type "object") = some true)
    (en_b : PySem.W.subIn K (.ref Cb) (.ref CE) = some true)
    (nga_b : PySem.W.findIn K (.ref Cb) "__getattribute__" = some (some (.builtin "BaseException.__getattribute__")))
    (ngg_b : PySem.W.findIn K (.ref Cb) "__getattr__" = some none)
    (nhd_b : PySem.W.hasDictIn K Cb = true)
    (nac_b : PySem.W.findIn K (.ref Cb) "__class__" = some (some (.builtin "object.__class__")))
    (nmo_b : PySem.W.mroIn K Cb (.type "object") = some true)
    (cc_BYTES : PySem.W.nsIn K mainGlobals "BYTES" = some (some (.int 256 tc_BYTES)))
    (cc_MOST_DEEP : PySem.W.nsIn K mainGlobals "MOST_DEEP" = some (some (.int 20 tc_MOST_DEEP)))
    (cc_MOST_SIGNS : PySem.W.nsIn K mainGlobals "MOST_SIGNS" = some (some (.int 20 tc_MOST_SIGNS)))
    (cc_FROM_0_ON : PySem.W.nsIn K mainGlobals "FROM_0_ON" = some (some (.int 3 tc_FROM_0_ON)))
    (cc_BELOW_0 : PySem.W.nsIn K mainGlobals "BELOW_0" = some (some (.int 4 tc_BELOW_0)))
    (cc_STRING : PySem.W.nsIn K mainGlobals "STRING" = some (some (.int 5 tc_STRING)))
    (cc_TUPLE : PySem.W.nsIn K mainGlobals "TUPLE" = some (some (.int 6 tc_TUPLE)))
    (cc_FIRST_SIGN : PySem.W.nsIn K mainGlobals "FIRST_SIGN" = some (some (.int 32 tc_FIRST_SIGN)))
    (cc_NO_SIGN : PySem.W.nsIn K mainGlobals "NO_SIGN" = some (some (.int 37 tc_NO_SIGN)))
    (cc_LAST_SIGN : PySem.W.nsIn K mainGlobals "LAST_SIGN" = some (some (.int 126 tc_LAST_SIGN)))
    (cc_MARK_FACTOR : PySem.W.nsIn K mainGlobals "MARK_FACTOR" = some (some (.int 1000003 tc_MARK_FACTOR)))
    (cc_MARKS : PySem.W.nsIn K mainGlobals "MARKS" = some (some (.int 2305843009213693951 tc_MARKS)))
    (cc_SEALS : PySem.W.nsIn K mainGlobals "SEALS" = some (some (.int 4294967296 tc_SEALS)))
    (cc_SEAL_LENGTH : PySem.W.nsIn K mainGlobals "SEAL_LENGTH" = some (some (.int 4 tc_SEAL_LENGTH)))
    (cc_NUMBERS : PySem.W.nsIn K mainGlobals "NUMBERS" = some (some (.int 4294967296 tc_NUMBERS)))
    (cc_HELD_AHEAD : PySem.W.nsIn K mainGlobals "HELD_AHEAD" = some (some (.int 1000 tc_HELD_AHEAD)))
    (xN_r : PySem.W.nsIn K mainGlobals "NoRow" = some (some (.ref Cr)))
    (xl_r : K.lookup Cr = some (PySem.excClassObj nmr qr Cr Nr bsr bmr true snr subr abr colr ddr k0r k1r k2r k3r k5r "ValueError.__new__"))
    (xi_r : PySem.W.findIn K (.ref Cr) "__init__" = some (some (.ref fr)))
    (xt_r : PySem.W.typeIn K (.ref fr) = some (.type "function"))
    (xk_r : PySem.W.keepIn K (.ref Cr) = true)
    (xb_r : PySem.W.subIn K (.ref Cr) (.type "BaseException") = some true)
    (xv_r : PySem.W.subIn K (.ref Cr) (.type "ValueError") = some true)
    (xy_r : PySem.W.typeIn K (.ref Cr) = some (.type "type"))
    (xm_r : PySem.W.mroIn K Cr (.ref Cr) = some true)
    (xs_r : PySem.W.subIn K (.ref Cr) (.ref Cr) = some true)
    (xz_r : PySem.W.isClsIn K Cr = true)
    (xsu_r : PySem.W.nsIn K mainGlobals "super" = some none)
    (xo_r : PySem.W.nsIn K cStatics "thirdparty.any" = some none)
    (xf_r : K.lookup fr = some ⟨ocr, odr, .func (PySem.W.ksFn "__init__" "NoRow.__init__" (supAr pr) (supB q1r q2r q3r q4r q5r) supSc .none .none docr pmr anr (.ref cdar) ctr ccr), oslr⟩)
    (xc_r : PySem.W.codeIn K (.ref cdar) "NoRow.__init__" = true)
    (xd_r : K.lookup cdar = some ⟨cclr, cddr, .fields vsr, ccsr⟩)
    (xe_r : K.lookup ccr = some ⟨clr, cldr, .cell (some (.ref Cr)), cslr⟩)
    (xu_r : PySem.W.ks_superIn K Cr Cr "__init__" = some (some (.builtin "ValueError.__init__")))
    (yb_r : PySem.HandSPX.refsVE bmr = true)
    (yv_r : vsr[2]? = some (.str filer tfr))
    (yf_r : ((l.prog.main.file : Str) == filer) = true)
    (yt_r : (l.prog.main.scope.names.lookup ("super" : Str)).isSome = false)
    (yl_r : (q3r.endLine == q4r.line) = true)
    (xN_p : PySem.W.nsIn K mainGlobals "NoParcel" = some (some (.ref Cp)))
    (xl_p : K.lookup Cp = some (PySem.excClassObj nmp qp Cp Np bsp bmp true snp subp abp colp ddp k0p k1p k2p k3p k5p "ValueError.__new__"))
    (xi_p : PySem.W.findIn K (.ref Cp) "__init__" = some (some (.ref fp)))
    (xt_p : PySem.W.typeIn K (.ref fp) = some (.type "function"))
    (xk_p : PySem.W.keepIn K (.ref Cp) = true)
    (xb_p : PySem.W.subIn K (.ref Cp) (.type "BaseException") = some true)
    (xv_p : PySem.W.subIn K (.ref Cp) (.type "ValueError") = some true)
    (xy_p : PySem.W.typeIn K (.ref Cp) = some (.type "type"))
    (xm_p : PySem.W.mroIn K Cp (.ref Cp) = some true)
    (xs_p : PySem.W.subIn K (.ref Cp) (.ref Cp) = some true)
    (xz_p : PySem.W.isClsIn K Cp = true)
    (xsu_p : PySem.W.nsIn K mainGlobals "super" = some none)
    (xo_p : PySem.W.nsIn K cStatics "thirdparty.any" = some none)
    (xf_p : K.lookup fp = some ⟨ocp, odp, .func (PySem.W.ksFn "__init__" "NoParcel.__init__" (supAr pp) (supB q1p q2p q3p q4p q5p) supSc .none .none docp pmp anp (.ref cdap) ctp ccp), oslp⟩)
    (xc_p : PySem.W.codeIn K (.ref cdap) "NoParcel.__init__" = true)
    (xd_p : K.lookup cdap = some ⟨cclp, cddp, .fields vsp, ccsp⟩)
    (xe_p : K.lookup ccp = some ⟨clp, cldp, .cell (some (.ref Cp)), cslp⟩)
    (xu_p : PySem.W.ks_superIn K Cp Cp "__init__" = some (some (.builtin "ValueError.__init__")))
    (yb_p : PySem.HandSPX.refsVE bmp = true)
    (yv_p : vsp[2]? = some (.str filep tfp))
    (yf_p : ((l.prog.main.file : Str) == filep) = true)
    (yt_p : (l.prog.main.scope.names.lookup ("super" : Str)).isSome = false)
    (yl_p : (q3p.endLine == q4p.line) = true)
    (xN_c : PySem.W.nsIn K mainGlobals "NoCut" = some (some (.ref Cc)))
    (xl_c : K.lookup Cc = some (PySem.excClassObj nmc qc Cc Nc bsc bmc true snc subc abc colc ddc k0c k1c k2c k3c k5c "ValueError.__new__"))
    (xi_c : PySem.W.findIn K (.ref Cc) "__init__" = some (some (.ref fc)))
    (xt_c : PySem.W.typeIn K (.ref fc) = some (.type "function"))
    (xk_c : PySem.W.keepIn K (.ref Cc) = true)
    (xb_c : PySem.W.subIn K (.ref Cc) (.type "BaseException") = some true)
    (xv_c : PySem.W.subIn K (.ref Cc) (.type "ValueError") = some true)
    (xy_c : PySem.W.typeIn K (.ref Cc) = some (.type "type"))
    (xm_c : PySem.W.mroIn K Cc (.ref Cc) = some true)
    (xs_c : PySem.W.subIn K (.ref Cc) (.ref Cc) = some true)
    (xz_c : PySem.W.isClsIn K Cc = true)
    (xsu_c : PySem.W.nsIn K mainGlobals "super" = some none)
    (xo_c : PySem.W.nsIn K cStatics "thirdparty.any" = some none)
    (xf_c : K.lookup fc = some ⟨occ, odc, .func (PySem.W.ksFn "__init__" "NoCut.__init__" (supAr pc) (supB q1c q2c q3c q4c q5c) supSc .none .none docc pmc anc (.ref cdac) ctc ccc), oslc⟩)
    (xc_c : PySem.W.codeIn K (.ref cdac) "NoCut.__init__" = true)
    (xd_c : K.lookup cdac = some ⟨cclc, cddc, .fields vsc, ccsc⟩)
    (xe_c : K.lookup ccc = some ⟨clc, cldc, .cell (some (.ref Cc)), cslc⟩)
    (xu_c : PySem.W.ks_superIn K Cc Cc "__init__" = some (some (.builtin "ValueError.__init__")))
    (yb_c : PySem.HandSPX.refsVE bmc = true)
    (yv_c : vsc[2]? = some (.str filec tfc))
    (yf_c : ((l.prog.main.file : Str) == filec) = true)
    (yt_c : (l.prog.main.scope.names.lookup ("super" : Str)).isSome = false)
    (yl_c : (q3c.endLine == q4c.line) = true)
    (xN_n : PySem.W.nsIn K mainGlobals "NoNumber" = some (some (.ref Cn)))
    (xl_n : K.lookup Cn = some (PySem.excClassObj nmn qn Cn Nn bsn bmn true snn subn abn coln ddn k0n k1n k2n k3n k5n "ValueError.__new__"))
    (xi_n : PySem.W.findIn K (.ref Cn) "__init__" = some (some (.ref fn)))
    (xt_n : PySem.W.typeIn K (.ref fn) = some (.type "function"))
    (xk_n : PySem.W.keepIn K (.ref Cn) = true)
    (xb_n : PySem.W.subIn K (.ref Cn) (.type "BaseException") = some true)
    (xv_n : PySem.W.subIn K (.ref Cn) (.type "ValueError") = some true)
    (xy_n : PySem.W.typeIn K (.ref Cn) = some (.type "type"))
    (xm_n : PySem.W.mroIn K Cn (.ref Cn) = some true)
    (xs_n : PySem.W.subIn K (.ref Cn) (.ref Cn) = some true)
    (xz_n : PySem.W.isClsIn K Cn = true)
    (xsu_n : PySem.W.nsIn K mainGlobals "super" = some none)
    (xo_n : PySem.W.nsIn K cStatics "thirdparty.any" = some none)
    (xf_n : K.lookup fn = some ⟨ocn, odn, .func (PySem.W.ksFn "__init__" "NoNumber.__init__" (supAr pn) (supB q1n q2n q3n q4n q5n) supSc .none .none docn pmn ann (.ref cdan) ctn ccn), osln⟩)
    (xc_n : PySem.W.codeIn K (.ref cdan) "NoNumber.__init__" = true)
    (xd_n : K.lookup cdan = some ⟨ccln, cddn, .fields vsn, ccsn⟩)
    (xe_n : K.lookup ccn = some ⟨cln, cldn, .cell (some (.ref Cn)), csln⟩)
    (xu_n : PySem.W.ks_superIn K Cn Cn "__init__" = some (some (.builtin "ValueError.__init__")))
    (yb_n : PySem.HandSPX.refsVE bmn = true)
    (yv_n : vsn[2]? = some (.str filen tfn))
    (yf_n : ((l.prog.main.file : Str) == filen) = true)
    (yt_n : (l.prog.main.scope.names.lookup ("super" : Str)).isSome = false)
    (yl_n : (q3n.endLine == q4n.line) = true)
    (xN_b : PySem.W.nsIn K mainGlobals "NoBlocks" = some (some (.ref Cb)))
    (xl_b : K.lookup Cb = some (PySem.excClassObj nmb qb Cb Nb bsb bmb true snb subb abb colb ddb k0b k1b k2b k3b k5b "ValueError.__new__"))
    (xi_b : PySem.W.findIn K (.ref Cb) "__init__" = some (some (.ref fb)))
    (xt_b : PySem.W.typeIn K (.ref fb) = some (.type "function"))
    (xk_b : PySem.W.keepIn K (.ref Cb) = true)
    (xb_b : PySem.W.subIn K (.ref Cb) (.type "BaseException") = some true)
    (xv_b : PySem.W.subIn K (.ref Cb) (.type "ValueError") = some true)
    (xy_b : PySem.W.typeIn K (.ref Cb) = some (.type "type"))
    (xm_b : PySem.W.mroIn K Cb (.ref Cb) = some true)
    (xs_b : PySem.W.subIn K (.ref Cb) (.ref Cb) = some true)
    (xz_b : PySem.W.isClsIn K Cb = true)
    (xsu_b : PySem.W.nsIn K mainGlobals "super" = some none)
    (xo_b : PySem.W.nsIn K cStatics "thirdparty.any" = some none)
    (xf_b : K.lookup fb = some ⟨ocb, odb, .func (PySem.W.ksFn "__init__" "NoBlocks.__init__" (supAr pb) (supB q1b q2b q3b q4b q5b) supSc .none .none docb pmb anb (.ref cdab) ctb ccb), oslb⟩)
    (xc_b : PySem.W.codeIn K (.ref cdab) "NoBlocks.__init__" = true)
    (xd_b : K.lookup cdab = some ⟨cclb, cddb, .fields vsb, ccsb⟩)
    (xe_b : K.lookup ccb = some ⟨clb, cldb, .cell (some (.ref Cb)), cslb⟩)
    (xu_b : PySem.W.ks_superIn K Cb Cb "__init__" = some (some (.builtin "ValueError.__init__")))
    (yb_b : PySem.HandSPX.refsVE bmb = true)
    (yv_b : vsb[2]? = some (.str fileb tfb))
    (yf_b : ((l.prog.main.file : Str) == fileb) = true)
    (yt_b : (l.prog.main.scope.names.lookup ("super" : Str)).isSome = false)
    (yl_b : (q3b.endLine == q4b.line) = true)
    (xp_r_p : PySem.W.subIn K (.ref Cr) (.ref Cp) = some false)
    (xp_r_c : PySem.W.subIn K (.ref Cr) (.ref Cc) = some false)
    (xp_r_n : PySem.W.subIn K (.ref Cr) (.ref Cn) = some false)
    (xp_r_b : PySem.W.subIn K (.ref Cr) (.ref Cb) = some false)
    (xp_p_r : PySem.W.subIn K (.ref Cp) (.ref Cr) = some false)
    (xp_p_c : PySem.W.subIn K (.ref Cp) (.ref Cc) = some false)
    (xp_p_n : PySem.W.subIn K (.ref Cp) (.ref Cn) = some false)
    (xp_p_b : PySem.W.subIn K (.ref Cp) (.ref Cb) = some false)
    (xp_c_r : PySem.W.subIn K (.ref Cc) (.ref Cr) = some false)
    (xp_c_p : PySem.W.subIn K (.ref Cc) (.ref Cp) = some false)
    (xp_c_n : PySem.W.subIn K (.ref Cc) (.ref Cn) = some false)
    (xp_c_b : PySem.W.subIn K (.ref Cc) (.ref Cb) = some false)
    (xp_n_r : PySem.W.subIn K (.ref Cn) (.ref Cr) = some false)
    (xp_n_p : PySem.W.subIn K (.ref Cn) (.ref Cp) = some false)
    (xp_n_c : PySem.W.subIn K (.ref Cn) (.ref Cc) = some false)
    (xp_n_b : PySem.W.subIn K (.ref Cn) (.ref Cb) = some false)
    (xp_b_r : PySem.W.subIn K (.ref Cb) (.ref Cr) = some false)
    (xp_b_p : PySem.W.subIn K (.ref Cb) (.ref Cp) = some false)
    (xp_b_c : PySem.W.subIn K (.ref Cb) (.ref Cc) = some false)
    (xp_b_n : PySem.W.subIn K (.ref Cb) (.ref Cn) = some false)
    (zn_ValueError : PySem.W.nsIn K mainGlobals "ValueError" = some none)
    (zn_max : PySem.W.nsIn K mainGlobals "max" = some none)
    (zn_sorted : PySem.W.nsIn K mainGlobals "sorted" = some none)
    (z_len : PySem.W.nsIn K mainGlobals "len" = some none)
    (z_int : PySem.W.nsIn K mainGlobals "int" = some none)
    (z_list : PySem.W.nsIn K mainGlobals "list" = some none)
    (z_range : PySem.W.nsIn K mainGlobals "range" = some none)
    (z_min : PySem.W.nsIn K mainGlobals "min" = some none)
    (z_tuple : PySem.W.nsIn K mainGlobals "tuple" = some none)
    (z_isinstance : PySem.W.nsIn K mainGlobals "isinstance" = some none)
    (z_bool : PySem.W.nsIn K mainGlobals "bool" = some none)
    (z_str : PySem.W.nsIn K mainGlobals "str" = some none)
    (z_repr : PySem.W.nsIn K mainGlobals "repr" = some none)
    (z_sum : PySem.W.nsIn K mainGlobals "sum" = some none)
    (z_abs : PySem.W.nsIn K mainGlobals "abs" = some none)
    (z_ord : PySem.W.nsIn K mainGlobals "ord" = some none)
    (z_reversed : PySem.W.nsIn K mainGlobals "reversed" = some none)
    (z_all : PySem.W.nsIn K mainGlobals "all" = some none)
    (z_zip : PySem.W.nsIn K mainGlobals "zip" = some none)
    : ∃ fd : FuncData, (∀ (s : Shared) (v : Value), BindsTo s fd ⟨[v], []⟩ [("script", v)]) ∧ ∀ base : Heap, K.In base → base.Ns mainGlobals mg → FnOk l.prog w K mg base CX0 52 fa fd ["script"] (spLaw K) := by
  have e := hfa.symm.trans (PySem.W.mg_of X G a39)
  cases e
  have B : Bts mg := ⟨PySem.W.mg_none_of X G z_len, PySem.W.mg_none_of X G z_int, PySem.W.mg_none_of X G z_list, PySem.W.mg_none_of X G z_range, PySem.W.mg_none_of X G z_min, PySem.W.mg_none_of X G z_tuple, PySem.W.mg_none_of X G z_isinstance, PySem.W.mg_none_of X G z_bool, PySem.W.mg_none_of X G z_str, PySem.W.mg_none_of X G z_repr, PySem.W.mg_none_of X G z_sum, PySem.W.mg_none_of X G z_abs, PySem.W.mg_none_of X G z_ord, PySem.W.mg_none_of X G z_reversed, PySem.W.mg_none_of X G z_all, PySem.W.mg_none_of X G z_zip⟩
  have SUr : SupC l.prog K mg Cr fr "NoRow.__init__" := ⟨⟨nmr, qr, Nr, bsr, bmr, snr, subr, abr, colr, ddr, k0r, k1r, k2r, k3r, k5r, xl_r, yb_r⟩, xi_r, xt_r, xk_r, xb_r, xv_r, xy_r, xm_r, PySem.W.mg_none_of X G xsu_r, xo_r, xu_r, yt_r, ⟨ocr, odr, docr, pmr, anr, cdar, ccr, ctr, oslr, pr, q1r, q2r, q3r, q4r, q5r, cclr, clr, cddr, cldr, ccsr, cslr, vsr, filer, tfr, xf_r, xc_r, xd_r, yv_r, yf_r, xe_r, yl_r⟩⟩
  have SUp : SupC l.prog K mg Cp fp "NoParcel.__init__" := ⟨⟨nmp, qp, Np, bsp, bmp, snp, subp, abp, colp, ddp, k0p, k1p, k2p, k3p, k5p, xl_p, yb_p⟩, xi_p, xt_p, xk_p, xb_p, xv_p, xy_p, xm_p, PySem.W.mg_none_of X G xsu_p, xo_p, xu_p, yt_p, ⟨ocp, odp, docp, pmp, anp, cdap, ccp, ctp, oslp, pp, q1p, q2p, q3p, q4p, q5p, cclp, clp, cddp, cldp, ccsp, cslp, vsp, filep, tfp, xf_p, xc_p, xd_p, yv_p, yf_p, xe_p, yl_p⟩⟩
  have SUc : SupC l.prog K mg Cc fc "NoCut.__init__" := ⟨⟨nmc, qc, Nc, bsc, bmc, snc, subc, abc, colc, ddc, k0c, k1c, k2c, k3c, k5c, xl_c, yb_c⟩, xi_c, xt_c, xk_c, xb_c, xv_c, xy_c, xm_c, PySem.W.mg_none_of X G xsu_c, xo_c, xu_c, yt_c, ⟨occ, odc, docc, pmc, anc, cdac, ccc, ctc, oslc, pc, q1c, q2c, q3c, q4c, q5c, cclc, clc, cddc, cldc, ccsc, cslc, vsc, filec, tfc, xf_c, xc_c, xd_c, yv_c, yf_c, xe_c, yl_c⟩⟩
  have SUn : SupC l.prog K mg Cn fn "NoNumber.__init__" := ⟨⟨nmn, qn, Nn, bsn, bmn, snn, subn, abn, coln, ddn, k0n, k1n, k2n, k3n, k5n, xl_n, yb_n⟩, xi_n, xt_n, xk_n, xb_n, xv_n, xy_n, xm_n, PySem.W.mg_none_of X G xsu_n, xo_n, xu_n, yt_n, ⟨ocn, odn, docn, pmn, ann, cdan, ccn, ctn, osln, pn, q1n, q2n, q3n, q4n, q5n, ccln, cln, cddn, cldn, ccsn, csln, vsn, filen, tfn, xf_n, xc_n, xd_n, yv_n, yf_n, xe_n, yl_n⟩⟩
  have SUb : SupC l.prog K mg Cb fb "NoBlocks.__init__" := ⟨⟨nmb, qb, Nb, bsb, bmb, snb, subb, abb, colb, ddb, k0b, k1b, k2b, k3b, k5b, xl_b, yb_b⟩, xi_b, xt_b, xk_b, xb_b, xv_b, xy_b, xm_b, PySem.W.mg_none_of X G xsu_b, xo_b, xu_b, yt_b, ⟨ocb, odb, docb, pmb, anb, cdab, ccb, ctb, oslb, pb, q1b, q2b, q3b, q4b, q5b, cclb, clb, cddb, cldb, ccsb, cslb, vsb, fileb, tfb, xf_b, xc_b, xd_b, yv_b, yf_b, xe_b, yl_b⟩⟩
  have F0 := fun_mk (st := sPlain) l0 c0 k0
  have D_is_plain_int : Df K mg "is_plain_int" sPlain ["thing"] f0 _ := ⟨F0, PySem.W.mg_of X G a0, F0.binds (ps := ["thing"]) fun _ _ _ _ _ _ us hl => match us, hl with | [_], _ => rfl⟩
  have F1 := fun_mk (st := sNum) l1 c1 k1
  have D_is_number_below : Df K mg "is_number_below" sNum ["limit", "thing"] f1 _ := ⟨F1, PySem.W.mg_of X G a1, F1.binds (ps := ["limit", "thing"]) fun _ _ _ _ _ _ us hl => match us, hl with | [_, _], _ => rfl⟩
  have F2 := fun_mk (st := sIsRow) l2 c2 k2
  have D_is_row : Df K mg "is_row" sIsRow ["thing"] f2 _ := ⟨F2, PySem.W.mg_of X G a2, F2.binds (ps := ["thing"]) fun _ _ _ _ _ _ us hl => match us, hl with | [_], _ => rfl⟩
  have F3 := fun_mk (st := sIsSg) l3 c3 k3
  have D_is_sign : Df K mg "is_sign" sIsSg ["number"] f3 _ := ⟨F3, PySem.W.mg_of X G a3, F3.binds (ps := ["number"]) fun _ _ _ _ _ _ us hl => match us, hl with | [_], _ => rfl⟩
  have F4 := fun_mk (st := sSgOf) l4 c4 k4
  have D_sign_of : Df K mg "sign_of" sSgOf ["number"] f4 _ := ⟨F4, PySem.W.mg_of X G a4, F4.binds (ps := ["number"]) fun _ _ _ _ _ _ us hl => match us, hl with | [_], _ => rfl⟩
  have F5 := fun_mk (st := sIsStr) l5 c5 k5
  have D_is_string : Df K mg "is_string" sIsStr ["thing"] f5 _ := ⟨F5, PySem.W.mg_of X G a5, F5.binds (ps := ["thing"]) fun _ _ _ _ _ _ us hl => match us, hl with | [_], _ => rfl⟩
  have F6 := fun_mk (st := sIPW) l6 c6 k6
  have D_is_parcel_within : Df K mg "is_parcel_within" sIPW ["deep", "thing"] f6 _ := ⟨F6, PySem.W.mg_of X G a6, F6.binds (ps := ["deep", "thing"]) fun _ _ _ _ _ _ us hl => match us, hl with | [_, _], _ => rfl⟩
  have F7 := fun_mk (st := sIsPar) l7 c7 k7
  have D_is_parcel : Df K mg "is_parcel" sIsPar ["thing"] f7 _ := ⟨F7, PySem.W.mg_of X G a7, F7.binds (ps := ["thing"]) fun _ _ _ _ _ _ us hl => match us, hl with | [_], _ => rfl⟩
  have F8 := fun_mk (st := sRowOf) l8 c8 k8
  have D_row_of : Df K mg "row_of" sRowOf ["parcel"] f8 _ := ⟨F8, PySem.W.mg_of X G a8, F8.binds (ps := ["parcel"]) fun _ _ _ _ _ _ us hl => match us, hl with | [_], _ => rfl⟩
  have F9 := fun_mk (st := sRAll) l9 c9 k9
  have D_read_whole_row : Df K mg "read_whole_row" sRAll ["row"] f9 _ := ⟨F9, PySem.W.mg_of X G a9, F9.binds (ps := ["row"]) fun _ _ _ _ _ _ us hl => match us, hl with | [_], _ => rfl⟩
  have F10 := fun_mk (st := sParO) l10 c10 k10
  have D_parcel_of : Df K mg "parcel_of" sParO ["row"] f10 _ := ⟨F10, PySem.W.mg_of X G a10, F10.binds (ps := ["row"]) fun _ _ _ _ _ _ us hl => match us, hl with | [_], _ => rfl⟩
  have F11 := fun_mk (st := sMkOf) l11 c11 k11
  have D_mark_of : Df K mg "mark_of" sMkOf ["row"] f11 _ := ⟨F11, PySem.W.mg_of X G a11, F11.binds (ps := ["row"]) fun _ _ _ _ _ _ us hl => match us, hl with | [_], _ => rfl⟩
  have F12 := fun_mk (st := sMark) l12 c12 k12
  have D_mark : Df K mg "mark" sMark ["row"] f12 _ := ⟨F12, PySem.W.mg_of X G a12, F12.binds (ps := ["row"]) fun _ _ _ _ _ _ us hl => match us, hl with | [_], _ => rfl⟩
  have F13 := fun_mk (st := sSeal) l13 c13 k13
  have D_seal_of : Df K mg "seal_of" sSeal ["row"] f13 _ := ⟨F13, PySem.W.mg_of X G a13, F13.binds (ps := ["row"]) fun _ _ _ _ _ _ us hl => match us, hl with | [_], _ => rfl⟩
  have F14 := fun_mk (st := sSealed) l14 c14 k14
  have D_sealed : Df K mg "sealed" sSealed ["parcel"] f14 _ := ⟨F14, PySem.W.mg_of X G a14, F14.binds (ps := ["parcel"]) fun _ _ _ _ _ _ us hl => match us, hl with | [_], _ => rfl⟩
  have F15 := fun_mk (st := sUns) l15 c15 k15
  have D_unsealed : Df K mg "unsealed" sUns ["row"] f15 _ := ⟨F15, PySem.W.mg_of X G a15, F15.binds (ps := ["row"]) fun _ _ _ _ _ _ us hl => match us, hl with | [_], _ => rfl⟩
  have F16 := fun_mk (st := sCut) l16 c16 k16
  have D_is_cut : Df K mg "is_cut" sCut ["waiting", "thing"] f16 _ := ⟨F16, PySem.W.mg_of X G a16, F16.binds (ps := ["waiting", "thing"]) fun _ _ _ _ _ _ us hl => match us, hl with | [_, _], _ => rfl⟩
  have F17 := fun_mk (st := sKP) l17 c17 k17
  have D_kept_parcels : Df K mg "kept_parcels" sKP ["blocks"] f17 _ := ⟨F17, PySem.W.mg_of X G a17, F17.binds (ps := ["blocks"]) fun _ _ _ _ _ _ us hl => match us, hl with | [_], _ => rfl⟩
  have F18 := fun_mk (st := sHand) l18 c18 k18
  have D__law_hand : Df K mg "_law_hand" sHand ["script"] f18 _ := ⟨F18, PySem.W.mg_of X G a18, F18.binds (ps := ["script"]) fun _ _ _ _ _ _ us hl => match us, hl with | [_], _ => rfl⟩
  have F19 := fun_mk (st := sTake) l19 c19 k19
  have D__law_take : Df K mg "_law_take" sTake ["hand", "many"] f19 _ := ⟨F19, PySem.W.mg_of X G a19, F19.binds (ps := ["hand", "many"]) fun _ _ _ _ _ _ us hl => match us, hl with | [_, _], _ => rfl⟩
  have F20 := fun_mk (st := sPick) l20 c20 k20
  have D__law_pick : Df K mg "_law_pick" sPick ["hand", "things"] f20 _ := ⟨F20, PySem.W.mg_of X G a20, F20.binds (ps := ["hand", "things"]) fun _ _ _ _ _ _ us hl => match us, hl with | [_, _], _ => rfl⟩
  have F21 := fun_mk (st := sLInt) l21 c21 k21
  have D__law_is_integer : Df K mg "_law_is_integer" sLInt ["thing"] f21 _ := ⟨F21, PySem.W.mg_of X G a21, F21.binds (ps := ["thing"]) fun _ _ _ _ _ _ us hl => match us, hl with | [_], _ => rfl⟩
  have F22 := fun_mk (st := sLWin) l22 c22 k22
  have D__law_is_within : Df K mg "_law_is_within" sLWin ["thing", "least", "most"] f22 _ := ⟨F22, PySem.W.mg_of X G a22, F22.binds (ps := ["thing", "least", "most"]) fun _ _ _ _ _ _ us hl => match us, hl with | [_, _, _], _ => rfl⟩
  have F23 := fun_mk (st := sSameG) l23 c23 k23
  have D__law_same : Df K mg "_law_same" sSameG ["actual", "due"] f23 _ := ⟨F23, PySem.W.mg_of X G a23, F23.binds (ps := ["actual", "due"]) fun _ _ _ _ _ _ us hl => match us, hl with | [_, _], _ => rfl⟩
  have F24 := fun_mk (st := sOddL) l24 c24 k24
  have D__law_odd : Df K mg "_law_odd" sOddL ["hand"] f24 _ := ⟨F24, PySem.W.mg_of X G a24, F24.binds (ps := ["hand"]) fun _ _ _ _ _ _ us hl => match us, hl with | [_], _ => rfl⟩
  have F25 := fun_mk (st := sKnown) l25 c25 k25
  have D__law_known : Df K mg "_law_known" sKnown ["out", "number"] f25 _ := ⟨F25, PySem.W.mg_of X G a25, F25.binds (ps := ["out", "number"]) fun _ _ _ _ _ _ us hl => match us, hl with | [_, _], _ => rfl⟩
  have F26 := fun_mk (st := sTaken) l26 c26 k26
  have D__law_taken : Df K mg "_law_taken" sTaken ["end", "number"] f26 _ := ⟨F26, PySem.W.mg_of X G a26, F26.binds (ps := ["end", "number"]) fun _ _ _ _ _ _ us hl => match us, hl with | [_, _], _ => rfl⟩
  have F27 := fun_mk (st := sFst) l27 c27 k27
  have D__law_first : Df K mg "_law_first" sFst ["script"] f27 _ := ⟨F27, PySem.W.mg_of X G a27, F27.binds (ps := ["script"]) fun _ _ _ _ _ _ us hl => match us, hl with | [_], _ => rfl⟩
  have F28 := fun_mk (st := sPool) l28 c28 k28
  have D__law_pool : Df K mg "_law_pool" sPool ["script"] f28 _ := ⟨F28, PySem.W.mg_of X G a28, F28.binds (ps := ["script"]) fun _ _ _ _ _ _ us hl => match us, hl with | [_], _ => rfl⟩
  have F29 := fun_mk (st := sDraw) l29 c29 k29
  have D__law_draw : Df K mg "_law_draw" sDraw ["pool", "many"] f29 _ := ⟨F29, PySem.W.mg_of X G a29, F29.binds (ps := ["pool", "many"]) fun _ _ _ _ _ _ us hl => match us, hl with | [_, _], _ => rfl⟩
  have F30 := fun_mk (st := sLDeep) l30 c30 k30
  have D__law_deep : Df K mg "_law_deep" sLDeep [] f30 _ := ⟨F30, PySem.W.mg_of X G a30, F30.binds (ps := []) fun _ _ _ _ _ _ us hl => match us, hl with | [], _ => rfl⟩
  have F31 := fun_mk (st := sNest) l31 c31 k31
  have D__law_nested : Df K mg "_law_nested" sNest ["many", "inner"] f31 _ := ⟨F31, PySem.W.mg_of X G a31, F31.binds (ps := ["many", "inner"]) fun _ _ _ _ _ _ us hl => match us, hl with | [_, _], _ => rfl⟩
  have F32 := fun_mk (st := sLIsRow) l32 c32 k32
  have D__law_is_row : Df K mg "_law_is_row" sLIsRow ["thing"] f32 _ := ⟨F32, PySem.W.mg_of X G a32, F32.binds (ps := ["thing"]) fun _ _ _ _ _ _ us hl => match us, hl with | [_], _ => rfl⟩
  have F33 := fun_mk (st := sLCall) l33 c33 k33
  have D__law_call : Df K mg "_law_call" sLCall ["which", "disk", "thing"] f33 _ := ⟨F33, PySem.W.mg_of X G a33, F33.binds (ps := ["which", "disk", "thing"]) fun _ _ _ _ _ _ us hl => match us, hl with | [_, _, _], _ => rfl⟩
  have F34 := fun_mk (st := sName) l34 c34 k34
  have D__law_name : Df K mg "_law_name" sName ["error"] f34 _ := ⟨F34, PySem.W.mg_of X G a34, F34.binds (ps := ["error"]) fun _ _ _ _ _ _ us hl => match us, hl with | [_], _ => rfl⟩
  have F35 := fun_mk (st := sLWord) l35 c35 k35
  have D__law_word : Df K mg "_law_word" sLWord ["which", "disk", "thing"] f35 _ := ⟨F35, PySem.W.mg_of X G a35, F35.binds (ps := ["which", "disk", "thing"]) fun _ _ _ _ _ _ us hl => match us, hl with | [_, _, _], _ => rfl⟩
  have F36 := fun_mk (st := sLSome) l36 c36 k36
  have D__law_some : Df K mg "_law_some" sLSome ["pool"] f36 _ := ⟨F36, PySem.W.mg_of X G a36, F36.binds (ps := ["pool"]) fun _ _ _ _ _ _ us hl => match us, hl with | [_], _ => rfl⟩
  have F37 := fun_mk (st := sLDue) l37 c37 k37
  have D__law_due : Df K mg "_law_due" sLDue ["which", "blocks", "synced", "thing"] f37 _ := ⟨F37, PySem.W.mg_of X G a37, F37.binds (ps := ["which", "blocks", "synced", "thing"]) fun _ _ _ _ _ _ us hl => match us, hl with | [_, _, _, _], _ => rfl⟩
  have F38 := fun_mk (st := sSnd) l38 c38 k38
  have D__law_second : Df K mg "_law_second" sSnd ["script"] f38 _ := ⟨F38, PySem.W.mg_of X G a38, F38.binds (ps := ["script"]) fun _ _ _ _ _ _ us hl => match us, hl with | [_], _ => rfl⟩
  have A : PD36 K mg := ⟨_, _, D_is_plain_int, _, _, D_is_number_below, _, _, D_is_row, _, _, D_is_sign, _, _, D_sign_of, _, _, D_is_string, _, _, D_is_parcel_within, _, _, D_is_parcel, _, _, D_row_of, _, _, D_read_whole_row, _, _, D_parcel_of, _, _, D_mark_of, _, _, D_mark, _, _, D_seal_of, _, _, D_sealed, _, _, D_unsealed, _, _, D_is_cut, _, _, D_kept_parcels⟩
  have L : LD36 K mg := ⟨_, _, D__law_hand, _, _, D__law_take, _, _, D__law_pick, _, _, D__law_is_integer, _, _, D__law_is_within, _, _, D__law_same, _, _, D__law_odd, _, _, D__law_known, _, _, D__law_taken, _, _, D__law_first, _, _, D__law_pool, _, _, D__law_draw, _, _, D__law_deep, _, _, D__law_nested, _, _, D__law_is_row, _, _, D__law_call, _, _, D__law_name, _, _, D__law_word, _, _, D__law_some, _, _, D__law_due, _, _, D__law_second⟩
  have T : RTxt K mg CR := ⟨⟨r_pg, r_hd, r_po, r_sa⟩, r_n0, r_n1, PySem.W.mg_of X G r_aC⟩
  have FmI := fun_mk (st := sRInit) mIl mIc mIk
  have bmI := FmI.binds (ps := ["self", "row"]) fun _ _ _ _ _ _ us hl => match us, hl with | [_, _], _ => rfl
  have FmD := fun_mk (st := sDue) mDl mDc mDk
  have bmD := FmD.binds (ps := ["self"]) fun _ _ _ _ _ _ us hl => match us, hl with | [_], _ => rfl
  have FmW := fun_mk (st := sRW) mWl mWc mWk
  have bmW := FmW.binds (ps := ["self"]) fun _ _ _ _ _ _ us hl => match us, hl with | [_], _ => rfl
  have FmS := fun_mk (st := sRS) mSl mSc mSk
  have bmS := FmS.binds (ps := ["self"]) fun _ _ _ _ _ _ us hl => match us, hl with | [_], _ => rfl
  have FmT := fun_mk (st := sRT) mTl mTc mTk
  have bmT := FmT.binds (ps := ["self", "deep"]) fun _ _ _ _ _ _ us hl => match us, hl with | [_, _], _ => rfl
  have FmP := fun_mk (st := sRP) mPl mPc mPk
  have bmP := FmP.binds (ps := ["self", "deep"]) fun _ _ _ _ _ _ us hl => match us, hl with | [_, _], _ => rfl
  have M : RDefs K CR := ⟨_, _, FmI, bmI, ⟨r_mk, mIf, mIi, r_kc⟩, _, _, FmD, bmD, ⟨mDf, mDi, mDk⟩, _, _, FmW, bmW, ⟨mWf, mWi, mWk⟩, _, _, FmS, bmS, ⟨mSf, mSi, mSk⟩, _, _, FmT, bmT, ⟨mTf, mTi, mTk⟩, _, _, FmP, bmP, ⟨mPf, mPi, mPk⟩⟩
  have C : Cst mg := ⟨⟨_, PySem.W.mg_of X G cc_BYTES⟩, ⟨_, PySem.W.mg_of X G cc_MOST_DEEP⟩, ⟨_, PySem.W.mg_of X G cc_MOST_SIGNS⟩, ⟨_, PySem.W.mg_of X G cc_FROM_0_ON⟩, ⟨_, PySem.W.mg_of X G cc_BELOW_0⟩, ⟨_, PySem.W.mg_of X G cc_STRING⟩, ⟨_, PySem.W.mg_of X G cc_TUPLE⟩, ⟨_, PySem.W.mg_of X G cc_FIRST_SIGN⟩, ⟨_, PySem.W.mg_of X G cc_NO_SIGN⟩, ⟨_, PySem.W.mg_of X G cc_LAST_SIGN⟩, ⟨_, PySem.W.mg_of X G cc_MARK_FACTOR⟩, ⟨_, PySem.W.mg_of X G cc_MARKS⟩, ⟨_, PySem.W.mg_of X G cc_SEALS⟩, ⟨_, PySem.W.mg_of X G cc_SEAL_LENGTH⟩, ⟨_, PySem.W.mg_of X G sSB⟩, ⟨_, PySem.W.mg_of X G sSA⟩⟩
  have BA : Bare K mg := ⟨aBA, PySem.W.mg_of X G bBA, ⟨_, itBA, nuBA, lBA, rfl, rfl, Nat.le_trans zBA (by decide), vBA⟩, _, lBA, rfl, rfl⟩
  have FB0 := fun_mk (st := sPlace) wf wc wkf
  have BT : BTxt K mg CB fB _ := ⟨⟨⟨nmB, qB, NB, bsB, bmB, snB, subB, abB, colB, ddB, k0B, k1B, k2B, k3B, k5B, wl, wbm⟩, wsa, wb, wy, wk⟩, wi, wt, FB0, FB0.binds (ps := ["self", "place"]) (fun _ _ _ _ _ _ us hl => match us, hl with | [_, _], _ => rfl), wp, PySem.W.mg_of X G wN, exm_me wb wz wy ws, ⟨wga, wgg, wb, whd⟩⟩
  have TD : DTxt K mg CD := ⟨⟨d_pg, d_hd, d_po, d_sa⟩, d_n0, d_n1, PySem.W.mg_of X G d_aC⟩
  have FdI := fun_mk (st := sDI) dIl dIc dIk
  have bdI := FdI.binds (ps := ["self"]) fun _ _ _ _ _ _ us hl => match us, hl with | [_], _ => rfl
  have FdW := fun_mk (st := sDW) dWl dWc dWk
  have bdW := FdW.binds (ps := ["self", "row"]) fun _ _ _ _ _ _ us hl => match us, hl with | [_, _], _ => rfl
  have FdS := fun_mk (st := sDS) dSl dSc dSk
  have bdS := FdS.binds (ps := ["self"]) fun _ _ _ _ _ _ us hl => match us, hl with | [_], _ => rfl
  have FdB := fun_mk (st := sDB) dBl dBc dBk
  have bdB := FdB.binds (ps := ["self"]) fun _ _ _ _ _ _ us hl => match us, hl with | [_], _ => rfl
  have FdY := fun_mk (st := sDY) dYl dYc dYk
  have bdY := FdY.binds (ps := ["self"]) fun _ _ _ _ _ _ us hl => match us, hl with | [_], _ => rfl
  have FdC := fun_mk (st := sDC) dCl dCc dCk
  have bdC := FdC.binds (ps := ["self", "kept"]) fun _ _ _ _ _ _ us hl => match us, hl with | [_, _], _ => rfl
  have FdD := fun_mk (st := sDD) dDl dDc dDk
  have bdD := FdD.binds (ps := ["self", "number"]) fun _ _ _ _ _ _ us hl => match us, hl with | [_, _], _ => rfl
  have FdK := fun_mk (st := sDK) dKl dKc dKk
  have bdK := FdK.binds (ps := ["self"]) fun _ _ _ _ _ _ us hl => match us, hl with | [_], _ => rfl
  have MD : DDefs K CD := ⟨_, _, FdI, bdI, ⟨d_mk, dIf, dIi, d_kc⟩, _, _, FdW, bdW, ⟨dWf, dWi, dWk⟩, _, _, FdS, bdS, ⟨dSf, dSi, dSk⟩, _, _, FdB, bdB, ⟨dBf, dBi, dBk⟩, _, _, FdY, bdY, ⟨dYf, dYi, dYk⟩, _, _, FdC, bdC, ⟨dCf, dCi, dCk⟩, _, _, FdD, bdD, ⟨dDf, dDi, dDk⟩, _, _, FdK, bdK, ⟨dKf, dKi, dKk⟩⟩
  have TO : OTxt K mg CO := ⟨⟨o_pg, o_hd, o_po, o_sa⟩, o_n0, o_n1, PySem.W.mg_of X G o_aC⟩
  have FoI := fun_mk (st := sOI) oIl oIc oIk
  have boI := FoI.binds (ps := ["self"]) fun _ _ _ _ _ _ us hl => match us, hl with | [_], _ => rfl
  have FoP := fun_mk (st := sOP) oPl oPc oPk
  have boP := FoP.binds (ps := ["self", "thing"]) fun _ _ _ _ _ _ us hl => match us, hl with | [_, _], _ => rfl
  have FoK := fun_mk (st := sOK) oKl oKc oKk
  have boK := FoK.binds (ps := ["self", "number"]) fun _ _ _ _ _ _ us hl => match us, hl with | [_, _], _ => rfl
  have FoM := fun_mk (st := sOM) oMl oMc oMk
  have boM := FoM.binds (ps := ["self"]) fun _ _ _ _ _ _ us hl => match us, hl with | [_], _ => rfl
  have FoS := fun_mk (st := sOS) oSl oSc oSk
  have boS := FoS.binds (ps := ["self"]) fun _ _ _ _ _ _ us hl => match us, hl with | [_], _ => rfl
  have MO : ODefs K CO := ⟨_, _, FoI, boI, ⟨o_mk, oIf, oIi, o_kc⟩, _, _, FoP, boP, ⟨oPf, oPi, oPk⟩, _, _, FoK, boK, ⟨oKf, oKi, oKk⟩, _, _, FoM, boM, ⟨oMf, oMi, oMk⟩, _, _, FoS, boS, ⟨oSf, oSi, oSk⟩⟩
  have TN : NTxt K mg CN := ⟨⟨n_pg, n_hd, n_po, n_sa⟩, n_n0, n_n1, PySem.W.mg_of X G n_aC⟩
  have FnI := fun_mk (st := sNI) nIl nIc nIk
  have bnI := FnI.binds (ps := ["self"]) fun _ _ _ _ _ _ us hl => match us, hl with | [_], _ => rfl
  have FnT := fun_mk (st := sNT) nTl nTc nTk
  have bnT := FnT.binds (ps := ["self", "number", "thing"]) fun _ _ _ _ _ _ us hl => match us, hl with | [_, _, _], _ => rfl
  have FnN := fun_mk (st := sNN) nNl nNc nNk
  have bnN := FnN.binds (ps := ["self"]) fun _ _ _ _ _ _ us hl => match us, hl with | [_], _ => rfl
  have FnH := fun_mk (st := sNH) nHl nHc nHk
  have bnH := FnH.binds (ps := ["self"]) fun _ _ _ _ _ _ us hl => match us, hl with | [_], _ => rfl
  have FnS := fun_mk (st := sNS) nSl nSc nSk
  have bnS := FnS.binds (ps := ["self"]) fun _ _ _ _ _ _ us hl => match us, hl with | [_], _ => rfl
  have MN : NDefs K CN := ⟨_, _, FnI, bnI, ⟨n_mk, nIf, nIi, n_kc⟩, _, _, FnT, bnT, ⟨nTf, nTi, nTk⟩, _, _, FnN, bnN, ⟨nNf, nNi, nNk⟩, _, _, FnH, bnH, ⟨nHf, nHi, nHk⟩, _, _, FnS, bnS, ⟨nSf, nSi, nSk⟩⟩
  have LC : LCst mg := ⟨⟨_, PySem.W.mg_of X G cc_NUMBERS⟩, ⟨_, PySem.W.mg_of X G cc_HELD_AHEAD⟩, PySem.W.mg_none_of X G zn_max, PySem.W.mg_none_of X G zn_sorted⟩
  have E0 : Er1 l.prog K mg CE Cr fr "NoRow" "NoRow.__init__" := ⟨SUr, PySem.W.mg_of X G xN_r, exm_ot eb ez ey en_r, exm_ot xb_r xz_r xy_r xs_r, ⟨nga_r, ngg_r, xb_r, nhd_r, nac_r, hsp, htk, nmo_r⟩, xz_r, kit_ve xv_r⟩
  have E1 : Er1 l.prog K mg CE Cp fp "NoParcel" "NoParcel.__init__" := ⟨SUp, PySem.W.mg_of X G xN_p, exm_ot eb ez ey en_p, exm_ot xb_p xz_p xy_p xs_p, ⟨nga_p, ngg_p, xb_p, nhd_p, nac_p, hsp, htk, nmo_p⟩, xz_p, kit_ve xv_p⟩
  have E2 : Er1 l.prog K mg CE Cc fc "NoCut" "NoCut.__init__" := ⟨SUc, PySem.W.mg_of X G xN_c, exm_ot eb ez ey en_c, exm_ot xb_c xz_c xy_c xs_c, ⟨nga_c, ngg_c, xb_c, nhd_c, nac_c, hsp, htk, nmo_c⟩, xz_c, kit_ve xv_c⟩
  have E3 : Er1 l.prog K mg CE Cn fn "NoNumber" "NoNumber.__init__" := ⟨SUn, PySem.W.mg_of X G xN_n, exm_ot eb ez ey en_n, exm_ot xb_n xz_n xy_n xs_n, ⟨nga_n, ngg_n, xb_n, nhd_n, nac_n, hsp, htk, nmo_n⟩, xz_n, kit_ve xv_n⟩
  have E4 : Er1 l.prog K mg CE Cb fb "NoBlocks" "NoBlocks.__init__" := ⟨SUb, PySem.W.mg_of X G xN_b, exm_ot eb ez ey en_b, exm_ot xb_b xz_b xy_b xs_b, ⟨nga_b, ngg_b, xb_b, nhd_b, nac_b, hsp, htk, nmo_b⟩, xz_b, kit_ve xv_b⟩
  have XE : Errs l.prog K mg CE := errsOf E0 E1 E2 E3 E4 (kit_clsN xz_p xy_p xp_r_p xs_r) (kit_clsN xz_c xy_c xp_r_c xs_r) (kit_clsN xz_n xy_n xp_r_n xs_r) (kit_clsN xz_b xy_b xp_r_b xs_r) (kit_clsN xz_r xy_r xp_p_r xs_p) (kit_clsN xz_c xy_c xp_p_c xs_p) (kit_clsN xz_n xy_n xp_p_n xs_p) (kit_clsN xz_b xy_b xp_p_b xs_p) (kit_clsN xz_r xy_r xp_c_r xs_c) (kit_clsN xz_p xy_p xp_c_p xs_c) (kit_clsN xz_n xy_n xp_c_n xs_c) (kit_clsN xz_b xy_b xp_c_b xs_c) (kit_clsN xz_r xy_r xp_n_r xs_n) (kit_clsN xz_p xy_p xp_n_p xs_n) (kit_clsN xz_c xy_c xp_n_c xs_n) (kit_clsN xz_b xy_b xp_n_b xs_n) (kit_clsN xz_r xy_r xp_b_r xs_b) (kit_clsN xz_p xy_p xp_b_p xs_b) (kit_clsN xz_c xy_c xp_b_c xs_b) (kit_clsN xz_n xy_n xp_b_n xs_b) (PySem.W.mg_of X G eN) (PySem.W.mg_none_of X G zn_ValueError)
  exact ⟨PySem.W.fnOf "law" "law" (defArgs sLaw) (defBody sLaw) (defScope sLaw) .none kV39 dc39 pm39 an39 cd39 ct39, fun s v => .of_eq rfl, fun base _ _ =>
    ok_law (fun_mk (st := sLaw) l39 c39 k39) B C BA T M BT TD MD LC TO MO TN MN XE A L⟩
theorem walk {l : PySem.W.OpenLaw} {q : Program} {loose : List Str} {XP : (Str → Option Value) → Heap → Prop} {YP : World → Heap → Prop} {d : DefRec} {K : Params → PySem.W.Frag} (hn : l.most = some 63) (hdf : d.params.defaults = [])
    (hY : ∀ (w : World) (h : Heap), YP w h → (K w.params).In h)
    (F : ∀ (w : World) (mg : Str → Option Value) (fa : Addr) (h : Heap), (K w.params).In h → h.Ns mainGlobals mg → mg d.name = some (.ref fa) →
      ∃ fd : FuncData, (∀ (s : Shared) (u : Value), BindsTo s fd ⟨[u], []⟩ [("script", u)]) ∧ ∀ base : Heap, (K w.params).In base → base.Ns mainGlobals mg → FnOk l.prog w (K w.params) mg base CX0 52 fa fd ["script"] (spLaw (K w.params))) :
    PySem.W.WalkO q loose XP YP l.row.toRowW d [] (fun f vs => PySem.call f vs) :=
  L2.walk_of (n := 63) (k := 52) (x := "script") (CX := fun _ => CX0) (sp := fun w => spLaw (K w.params)) hn (by decide) hdf ⟨rfl, by decide, by decide⟩ hY F (fun _ _ a ns hl _ hS => ⟨a, ns, rfl, hS, hl, fun _ => rfl⟩) fun _ _ _ _ _ z => z
end Q
open PySem PySem.W PyProof.Rows in
set_option maxRecDepth 100000 in
set_option maxHeartbeats 0 in
theorem PySem.Challenge.cw_sameround_k36_links_rows_and_disks_refus_holds : PySem.Challenge.rw_sameround_k36_links_rows_and_disks_refus.Holds := by
  w_on; o_law; k_head; (case hw => w_witness2)
  k_fill
  refine Q.walk (l := PySem.Challenge.rw_sameround_k36_links_rows_and_disks_refus) rfl rfl (fun w h Y => PySem.W.kIn_of Y) ?F
  case F =>
    intro w mg fa h KX G hmg
    refine' Q.all_mk KX G hmg ?a0 ?l0 ?c0 ?k0 ?a1 ?l1 ?c1 ?k1 ?a2 ?l2 ?c2 ?k2 ?a3 ?l3 ?c3 ?k3 ?a4 ?l4 ?c4 ?k4 ?a5 ?l5 ?c5 ?k5 ?a6 ?l6 ?c6 ?k6 ?a7 ?l7 ?c7 ?k7 ?a8 ?l8 ?c8 ?k8 ?a9 ?l9 ?c9 ?k9 ?a10 ?l10 ?c10 ?k10 ?a11 ?l11 ?c11 ?k11 ?a12 ?l12 ?c12 ?k12 ?a13 ?l13 ?c13 ?k13 ?a14 ?l14 ?c14 ?k14 ?a15 ?l15 ?c15 ?k15 ?a16 ?l16 ?c16 ?k16 ?a17 ?l17 ?c17 ?k17 ?a18 ?l18 ?c18 ?k18 ?a19 ?l19 ?c19 ?k19 ?a20 ?l20 ?c20 ?k20 ?a21 ?l21 ?c21 ?k21 ?a22 ?l22 ?c22 ?k22 ?a23 ?l23 ?c23 ?k23 ?a24 ?l24 ?c24 ?k24 ?a25 ?l25 ?c25 ?k25 ?a26 ?l26 ?c26 ?k26 ?a27 ?l27 ?c27 ?k27 ?a28 ?l28 ?c28 ?k28 ?a29 ?l29 ?c29 ?k29 ?a30 ?l30 ?c30 ?k30 ?a31 ?l31 ?c31 ?k31 ?a32 ?l32 ?c32 ?k32 ?a33 ?l33 ?c33 ?k33 ?a34 ?l34 ?c34 ?k34 ?a35 ?l35 ?c35 ?k35 ?a36 ?l36 ?c36 ?k36 ?a37 ?l37 ?c37 ?k37 ?a38 ?l38 ?c38 ?k38 ?a39 ?l39 ?c39 ?k39 ?r_aC ?r_pg ?r_hd ?r_po ?r_sa ?r_mk ?r_kc ?r_n0 ?r_n1 ?mIf ?mIi ?mIl ?mIc ?mIk ?mDf ?mDi ?mDl ?mDc ?mDk ?mWf ?mWi ?mWl ?mWc ?mWk ?mSf ?mSi ?mSl ?mSc ?mSk ?mTf ?mTi ?mTl ?mTc ?mTk ?mPf ?mPi ?mPl ?mPc ?mPk ?sSB ?sSA ?bBA ?lBA ?zBA ?vBA ?wN ?wl ?wbm ?wi ?wt ?wk ?wb ?wy ?ws ?wz ?wsa ?wp ?wga ?wgg ?whd ?wf ?wc ?wkf ?d_aC ?d_pg ?d_hd ?d_po ?d_sa ?d_mk ?d_kc ?d_n0 ?d_n1 ?dIf ?dIi ?dIl ?dIc ?dIk ?dWf ?dWi ?dWl ?dWc ?dWk ?dSf ?dSi ?dSl ?dSc ?dSk ?dBf ?dBi ?dBl ?dBc ?dBk ?dYf ?dYi ?dYl ?dYc ?dYk ?dCf ?dCi ?dCl ?dCc ?dCk ?dDf ?dDi ?dDl ?dDc ?dDk ?dKf ?dKi ?dKl ?dKc ?dKk ?o_aC ?o_pg ?o_hd ?o_po ?o_sa ?o_mk ?o_kc ?o_n0 ?o_n1 ?oIf ?oIi ?oIl ?oIc ?oIk ?oPf ?oPi ?oPl ?oPc ?oPk ?oKf ?oKi ?oKl ?oKc ?oKk ?oMf ?oMi ?oMl ?oMc ?oMk ?oSf ?oSi ?oSl ?oSc ?oSk ?n_aC ?n_pg ?n_hd ?n_po ?n_sa ?n_mk ?n_kc ?n_n0 ?n_n1 ?nIf ?nIi ?nIl ?nIc ?nIk ?nTf ?nTi ?nTl ?nTc ?nTk ?nNf ?nNi ?nNl ?nNc ?nNk ?nHf ?nHi ?nHl ?nHc ?nHk ?nSf ?nSi ?nSl ?nSc ?nSk ?eN ?eb ?ez ?ey ?hsp ?htk ?en_r ?nga_r ?ngg_r ?nhd_r ?nac_r ?nmo_r ?en_p ?nga_p ?ngg_p ?nhd_p ?nac_p ?nmo_p ?en_c ?nga_c ?ngg_c ?nhd_c ?nac_c ?nmo_c ?en_n ?nga_n ?ngg_n ?nhd_n ?nac_n ?nmo_n ?en_b ?nga_b ?ngg_b ?nhd_b ?nac_b ?nmo_b ?cc_BYTES ?cc_MOST_DEEP ?cc_MOST_SIGNS ?cc_FROM_0_ON ?cc_BELOW_0 ?cc_STRING ?cc_TUPLE ?cc_FIRST_SIGN ?cc_NO_SIGN ?cc_LAST_SIGN ?cc_MARK_FACTOR ?cc_MARKS ?cc_SEALS ?cc_SEAL_LENGTH ?cc_NUMBERS ?cc_HELD_AHEAD ?xN_r ?xl_r ?xi_r ?xt_r ?xk_r ?xb_r ?xv_r ?xy_r ?xm_r ?xs_r ?xz_r ?xsu_r ?xo_r ?xf_r ?xc_r ?xd_r ?xe_r ?xu_r ?yb_r ?yv_r ?yf_r ?yt_r ?yl_r ?xN_p ?xl_p ?xi_p ?xt_p ?xk_p ?xb_p ?xv_p ?xy_p ?xm_p ?xs_p ?xz_p ?xsu_p ?xo_p ?xf_p ?xc_p ?xd_p ?xe_p ?xu_p ?yb_p ?yv_p ?yf_p ?yt_p ?yl_p ?xN_c ?xl_c ?xi_c ?xt_c ?xk_c ?xb_c ?xv_c ?xy_c ?xm_c ?xs_c ?xz_c ?xsu_c ?xo_c ?xf_c ?xc_c ?xd_c ?xe_c ?xu_c ?yb_c ?yv_c ?yf_c ?yt_c ?yl_c ?xN_n ?xl_n ?xi_n ?xt_n ?xk_n ?xb_n ?xv_n ?xy_n ?xm_n ?xs_n ?xz_n ?xsu_n ?xo_n ?xf_n ?xc_n ?xd_n ?xe_n ?xu_n ?yb_n ?yv_n ?yf_n ?yt_n ?yl_n ?xN_b ?xl_b ?xi_b ?xt_b ?xk_b ?xb_b ?xv_b ?xy_b ?xm_b ?xs_b ?xz_b ?xsu_b ?xo_b ?xf_b ?xc_b ?xd_b ?xe_b ?xu_b ?yb_b ?yv_b ?yf_b ?yt_b ?yl_b ?xp_r_p ?xp_r_c ?xp_r_n ?xp_r_b ?xp_p_r ?xp_p_c ?xp_p_n ?xp_p_b ?xp_c_r ?xp_c_p ?xp_c_n ?xp_c_b ?xp_n_r ?xp_n_p ?xp_n_c ?xp_n_b ?xp_b_r ?xp_b_p ?xp_b_c ?xp_b_n ?zn_ValueError ?zn_max ?zn_sorted ?z_len ?z_int ?z_list ?z_range ?z_min ?z_tuple ?z_isinstance ?z_bool ?z_str ?z_repr ?z_sum ?z_abs ?z_ord ?z_reversed ?z_all ?z_zip
    (case a0 => k_is)
    (case l0 => k_is)
    (case c0 => k_is)
    (case k0 => k_is)
    (case a1 => k_is)
    (case l1 => k_is)
    (case c1 => k_is)
    (case k1 => k_is)
    (case a2 => k_is)
    (case l2 => k_is)
    (case c2 => k_is)
    (case k2 => k_is)
    (case a3 => k_is)
    (case l3 => k_is)
    (case c3 => k_is)
    (case k3 => k_is)
    (case a4 => k_is)
    (case l4 => k_is)
    (case c4 => k_is)
    (case k4 => k_is)
    (case a5 => k_is)
    (case l5 => k_is)
    (case c5 => k_is)
    (case k5 => k_is)
    (case a6 => k_is)
    (case l6 => k_is)
    (case c6 => k_is)
    (case k6 => k_is)
    (case a7 => k_is)
    (case l7 => k_is)
    (case c7 => k_is)
    (case k7 => k_is)
    (case a8 => k_is)
    (case l8 => k_is)
    (case c8 => k_is)
    (case k8 => k_is)
    (case a9 => k_is)
    (case l9 => k_is)
    (case c9 => k_is)
    (case k9 => k_is)
    (case a10 => k_is)
    (case l10 => k_is)
    (case c10 => k_is)
    (case k10 => k_is)
    (case a11 => k_is)
    (case l11 => k_is)
    (case c11 => k_is)
    (case k11 => k_is)
    (case a12 => k_is)
    (case l12 => k_is)
    (case c12 => k_is)
    (case k12 => k_is)
    (case a13 => k_is)
    (case l13 => k_is)
    (case c13 => k_is)
    (case k13 => k_is)
    (case a14 => k_is)
    (case l14 => k_is)
    (case c14 => k_is)
    (case k14 => k_is)
    (case a15 => k_is)
    (case l15 => k_is)
    (case c15 => k_is)
    (case k15 => k_is)
    (case a16 => k_is)
    (case l16 => k_is)
    (case c16 => k_is)
    (case k16 => k_is)
    (case a17 => k_is)
    (case l17 => k_is)
    (case c17 => k_is)
    (case k17 => k_is)
    (case a18 => k_is)
    (case l18 => k_is)
    (case c18 => k_is)
    (case k18 => k_is)
    (case a19 => k_is)
    (case l19 => k_is)
    (case c19 => k_is)
    (case k19 => k_is)
    (case a20 => k_is)
    (case l20 => k_is)
    (case c20 => k_is)
    (case k20 => k_is)
    (case a21 => k_is)
    (case l21 => k_is)
    (case c21 => k_is)
    (case k21 => k_is)
    (case a22 => k_is)
    (case l22 => k_is)
    (case c22 => k_is)
    (case k22 => k_is)
    (case a23 => k_is)
    (case l23 => k_is)
    (case c23 => k_is)
    (case k23 => k_is)
    (case a24 => k_is)
    (case l24 => k_is)
    (case c24 => k_is)
    (case k24 => k_is)
    (case a25 => k_is)
    (case l25 => k_is)
    (case c25 => k_is)
    (case k25 => k_is)
    (case a26 => k_is)
    (case l26 => k_is)
    (case c26 => k_is)
    (case k26 => k_is)
    (case a27 => k_is)
    (case l27 => k_is)
    (case c27 => k_is)
    (case k27 => k_is)
    (case a28 => k_is)
    (case l28 => k_is)
    (case c28 => k_is)
    (case k28 => k_is)
    (case a29 => k_is)
    (case l29 => k_is)
    (case c29 => k_is)
    (case k29 => k_is)
    (case a30 => k_is)
    (case l30 => k_is)
    (case c30 => k_is)
    (case k30 => k_is)
    (case a31 => k_is)
    (case l31 => k_is)
    (case c31 => k_is)
    (case k31 => k_is)
    (case a32 => k_is)
    (case l32 => k_is)
    (case c32 => k_is)
    (case k32 => k_is)
    (case a33 => k_is)
    (case l33 => k_is)
    (case c33 => k_is)
    (case k33 => k_is)
    (case a34 => k_is)
    (case l34 => k_is)
    (case c34 => k_is)
    (case k34 => k_is)
    (case a35 => k_is)
    (case l35 => k_is)
    (case c35 => k_is)
    (case k35 => k_is)
    (case a36 => k_is)
    (case l36 => k_is)
    (case c36 => k_is)
    (case k36 => k_is)
    (case a37 => k_is)
    (case l37 => k_is)
    (case c37 => k_is)
    (case k37 => k_is)
    (case a38 => k_is)
    (case l38 => k_is)
    (case c38 => k_is)
    (case k38 => k_is)
    (case a39 => k_is)
    (case l39 => k_is)
    (case c39 => k_is)
    (case k39 => k_is)
    (case r_aC => k_is)
    (case r_pg => k_is)
    (case r_hd => k_is)
    (case r_po => k_is)
    (case r_sa => k_is)
    (case r_mk => k_is)
    (case r_kc => k_is)
    (case r_n0 => k_is)
    (case r_n1 => k_is)
    (case mIf => k_is)
    (case mIi => k_is)
    (case mIl => k_is)
    (case mIc => k_is)
    (case mIk => k_is)
    (case mDf => k_is)
    (case mDi => k_is)
    (case mDl => k_is)
    (case mDc => k_is)
    (case mDk => k_is)
    (case mWf => k_is)
    (case mWi => k_is)
    (case mWl => k_is)
    (case mWc => k_is)
    (case mWk => k_is)
    (case mSf => k_is)
    (case mSi => k_is)
    (case mSl => k_is)
    (case mSc => k_is)
    (case mSk => k_is)
    (case mTf => k_is)
    (case mTi => k_is)
    (case mTl => k_is)
    (case mTc => k_is)
    (case mTk => k_is)
    (case mPf => k_is)
    (case mPi => k_is)
    (case mPl => k_is)
    (case mPc => k_is)
    (case mPk => k_is)
    (case sSB => k_is)
    (case sSA => k_is)
    (case bBA => k_is)
    (case lBA => k_is)
    (case zBA => decide)
    (case vBA => (repeat (first | exact .nil | refine .cons rfl ?_)))
    (case wN => k_is)
    (case wl => k_is)
    (case wbm => decide +kernel)
    (case wi => k_is)
    (case wt => k_is)
    (case wk => k_is)
    (case wb => k_is)
    (case wy => k_is)
    (case ws => k_is)
    (case wz => k_is)
    (case wsa => k_is)
    (case wp => k_is)
    (case wga => k_is)
    (case wgg => k_is)
    (case whd => k_is)
    (case wf => k_is)
    (case wc => k_is)
    (case wkf => k_is)
    (case d_aC => k_is)
    (case d_pg => k_is)
    (case d_hd => k_is)
    (case d_po => k_is)
    (case d_sa => k_is)
    (case d_mk => k_is)
    (case d_kc => k_is)
    (case d_n0 => k_is)
    (case d_n1 => k_is)
    (case dIf => k_is)
    (case dIi => k_is)
    (case dIl => k_is)
    (case dIc => k_is)
    (case dIk => k_is)
    (case dWf => k_is)
    (case dWi => k_is)
    (case dWl => k_is)
    (case dWc => k_is)
    (case dWk => k_is)
    (case dSf => k_is)
    (case dSi => k_is)
    (case dSl => k_is)
    (case dSc => k_is)
    (case dSk => k_is)
    (case dBf => k_is)
    (case dBi => k_is)
    (case dBl => k_is)
    (case dBc => k_is)
    (case dBk => k_is)
    (case dYf => k_is)
    (case dYi => k_is)
    (case dYl => k_is)
    (case dYc => k_is)
    (case dYk => k_is)
    (case dCf => k_is)
    (case dCi => k_is)
    (case dCl => k_is)
    (case dCc => k_is)
    (case dCk => k_is)
    (case dDf => k_is)
    (case dDi => k_is)
    (case dDl => k_is)
    (case dDc => k_is)
    (case dDk => k_is)
    (case dKf => k_is)
    (case dKi => k_is)
    (case dKl => k_is)
    (case dKc => k_is)
    (case dKk => k_is)
    (case o_aC => k_is)
    (case o_pg => k_is)
    (case o_hd => k_is)
    (case o_po => k_is)
    (case o_sa => k_is)
    (case o_mk => k_is)
    (case o_kc => k_is)
    (case o_n0 => k_is)
    (case o_n1 => k_is)
    (case oIf => k_is)
    (case oIi => k_is)
    (case oIl => k_is)
    (case oIc => k_is)
    (case oIk => k_is)
    (case oPf => k_is)
    (case oPi => k_is)
    (case oPl => k_is)
    (case oPc => k_is)
    (case oPk => k_is)
    (case oKf => k_is)
    (case oKi => k_is)
    (case oKl => k_is)
    (case oKc => k_is)
    (case oKk => k_is)
    (case oMf => k_is)
    (case oMi => k_is)
    (case oMl => k_is)
    (case oMc => k_is)
    (case oMk => k_is)
    (case oSf => k_is)
    (case oSi => k_is)
    (case oSl => k_is)
    (case oSc => k_is)
    (case oSk => k_is)
    (case n_aC => k_is)
    (case n_pg => k_is)
    (case n_hd => k_is)
    (case n_po => k_is)
    (case n_sa => k_is)
    (case n_mk => k_is)
    (case n_kc => k_is)
    (case n_n0 => k_is)
    (case n_n1 => k_is)
    (case nIf => k_is)
    (case nIi => k_is)
    (case nIl => k_is)
    (case nIc => k_is)
    (case nIk => k_is)
    (case nTf => k_is)
    (case nTi => k_is)
    (case nTl => k_is)
    (case nTc => k_is)
    (case nTk => k_is)
    (case nNf => k_is)
    (case nNi => k_is)
    (case nNl => k_is)
    (case nNc => k_is)
    (case nNk => k_is)
    (case nHf => k_is)
    (case nHi => k_is)
    (case nHl => k_is)
    (case nHc => k_is)
    (case nHk => k_is)
    (case nSf => k_is)
    (case nSi => k_is)
    (case nSl => k_is)
    (case nSc => k_is)
    (case nSk => k_is)
    (case eN => k_is)
    (case eb => k_is)
    (case ez => k_is)
    (case ey => k_is)
    (case hsp => k_is)
    (case htk => k_is)
    (case cc_BYTES => k_is)
    (case cc_MOST_DEEP => k_is)
    (case cc_MOST_SIGNS => k_is)
    (case cc_FROM_0_ON => k_is)
    (case cc_BELOW_0 => k_is)
    (case cc_STRING => k_is)
    (case cc_TUPLE => k_is)
    (case cc_FIRST_SIGN => k_is)
    (case cc_NO_SIGN => k_is)
    (case cc_LAST_SIGN => k_is)
    (case cc_MARK_FACTOR => k_is)
    (case cc_MARKS => k_is)
    (case cc_SEALS => k_is)
    (case cc_SEAL_LENGTH => k_is)
    (case cc_NUMBERS => k_is)
    (case cc_HELD_AHEAD => k_is)
    (case xN_r => k_is)
    (case xl_r => k_is)
    (case xi_r => k_is)
    (case xt_r => k_is)
    (case xk_r => k_is)
    (case xb_r => k_is)
    (case xv_r => k_is)
    (case xy_r => k_is)
    (case xm_r => k_is)
    (case xs_r => k_is)
    (case xz_r => k_is)
    (case xsu_r => k_is)
    (case xo_r => k_is)
    (case xf_r => k_is)
    (case xc_r => k_is)
    (case xd_r => k_is)
    (case xe_r => k_is)
    (case xu_r => ks_is)
    (case yb_r => decide +kernel)
    (case yv_r => rfl)
    (case yf_r => decide +kernel)
    (case yt_r => decide +kernel)
    (case yl_r => decide +kernel)
    (case xN_p => k_is)
    (case xl_p => k_is)
    (case xi_p => k_is)
    (case xt_p => k_is)
    (case xk_p => k_is)
    (case xb_p => k_is)
    (case xv_p => k_is)
    (case xy_p => k_is)
    (case xm_p => k_is)
    (case xs_p => k_is)
    (case xz_p => k_is)
    (case xsu_p => k_is)
    (case xo_p => k_is)
    (case xf_p => k_is)
    (case xc_p => k_is)
    (case xd_p => k_is)
    (case xe_p => k_is)
    (case xu_p => ks_is)
    (case yb_p => decide +kernel)
    (case yv_p => rfl)
    (case yf_p => decide +kernel)
    (case yt_p => decide +kernel)
    (case yl_p => decide +kernel)
    (case xN_c => k_is)
    (case xl_c => k_is)
    (case xi_c => k_is)
    (case xt_c => k_is)
    (case xk_c => k_is)
    (case xb_c => k_is)
    (case xv_c => k_is)
    (case xy_c => k_is)
    (case xm_c => k_is)
    (case xs_c => k_is)
    (case xz_c => k_is)
    (case xsu_c => k_is)
    (case xo_c => k_is)
    (case xf_c => k_is)
    (case xc_c => k_is)
    (case xd_c => k_is)
    (case xe_c => k_is)
    (case xu_c => ks_is)
    (case yb_c => decide +kernel)
    (case yv_c => rfl)
    (case yf_c => decide +kernel)
    (case yt_c => decide +kernel)
    (case yl_c => decide +kernel)
    (case xN_n => k_is)
    (case xl_n => k_is)
    (case xi_n => k_is)
    (case xt_n => k_is)
    (case xk_n => k_is)
    (case xb_n => k_is)
    (case xv_n => k_is)
    (case xy_n => k_is)
    (case xm_n => k_is)
    (case xs_n => k_is)
    (case xz_n => k_is)
    (case xsu_n => k_is)
    (case xo_n => k_is)
    (case xf_n => k_is)
    (case xc_n => k_is)
    (case xd_n => k_is)
    (case xe_n => k_is)
    (case xu_n => ks_is)
    (case yb_n => decide +kernel)
    (case yv_n => rfl)
    (case yf_n => decide +kernel)
    (case yt_n => decide +kernel)
    (case yl_n => decide +kernel)
    (case xN_b => k_is)
    (case xl_b => k_is)
    (case xi_b => k_is)
    (case xt_b => k_is)
    (case xk_b => k_is)
    (case xb_b => k_is)
    (case xv_b => k_is)
    (case xy_b => k_is)
    (case xm_b => k_is)
    (case xs_b => k_is)
    (case xz_b => k_is)
    (case xsu_b => k_is)
    (case xo_b => k_is)
    (case xf_b => k_is)
    (case xc_b => k_is)
    (case xd_b => k_is)
    (case xe_b => k_is)
    (case xu_b => ks_is)
    (case yb_b => decide +kernel)
    (case yv_b => rfl)
    (case yf_b => decide +kernel)
    (case yt_b => decide +kernel)
    (case yl_b => decide +kernel)
    (case xp_r_p => k_is)
    (case xp_r_c => k_is)
    (case xp_r_n => k_is)
    (case xp_r_b => k_is)
    (case xp_p_r => k_is)
    (case xp_p_c => k_is)
    (case xp_p_n => k_is)
    (case xp_p_b => k_is)
    (case xp_c_r => k_is)
    (case xp_c_p => k_is)
    (case xp_c_n => k_is)
    (case xp_c_b => k_is)
    (case xp_n_r => k_is)
    (case xp_n_p => k_is)
    (case xp_n_c => k_is)
    (case xp_n_b => k_is)
    (case xp_b_r => k_is)
    (case xp_b_p => k_is)
    (case xp_b_c => k_is)
    (case xp_b_n => k_is)
    (case zn_ValueError => k_is)
    (case zn_max => k_is)
    (case zn_sorted => k_is)
    (case z_len => k_is)
    (case z_int => k_is)
    (case z_list => k_is)
    (case z_range => k_is)
    (case z_min => k_is)
    (case z_tuple => k_is)
    (case z_isinstance => k_is)
    (case z_bool => k_is)
    (case z_str => k_is)
    (case z_repr => k_is)
    (case z_sum => k_is)
    (case z_abs => k_is)
    (case z_ord => k_is)
    (case z_reversed => k_is)
    (case z_all => k_is)
    (case z_zip => k_is)
    (case en_r => k_is)
    (case nga_r => k_is)
    (case ngg_r => k_is)
    (case nhd_r => k_is)
    (case nac_r => k_is)
    (case nmo_r => k_is)
    (case en_p => k_is)
    (case nga_p => k_is)
    (case ngg_p => k_is)
    (case nhd_p => k_is)
    (case nac_p => k_is)
    (case nmo_p => k_is)
    (case en_c => k_is)
    (case nga_c => k_is)
    (case ngg_c => k_is)
    (case nhd_c => k_is)
    (case nac_c => k_is)
    (case nmo_c => k_is)
    (case en_n => k_is)
    (case nga_n => k_is)
    (case ngg_n => k_is)
    (case nhd_n => k_is)
    (case nac_n => k_is)
    (case nmo_n => k_is)
    (case en_b => k_is)
    (case nga_b => k_is)
    (case ngg_b => k_is)
    (case nhd_b => k_is)
    (case nac_b => k_is)
    (case nmo_b => k_is)

