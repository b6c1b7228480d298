import PyProof.Rows.All
import Wide.All
import OpenK.AllK
import Wide.FinOn
import HandS.ForMost
import HandS.ForExc
import HandS.Codes
import HandS.TupSets
import HandS.TupLe
import HandS.TupAny
import HandS.IsInst
import HandS.Wide
import HandS.ExcInit
import HandS.ExcField
import HandS.Zip
import HandS.Walk
import HandS.Rev
import HandS.RaiseMore
import HandS.Style
import HandS.Strs
import HandS.TryOnly
import HandS.CallSlots
import HandS.TupMul
import PySem.Challenge.RW_sameround_k35_whole_disks_and_kept_parce
set_option Elab.async false
set_option linter.all false
set_option maxRecDepth 100000
set_option maxHeartbeats 8000000
namespace QR
/-- parcels, written and read: the mathematics alone -/
inductive T where
  | non
  | bl (b : Bool)
  | int (i : Int)
  | str (z : List Nat)
  | tup (l : List T)
inductive R where
  | ok (t : T) (h : Nat)
  | no (p : Nat)
def isSg (b : Int) : Bool := decide (32 ≤ b) && decide (b ≤ 126) && !decide (b = 37)
def vlq (n : Nat) : List Int := if n < 128 then [(n : Int)] else ((128 + n % 128 : Nat) : Int) :: vlq (n / 128)
termination_by n
decreasing_by omega
theorem vlq_lt {n : Nat} (h : n < 128) : vlq n = [(n : Int)] := by rw [vlq, if_pos h]
theorem vlq_ge {n : Nat} (h : ¬ n < 128) : vlq n = ((128 + n % 128 : Nat) : Int) :: vlq (n / 128) := by rw [vlq, if_neg h]
def encA : T → List Int
  | .non => [0]
  | .bl b => [if b = true then 2 else 1]
  | .int i => if 0 ≤ i then 3 :: vlq i.toNat else 4 :: vlq (-1 - i).toNat
  | .str z => 5 :: (vlq z.length ++ z.map fun c : Nat => (c : Int))
  | .tup _ => []
def enc : Nat → T → List Int
  | 0, t => encA t
  | d + 1, t => match t with
    | .tup l => 6 :: (vlq l.length ++ (l.map (enc d)).flatten)
    | t => encA t
def okA : T → Prop
  | .str z => 1 ≤ z.length ∧ z.length ≤ 20 ∧ ∀ c ∈ z, isSg (c : Int) = true
  | .tup _ => False
  | _ => True
def OkT : Nat → T → Prop
  | 0, t => okA t
  | d + 1, t => match t with
    | .tup l => ∀ t ∈ l, OkT d t
    | t => okA t
theorem OkT.more {d : Nat} : ∀ {t : T}, OkT d t → OkT (d + 1) t := by
  induction d with
  | zero => intro t h; cases t <;> first | exact h | exact h.elim
  | succ d ih => intro t h; cases t with
    | tup l => exact fun t ht => ih (h t ht)
    | _ => exact h
theorem OkT.enc {d : Nat} : ∀ {t : T}, OkT d t → enc (d + 1) t = enc d t := by
  induction d with
  | zero => intro t h; cases t <;> first | rfl | exact h.elim
  | succ d ih => intro t h; cases t with
    | tup l =>
      show 6 :: (vlq l.length ++ (l.map (QR.enc (d + 1))).flatten) = 6 :: (vlq l.length ++ (l.map (QR.enc d)).flatten)
      rw [List.map_congr_left fun t ht => ih (h t ht)]
    | _ => rfl
theorem OkT.up {d : Nat} {t : T} (h : OkT d t) : ∀ k, OkT (d + k) t ∧ QR.enc (d + k) t = QR.enc d t
  | 0 => ⟨h, rfl⟩
  | k + 1 => by
    obtain ⟨h1, h2⟩ := h.up k
    exact ⟨h1.more, h1.enc.trans h2⟩
/-! ### whole numbers -/
def scan : List Int → Nat
  | [] => 0
  | b :: l => if 128 ≤ b then scan l + 1 else 0
def val (l : List Int) : Int := l.foldr (fun b n => n * 128 + b % 128) 0
theorem val_cons (b : Int) (l : List Int) : val (b :: l) = val l * 128 + b % 128 := rfl
theorem val_nn : ∀ l, 0 ≤ val l
  | [] => Int.le_refl _
  | b :: l => by
    rw [val_cons]
    have := val_nn l
    have := Int.emod_nonneg b (show (128 : Int) ≠ 0 by decide)
    omega
theorem scan_le : ∀ l, scan l ≤ l.length
  | [] => Nat.le_refl _
  | b :: l => by
    unfold scan
    have := scan_le l
    split
    · rw [List.length_cons]; omega
    · exact Nat.zero_le _
theorem scan_big : ∀ {l : List Int} {i : Nat}, i < scan l → ∃ b, l[i]? = some b ∧ 128 ≤ b
  | [], i, h => absurd h (by simp [scan])
  | b :: l, i, h => by
    unfold scan at h
    split at h
    · rename_i c
      cases i with
      | zero => exact ⟨b, rfl, c⟩
      | succ i => exact scan_big (l := l) (by omega)
    · omega
theorem scan_at : ∀ {l : List Int} {b : Int}, l[scan l]? = some b → b < 128
  | [], b, h => by simp [scan] at h
  | a :: l, b, h => by
    unfold scan at h
    split at h
    · exact scan_at (l := l) (by simpa using h)
    · rename_i c
      have : a = b := by simpa using h
      omega
/-- what is the first small one -/
theorem scan_is : ∀ {l : List Int} {i : Nat}, i ≤ l.length → (∀ k, k < i → ∃ b, l[k]? = some b ∧ 128 ≤ b) → (∀ b, l[i]? = some b → b < 128) → scan l = i
  | [], i, h, _, _ => by
    have : i = 0 := by simpa using h
    rw [this]; rfl
  | b :: l, 0, _, _, h => by
    have := h b rfl
    unfold scan
    rw [if_neg (by omega)]
  | b :: l, i + 1, hl, hb, h => by
    obtain ⟨b', e, c⟩ := hb 0 (by omega)
    have e : b = b' := by simpa using e
    unfold scan
    rw [if_pos (by omega), scan_is (l := l) (i := i) (by simpa using hl) (fun k hk => hb (k + 1) (by omega)) (fun b hb' => h b hb')]
/-- a whole number from place a on: its value, and the place behind it -/
def rdW (r : List Int) (a : Nat) : Option (Int × Nat) :=
  match r[a + scan (r.drop a)]? with
  | none => none
  | some b => if b = 0 ∧ 0 < scan (r.drop a) then none else some (val ((r.drop a).take (scan (r.drop a) + 1)), a + scan (r.drop a) + 1)
theorem rdW_nn {r : List Int} {a h : Nat} {n : Int} (e : rdW r a = some (n, h)) : 0 ≤ n ∧ a < h ∧ h ≤ r.length := by
  unfold rdW at e
  split at e
  · cases e
  · rename_i b hb
    have := (List.getElem?_eq_some_iff.mp hb).1
    split at e
    · cases e
    · cases e
      exact ⟨val_nn _, by omega, by omega⟩
theorem vlq_len (n : Nat) : 0 < (vlq n).length := by
  rw [vlq]
  split <;> simp
theorem vlq_fact : ∀ (n : Nat) (post : List Int), scan (vlq n ++ post) + 1 = (vlq n).length ∧ (∃ b, (vlq n ++ post)[scan (vlq n ++ post)]? = some b ∧ (b = 0 → n = 0)) ∧ val (vlq n) = (n : Int) := by
  intro n
  induction n using Nat.strongRecOn with
  | _ n ih =>
    intro post
    by_cases c : n < 128
    · rw [vlq_lt c]
      have e : scan ([(n : Int)] ++ post) = 0 := by
        show scan ((n : Int) :: post) = 0
        unfold scan
        rw [if_neg (by omega)]
      refine ⟨by rw [e]; rfl, ⟨n, by rw [e]; rfl, fun z => by omega⟩, ?_⟩
      show (0 : Int) * 128 + (n : Int) % 128 = n
      omega
    · obtain ⟨h1, ⟨b, h2, h3⟩, h4⟩ := ih (n / 128) (by omega) post
      rw [vlq_ge c]
      have e : scan (((128 + n % 128 : Nat) : Int) :: vlq (n / 128) ++ post) = scan (vlq (n / 128) ++ post) + 1 := by
        show scan (((128 + n % 128 : Nat) : Int) :: (vlq (n / 128) ++ post)) = _
        rw [scan, if_pos (by omega)]
      refine ⟨by rw [e, h1]; rfl, ⟨b, by rw [e]; exact h2, fun z => by have := h3 z; omega⟩, ?_⟩
      rw [val_cons, h4]
      omega
theorem rdW_vlq (pre post : List Int) (n : Nat) : rdW (pre ++ (vlq n ++ post)) pre.length = some ((n : Int), pre.length + (vlq n).length) := by
  obtain ⟨h1, ⟨b, h2, h3⟩, h4⟩ := vlq_fact n post
  have ed : (pre ++ (vlq n ++ post)).drop pre.length = vlq n ++ post := List.drop_left
  unfold rdW
  rw [ed, List.getElem?_append_right (by omega), Nat.add_sub_cancel_left, h2]
  show (if b = 0 ∧ 0 < scan (vlq n ++ post) then none else some (val ((vlq n ++ post).take (scan (vlq n ++ post) + 1)), pre.length + scan (vlq n ++ post) + 1)) = _
  rw [h1, if_neg]
  · rw [List.take_left, h4]
    rw [Nat.add_assoc, h1]
  · rintro ⟨z, y⟩
    have := h3 z
    subst this
    have : (vlq 0).length = 1 := by rw [vlq_lt (by decide)]; rfl
    omega
/-! ### signs, tuples, parcels -/
def rdS (r : List Int) : Nat → Nat → List Nat → R
  | 0, h, acc => .ok (.str acc) h
  | m + 1, h, acc => match r[h]? with
    | none => .no h
    | some b => if isSg b = true then rdS r m (h + 1) (acc ++ [b.toNat]) else .no h
def rdL (f : Nat → R) : Nat → Nat → Nat → List T → R
  | _, 0, h, acc => .ok (.tup acc) h
  | 0, _ + 1, h, _ => .no h
  | k + 1, m + 1, h, acc => match f h with
    | .no p => .no p
    | .ok t h' => rdL f k m h' (acc ++ [t])
def rdB (r : List Int) (g : Nat → Nat → R) (s : Int) (a : Nat) : R := match rdW r (a + 1) with
  | none => .no (a + 1)
  | some (n, h) => if s = 3 then .ok (.int n) h else if s = 4 then .ok (.int (-1 - n)) h else if s = 5 then (if 1 ≤ n ∧ n ≤ 20 then rdS r n.toNat h [] else .no (a + 1)) else g n.toNat h
def rdG (r : List Int) (g : Nat → Nat → R) (z : Bool) (a : Nat) : R := match r[a]? with
  | none => .no a
  | some s => if 6 < s ∨ (s = 6 ∧ z = true) then .no a else if s = 0 then .ok .non (a + 1) else if s = 1 then .ok (.bl false) (a + 1) else if s = 2 then .ok (.bl true) (a + 1) else rdB r g s a
def rdP (r : List Int) : Nat → Nat → R
  | 0 => rdG r (fun _ h => .no h) true
  | d + 1 => rdG r (fun n h => rdL (rdP r d) (r.length + 1) n h []) false
def Fwd (r : List Int) (a : Nat) (x : R) : Prop := ∀ t h, x = .ok t h → a < h ∧ h ≤ r.length
theorem rdS_fwd {r : List Int} : ∀ (m h : Nat) (acc : List Nat) {a : Nat}, a < h → h ≤ r.length → Fwd r a (rdS r m h acc)
  | 0, h, acc, a, h1, h2 => fun t h' e => by cases e; exact ⟨h1, h2⟩
  | m + 1, h, acc, a, h1, h2 => by
    unfold rdS
    split
    · exact fun t h' e => by cases e
    · rename_i b hb
      have := (List.getElem?_eq_some_iff.mp hb).1
      split
      · exact rdS_fwd m (h + 1) _ (by omega) (by omega)
      · exact fun t h' e => by cases e
theorem rdL_fwd {r : List Int} {f : Nat → R} (hf : ∀ a, Fwd r a (f a)) : ∀ (k m h : Nat) (acc : List T) {a : Nat}, a < h → h ≤ r.length → Fwd r a (rdL f k m h acc)
  | k, 0, h, acc, a, h1, h2 => fun t h' e => by
    have e : R.ok (.tup acc) h = .ok t h' := by cases k <;> exact e
    cases e; exact ⟨h1, h2⟩
  | 0, m + 1, h, acc, a, h1, h2 => fun t h' e => by cases e
  | k + 1, m + 1, h, acc, a, h1, h2 => by
    unfold rdL
    split
    · exact fun t h' e => by cases e
    · rename_i t h' e
      obtain ⟨z1, z2⟩ := hf h t h' e
      exact rdL_fwd hf k m h' _ (by omega) z2
theorem rdG_fwd {r : List Int} {g : Nat → Nat → R} {z : Bool} {a : Nat} (hg : ∀ n h, a < h → h ≤ r.length → Fwd r a (g n h)) : Fwd r a (rdG r g z a) := by
  unfold rdG
  split
  · exact fun t h e => by cases e
  · rename_i s hs
    have hl := (List.getElem?_eq_some_iff.mp hs).1
    have one : ∀ {t' : T}, Fwd r a (.ok t' (a + 1)) := fun {t'} t h e => by cases e; exact ⟨by omega, by omega⟩
    split
    · exact fun t h e => by cases e
    split
    · exact one
    split
    · exact one
    split
    · exact one
    unfold rdB
    split
    · exact fun t h e => by cases e
    · rename_i n h hw
      obtain ⟨w1, w2, w3⟩ := rdW_nn hw
      have two : ∀ {t' : T}, Fwd r a (.ok t' h) := fun {t'} t h e => by cases e; exact ⟨by omega, w3⟩
      split
      · exact two
      split
      · exact two
      split
      · split
        · exact rdS_fwd _ _ _ (by omega) w3
        · exact fun t h e => by cases e
      · exact hg _ _ (by omega) w3
theorem rdP_fwd {r : List Int} : ∀ (d a : Nat), Fwd r a (rdP r d a)
  | 0, a => rdG_fwd fun n h _ _ t h' e => by cases e
  | d + 1, a => rdG_fwd fun n h h1 h2 => rdL_fwd (rdP_fwd d) _ _ _ _ h1 h2
/-! ### there and back -/
theorem at_pre {pre post : List Int} {b : Int} : (pre ++ b :: post)[pre.length]? = some b := by
  rw [List.getElem?_append_right (Nat.le_refl _), Nat.sub_self]
  rfl
theorem at_pre2 {pre l post : List Int} {b : Int} : (pre ++ (b :: l ++ post))[pre.length]? = some b := at_pre
theorem rdS_enc {pre post : List Int} : ∀ (z : List Nat) (pre : List Int) (acc : List Nat), (∀ c ∈ z, isSg (c : Int) = true) →
    rdS (pre ++ ((z.map fun c : Nat => (c : Int)) ++ post)) z.length pre.length acc = .ok (.str (acc ++ z)) (pre.length + z.length)
  | [], pre, acc, _ => by
    show R.ok (.str acc) pre.length = _
    rw [List.append_nil]
    rfl
  | c :: z, pre, acc, h => by
    have ih := rdS_enc (post := post) (pre := pre) z (pre ++ [(c : Int)]) (acc ++ [c]) (fun x hx => h x (List.mem_cons_of_mem _ hx))
    show rdS (pre ++ ((c : Int) :: ((z.map fun c : Nat => (c : Int)) ++ post))) (z.length + 1) pre.length acc = _
    unfold rdS
    rw [at_pre]
    show (if isSg (c : Int) = true then _ else _) = _
    rw [if_pos (h c List.mem_cons_self), Int.toNat_natCast]
    rw [List.append_assoc, List.length_append] at ih
    have e : pre ++ ([(c : Int)] ++ ((z.map fun c : Nat => (c : Int)) ++ post)) = pre ++ ((c : Int) :: ((z.map fun c : Nat => (c : Int)) ++ post)) := rfl
    rw [e] at ih
    refine ih.trans ?_
    rw [List.append_assoc]
    show R.ok (.str (acc ++ (c :: z))) (pre.length + 1 + z.length) = R.ok _ (pre.length + (z.length + 1))
    congr 1
    omega
theorem enc_pos : ∀ {d : Nat} {t : T}, OkT d t → 0 < (enc d t).length
  | 0, t, h => by
    cases t with
    | tup l => exact h.elim
    | int i => show 0 < (if 0 ≤ i then _ else _ : List Int).length; split <;> simp
    | _ => simp [enc, encA]
  | d + 1, t, h => by
    cases t with
    | tup l => simp [enc]
    | int i => show 0 < (if 0 ≤ i then _ else _ : List Int).length; split <;> simp
    | _ => simp [enc, encA]
theorem flat_len {d : Nat} : ∀ {l : List T}, (∀ t ∈ l, OkT d t) → l.length ≤ ((l.map (enc d)).flatten).length
  | [], _ => Nat.le_refl _
  | t :: l, h => by
    have := flat_len (l := l) fun x hx => h x (List.mem_cons_of_mem _ hx)
    have := enc_pos (h t List.mem_cons_self)
    rw [List.map_cons, List.flatten_cons, List.length_append, List.length_cons]
    omega
theorem rdL_enc {d : Nat} {post : List Int} (H : ∀ t, OkT d t → ∀ pre post : List Int, rdP (pre ++ (enc d t ++ post)) d pre.length = .ok t (pre.length + (enc d t).length)) :
    ∀ (l : List T) (pre : List Int) (k : Nat) (acc : List T), (∀ t ∈ l, OkT d t) → l.length ≤ k →
      rdL (rdP (pre ++ ((l.map (enc d)).flatten ++ post)) d) k l.length pre.length acc = .ok (.tup (acc ++ l)) (pre.length + ((l.map (enc d)).flatten).length)
  | [], pre, k, acc, _, _ => by
    rw [List.append_nil]
    cases k <;> rfl
  | t :: l, pre, 0, acc, _, hk => by simp at hk
  | t :: l, pre, k + 1, acc, h, hk => by
    have ih := rdL_enc (post := post) H l (pre ++ enc d t) k (acc ++ [t]) (fun x hx => h x (List.mem_cons_of_mem _ hx)) (by simpa using hk)
    have e : pre ++ (((t :: l).map (enc d)).flatten ++ post) = pre ++ (enc d t ++ ((l.map (enc d)).flatten ++ post)) := by
      rw [List.map_cons, List.flatten_cons, List.append_assoc]
    rw [e]
    show (match rdP (pre ++ (enc d t ++ ((l.map (enc d)).flatten ++ post))) d pre.length with
      | .no p => R.no p
      | .ok t' h' => rdL (rdP (pre ++ (enc d t ++ ((l.map (enc d)).flatten ++ post))) d) k l.length h' (acc ++ [t'])) = _
    rw [H t (h t List.mem_cons_self)]
    rw [List.append_assoc, List.length_append] at ih
    refine ih.trans ?_
    rw [List.append_assoc, List.map_cons, List.flatten_cons, List.length_append, Nat.add_assoc]
    rfl
theorem rdG_s {r : List Int} {g : Nat → Nat → R} {z : Bool} {a : Nat} {s : Int} (h : r[a]? = some s) (h1 : ¬ (6 < s ∨ (s = 6 ∧ z = true))) (h2 : 2 < s) : rdG r g z a = rdB r g s a := by
  unfold rdG
  rw [h]
  show (if 6 < s ∨ (s = 6 ∧ z = true) then _ else _) = _
  rw [if_neg h1, if_neg (by omega), if_neg (by omega), if_neg (by omega)]
theorem rdG_encA {t : T} (ok : okA t) {g : Nat → Nat → R} {z : Bool} (pre post : List Int) : rdG (pre ++ (encA t ++ post)) g z pre.length = .ok t (pre.length + (encA t).length) := by
  have step : ∀ (s : Int) (l : List Int), pre ++ (s :: l ++ post) = (pre ++ [s]) ++ (l ++ post) := fun s l => by
    rw [List.append_assoc]
    rfl
  have ln : ∀ s : Int, (pre ++ [s]).length = pre.length + 1 := fun s => by rw [List.length_append]; rfl
  cases t with
  | tup l => exact ok.elim
  | non =>
    unfold rdG
    show (match (pre ++ (0 :: post))[pre.length]? with | none => _ | some s => _) = _
    rw [at_pre]
    rfl
  | bl b =>
    unfold rdG
    show (match (pre ++ ((if b = true then 2 else 1) :: post))[pre.length]? with | none => _ | some s => _) = _
    rw [at_pre]
    cases b <;> rfl
  | int i =>
    by_cases c : 0 ≤ i
    · have e : encA (.int i) = 3 :: vlq i.toNat := if_pos c
      rw [e, rdG_s (s := 3) at_pre2 (by omega) (by omega), step]
      unfold rdB
      have w := rdW_vlq (pre ++ [3]) post i.toNat
      rw [ln] at w
      rw [w]
      show R.ok (.int ((i.toNat : Nat) : Int)) _ = _
      rw [Int.toNat_of_nonneg c]
      show R.ok _ _ = R.ok _ _
      rw [List.length_cons]
      congr 1
      omega
    · have e : encA (.int i) = 4 :: vlq (-1 - i).toNat := if_neg c
      rw [e, rdG_s (s := 4) at_pre2 (by omega) (by omega), step]
      unfold rdB
      have w := rdW_vlq (pre ++ [4]) post (-1 - i).toNat
      rw [ln] at w
      rw [w]
      show R.ok (.int (-1 - (((-1 - i).toNat : Nat) : Int))) _ = _
      rw [Int.toNat_of_nonneg (by omega), show (-1 - (-1 - i) : Int) = i by omega]
      show R.ok _ _ = R.ok _ _
      rw [List.length_cons]
      congr 1
      omega
  | str zz =>
    obtain ⟨l1, l2, sg⟩ := ok
    have e : encA (.str zz) = 5 :: (vlq zz.length ++ zz.map fun c : Nat => (c : Int)) := rfl
    rw [e, rdG_s (s := 5) at_pre2 (by omega) (by omega), step]
    unfold rdB
    have w := rdW_vlq (pre ++ [5]) ((zz.map fun c : Nat => (c : Int)) ++ post) zz.length
    rw [ln] at w
    rw [List.append_assoc (vlq zz.length), w]
    show (if 1 ≤ ((zz.length : Nat) : Int) ∧ ((zz.length : Nat) : Int) ≤ 20 then rdS _ ((zz.length : Nat) : Int).toNat _ [] else _) = _
    rw [if_pos (by omega), Int.toNat_natCast]
    have s := rdS_enc (post := post) (pre := pre) zz ((pre ++ [5]) ++ vlq zz.length) [] sg
    rw [List.append_assoc (pre ++ [5]), List.length_append, ln] at s
    rw [s, List.nil_append]
    show R.ok _ _ = R.ok _ _
    rw [List.length_cons, List.length_append, List.length_map]
    congr 1
    omega
theorem rdP_enc : ∀ (d : Nat) (t : T), OkT d t → ∀ pre post : List Int, rdP (pre ++ (enc d t ++ post)) d pre.length = .ok t (pre.length + (enc d t).length)
  | 0, t, h, pre, post => rdG_encA h pre post
  | d + 1, t, h, pre, post => by
    have atom : okA t → enc (d + 1) t = encA t → rdP (pre ++ (enc (d + 1) t ++ post)) (d + 1) pre.length = .ok t (pre.length + (enc (d + 1) t).length) := fun ok e => by
      rw [e]
      exact rdG_encA ok pre post
    cases t with
    | tup l =>
      have e : enc (d + 1) (.tup l) = 6 :: (vlq l.length ++ (l.map (enc d)).flatten) := rfl
      have hl : ∀ t ∈ l, OkT d t := h
      have ln : (pre ++ [(6 : Int)]).length = pre.length + 1 := by rw [List.length_append]; rfl
      have step : pre ++ (enc (d + 1) (.tup l) ++ post) = (pre ++ [6]) ++ (vlq l.length ++ ((l.map (enc d)).flatten ++ post)) := by
        rw [e, List.append_assoc]
        show pre ++ (6 :: (vlq l.length ++ (l.map (enc d)).flatten ++ post)) = pre ++ (6 :: (vlq l.length ++ ((l.map (enc d)).flatten ++ post)))
        rw [List.append_assoc]
      have step2 : (pre ++ [6]) ++ (vlq l.length ++ ((l.map (enc d)).flatten ++ post)) = ((pre ++ [6]) ++ vlq l.length) ++ ((l.map (enc d)).flatten ++ post) := by
        rw [List.append_assoc (pre ++ [6])]
      have fl := flat_len hl
      have L := rdL_enc (post := post) (rdP_enc d) l ((pre ++ [6]) ++ vlq l.length) (((pre ++ [6]) ++ (vlq l.length ++ ((l.map (enc d)).flatten ++ post))).length + 1) [] hl (by
        rw [List.length_append, List.length_append (as := vlq l.length), List.length_append (as := (l.map (enc d)).flatten)]
        omega)
      have ln2 : ((pre ++ [(6 : Int)]) ++ vlq l.length).length = pre.length + 1 + (vlq l.length).length := by rw [List.length_append, ln]
      rw [← step2, ln2, List.nil_append] at L
      show rdG _ _ false pre.length = _
      have a6 : (pre ++ (enc (d + 1) (.tup l) ++ post))[pre.length]? = some 6 := at_pre
      rw [rdG_s a6 (by rintro (z | ⟨_, z⟩); exact absurd z (by decide); cases z) (by decide), step]
      unfold rdB
      have w := rdW_vlq (pre ++ [6]) ((l.map (enc d)).flatten ++ post) l.length
      rw [ln] at w
      rw [w]
      show rdL _ _ ((l.length : Nat) : Int).toNat _ [] = _
      rw [Int.toNat_natCast, L, e]
      show R.ok _ _ = R.ok _ _
      rw [List.length_cons, List.length_append (as := vlq l.length)]
      congr 1
      omega
    | non => exact atom trivial rfl
    | bl b => exact atom trivial rfl
    | int i => exact atom trivial rfl
    | str z => exact atom h rfl
/-! ### marks, seals -/
def mkF (bs : List Int) : Int := bs.foldl (fun n b => (n * 1000003 + b + 1) % 2305843009213693951) 1
theorem mkF_snoc (bs : List Int) (b : Int) : mkF (bs ++ [b]) = (mkF bs * 1000003 + b + 1) % 2305843009213693951 := by
  unfold mkF
  rw [List.foldl_append]
  rfl
theorem mkF_b (bs : List Int) : 0 ≤ mkF bs ∧ mkF bs < 2305843009213693951 := by
  rcases List.eq_nil_or_concat bs with rfl | ⟨l, b, rfl⟩
  · exact ⟨by decide, by decide⟩
  · rw [List.concat_eq_append, mkF_snoc]
    exact ⟨Int.emod_nonneg _ (by decide), Int.emod_lt_of_pos _ (by decide)⟩
def sealL (bs : List Int) : List Int := [mkF bs % 4294967296 % 256, mkF bs % 4294967296 / 256 % 256, mkF bs % 4294967296 / 65536 % 256, mkF bs % 4294967296 / 16777216 % 256]
theorem sealL_b {bs : List Int} : ∀ b ∈ sealL bs, 0 ≤ b ∧ b < 256 := by
  intro b hb
  unfold sealL at hb
  simp only [List.mem_cons, List.not_mem_nil, or_false] at hb
  rcases hb with rfl | rfl | rfl | rfl <;> exact ⟨Int.emod_nonneg _ (by decide), Int.emod_lt_of_pos _ (by decide)⟩
def rdAll (r : List Int) : R := match rdP r 20 0 with
  | .ok t h => if h = r.length then .ok t h else .no h
  | .no p => .no p
def unsT (r : List Int) : T := if 4 ≤ r.length ∧ r.drop (r.length - 4) = sealL (r.take (r.length - 4)) then
    match rdAll (r.take (r.length - 4)) with
    | .ok t _ => .tup [t]
    | .no _ => .tup []
  else .tup []
theorem rdAll_enc {t : T} (h : OkT 20 t) : rdAll (enc 20 t) = .ok t (enc 20 t).length := by
  have := rdP_enc 20 t h [] []
  rw [List.nil_append, List.append_nil] at this
  unfold rdAll
  rw [show (0 : Nat) = ([] : List Int).length from rfl, this]
  show (if ([] : List Int).length + (enc 20 t).length = (enc 20 t).length then _ else _) = _
  rw [if_pos (by simp)]
  congr 1
  simp
theorem unsT_sealed {t : T} (h : OkT 20 t) : unsT (enc 20 t ++ sealL (enc 20 t)) = .tup [t] := by
  have l4 : (sealL (enc 20 t)).length = 4 := rfl
  have e : (enc 20 t ++ sealL (enc 20 t)).length - 4 = (enc 20 t).length := by rw [List.length_append, l4]; omega
  unfold unsT
  rw [e, List.drop_left, List.take_left, if_pos ⟨by rw [List.length_append, l4]; omega, rfl⟩, rdAll_enc h]
/-! ### how long -/
theorem vlq_small : ∀ (k n : Nat), n < 128 ^ (k + 1) → (vlq n).length ≤ k + 1
  | 0, n, h => by
    rw [vlq_lt (by simpa using h)]
    simp
  | k + 1, n, h => by
    by_cases c : n < 128
    · rw [vlq_lt c]; simp
    · rw [vlq_ge c, List.length_cons]
      have := vlq_small k (n / 128) (Nat.div_lt_of_lt_mul (by rw [Nat.pow_succ, Nat.mul_comm] at h; exact h))
      omega
theorem vlq_b : ∀ (n : Nat), ∀ b ∈ vlq n, 0 ≤ b ∧ b < 256 := by
  intro n
  induction n using Nat.strongRecOn with
  | _ n ih =>
    intro b hb
    by_cases c : n < 128
    · rw [vlq_lt c] at hb
      have := List.mem_singleton.mp hb
      omega
    · rw [vlq_ge c] at hb
      rcases List.mem_cons.mp hb with rfl | hb
      · omega
      · exact ih _ (by omega) b hb
theorem encA_b {t : T} (h : okA t) : ∀ b ∈ encA t, 0 ≤ b ∧ b < 256 := by
  intro b hb
  cases t with
  | tup l => exact h.elim
  | non => have := List.mem_singleton.mp hb; omega
  | bl c => cases c <;> (have := List.mem_singleton.mp hb; simp at this; omega)
  | int i =>
    by_cases c : 0 ≤ i
    · rw [show encA (.int i) = 3 :: vlq i.toNat from if_pos c] at hb
      rcases List.mem_cons.mp hb with rfl | hb
      · omega
      · exact vlq_b _ b hb
    · rw [show encA (.int i) = 4 :: vlq (-1 - i).toNat from if_neg c] at hb
      rcases List.mem_cons.mp hb with rfl | hb
      · omega
      · exact vlq_b _ b hb
  | str z =>
    rcases List.mem_cons.mp hb with rfl | hb
    · omega
    · rcases List.mem_append.mp hb with hb | hb
      · exact vlq_b _ b hb
      · obtain ⟨c, hc, rfl⟩ := List.mem_map.mp hb
        have := h.2.2 c hc
        simp only [isSg, Bool.and_eq_true, decide_eq_true_eq] at this
        omega
theorem enc_b : ∀ {d : Nat} {t : T}, OkT d t → ∀ b ∈ enc d t, 0 ≤ b ∧ b < 256
  | 0, t, h => encA_b h
  | d + 1, t, h => by
    cases t with
    | tup l =>
      intro b hb
      rcases List.mem_cons.mp hb with rfl | hb
      · omega
      · rcases List.mem_append.mp hb with hb | hb
        · exact vlq_b _ b hb
        · obtain ⟨x, hx, hb⟩ := List.mem_flatten.mp hb
          obtain ⟨t, ht, rfl⟩ := List.mem_map.mp hx
          exact enc_b (h t ht) b hb
    | non => exact encA_b (t := .non) trivial
    | bl b => exact encA_b (t := .bl b) trivial
    | int i => exact encA_b (t := .int i) trivial
    | str z => exact encA_b (t := .str z) h
end QR

namespace QR
/-! what is read is what would be written -/
def Byt (r : List Int) : Prop := ∀ b ∈ r, 0 ≤ b ∧ b < 256
theorem wback : ∀ {l : List Int}, Byt l → ∀ b, l[scan l]? = some b → ¬ (b = 0 ∧ 0 < scan l) → l.take (scan l + 1) = vlq (val (l.take (scan l + 1))).toNat
  | [], _, b, e, _ => by simp at e
  | x :: l, hb, b, e, nz => by
    have hx := hb x List.mem_cons_self
    by_cases c : 128 ≤ x
    · have es : scan (x :: l) = scan l + 1 := by rw [scan, if_pos c]
      rw [es] at e nz ⊢
      have e' : l[scan l]? = some b := by simpa using e
      have ih := wback (l := l) (fun y hy => hb y (List.mem_cons_of_mem _ hy)) b e' (fun z => nz ⟨z.1, by omega⟩)
      have bn : b ≠ 0 := fun z => nz ⟨z, by omega⟩
      rw [List.take_succ_cons, val_cons]
      have v0 := val_nn (l.take (scan l + 1))
      revert ih v0
      have eb : (l.take (scan l + 1))[scan l]? = some b := by rw [List.getElem?_take, if_pos (by omega)]; exact e'
      revert eb
      generalize l.take (scan l + 1) = tl
      intro eb ih v0
      have vn : val tl ≠ 0 := fun z => by
        rw [z] at ih
        rw [ih, vlq_lt (by decide)] at eb
        have : scan l = 0 := by
          have := (List.getElem?_eq_some_iff.mp eb).1
          simp at this
          omega
        rw [this] at eb
        have : (0 : Int) = b := by simpa using eb
        omega
      have n1 : (val tl * 128 + x % 128).toNat = (val tl).toNat * 128 + (x % 128).toNat := by
        have := Int.emod_nonneg x (show (128 : Int) ≠ 0 by decide)
        omega
      have x1 : x % 128 = x - 128 := by omega
      rw [n1, vlq_ge (by omega), show ((val tl).toNat * 128 + (x % 128).toNat) / 128 = (val tl).toNat by omega, ← ih]
      congr 1
      omega
    · have es : scan (x :: l) = 0 := by rw [scan, if_neg c]
      rw [es]
      show [x] = vlq (val [x]).toNat
      have : val [x] = x := by
        show (0 : Int) * 128 + x % 128 = x
        omega
      rw [this, vlq_lt (by omega)]
      congr 1
      omega
theorem byt_drop {r : List Int} (h : Byt r) (a : Nat) : Byt (r.drop a) := fun b hb => h b (List.mem_of_mem_drop hb)
theorem rdW_back {r : List Int} {a h : Nat} {n : Int} (hb : Byt r) (e : rdW r a = some (n, h)) : r.drop a = vlq n.toNat ++ r.drop h := by
  unfold rdW at e
  split at e
  · cases e
  · rename_i b hbb
    split at e
    · cases e
    · rename_i nz
      cases e
      rw [← wback (byt_drop hb a) b (by rw [List.getElem?_drop]; exact hbb) nz]
      have e2 : r.drop (a + scan (r.drop a) + 1) = (r.drop a).drop (scan (r.drop a) + 1) := by rw [List.drop_drop]; congr 1
      rw [e2, List.take_append_drop]
theorem drop_at {r : List Int} {a : Nat} {b : Int} (h : r[a]? = some b) : r.drop a = b :: r.drop (a + 1) := by
  obtain ⟨l, e⟩ := List.getElem?_eq_some_iff.mp h
  rw [List.drop_eq_getElem_cons l, e]
theorem sg_nat {b : Int} (h : isSg b = true) : ((b.toNat : Nat) : Int) = b := by
  simp only [isSg, Bool.and_eq_true, decide_eq_true_eq] at h
  omega
theorem rdS_back {r : List Int} : ∀ (m h : Nat) (acc : List Nat) {t : T} {h' : Nat}, rdS r m h acc = .ok t h' → ∃ z : List Nat, t = .str (acc ++ z) ∧ z.length = m ∧ (∀ c ∈ z, isSg (c : Int) = true) ∧ r.drop h = (z.map fun c : Nat => (c : Int)) ++ r.drop h'
  | 0, h, acc, t, h', e => by
    cases e
    exact ⟨[], by rw [List.append_nil], rfl, fun c hc => by simp at hc, rfl⟩
  | m + 1, h, acc, t, h', e => by
    unfold rdS at e
    split at e
    · cases e
    · rename_i b hb
      split at e
      · rename_i sg
        obtain ⟨z, e1, e2, e3, e4⟩ := rdS_back m (h + 1) (acc ++ [b.toNat]) e
        refine ⟨b.toNat :: z, by rw [e1, List.append_assoc]; rfl, by rw [List.length_cons, e2], fun c hc => ?_, ?_⟩
        · rcases List.mem_cons.mp hc with rfl | hc
          · rw [sg_nat sg]
            exact sg
          · exact e3 c hc
        · rw [drop_at hb, e4, List.map_cons, sg_nat sg]
          rfl
      · cases e
theorem rdL_back {r : List Int} {f : Nat → R} {d : Nat} (H : ∀ a t h, f a = .ok t h → OkT d t ∧ r.drop a = enc d t ++ r.drop h) : ∀ (k m h : Nat) (acc : List T) {t : T} {h' : Nat}, rdL f k m h acc = .ok t h' →
    ∃ l : List T, t = .tup (acc ++ l) ∧ l.length = m ∧ (∀ t ∈ l, OkT d t) ∧ r.drop h = (l.map (enc d)).flatten ++ r.drop h'
  | k, 0, h, acc, t, h', e => by
    have e : R.ok (.tup acc) h = .ok t h' := by cases k <;> exact e
    cases e
    exact ⟨[], by rw [List.append_nil], rfl, fun c hc => by simp at hc, rfl⟩
  | 0, m + 1, h, acc, t, h', e => by cases e
  | k + 1, m + 1, h, acc, t, h', e => by
    unfold rdL at e
    split at e
    · cases e
    · rename_i t1 h1 e1
      obtain ⟨o1, d1⟩ := H h t1 h1 e1
      obtain ⟨l, z1, z2, z3, z4⟩ := rdL_back H k m h1 (acc ++ [t1]) e
      refine ⟨t1 :: l, by rw [z1, List.append_assoc]; rfl, by rw [List.length_cons, z2], fun c hc => ?_, ?_⟩
      · rcases List.mem_cons.mp hc with rfl | hc
        · exact o1
        · exact z3 c hc
      · rw [d1, z4, List.map_cons, List.flatten_cons, List.append_assoc]
theorem okT_atom' {d : Nat} {t : T} (h : okA t) : OkT d t ∧ enc d t = encA t := by
  cases d with
  | zero => exact ⟨h, rfl⟩
  | succ d => cases t with
    | tup l => exact h.elim
    | non => exact ⟨h, rfl⟩
    | bl b => exact ⟨h, rfl⟩
    | int i => exact ⟨h, rfl⟩
    | str z => exact ⟨h, rfl⟩
theorem rdG_back {r : List Int} (hb : Byt r) {g : Nat → Nat → R} {z : Bool} {d a : Nat} (hg : z = false → ∀ n h t h', rdW r (a + 1) = some (n, h) → g n.toNat h = .ok t h' → OkT d t ∧ 6 :: r.drop (a + 1) = enc d t ++ r.drop h') {t : T} {h' : Nat} (e : rdG r g z a = .ok t h') : OkT d t ∧ r.drop a = enc d t ++ r.drop h' := by
  unfold rdG at e
  split at e
  · cases e
  · rename_i s hs
    have hs' := drop_at hs
    have sb := hb s (List.mem_of_getElem? hs)
    have one : ∀ {t' : T} {x : Int}, okA t' → encA t' = [x] → s = x → R.ok t' (a + 1) = .ok t h' → OkT d t ∧ r.drop a = enc d t ++ r.drop h' := fun {t' x} o ex es e => by
      cases e
      obtain ⟨o1, o2⟩ := okT_atom' (d := d) o
      refine ⟨o1, ?_⟩
      rw [hs', o2, ex, es]
      rfl
    split at e
    · cases e
    rename_i n6
    split at e
    · rename_i c
      exact one (t' := .non) trivial rfl c e
    split at e
    · rename_i c
      exact one (t' := .bl false) trivial rfl c e
    split at e
    · rename_i c
      exact one (t' := .bl true) trivial rfl c e
    unfold rdB at e
    split at e
    · cases e
    · rename_i n h hw
      obtain ⟨w1, w2, w3⟩ := rdW_nn hw
      have wb := rdW_back hb hw
      split at e
      · rename_i c
        cases e
        obtain ⟨o1, o2⟩ := okT_atom' (d := d) (t := .int n) trivial
        refine ⟨o1, ?_⟩
        rw [hs', o2, show encA (.int n) = 3 :: vlq n.toNat from if_pos w1, wb, c]
        rfl
      split at e
      · rename_i c
        cases e
        obtain ⟨o1, o2⟩ := okT_atom' (d := d) (t := .int (-1 - n)) trivial
        refine ⟨o1, ?_⟩
        rw [hs', o2, show encA (.int (-1 - n)) = 4 :: vlq (-1 - (-1 - n)).toNat from if_neg (by omega), wb, c, show (-1 - (-1 - n)) = n by omega]
        rfl
      split at e
      · rename_i c
        split at e
        · rename_i c2
          obtain ⟨zz, e1, e2, e3, e4⟩ := rdS_back _ _ _ e
          rw [List.nil_append] at e1
          subst e1
          obtain ⟨o1, o2⟩ := okT_atom' (d := d) (t := .str zz) ⟨by omega, by omega, e3⟩
          refine ⟨o1, ?_⟩
          rw [hs', o2, wb, e4, c, show encA (.str zz) = 5 :: (vlq zz.length ++ zz.map fun c : Nat => (c : Int)) from rfl, e2]
          simp
        · cases e
      · have s6 : s = 6 := by omega
        cases zz : z with
        | true => exact absurd (.inr ⟨s6, zz⟩) n6
        | false =>
          obtain ⟨o1, o2⟩ := hg zz n h t h' hw e
          refine ⟨o1, ?_⟩
          rw [hs', s6]
          exact o2
theorem rdP_back {r : List Int} (hb : Byt r) : ∀ (d a : Nat) (t : T) (h : Nat), rdP r d a = .ok t h → OkT d t ∧ r.drop a = enc d t ++ r.drop h
  | 0, a, t, h, e => rdG_back hb (fun z => by cases z) e
  | d + 1, a, t, h, e => by
    refine rdG_back hb (fun _ n h1 t1 h2 hw e2 => ?_) e
    obtain ⟨l, z1, z2, z3, z4⟩ := rdL_back (rdP_back hb d) _ _ _ _ e2
    rw [List.nil_append] at z1
    subst z1
    refine ⟨z3, ?_⟩
    rw [rdW_back hb hw, z4, show enc (d + 1) (.tup l) = 6 :: (vlq l.length ++ (l.map (enc d)).flatten) from rfl, z2]
    simp
theorem rdAll_back {r : List Int} (hb : Byt r) {t : T} {h : Nat} (e : rdAll r = .ok t h) : OkT 20 t ∧ enc 20 t = r := by
  unfold rdAll at e
  split at e
  · rename_i t1 h1 e1
    split at e
    · rename_i c
      cases e
      obtain ⟨o1, o2⟩ := rdP_back hb 20 0 t h e1
      refine ⟨o1, ?_⟩
      rw [c, List.drop_length, List.append_nil] at o2
      exact o2.symm
    · cases e
  · cases e
end QR

namespace Q
open PySem L2 QR
def top (i : Nat) : Stmt := PySem.Challenge.pw_sameround_k35_whole_disks_and_kept_parce.main.body.getD i (.Pass ⟨0, 0, 0, 0⟩)
/-- what the built-in names still are -/
structure Bts (mg : Str → Option Value) : Prop where
  len : mg "len" = none
  int : mg "int" = none
  list : mg "list" = none
  range : mg "range" = none
  min : mg "min" = none
  tuple : mg "tuple" = none
  isinstance : mg "isinstance" = none
  bool : mg "bool" = none
  str : mg "str" = none
  repr : mg "repr" = none
  sum : mg "sum" = none
  abs : mg "abs" = none
  ord : mg "ord" = none
  reversed : mg "reversed" = none
  all : mg "all" = none
  zip : mg "zip" = none
structure Df (K : PySem.W.Frag) (mg : Str → Option Value) (x : Str) (st : Stmt) (ps : List Str) (f : Addr) (fd : FuncData) : Prop where
  F : Fun K x x st f fd
  m : mg x = some (.ref f)
  b : Binds K fd ps []
theorem Df.k {K : PySem.W.Frag} {mg : Str → Option Value} {x : Str} {st : Stmt} {ps : List Str} {f : Addr} {fd : FuncData} (D : Df K mg x st ps f fd) : PySem.W.keepIn K (.ref f) = true := D.F.kp
def KTup (K : PySem.W.Frag) (a : Addr) (xs : List V) : Prop := ∃ (o : Obj) (its : Array Value) (n : Nat), K.lookup a = some o ∧ o.cls = .type "tuple" ∧ o.data = .seq its n ∧ its.size ≤ sizeLine ∧ Vals xs its.toList
theorem KTup.sq {K : PySem.W.Frag} {a : Addr} {xs : List V} (h : KTup K a xs) (H : Hp) : SqT K H a xs := .inr h
def sbS : Str := " !\"#$"
def saS : Str := "&'()*+,-./0123456789:;<=>?@ABCDEFGHIJKLMNOPQRSTUVWXYZ[\\]^_`abcdefghijklmnopqrstuvwxyz{|}~"
/-- the constants of rows -/
structure Cst (mg : Str → Option Value) : Prop where
  bytes : ∃ t, mg "BYTES" = some (.int 256 t)
  deep : ∃ t, mg "MOST_DEEP" = some (.int 20 t)
  signs : ∃ t, mg "MOST_SIGNS" = some (.int 20 t)
  from0 : ∃ t, mg "FROM_0_ON" = some (.int 3 t)
  below : ∃ t, mg "BELOW_0" = some (.int 4 t)
  strg : ∃ t, mg "STRING" = some (.int 5 t)
  tupl : ∃ t, mg "TUPLE" = some (.int 6 t)
  first : ∃ t, mg "FIRST_SIGN" = some (.int 32 t)
  nosg : ∃ t, mg "NO_SIGN" = some (.int 37 t)
  last : ∃ t, mg "LAST_SIGN" = some (.int 126 t)
  factor : ∃ t, mg "MARK_FACTOR" = some (.int 1000003 t)
  marks : ∃ t, mg "MARKS" = some (.int 2305843009213693951 t)
  seals : ∃ t, mg "SEALS" = some (.int 4294967296 t)
  slen : ∃ t, mg "SEAL_LENGTH" = some (.int 4 t)
  sb : ∃ t, mg "SIGNS_BELOW" = some (.str sbS t)
  sa : ∃ t, mg "SIGNS_ABOVE" = some (.str saS t)
/-! ### heaps -/
theorem sN {H : Hp} {q : Addr} {o : HO} (n : H q = none) : Same H (upd H q o) := fun b u e => by
  rw [upd_ne (ne_of_none e n)]; exact e
theorem sT {H H1 H2 : Hp} (a : Same H H1) (b : Same H1 H2) : Same H H2 := fun c o h => b c o (a c o h)
theorem sR {H : Hp} : Same H H := fun _ _ e => e
/-- new at q, or over a thing that was not there at the start -/
theorem sNew {H H1 : Hp} {p : Addr} {o : HO} (s : Same H H1) (n : H p = none) : Same H (upd H1 p o) := fun b u e => by
  rw [upd_ne (ne_of_none e n)]; exact s b u e
theorem sNo {H H1 : Hp} {p : Addr} (s : Same H H1) (n : H1 p = none) : H p = none := by
  cases e : H p with
  | none => rfl
  | some o =>
    rw [s _ _ e] at n
    cases n
/-- all stands but what is at l -/
def Bu (l : Addr) (H H' : Hp) : Prop := ∀ b o, H b = some o → b ≠ l → H' b = some o
theorem Bu.rf {l : Addr} {H : Hp} : Bu l H H := fun _ _ e _ => e
theorem Bu.at {l : Addr} {H H1 : Hp} {o : HO} (h : Bu l H H1) : Bu l H (upd H1 l o) := fun b u e n => by
  rw [upd_ne n]; exact h b u e n
theorem Bu.st {l : Addr} {H H1 H2 : Hp} (h : Bu l H H1) (s : Same H1 H2) : Bu l H H2 := fun b u e n => s _ _ (h b u e n)
theorem Bu.tr {l : Addr} {H H1 H2 : Hp} (h : Bu l H H1) (g : Bu l H1 H2) : Bu l H H2 := fun b u e n => g b u (h b u e n) n
theorem Bu.of {l : Addr} {H H1 : Hp} (s : Same H H1) : Bu l H H1 := fun b u e _ => s b u e
theorem Bu.new {l : Addr} {H H1 : Hp} (h : Bu l H H1) (n : H l = none) : Same H H1 := fun b u e => h b u e (ne_of_none e n)
/-- tuples stand -/
def Tk (H H' : Hp) : Prop := ∀ b xs, H b = some (.tup xs) → H' b = some (.tup xs)
theorem Tk.of {H H' : Hp} (s : Same H H') : Tk H H' := fun b xs e => s _ _ e
theorem Tk.bu {H H' : Hp} {l : Addr} {xs : List V} (h : Bu l H H') (e : H l = some (.lst xs)) : Tk H H' := fun b ys e2 => h b _ e2 (ne_of e2 e (fun z => by cases z))
theorem Tk.tr {H H1 H2 : Hp} (h : Tk H H1) (g : Tk H1 H2) : Tk H H2 := fun b xs e => g b xs (h b xs e)
theorem size_ok {n : Nat} (h : n ≤ 20000) : n < sizeLine := Nat.lt_of_lt_of_le (show n < 20001 by omega) (by decide)
/-! ### parcels that stand in the heap -/
def sOf (z : List Nat) : Str := ⟨z.toArray⟩
def RepA (t : T) (v : V) : Prop := match t with
  | .non => v = .non
  | .bl b => v = .bl b
  | .int i => v = .int i
  | .str z => v = .str (sOf z) ∧ z.length ≤ 9000
  | .tup _ => False
def Rep (H : Hp) : Nat → T → V → Prop
  | 0, t, v => RepA t v
  | d + 1, t, v => match t with
    | .tup l => ∃ a xs, v = .ref a ∧ H a = some (.tup xs) ∧ xs.length = l.length ∧ xs.length ≤ 9000 ∧ ∀ (i : Nat) (x : V) (t : T), xs[i]? = some x → l[i]? = some t → Rep H d t x
    | t => RepA t v
theorem Rep.tk {H H' : Hp} (k : Tk H H') : ∀ {d : Nat} {t : T} {v : V}, Rep H d t v → Rep H' d t v
  | 0, t, v, h => h
  | d + 1, t, v, h => by
    cases t with
    | tup l =>
      obtain ⟨a, xs, e, h1, h2, h3, h4⟩ := h
      exact ⟨a, xs, e, k _ _ h1, h2, h3, fun i x t hx ht => Rep.tk k (h4 i x t hx ht)⟩
    | _ => exact h
theorem Rep.same {H H' : Hp} {d : Nat} {t : T} {v : V} (h : Rep H d t v) (s : Same H H') : Rep H' d t v := h.tk (.of s)
theorem Rep.atom {H : Hp} {t : T} {v : V} (h : RepA t v) : ∀ {d : Nat}, Rep H d t v
  | 0 => h
  | d + 1 => by
    cases t with
    | tup l => exact h.elim
    | _ => exact h
theorem Rep.more {H : Hp} : ∀ {d : Nat} {t : T} {v : V}, Rep H d t v → Rep H (d + 1) t v
  | 0, t, v, h => Rep.atom h
  | d + 1, t, v, h => by
    cases t with
    | tup l =>
      obtain ⟨a, xs, e, h1, h2, h3, h4⟩ := h
      exact ⟨a, xs, e, h1, h2, h3, fun i x t hx ht => (h4 i x t hx ht).more⟩
    | _ => exact h
theorem Rep.up {H : Hp} {d : Nat} {t : T} {v : V} (h : Rep H d t v) : ∀ k, Rep H (d + k) t v
  | 0 => h
  | k + 1 => (h.up k).more
/-- what a parcel's value is -/
theorem Rep.cases {H : Hp} {d : Nat} {t : T} {v : V} (h : Rep H d t v) : (t = .non ∧ v = .non) ∨ (∃ b, t = .bl b ∧ v = .bl b) ∨ (∃ i, t = .int i ∧ v = .int i) ∨ (∃ z, t = .str z ∧ v = .str (sOf z) ∧ z.length ≤ 9000) ∨
    ∃ d' l a xs, d = d' + 1 ∧ t = .tup l ∧ v = .ref a ∧ H a = some (.tup xs) ∧ xs.length = l.length ∧ xs.length ≤ 9000 ∧ ∀ (i : Nat) (x : V) (t : T), xs[i]? = some x → l[i]? = some t → Rep H d' t x := by
  cases d with
  | zero =>
    cases t with
    | non => exact .inl ⟨rfl, h⟩
    | bl b => exact .inr (.inl ⟨b, rfl, h⟩)
    | int i => exact .inr (.inr (.inl ⟨i, rfl, h⟩))
    | str z => exact .inr (.inr (.inr (.inl ⟨z, rfl, h⟩)))
    | tup l => exact h.elim
  | succ d =>
    cases t with
    | non => exact .inl ⟨rfl, h⟩
    | bl b => exact .inr (.inl ⟨b, rfl, h⟩)
    | int i => exact .inr (.inr (.inl ⟨i, rfl, h⟩))
    | str z => exact .inr (.inr (.inr (.inl ⟨z, rfl, h⟩)))
    | tup l =>
      obtain ⟨a, xs, h⟩ := h
      exact .inr (.inr (.inr (.inr ⟨d, l, a, xs, rfl, rfl, h⟩)))
/-- a row: a tuple of bytes -/
structure RowAt (H : Hp) (q : Addr) (bs : List Int) : Prop where
  at_ : H q = some (.tup (bs.map V.int))
  b : ∀ b ∈ bs, 0 ≤ b ∧ b < 256
  few : bs.length ≤ 9000
theorem RowAt.tk {H H' : Hp} {q : Addr} {bs : List Int} (h : RowAt H q bs) (k : Tk H H') : RowAt H' q bs := ⟨k _ _ h.at_, h.b, h.few⟩
theorem RowAt.same {H H' : Hp} {q : Addr} {bs : List Int} (h : RowAt H q bs) (s : Same H H') : RowAt H' q bs := h.tk (.of s)
theorem at_ints {bs : List Int} {i : Nat} {x : V} (h : (bs.map V.int)[i]? = some x) : ∃ b, bs[i]? = some b ∧ x = .int b := by
  rw [List.getElem?_map] at h
  cases e : bs[i]? with
  | none => rw [e] at h; cases h
  | some b => rw [e] at h; exact ⟨b, rfl, (Option.some.inj h).symm⟩
theorem take_more {α : Type} {l : List α} {i : Nat} {x : α} (h : l[i]? = some x) : l.take (i + 1) = l.take i ++ [x] := by
  rw [List.take_add_one, h]
  rfl
abbrev sPlain : Stmt := top 8
abbrev sNum : Stmt := top 9
abbrev sIsRow : Stmt := top 28
abbrev sIsSg : Stmt := top 29
abbrev sSgOf : Stmt := top 30
abbrev sMkOf : Stmt := top 33
abbrev sMark : Stmt := top 9999
abbrev sSeal : Stmt := top 34
abbrev kInt (K : PySem.W.Frag) (t : Value) (b : Bool) : Prop := PySem.W.kitOne K t (.type "int") = some b
abbrev kBool (K : PySem.W.Frag) (t : Value) (b : Bool) : Prop := PySem.W.kitOne K t (.type "bool") = some b
def spPlain (K : PySem.W.Frag) : Sp := fun vs H Q _ => ∃ (v : V) (t : Value) (b c : Bool), vs = [v] ∧ TyX K H v t ∧ kInt K t b ∧ kBool K t c ∧ Q (.bl (b && !c)) H
def NoInt (K : PySem.W.Frag) (H : Hp) (v : V) : Prop := ∃ (t : Value) (b c : Bool), TyX K H v t ∧ kInt K t b ∧ kBool K t c ∧ (b && !c) = false
def spNum (K : PySem.W.Frag) : Sp := fun vs H Q _ => ∃ (n : Int) (v : V), vs = [.int n, v] ∧ ((∃ i : Int, v = .int i ∧ Q (.bl (decide (0 ≤ i) && decide (i < n))) H) ∨ (NoInt K H v ∧ Q (.bl false) H))
theorem kInt_int {K : PySem.W.Frag} : kInt K (.type "int") true := kit_ty (by decide +kernel)
theorem kBool_int {K : PySem.W.Frag} : kBool K (.type "int") false := kit_ty (by decide +kernel)
/-- a byte -/
def isB : V → Bool
  | .int i => decide (0 ≤ i) && decide (i < 256)
  | _ => false
/-- None, a flag, a number -/
def Sc (v : V) : Prop := v = .non ∨ (∃ b, v = .bl b) ∨ ∃ i, v = .int i
def spIsRow (K : PySem.W.Frag) : Sp := fun vs H Q _ => ∃ v : V, vs = [v] ∧ ((∃ q xs, v = .ref q ∧ H q = some (.tup xs) ∧ xs.length ≤ 9000 ∧ (∀ x ∈ xs, Sc x) ∧ ∀ H', Same H H' → Q (.bl (xs.all isB)) H') ∨
  (∃ t, TyX K H v t ∧ PySem.W.kitOne K t (.type "tuple") = some false ∧ Q (.bl false) H))
theorem all_isB {bs : List Int} (h : ∀ b ∈ bs, 0 ≤ b ∧ b < 256) : (bs.map V.int).all isB = true := by
  rw [List.all_eq_true]
  intro x hx
  obtain ⟨b, hb, rfl⟩ := List.mem_map.mp hx
  obtain ⟨h1, h2⟩ := h b hb
  show (decide (0 ≤ b) && decide (b < 256)) = true
  rw [decide_eq_true h1, decide_eq_true h2]
  rfl
theorem sc_ints (bs : List Int) : ∀ x ∈ bs.map V.int, Sc x := fun x hx => by
  obtain ⟨b, _, rfl⟩ := List.mem_map.mp hx
  exact .inr (.inr ⟨b, rfl⟩)
def spIsSg : Sp := fun vs H Q _ => ∃ b : Int, vs = [.int b] ∧ Q (.bl (isSg b)) H
def spSgOf : Sp := fun vs H Q _ => ∃ b : Int, vs = [.int b] ∧ isSg b = true ∧ Q (.str (sOf [b.toNat])) H
def spMkOf (K : PySem.W.Frag) : Sp := fun vs H Q _ => ∃ (q : Addr) (bs : List Int), vs = [.ref q] ∧ H q = some (.tup (bs.map V.int)) ∧ Q (.int (mkF bs)) H
def spMark (K : PySem.W.Frag) : Sp := fun vs H Q _ => ∃ (q : Addr) (bs : List Int), vs = [.ref q] ∧ RowAt H q bs ∧ ∀ H', Same H H' → Q (.int (mkF bs)) H'
def spSeal : Sp := fun vs H Q _ => ∃ (q : Addr) (bs : List Int), vs = [.ref q] ∧ H q = some (.tup (bs.map V.int)) ∧ ∀ z H', Same H H' → H' z = some (.tup ((sealL bs).map V.int)) → Q (.ref z) H'
theorem sg_lo : ∀ k : Nat, k < 5 → sbS.cps.toList[k]? = some (32 + k) := by decide +kernel
theorem sg_hi : ∀ k : Nat, k < 89 → saS.cps.toList[k]? = some (38 + k) := by decide +kernel
theorem sg_b {b : Int} (h : isSg b = true) : 32 ≤ b ∧ b ≤ 126 ∧ b ≠ 37 := by
  simp only [isSg, Bool.and_eq_true, decide_eq_true_eq, Bool.not_eq_true', decide_eq_false_iff_not] at h
  exact ⟨h.1.1, h.1.2, h.2⟩
/-- what is left, what is written of a seal -/
def lf (m : Int) : Nat → Int
  | 0 => m
  | i + 1 => lf m i / 256
def sl (m : Int) : Nat → List Int
  | 0 => []
  | i + 1 => sl m i ++ [lf m i % 256]
theorem sl_len (m : Int) : ∀ i, (sl m i).length = i
  | 0 => rfl
  | i + 1 => by
    show (sl m i ++ [_]).length = _
    rw [List.length_append, sl_len m i]
    rfl
theorem sl_seal (bs : List Int) : sl (mkF bs % 4294967296) 4 = sealL bs := by
  unfold sealL
  show [mkF bs % 4294967296 % 256, mkF bs % 4294967296 / 256 % 256, mkF bs % 4294967296 / 256 / 256 % 256, mkF bs % 4294967296 / 256 / 256 / 256 % 256] = _
  rw [Int.ediv_ediv_of_nonneg (by decide), Int.ediv_ediv_of_nonneg (by decide)]
  rfl
section
variable {P : Program} {w : World} {K : PySem.W.Frag} {mg : Str → Option Value} {base : Heap}
theorem Sc.ni {H : Hp} {v : V} (h : Sc v) : (∃ i, v = .int i) ∨ NoInt K H v := by
  rcases h with rfl | ⟨b, rfl⟩ | h
  · exact .inr ⟨.type "NoneType", false, false, .base .non, kit_ty (by decide +kernel), kit_ty (by decide +kernel), rfl⟩
  · exact .inr ⟨.type "bool", true, true, .base (.bl _), kit_ty (by decide +kernel), kit_ty (by decide +kernel), rfl⟩
  · exact .inl h
theorem scPlain : FnScope ["thing"] ["thing"] (defScope sPlain) := ⟨rfl, rfl, rfl, by decide +kernel, rfl, by decide +kernel, by decide +kernel⟩
theorem ok_plain {f : Addr} {fd : FuncData} (D : Df K mg "is_plain_int" sPlain ["thing"] f fd) (B : Bts mg) : FnOk P w K mg base CX0 1 f fd ["thing"] (spPlain K) := by
  refine D.F.ok scPlain (fun vs H Q E h => ?_) (fun cdv A outer s H vs Q E hr h => ?_)
  · obtain ⟨v, t, b, c, rfl, _⟩ := h
    rfl
  · obtain ⟨v, t, b, c, rfl, ty, kb, kc, k⟩ := h
    refine ⟨_, pss_one (ps_ret (pe_and (pe_callB call_isi (by rfl) B.isinstance PyProof.Rows.boot_isinstance (pa_cons (pv 0) (pa_cons (pe_bltn (v := .ty "int") rfl B.int PyProof.Rows.boot_int rfl) pa_nil)))
      (pe_one (pe_not (pe_callB call_isi (by rfl) B.isinstance PyProof.Rows.boot_isinstance (pa_cons (pv 0) (pa_cons (pe_bltn (v := .ty "bool") rfl B.bool (by decide +kernel) rfl) pa_nil))))))), ?_⟩
    refine ⟨_, rfl, v, .ty "int", t, .type "int", b, rfl, .ty _, ty, kb, _, rfl, ?_⟩
    cases b with
    | false => exact iteF k
    | true => exact iteT ⟨_, rfl, v, .ty "bool", t, .type "bool", c, rfl, .ty _, ty, kc, _, rfl, k⟩
theorem scNum : FnScope ["limit", "thing"] ["limit", "thing"] (defScope sNum) := ⟨rfl, rfl, rfl, by decide +kernel, rfl, by decide +kernel, by decide +kernel⟩
theorem ok_num {f fP : Addr} {fd fdP : FuncData} (D : Df K mg "is_number_below" sNum ["limit", "thing"] f fd) (B : Bts mg) (DP : Df K mg "is_plain_int" sPlain ["thing"] fP fdP) : FnOk P w K mg base CX0 2 f fd ["limit", "thing"] (spNum K) := by
  have GP : FnOk P w K mg base CX0 1 fP fdP ["thing"] (spPlain K) := ok_plain DP B
  refine D.F.ok scNum (fun vs H Q E h => ?_) (fun cdv A outer s H vs Q E hr h => ?_)
  · obtain ⟨n, v, rfl, _⟩ := h
    rfl
  · obtain ⟨n, v, rfl, h⟩ := h
    refine ⟨_, pss_one (ps_ret (pe_and (pe_call GP hr rfl DP.m DP.k DP.b .nil pass0 (pa_cons (pv 1) pa_nil)) (pe_one (pe_chain op_le op_lt pe_int (pv 1) (pv 0))))), ?_⟩
    rcases h with ⟨i, rfl, k⟩ | ⟨⟨t, b, c, ty, kb, kc, e⟩, k⟩
    · refine ⟨_, rfl, .int i, .type "int", true, false, rfl, .base (.int _), kInt_int, kBool_int, _, rfl, iteT ?_⟩
      refine ⟨_, rfl, _, _, rfl, rfl, _, rfl, ?_⟩
      by_cases c : (0 : Int) ≤ i
      · rw [decide_eq_true c] at k ⊢
        exact iteT ⟨_, rfl, _, _, rfl, rfl, k⟩
      · rw [decide_eq_false c] at k ⊢
        exact iteF k
    · refine ⟨_, rfl, v, t, b, c, rfl, ty, kb, kc, _, rfl, ?_⟩
      rw [e]
      exact iteF k
theorem scIsRow : FnScope ["thing", "part"] ["thing"] (defScope sIsRow) := ⟨rfl, rfl, rfl, by decide +kernel, rfl, by decide +kernel, by decide +kernel⟩
theorem ok_isrow {f fP fN : Addr} {fd fdP fdN : FuncData} (D : Df K mg "is_row" sIsRow ["thing"] f fd) (B : Bts mg) (C : Cst mg) (DP : Df K mg "is_plain_int" sPlain ["thing"] fP fdP) (DN : Df K mg "is_number_below" sNum ["limit", "thing"] fN fdN) : FnOk P w K mg base CX0 3 f fd ["thing"] (spIsRow K) := by
  have GN : FnOk P w K mg base CX0 2 fN fdN ["limit", "thing"] (spNum K) := ok_num DN B DP
  obtain ⟨tb, hb⟩ := C.bytes
  refine D.F.ok scIsRow (fun vs H Q E h => ?_) (fun cdv A outer s H vs Q E hr h => ?_)
  · obtain ⟨v, rfl, _⟩ := h
    rfl
  · obtain ⟨v, rfl, h⟩ := h
    have nd := scIsRow.nd
    refine ⟨_, pss_one (ps_ret (pe_and (pe_callB call_isi (by rfl) B.isinstance PyProof.Rows.boot_isinstance (pa_cons (pv 0) (pa_cons (pe_bltn (v := .ty "tuple") rfl B.tuple PyProof.Rows.boot_tuple rfl) pa_nil)))
      (pe_one (pe_callB (cr_all rfl) (by rfl) B.all PyProof.Rows.boot_all (pa_cons (pe_lc (own := [("part", 1)]) (g := gName 1) (tt := tYes) rfl nd (pi_tup (pv 0))
        (blkOk_by (N := ["thing", "part"]) (sc := defScope sIsRow) (by decide +kernel)) (fun _ _ _ _ _ => pg_name (i := 1) nd rfl (.inl rfl)) (fun _ _ _ _ _ => pts_nil)
        (fun _ _ _ _ _ => pe_call GN hr rfl DN.m DN.k DN.b .nil pass0 (pa_cons (pe_glob (v := .int 256) rfl hb ⟨_, rfl⟩) (pa_cons (pv 1) pa_nil)))) pa_nil))))), ?_⟩
    rcases h with ⟨q, xs, rfl, hq, few, sc, k⟩ | ⟨t, ty, kt, k⟩
    · refine ⟨_, rfl, .ref q, .ty "tuple", .type "tuple", .type "tuple", true, rfl, .ty _, .base (.tup hq), kit_ty (by decide +kernel), _, rfl, iteT ?_⟩
      refine ⟨_, rfl, q, rfl, ⟨_, SqT.of hq⟩, fun D hD => lc_tup (K := K) (a := q) (xs := xs) (fun i H' => H' D = some (.lst (((xs.take i).map isB).map V.bl)) ∧ Same H H') ?_ ?_ ?_ ?_⟩
      · exact ⟨upd_same, sN hD⟩
      · rintro i H' hi ⟨_, s1⟩
        exact SqT.of (s1 _ _ hq)
      · rintro i x H' hx ⟨eD, s1⟩
        have hm := sc x (List.mem_of_getElem? hx)
        have hi := (List.getElem?_eq_some_iff.mp hx).1
        have fin : ∀ b, b = isB x → ∃ acc, H' D = some (.lst acc) ∧ acc.length < sizeLine ∧ (upd H' D (.lst (acc ++ [.bl b]))) D = some (.lst (((xs.take (i + 1)).map isB).map V.bl)) ∧ Same H (upd H' D (.lst (acc ++ [.bl b]))) := fun b hb => by
          refine ⟨_, eD, ?_, ?_, sNew s1 hD⟩
          · rw [List.length_map, List.length_map, List.length_take]
            exact size_ok (by omega)
          · rw [upd_same, take_more hx, List.map_append, List.map_append, hb]
            rfl
        refine ⟨rfl, ?_⟩
        rcases hm.ni (K := K) (H := H') with ⟨j, rfl⟩ | ni
        · exact ⟨_, rfl, 256, .int j, rfl, .inl ⟨j, rfl, fin _ rfl⟩⟩
        · refine ⟨_, rfl, 256, x, rfl, .inr ⟨ni, fin _ ?_⟩⟩
          rcases hm with rfl | ⟨b, rfl⟩ | ⟨j, rfl⟩
          · rfl
          · rfl
          · obtain ⟨t, b, c, ty, kb, kc, e⟩ := ni
            cases ty with
            | base ty =>
              cases ty
              rw [show b = true from (Option.some.inj (kInt_int.symm.trans kb)).symm, show c = false from (Option.some.inj (kBool_int.symm.trans kc)).symm] at e
              cases e
      · rintro H' ⟨eD, s1⟩
        rw [List.take_length] at eD
        refine ⟨D, _, rfl, SqL.of eD, ?_⟩
        have e : (xs.map isB).all id = xs.all isB := by rw [List.all_map]; rfl
        rw [e]
        exact k _ s1
    · exact ⟨_, rfl, v, .ty "tuple", t, .type "tuple", false, rfl, .ty _, ty, kt, _, rfl, iteF k⟩
theorem scIsSg : FnScope ["number"] ["number"] (defScope sIsSg) := ⟨rfl, rfl, rfl, by decide +kernel, rfl, by decide +kernel, by decide +kernel⟩
theorem ok_issg {f : Addr} {fd : FuncData} (D : Df K mg "is_sign" sIsSg ["number"] f fd) (C : Cst mg) : FnOk P w K mg base CX0 1 f fd ["number"] spIsSg := by
  obtain ⟨t1, h1⟩ := C.first
  obtain ⟨t2, h2⟩ := C.last
  obtain ⟨t3, h3⟩ := C.nosg
  refine D.F.ok scIsSg (fun vs H Q E h => ?_) (fun cdv A outer s H vs Q E hr h => ?_)
  · obtain ⟨b, rfl, _⟩ := h
    rfl
  · obtain ⟨b, rfl, k⟩ := h
    refine ⟨_, pss_one (ps_ret (pe_and (pe_chain op_le op_le (pe_glob (v := .int 32) rfl h1 ⟨_, rfl⟩) (pv 0) (pe_glob (v := .int 126) rfl h2 ⟨_, rfl⟩)) (pe_one (pe_cmpR op_ne (pv 0) (pe_glob (v := .int 37) rfl h3 ⟨_, rfl⟩) (nomark _))))), ?_⟩
    unfold isSg at k
    refine ⟨_, rfl, _, _, rfl, rfl, _, rfl, ?_⟩
    by_cases c : (32 : Int) ≤ b
    · rw [decide_eq_true c] at k ⊢
      refine iteT ⟨_, _, rfl, rfl, _, rfl, ?_⟩
      by_cases c2 : b ≤ 126
      · rw [decide_eq_true c2] at k ⊢
        refine iteT ⟨_, rfl, rfl, ?_⟩
        have e : decide (V.int b = V.int 37) = decide (b = 37) := by
          by_cases c3 : b = 37
          · rw [c3, decide_eq_true rfl, decide_eq_true rfl]
          · rw [decide_eq_false c3, decide_eq_false fun z => c3 (V.int.inj z)]
        rw [e]
        exact k
      · rw [decide_eq_false c2] at k ⊢
        exact iteF k
    · rw [decide_eq_false c] at k ⊢
      exact iteF ⟨_, rfl, iteF k⟩
theorem scSgOf : FnScope ["number"] ["number"] (defScope sSgOf) := ⟨rfl, rfl, rfl, by decide +kernel, rfl, by decide +kernel, by decide +kernel⟩
theorem ok_sgof {f : Addr} {fd : FuncData} (D : Df K mg "sign_of" sSgOf ["number"] f fd) (C : Cst mg) : FnOk P w K mg base CX0 1 f fd ["number"] spSgOf := by
  obtain ⟨t1, h1⟩ := C.first
  obtain ⟨t3, h3⟩ := C.nosg
  obtain ⟨t4, h4⟩ := C.sb
  obtain ⟨t5, h5⟩ := C.sa
  refine D.F.ok scSgOf (fun vs H Q E h => ?_) (fun cdv A outer s H vs Q E hr h => ?_)
  · obtain ⟨b, rfl, _⟩ := h
    rfl
  · obtain ⟨b, rfl, sg, k⟩ := h
    obtain ⟨b1, b2, b3⟩ := sg_b sg
    refine ⟨_, pss_cons (ps_if (pt_cmpR op_lt (pv 0) (pe_glob (v := .int 37) rfl h3 ⟨_, rfl⟩) (nomark _))
        (pss_one (ps_ret (pe_ix ix_str (pe_glob (v := .str sbS) rfl h4 ⟨_, rfl⟩) (pe_op op_sub (pv 0) (pe_glob (v := .int 32) rfl h1 ⟨_, rfl⟩)) (fun _ _ => rfl)))) pss_nil)
      (pss_one (ps_ret (pe_ix ix_str (pe_glob (v := .str saS) rfl h5 ⟨_, rfl⟩) (pe_op op_sub (pe_op op_sub (pv 0) (pe_glob (v := .int 37) rfl h3 ⟨_, rfl⟩)) pe_int) (fun _ _ => rfl)))), ?_⟩
    refine ⟨_, rfl, _, _, rfl, rfl, _, rfl, ite2 (fun c => ?_) (fun c => ?_)⟩
    · have c : b < 37 := of_decide_eq_true c
      refine ⟨_, rfl, _, _, rfl, rfl, sbS, b - 32, b.toNat, rfl, rfl, by decide +kernel, ?_, k⟩
      rw [show b - 32 = (((b.toNat - 32 : Nat)) : Int) by omega]
      refine atI_nat ?_
      rw [sg_lo _ (by omega), show 32 + (b.toNat - 32) = b.toNat by omega]
    · have c : ¬ b < 37 := fun z => c (decide_eq_true z)
      refine ⟨_, rfl, _, _, rfl, rfl, _, _, rfl, rfl, saS, b - 37 - 1, b.toNat, rfl, rfl, by decide +kernel, ?_, k⟩
      rw [show b - 37 - 1 = (((b.toNat - 38 : Nat)) : Int) by omega]
      refine atI_nat ?_
      rw [sg_hi _ (by omega), show 38 + (b.toNat - 38) = b.toNat by omega]
theorem scMkOf : FnScope ["row", "number", "byte"] ["row"] (defScope sMkOf) := ⟨rfl, rfl, rfl, by decide +kernel, rfl, by decide +kernel, by decide +kernel⟩
theorem ok_mkof {f : Addr} {fd : FuncData} (D : Df K mg "mark_of" sMkOf ["row"] f fd) (C : Cst mg) : FnOk P w K mg base CX0 1 f fd ["row"] (spMkOf K) := by
  obtain ⟨t1, h1⟩ := C.factor
  obtain ⟨t2, h2⟩ := C.marks
  refine D.F.ok scMkOf (fun vs H Q E h => ?_) (fun cdv A outer s H vs Q E hr h => ?_)
  · obtain ⟨q, bs, rfl, _⟩ := h
    rfl
  · obtain ⟨q, bs, rfl, hq, k⟩ := h
    have nd := scMkOf.nd
    refine ⟨_, pss_cons (ps_set (i := 1) nd rfl (.inl rfl) pe_int)
      (pss_cons (ps_for PassesOwn.never rfl (pi_tup (pv 0)) (pg_name (i := 2) nd rfl (.inl rfl))
        (pss_one (ps_set (i := 1) nd rfl (.inl rfl) (pe_op op_mod (pe_op op_add (pe_op op_add (pe_op op_mul (pv 1) (pe_glob (v := .int 1000003) rfl h1 ⟨_, rfl⟩)) (pv 2)) pe_int) (pe_glob (v := .int 2305843009213693951) rfl h2 ⟨_, rfl⟩)))))
      (pss_one (ps_ret (pv 1)))), ?_⟩
    refine ⟨_, rfl, q, rfl, ⟨_, SqT.of hq⟩, for_tup (K := K) (a := q) (xs := bs.map V.int) (fun i σ H' => ∃ x2, σ = [some (.ref q), some (.int (mkF (bs.take i))), x2] ∧ H' = H) ?_ ?_ ?_ ?_⟩
    · exact ⟨none, rfl, rfl⟩
    · rintro i σ H' hi ⟨x2, rfl, rfl⟩
      exact SqT.of hq
    · rintro i x σ H' hx ⟨x2, rfl, rfl⟩
      obtain ⟨b, hb, rfl⟩ := at_ints hx
      refine ⟨_, rfl, _, _, rfl, rfl, .inr ⟨by decide, by decide⟩, _, rfl, _, _, rfl, rfl, _, _, rfl, rfl, _, _, rfl, rfl, (by decide : (0 : Int) < 2305843009213693951), some (.int b), ?_, rfl⟩
      rw [take_more hb, mkF_snoc]
      rfl
    · rintro σ H' ⟨x2, rfl, rfl⟩
      rw [List.length_map, List.take_length]
      exact ⟨_, rfl, k⟩
theorem scSeal : FnScope ["row", "left", "seal", "_"] ["row"] (defScope sSeal) := ⟨rfl, rfl, rfl, by decide +kernel, rfl, by decide +kernel, by decide +kernel⟩
theorem ok_seal {f fM : Addr} {fd fdM : FuncData} (D : Df K mg "seal_of" sSeal ["row"] f fd) (B : Bts mg) (C : Cst mg) (DM : Df K mg "mark_of" sMkOf ["row"] fM fdM) : FnOk P w K mg base CX0 2 f fd ["row"] spSeal := by
  have GM : FnOk P w K mg base CX0 1 fM fdM ["row"] (spMkOf K) := ok_mkof DM C
  obtain ⟨t1, h1⟩ := C.seals
  obtain ⟨t2, h2⟩ := C.slen
  obtain ⟨t3, h3⟩ := C.bytes
  refine D.F.ok scSeal (fun vs H Q E h => ?_) (fun cdv A outer s H vs Q E hr h => ?_)
  · obtain ⟨q, bs, rfl, _⟩ := h
    rfl
  · obtain ⟨q, bs, rfl, hq, k⟩ := h
    have nd := scSeal.nd
    refine ⟨_, pss_cons (ps_set (i := 1) nd rfl (.inl rfl) (pe_op op_mod (pe_call GM hr rfl DM.m DM.k DM.b .nil pass0 (pa_cons (pv 0) pa_nil)) (pe_glob (v := .int 4294967296) rfl h1 ⟨_, rfl⟩)))
      (pss_cons (ps_set (i := 2) nd rfl (.inl rfl) (pe_lst pa_nil))
      (pss_cons (ps_for PassesOwn.never rfl (pi_range1 rfl B.range (pa_cons (pe_glob (v := .int 4) rfl h2 ⟨_, rfl⟩) pa_nil)) (pg_name (i := 3) nd rfl (.inl rfl))
        (pss_cons (ps_expr (pe_bm PySem.F.plainAttrs_list PySem.F.slot_list_append PySem.F.type_list_append mt_append (pv 2) (pa_cons (pe_op op_mod (pv 1) (pe_glob (v := .int 256) rfl h3 ⟨_, rfl⟩)) pa_nil)))
        (pss_one (ps_set (i := 1) nd rfl (.inl rfl) (pe_op op_fdiv (pv 1) (pe_glob (v := .int 256) rfl h3 ⟨_, rfl⟩))))))
      (pss_one (ps_ret (pe_callTy call_tuple_of (by rfl) B.tuple PyProof.Rows.boot_tuple (pa_cons (pv 2) pa_nil)))))), ?_⟩
    refine ⟨_, rfl, q, bs, rfl, hq, _, _, rfl, rfl, (by decide : (0 : Int) < 4294967296), Nat.zero_le _, fun l hl => ?_⟩
    refine ⟨4, rfl, by decide, by decide, for_range (lo := 0) (n := 4) (fun i σ H' => ∃ x3, σ = [some (.ref q), some (.int (lf (mkF bs % 4294967296) i)), some (.ref l), x3] ∧ H' l = some (.lst ((sl (mkF bs % 4294967296) i).map V.int)) ∧ Same H H') ?_ ?_ ?_⟩
    · exact ⟨none, rfl, upd_same, sN hl⟩
    · rintro i σ H' hi ⟨x3, rfl, e, s1⟩
      refine ⟨_, rfl, .inl ⟨rfl, _, SqL.of e⟩, _, rfl, _, _, rfl, rfl, (by decide : (0 : Int) < 256), l, _, _, rfl, rfl, e, ?_, ?_⟩
      · rw [List.length_map, sl_len]
        exact size_ok (by omega)
      · refine ⟨_, rfl, _, _, rfl, rfl, ⟨by decide, by decide⟩, _, rfl, ?_, sNew s1 hl⟩
        rw [upd_same]
        show _ = some (HO.lst ((sl (mkF bs % 4294967296) i ++ [_]).map V.int))
        rw [List.map_append]
        rfl
    · rintro σ H' ⟨x3, rfl, e, s1⟩
      refine ⟨_, rfl, l, _, rfl, .inl ⟨SqL.of e, fun z hz => k z _ (sT s1 (sN hz)) ?_⟩⟩
      rw [upd_same, sl_seal]
end
end Q

namespace L2
open PySem PySem.Spec PyProof.Rows
section
variable {X : Cx}
/-- t.index(x), t of flat things, the first place -/
theorem mt_tidx : MtR X "tuple.index" (fun x xs H Q => ∃ (p : Addr) (ys : List V) (y : V) (j : Nat) (z : V), x = .ref p ∧ xs = [y] ∧ SqT X.K H p ys ∧ flatV y = true ∧ ys.all flatV = true ∧ ys[j]? = some z ∧ eqV z y = true ∧ (∀ (m : Nat) (z' : V), m < j → ys[m]? = some z' → eqV z' y = false) ∧ Q (.int (j : Nat)) H) := by
  intro pins s σ H x xs v us Q I rx rs h
  obtain ⟨p, ys, y, j, z, rfl, rfl, hq, fy, fys, hz, hzj, hno, q⟩ := h
  cases rx
  cases rs with
  | cons ry rt =>
    rename_i uy ut
    cases rt
    obtain ⟨its, r, pl, hsz⟩ := I.tuple hq
    obtain ⟨⟨cls, dd, dt, sl⟩, ho, hc, n, hd⟩ := pl
    simp only at hc hd
    subst hc
    subst hd
    have hvl := r.length
    obtain ⟨u, hu, ru⟩ := r.get hz
    obtain ⟨hjl, hje⟩ := List.getElem?_eq_some_iff.mp hu
    have hj : j < its.toArray.size := by simpa using hjl
    refine call_meets PySem.F.slot_tuple_index ⟨_, ho, rfl⟩ PySem.F.entry_tuple_index (PySem.F.args_tuple_index_2 _ _) (TI.tuple_indexAt p its.toArray n dd sl uy (eqU y) j hj ?_ ?_)
      ⟨ho, fun w hw => mem_eqAt ry fy r fys w (by simpa using hw), ⟨.int (j : Nat), H, I.tok _, ⟨_, rfl⟩, q⟩⟩
    · have e1 : its.toArray[j] = u := by simpa using hje
      rw [e1, eqU_of ru (flat_at fys hz)]
      exact hzj
    · intro m hm hmj
      have hml : m < its.length := by simpa using hm
      have hmy : m < ys.length := by omega
      have hy' : ys[m]? = some ys[m] := List.getElem?_eq_getElem hmy
      obtain ⟨u2, hu2, ru2⟩ := r.get hy'
      obtain ⟨_, hme⟩ := List.getElem?_eq_some_iff.mp hu2
      have e1 : its.toArray[m] = u2 := by simpa using hme
      rw [e1, eqU_of ru2 (flat_at fys hy')]
      exact hno m _ hmj hy'
/-- x is True, x is False, of any x -/
theorem op_is_xb : OpR X (compareOp .Is) (fun x y H Q => ((∃ i : Int, x = .int i) ∨ (∃ z : Str, x = .str z) ∨ ∃ a : Addr, x = .ref a) ∧ ∃ b : Bool, y = .bl b ∧ Q (.bl false) H) := by
  intro pins s σ H x y v u Q I rx ry h
  obtain ⟨hx, b, rfl, q⟩ := h
  cases (show u = Value.bool b from ry)
  rcases hx with ⟨i, rfl⟩ | ⟨z, rfl⟩ | ⟨a, rfl⟩
  · obtain ⟨t, rfl⟩ := rx
    exact wpAny_is_other rfl (fun z => nomatch z) ⟨.bl false, H, I, rfl, q⟩
  · obtain ⟨t, rfl⟩ := rx
    exact wpAny_is_other rfl (fun z => nomatch z) ⟨.bl false, H, I, rfl, q⟩
  · cases rx
    exact wpAny_is_other rfl (fun z => nomatch z) ⟨.bl false, H, I, rfl, q⟩
end
end L2
namespace Q
open PySem L2 QR
abbrev sIsStr : Stmt := top 9999
abbrev sIPW : Stmt := top 9999
abbrev sIsPar : Stmt := top 9999
abbrev sWW : Stmt := top 9999
abbrev sWP : Stmt := top 9999
abbrev sRowOf : Stmt := top 9999
abbrev sSealed : Stmt := top 9999
structure Bare (K : PySem.W.Frag) (mg : Str → Option Value) : Prop where
  ex : ∃ a, mg "BARE" = some (.ref a) ∧ KTup K a [.non, .bl false, .bl true] ∧ ∃ o, K.lookup a = some o ∧ o.cls = .type "tuple" ∧ o.dict = none
theorem enc_atom {d : Nat} {t : T} (h : okA t) : enc d t = encA t := by
  cases d with
  | zero => rfl
  | succ d => cases t with
    | tup l => exact h.elim
    | _ => rfl
theorem okT_atom {d : Nat} {z : List Nat} (h : OkT d (.str z)) : okA (.str z) := by
  cases d <;> exact h
def spIsStr : Sp := fun vs H Q _ => ∃ z : List Nat, vs = [.str (sOf z)] ∧ okA (.str z) ∧ ∀ H', Same H H' → Q (.bl true) H'
def spIPW (d : Nat) : Sp := fun vs H Q _ => ∃ (t : T) (v : V), vs = [.int (d : Int), v] ∧ Rep H d t v ∧ OkT d t ∧ ∀ H', Same H H' → Q (.bl true) H'
def spIsPar : Sp := fun vs H Q _ => ∃ (t : T) (v : V), vs = [v] ∧ Rep H 20 t v ∧ OkT 20 t ∧ ∀ H', Same H H' → Q (.bl true) H'
def spWW : Sp := fun vs H Q _ => ∃ (l : Addr) (n : Int) (acc : List V), vs = [.ref l, .int n] ∧ H l = some (.lst acc) ∧ 0 ≤ n ∧ acc.length + (vlq n.toNat).length ≤ 9000 ∧ ∀ H', Bu l H H' → H' l = some (.lst (acc ++ (vlq n.toNat).map V.int)) → Q .non H'
def spWP (d : Nat) : Sp := fun vs H Q _ => ∃ (l : Addr) (t : T) (v : V) (acc : List V), vs = [.ref l, v] ∧ H l = some (.lst acc) ∧ Rep H d t v ∧ OkT d t ∧ acc.length + (enc d t).length ≤ 9000 ∧ ∀ H', Bu l H H' → H' l = some (.lst (acc ++ (enc d t).map V.int)) → Q .non H'
def spRowOf : Sp := fun vs H Q _ => ∃ (t : T) (v : V), vs = [v] ∧ Rep H 20 t v ∧ OkT 20 t ∧ (enc 20 t).length ≤ 8000 ∧ ∀ q H', Same H H' → RowAt H' q (enc 20 t) → Q (.ref q) H'
def spSealed : Sp := fun vs H Q _ => ∃ (t : T) (v : V), vs = [v] ∧ Rep H 20 t v ∧ OkT 20 t ∧ (enc 20 t).length ≤ 8000 ∧ ∀ q H', Same H H' → RowAt H' q (enc 20 t ++ sealL (enc 20 t)) → Q (.ref q) H'
theorem sOf_len (z : List Nat) : (sOf z).length = z.length := by
  show z.toArray.size = _
  exact List.size_toArray
theorem sOf_at {z : List Nat} {i c : Nat} (h : (sOf z).cps[i]? = some c) : z[i]? = some c := by
  have h : z.toArray[i]? = some c := h
  rwa [List.getElem?_toArray] at h
theorem flat_take {d : Nat} (l : List T) (i : Nat) : (((l.take i).map (enc d)).flatten).length ≤ ((l.map (enc d)).flatten).length := by
  have e : l.map (enc d) = (l.take i).map (enc d) ++ (l.drop i).map (enc d) := by rw [← List.map_append, List.take_append_drop]
  rw [e, List.flatten_append, List.length_append]
  omega
/-- t + u, the whole or a new one -/
def rCatS : R2 := fun x y H Q => ∃ a b xs ys, x = .ref a ∧ y = .ref b ∧ H a = some (.tup xs) ∧ H b = some (.tup ys) ∧ xs.length + ys.length ≤ sizeLine ∧ ∀ z H', Same H H' → H' z = some (.tup (xs ++ ys)) → Q (.ref z) H'
theorem op_catS {X : Cx} : OpR X (binaryOp .Add) rCatS := by
  intro pins s σ H x y v u Q I rx ry h
  obtain ⟨a, b, xs, ys, rfl, rfl, ha, hb, hz, k⟩ := h
  refine op_catA pins s σ H _ _ v u Q I rx ry ⟨a, b, xs, ys, rfl, rfl, SqT.of ha, SqT.of hb, hz, fun e => ?_, fun _ e => ?_, fun _ _ p hp => k p _ (sN hp) upd_same⟩
  · exact k b H (fun _ _ e => e) (by rw [hb, e]; rfl)
  · exact k a H (fun _ _ e => e) (by rw [ha, e, List.append_nil])
section
variable {P : Program} {w : World} {K : PySem.W.Frag} {mg : Str → Option Value} {base : Heap}
end
end Q

namespace Q
open PySem L2 QR
theorem encA_int {i : Int} (h : 0 ≤ i) : encA (.int i) = 3 :: vlq i.toNat := if_pos h
theorem encA_neg {i : Int} (h : ¬ 0 ≤ i) : encA (.int i) = 4 :: vlq (-1 - i).toNat := if_neg h
theorem room_one {a b : Nat} (h : a + b ≤ 9000) (c : 0 < b) : a < sizeLine := size_ok (by omega)
section
variable {P : Program} {w : World} {K : PySem.W.Frag} {mg : Str → Option Value} {base : Heap}
end
end Q

namespace Q
open PySem L2 QR
abbrev sPlace : Stmt := inClass (top 4) 0
abbrev sRInit : Stmt := inClass (top 31) 0
abbrev sDue : Stmt := inClass (top 31) 1
abbrev sRW : Stmt := inClass (top 31) 2
abbrev sRS : Stmt := inClass (top 31) 3
abbrev sRT : Stmt := inClass (top 31) 4
abbrev sRP : Stmt := inClass (top 31) 5
def xdB (p : Int) : HO := .xd [("place", .int p)]
def spPlace (CB : Addr) : Sp := fun vs H Q _ => ∃ (a : Addr) (y : V), vs = [.ref a, y] ∧ H a = some (exo a CB none) ∧ ∀ d, H d = none → d ≠ a → Q .non (upd (upd H d (exd d [("place", y)])) a (exo a CB (some d)))
/-- what the top says of BadRow -/
structure BTxt (K : PySem.W.Frag) (mg : Str → Option Value) (CB fI : Addr) (fd : FuncData) : Prop where
  ox : OexC K CB
  iC : PySem.W.findIn K (.ref CB) "__init__" = some (some (.ref fI))
  tI : PySem.W.typeIn K (.ref fI) = some (.type "function")
  F : Fun K "__init__" "BadRow.__init__" sPlace fI fd
  b : Binds K fd ["self", "place"] []
  no : PySem.W.findIn K (.ref CB) "place" = some none
  g : mg "BadRow" = some (.ref CB)
  ex : PySem.W.exmOne K (.ref CB) (.ref CB) = some true
  xf : XfC K CB
/-- what it says of RowReader -/
structure RTxt (K : PySem.W.Frag) (mg : Str → Option Value) (CR : Addr) : Prop where
  cl : Cls K CR
  nR : NoAttr K CR "row"
  nA : NoAttr K CR "at"
  mgC : mg "RowReader" = some (.ref CR)
/-- its methods -/
structure RDefs (K : PySem.W.Frag) (CR : Addr) where
  fI : Addr
  dI : FuncData
  FI : Fun K "__init__" "RowReader.__init__" sRInit fI dI
  bI : Binds K dI ["self", "row"] []
  mM : Mk K CR fI
  fD : Addr
  dD : FuncData
  FD : Fun K "due_byte" "RowReader.due_byte" sDue fD dD
  bD : Binds K dD ["self"] []
  mD : Meth K CR "due_byte" fD
  fW : Addr
  dW : FuncData
  FW : Fun K "read_whole" "RowReader.read_whole" sRW fW dW
  bW : Binds K dW ["self"] []
  mW : Meth K CR "read_whole" fW
  fS : Addr
  dS : FuncData
  FS : Fun K "read_string" "RowReader.read_string" sRS fS dS
  bS : Binds K dS ["self"] []
  mS : Meth K CR "read_string" fS
  fT : Addr
  dT : FuncData
  FT : Fun K "read_tuple" "RowReader.read_tuple" sRT fT dT
  bT : Binds K dT ["self", "deep"] []
  mT : Meth K CR "read_tuple" fT
  fP : Addr
  dP : FuncData
  FP : Fun K "read_parcel" "RowReader.read_parcel" sRP fP dP
  bP : Binds K dP ["self", "deep"] []
  mP : Meth K CR "read_parcel" fP
def rf (q : Addr) (a : Nat) : List (Str × V) := [("row", .ref q), ("at", .int (a : Int))]
theorem put_at (q : Addr) (a b : Nat) : putF "at" (.int (b : Int)) (rf q a) = rf q b := by
  unfold rf putF
  rw [if_neg (by decide +kernel)]
  unfold putF
  rw [if_pos rfl]
/-- a reader of the row at q, at place a -/
structure RdIn (CR : Addr) (H : Hp) (rd dx q : Addr) (bs : List Int) (a : Nat) : Prop where
  at_ : H rd = some (.ins CR dx (rf q a))
  row : RowAt H q bs
  le : a ≤ bs.length
theorem RdIn.tk {CR : Addr} {H H' : Hp} {rd dx q : Addr} {bs : List Int} {a : Nat} (h : RdIn CR H rd dx q bs a) (b : Bu rd H H') : Tk H H' := fun c ys e => b c _ e (ne_of e h.at_ (fun z => by cases z))
theorem RdIn.go {CR : Addr} {H H' : Hp} {rd dx q : Addr} {bs : List Int} {a c : Nat} (h : RdIn CR H rd dx q bs a) (b : Bu rd H H') (e : H' rd = some (.ins CR dx (rf q c))) (l : c ≤ bs.length) : RdIn CR H' rd dx q bs c :=
  ⟨e, h.row.tk (h.tk b), l⟩
theorem RdIn.put {CR : Addr} {H : Hp} {rd dx q : Addr} {bs : List Int} {a c : Nat} (h : RdIn CR H rd dx q bs a) (l : c ≤ bs.length) : RdIn CR (upd H rd (.ins CR dx (putF "at" (.int (c : Int)) (rf q a)))) rd dx q bs c := by
  rw [put_at]
  exact h.go Bu.rf.at upd_same l
/-- what comes of a reading -/
def Out (CB CR rd dx q : Addr) (D : Nat) (x : R) (H : Hp) (Q : VK) (E : XK) : Prop :=
  (∀ t h v H', x = .ok t h → Bu rd H H' → H' rd = some (.ins CR dx (rf q h)) → Rep H' D t v → Q v H') ∧ ∀ p d H', x = .no p → Bu rd H H' → H' d = some (xdB (p : Int)) → E (.ref CB) (some d) H'
theorem Out.from {CB CR rd dx q : Addr} {D : Nat} {x : R} {H H1 : Hp} {Q : VK} {E : XK} (h : Out CB CR rd dx q D x H Q E) (b : Bu rd H H1) : Out CB CR rd dx q D x H1 Q E :=
  ⟨fun t h' v H' e b' e2 r => h.1 t h' v H' e (b.tr b') e2 r, fun p d H' e b' e2 => h.2 p d H' e (b.tr b') e2⟩
def spDue (CB CR : Addr) : Sp := fun vs H Q E => ∃ (rd dx q : Addr) (bs : List Int) (a : Nat), vs = [.ref rd] ∧ RdIn CR H rd dx q bs a ∧ (∀ b, bs[a]? = some b → Q (.int b) H) ∧ (bs[a]? = none → ∀ d H', Same H H' → H' d = some (xdB (a : Int)) → E (.ref CB) (some d) H')
def spRW (CB CR : Addr) : Sp := fun vs H Q E => ∃ (rd dx q : Addr) (bs : List Int) (a : Nat), vs = [.ref rd] ∧ RdIn CR H rd dx q bs a ∧ (∀ n h H', rdW bs a = some (n, h) → Bu rd H H' → H' rd = some (.ins CR dx (rf q h)) → Q (.int n) H') ∧
  (rdW bs a = none → ∀ d H', Bu rd H H' → H' d = some (xdB (a : Int)) → E (.ref CB) (some d) H')
def strR (bs : List Int) (a : Nat) : R := match rdW bs a with
  | none => .no a
  | some (n, h) => if 1 ≤ n ∧ n ≤ 20 then rdS bs n.toNat h [] else .no a
def tupR (bs : List Int) (d a : Nat) : R := match rdW bs a with
  | none => .no a
  | some (n, h) => rdL (rdP bs d) (bs.length + 1) n.toNat h []
def spRS (CB CR : Addr) : Sp := fun vs H Q E => ∃ (rd dx q : Addr) (bs : List Int) (a : Nat), vs = [.ref rd] ∧ RdIn CR H rd dx q bs a ∧ Out CB CR rd dx q 0 (strR bs a) H Q E
def spRT (CB CR : Addr) (d : Nat) : Sp := fun vs H Q E => ∃ (rd dx q : Addr) (bs : List Int) (a : Nat), vs = [.ref rd, .int (d : Int)] ∧ RdIn CR H rd dx q bs a ∧ Out CB CR rd dx q (d + 1) (tupR bs d a) H Q E
def spRP (CB CR : Addr) (d : Nat) : Sp := fun vs H Q E => ∃ (rd dx q : Addr) (bs : List Int) (a : Nat), vs = [.ref rd, .int (d : Int)] ∧ RdIn CR H rd dx q bs a ∧ Out CB CR rd dx q d (rdP bs d a) H Q E
def spRInit (CR : Addr) : Sp := fun vs H Q _ => ∃ (rd dx q : Addr), vs = [.ref rd, .ref q] ∧ H rd = some (.ins CR dx []) ∧ ∀ H', Bu rd H H' → H' rd = some (.ins CR dx (rf q 0)) → Q .non H'
/-- t[lo:hi], as it stands -/
def rSlX : V → Option Int → Option Int → Hp → VK → Prop := fun x lo hi H Q => ∃ a xs, x = .ref a ∧ H a = some (.tup xs) ∧ ∀ z H', Same H H' → H' z = some (.tup (cutV xs lo hi)) → Q (.ref z) H'
theorem sl_X {X : Cx} : SlR X rSlX := by
  intro pins s σ H x v vl vu lo hi sl Q I rx hs pl pu h
  obtain ⟨a, xs, rfl, ha, k⟩ := h
  refine sl_tupA pins s σ H _ v vl vu lo hi sl Q I rx hs pl pu ⟨a, xs, rfl, SqT.of ha, fun e => k a H (fun _ _ e => e) ?_, fun _ p hp => k p _ (sN hp) upd_same⟩
  unfold cutV
  rw [e.1, e.2, List.drop_zero, Nat.sub_zero, List.take_length]
  exact ha
theorem cut_nat (xs : List V) {a b : Nat} (h : a ≤ b) (l : b ≤ xs.length) : cutV xs (some (a : Int)) (some (b : Int)) = (xs.drop a).take (b - a) := by
  unfold cutV
  rw [HT.sIx_nat, HT.sIx_nat, Nat.min_eq_left (show a ≤ xs.length by omega), Nat.min_eq_left l]
theorem at_row {bs : List Int} {a : Nat} {b : Int} (h : bs[a]? = some b) : atI (bs.map V.int) (a : Int) = some (V.int b) := atI_nat (by rw [List.getElem?_map, h]; rfl)
theorem join_signs : ∀ acc : List Nat, TL.joinL [] (acc.map fun c => [c]) = acc
  | [] => rfl
  | [_] => rfl
  | c :: d :: r => by
    have ih := join_signs (d :: r)
    show [c] ++ ([] ++ TL.joinL [] ((d :: r).map fun c => [c])) = _
    rw [ih]
    rfl
theorem join_sOf (acc : List Nat) : Txt.join (SX.S []) (acc.map fun c => sOf [c]) = sOf acc := by
  have e : (acc.map fun c => sOf [c]) = (acc.map fun c => [c]).map SX.S := by rw [List.map_map]; rfl
  rw [e, SX.join_S, join_signs]
  rfl
section
variable {P : Program} {w : World} {K : PySem.W.Frag} {mg : Str → Option Value} {base : Heap}
theorem scPlace : FnScope ["self", "place"] ["self", "place"] (defScope sPlace) := ⟨rfl, rfl, rfl, by decide +kernel, rfl, by decide +kernel, by decide +kernel⟩
theorem ok_place {CB fI : Addr} {fd : FuncData} (T : BTxt K mg CB fI fd) : FnOk P w K mg base CX0 1 fI fd ["self", "place"] (spPlace CB) := by
  refine T.F.ok scPlace (fun vs H Q E h => ?_) (fun cdv A outer s H vs Q E hr h => ?_)
  · obtain ⟨a, y, rfl, _⟩ := h
    rfl
  · obtain ⟨a, y, rfl, e, k⟩ := h
    refine ⟨_, pss_one (ps_ost (pv 0) (pv 1)), ?_⟩
    exact ⟨_, rfl, _, rfl, a, CB, rfl, T.ox, T.no, .inl ⟨e, fun d n ne => k d n ne⟩⟩
/-- raise BadRow(y) -/
theorem bad_raise {CB : Addr} {H1 : Hp} {y : V} {E : XK} (k : ∀ d H', Same H1 H' → H' d = some (.xd [("place", y)]) → E (.ref CB) (some d) H') :
    [y].length ≤ 1000 ∧ ∀ a, H1 a = none → spPlace CB (.ref a :: ([y] ++ [])) (upd H1 a (exo a CB none)) (fun v H2 => v = .non ∧ ∃ (d : Addr) (fs : List (Str × V)), H2 a = some (exo a CB (some d)) ∧ H2 d = some (exd d fs) ∧ H1 d = none ∧ E (.ref CB) (some d) (upd (del H2 a) d (.xd fs))) (fun _ _ _ => False) := by
  refine ⟨(by show 1 ≤ 1000; decide), fun a ha => ⟨a, y, rfl, upd_same, fun d hd hda => ⟨rfl, d, _, upd_same, ?_, ?_, k d _ (fun b o e => ?_) upd_same⟩⟩⟩
  · rw [upd_ne hda, upd_same]
  · rw [upd_ne hda] at hd
    exact hd
  · have nba : b ≠ a := ne_of_none e ha
    rw [upd_ne hda] at hd
    have nbd : b ≠ d := ne_of_none e hd
    rw [upd_ne nbd, del_ne nba, upd_ne nba, upd_ne nbd, upd_ne nba]
    exact e
theorem scRInit : FnScope ["self", "row"] ["self", "row"] (defScope sRInit) := ⟨rfl, rfl, rfl, by decide +kernel, rfl, by decide +kernel, by decide +kernel⟩
theorem ok_rinit {CR : Addr} (T : RTxt K mg CR) (M : RDefs K CR) : FnOk P w K mg base CX0 1 M.fI M.dI ["self", "row"] (spRInit CR) := by
  refine M.FI.ok scRInit (fun vs H Q E h => ?_) (fun cdv A outer s H vs Q E hr h => ?_)
  · obtain ⟨rd, dx, q, rfl, _⟩ := h
    rfl
  · obtain ⟨rd, dx, q, rfl, e, k⟩ := h
    refine ⟨_, pss_cons (ps_fld (pv 0) (pv 1) rfl) (pss_one (ps_fld (pv 0) pe_int rfl)), ?_⟩
    refine ⟨_, rfl, _, rfl, rd, CR, dx, _, rfl, e, T.cl, T.nR, (by show 0 < 1000; decide), ?_⟩
    refine ⟨_, rfl, rd, CR, dx, _, rfl, upd_same, T.cl, T.nA, (by show 1 < 1000; decide), ?_⟩
    refine k _ Bu.rf.at.at ?_
    rw [upd_same]
    show some (HO.ins CR dx (putF "at" (.int ((0 : Nat) : Int)) [("row", V.ref q)])) = _
    unfold putF
    rw [if_neg (by decide +kernel)]
    rfl
theorem scDue : FnScope ["self"] ["self"] (defScope sDue) := ⟨rfl, rfl, rfl, by decide +kernel, rfl, by decide +kernel, by decide +kernel⟩
theorem ok_due {CR CB fB : Addr} {dB : FuncData} (T : RTxt K mg CR) (M : RDefs K CR) (B : Bts mg) (BT : BTxt K mg CB fB dB) : FnOk P w K mg base (L2.CX P w) 3 M.fD M.dD ["self"] (spDue CB CR) := by
  have GI : FnOk P w K mg base CX0 1 fB dB ["self", "place"] (spPlace CB) := ok_place BT
  refine M.FD.okX scDue (fun vs H Q E h => ?_) (fun cdv A outer s H vs Q E hr h => ?_)
  · obtain ⟨rd, dx, q, bs, a, rfl, _⟩ := h
    rfl
  · obtain ⟨rd, dx, q, bs, a, rfl, ri, k1, k2⟩ := h
    refine ⟨_, pss_cons (ps_if (pt_cmpR op_eq (pe_fld (pv 0) rfl) (pe_callB call_len_seq (by rfl) B.len PySem.boot_len (pa_cons (pe_fld (pv 0) rfl) pa_nil)) (nomark _)) (pss_one (ps_raise rfl (takes_of rfl rfl rfl rfl) (pmk_oex BT.ox BT.iC BT.tI GI hr BT.b .nil pass0 rfl BT.g (pa_cons (pe_fld (pv 0) rfl) pa_nil)))) pss_nil)
      (pss_one (ps_ret (pe_ix ix_tup (pe_fld (pv 0) rfl) (pe_fld (pv 0) rfl) (fun _ _ => rfl)))), ?_⟩
    refine ⟨_, rfl, rd, CR, dx, _, _, rfl, ri.at_, T.cl, T.nA, rfl, _, rfl, rd, CR, dx, _, _, rfl, ri.at_, T.cl, T.nR, rfl, q, _, rfl, .inr (SqT.of ri.row.at_), rfl, _, rfl, ?_⟩
    rw [List.length_map]
    refine ite2 (fun c => ?_) (fun c => ?_)
    · have c : a = bs.length := by
        have z := V.int.inj (of_decide_eq_true c)
        omega
      refine ⟨_, rfl, rd, CR, dx, _, _, rfl, ri.at_, T.cl, T.nA, rfl, bad_raise fun d H' s1 e => k2 (List.getElem?_eq_none (by omega)) d H' s1 e⟩
    · have c : a < bs.length := by
        have z : ¬ a = bs.length := fun z => c (decide_eq_true (by rw [z]))
        have := ri.le
        omega
      exact ⟨_, rfl, rd, CR, dx, _, _, rfl, ri.at_, T.cl, T.nR, rfl, _, rfl, rd, CR, dx, _, _, rfl, ri.at_, T.cl, T.nA, rfl, q, _, _, _, rfl, rfl, SqT.of ri.row.at_, at_row (List.getElem?_eq_getElem c), k1 _ (List.getElem?_eq_getElem c)⟩
theorem scRW : FnScope ["self", "start", "number", "byte"] ["self"] (defScope sRW) := ⟨rfl, rfl, rfl, by decide +kernel, rfl, by decide +kernel, by decide +kernel⟩
theorem ok_rw {CR CB fB : Addr} {dB : FuncData} (T : RTxt K mg CR) (M : RDefs K CR) (B : Bts mg) (BT : BTxt K mg CB fB dB) : FnOk P w K mg base (L2.CX P w) 3 M.fW M.dW ["self"] (spRW CB CR) := by
  have GI : FnOk P w K mg base CX0 1 fB dB ["self", "place"] (spPlace CB) := ok_place BT
  refine M.FW.okX scRW (fun vs H Q E h => ?_) (fun cdv A outer s H vs Q E hr h => ?_)
  · obtain ⟨rd, dx, q, bs, a, rfl, _⟩ := h
    rfl
  · obtain ⟨rd, dx, q, bs, a, rfl, ri, k1, k2⟩ := h
    have nd := scRW.nd
    refine ⟨_, pss_cons (ps_set (i := 1) nd rfl (.inl rfl) (pe_fld (pv 0) rfl))
      (pss_cons (ps_while (passes_of rfl) (PW.pt (pw_and (pt_cmpR op_lt (pe_fld (pv 0) rfl) (pe_callB call_len_seq (by rfl) B.len PySem.boot_len (pa_cons (pe_fld (pv 0) rfl) pa_nil)) (nomark _)) (pw_and1 (pt_cmpR op_ge (pe_ix ix_tup (pe_fld (pv 0) rfl) (pe_fld (pv 0) rfl) (fun _ _ => rfl)) pe_int (nomark _)))))
        (pss_one (ps_fldaug (pv 0) pe_int in_add)))
      (pss_cons (ps_if (pt_cmpR op_eq (pe_fld (pv 0) rfl) (pe_callB call_len_seq (by rfl) B.len PySem.boot_len (pa_cons (pe_fld (pv 0) rfl) pa_nil)) (nomark _)) (pss_one (ps_raise rfl (takes_of rfl rfl rfl rfl) (pmk_oex BT.ox BT.iC BT.tI GI hr BT.b .nil pass0 rfl BT.g (pa_cons (pv 1) pa_nil)))) pss_nil)
      (pss_cons (ps_fldaug (pv 0) pe_int in_add)
      (pss_cons (ps_if (PW.pt (pw_and (pt_cmpR op_eq (pe_ix ix_tup (pe_fld (pv 0) rfl) (pe_op op_sub (pe_fld (pv 0) rfl) pe_int) (fun _ _ => rfl)) pe_int (nomark _)) (pw_and1 (pt_cmpR op_gt (pe_op op_sub (pe_fld (pv 0) rfl) (pv 1)) pe_int (nomark _))))) (pss_one (ps_raise rfl (takes_of rfl rfl rfl rfl) (pmk_oex BT.ox BT.iC BT.tI GI hr BT.b .nil pass0 rfl BT.g (pa_cons (pv 1) pa_nil)))) pss_nil)
      (pss_cons (ps_set (i := 2) nd rfl (.inl rfl) pe_int)
      (pss_cons (ps_for (passes_of rfl) rfl (RT.pi_revA rfl B.reversed (pe_slice sl_X (pe_fld (pv 0) rfl) (po_some (pv 1)) (po_some (pe_fld (pv 0) rfl)))) (pg_name (i := 3) nd rfl (.inl rfl))
        (pss_one (ps_set (i := 2) nd rfl (.inl rfl) (pe_op op_add (pe_op op_mul (pv 2) pe_int) (pe_op op_mod (pv 3) pe_int)))))
      (pss_one (ps_ret (pv 2))))))))), ?_⟩
    refine ⟨_, rfl, rd, CR, dx, _, _, rfl, ri.at_, T.cl, T.nA, rfl, ?_⟩
    have sl0 := scan_le (bs.drop a)
    rw [List.length_drop] at sl0
    refine ⟨fun m σ H' => ∃ i : Nat, σ = [some (.ref rd), some (.int (a : Int)), none, none] ∧ RdIn CR H' rd dx q bs (a + i) ∧ Bu rd H H' ∧ i ≤ scan (bs.drop a) ∧ m = bs.length - (a + i), ⟨_, 0, rfl, ri, .rf, Nat.zero_le _, rfl⟩, ?_⟩
    rintro m σ H1 ⟨i, rfl, r1, b1, hi, rfl⟩
    have flds : ∀ {H2 : Hp} {c : Nat}, RdIn CR H2 rd dx q bs c → H2 rd = some (.ins CR dx (rf q c)) := fun r => r.at_
    refine ⟨_, rfl, rd, CR, dx, _, _, rfl, r1.at_, T.cl, T.nA, rfl, _, rfl, rd, CR, dx, _, _, rfl, r1.at_, T.cl, T.nR, rfl, q, _, rfl, .inr (SqT.of r1.row.at_), _, _, rfl, rfl, _, rfl, ?_⟩
    rw [List.length_map]
    rcases Nat.lt_or_ge i (scan (bs.drop a)) with c | c
    · obtain ⟨b, e, c2⟩ := scan_big c
      rw [List.getElem?_drop] at e
      refine ite2 (fun _ => ?_) (fun c3 => absurd (decide_eq_true (by have := (List.getElem?_eq_some_iff.mp e).1; omega)) c3)
      refine ⟨_, rfl, rd, CR, dx, _, _, rfl, r1.at_, T.cl, T.nR, rfl, _, rfl, rd, CR, dx, _, _, rfl, r1.at_, T.cl, T.nA, rfl, q, _, _, _, rfl, rfl, SqT.of r1.row.at_, at_row e, _, _, rfl, rfl, _, rfl, ?_⟩
      rw [decide_eq_true c2]
      refine iteT ⟨fun σ' H' => ∃ j : Nat, σ' = [some (.ref rd), some (.int (a : Int)), none, none] ∧ RdIn CR H' rd dx q bs (a + j) ∧ Bu rd H H' ∧ j ≤ scan (bs.drop a) ∧ j = i + 1, fun σ' H' ⟨j, e1, e2, e3, e4, e5⟩ => ⟨_, by have := ri.le; omega, j, e1, e2, e3, e4, rfl⟩, ?_⟩
      refine ⟨_, rfl, rd, CR, dx, _, _, rfl, r1.at_, T.cl, T.nA, rfl, _, _, rfl, rfl, dx, _, r1.at_, (by show 2 < 1000; decide), i + 1, rfl, ?_, b1.at, by omega, rfl⟩
      have z := r1.put (c := a + (i + 1)) (by have := ri.le; omega)
      have ec : ((a + i : Nat) : Int) + 1 = ((a + (i + 1) : Nat) : Int) := by omega
      rw [← ec] at z
      exact z
    · obtain rfl : i = scan (bs.drop a) := by omega
      clear c hi
      have rdw := k1
      by_cases c : a + scan (bs.drop a) = bs.length
      · refine ite2 (fun c3 => ?_) (fun _ => ?_)
        · have := of_decide_eq_true c3
          omega
        refine iteF ?_
        refine ⟨_, rfl, rd, CR, dx, _, _, rfl, r1.at_, T.cl, T.nA, rfl, _, rfl, rd, CR, dx, _, _, rfl, r1.at_, T.cl, T.nR, rfl, q, _, rfl, .inr (SqT.of r1.row.at_), rfl, _, rfl, ?_⟩
        rw [List.length_map, c, decide_eq_true rfl]
        refine iteT ⟨_, rfl, bad_raise fun d H' s1 e => k2 ?_ d H' (b1.st s1) e⟩
        unfold rdW
        rw [List.getElem?_eq_none (by omega)]
      · have lt : a + scan (bs.drop a) < bs.length := by have := ri.le; omega
        have eb : bs[a + scan (bs.drop a)]? = some bs[a + scan (bs.drop a)] := List.getElem?_eq_getElem lt
        have small : bs[a + scan (bs.drop a)] < 128 := by
          refine scan_at (l := bs.drop a) ?_
          rw [List.getElem?_drop]
          exact eb
        have wr : rdW bs a = if bs[a + scan (bs.drop a)] = 0 ∧ 0 < scan (bs.drop a) then none else some (val ((bs.drop a).take (scan (bs.drop a) + 1)), a + scan (bs.drop a) + 1) := by
          unfold rdW
          rw [eb]
        revert small eb wr
        generalize bs[a + scan (bs.drop a)] = b
        intro eb small wr
        refine ite2 (fun _ => ?_) (fun c3 => absurd (decide_eq_true (by omega)) c3)
        refine ⟨_, rfl, rd, CR, dx, _, _, rfl, r1.at_, T.cl, T.nR, rfl, _, rfl, rd, CR, dx, _, _, rfl, r1.at_, T.cl, T.nA, rfl, q, _, _, _, rfl, rfl, SqT.of r1.row.at_, at_row eb, _, _, rfl, rfl, _, rfl, ?_⟩
        rw [decide_eq_false (show ¬ (128 : Int) ≤ b by omega)]
        refine iteF ?_
        refine ⟨_, rfl, rd, CR, dx, _, _, rfl, r1.at_, T.cl, T.nA, rfl, _, rfl, rd, CR, dx, _, _, rfl, r1.at_, T.cl, T.nR, rfl, q, _, rfl, .inr (SqT.of r1.row.at_), rfl, _, rfl, ?_⟩
        rw [List.length_map, decide_eq_false fun z => c (by have := V.int.inj z; omega)]
        refine iteF ?_
        refine ⟨_, rfl, rd, CR, dx, _, _, rfl, r1.at_, T.cl, T.nA, rfl, _, _, rfl, rfl, dx, _, r1.at_, (by show 2 < 1000; decide), ?_⟩
        have r2 := r1.put (c := a + scan (bs.drop a) + 1) (by omega)
        have ec : ((a + scan (bs.drop a) : Nat) : Int) + 1 = ((a + scan (bs.drop a) + 1 : Nat) : Int) := by omega
        rw [← ec] at r2
        have b2 : Bu rd H (upd H1 rd (.ins CR dx (putF "at" (.int (((a + scan (bs.drop a) : Nat) : Int) + 1)) (rf q (a + scan (bs.drop a)))))) := b1.at
        show tSeq _ _ _ _ (upd H1 rd (.ins CR dx (putF "at" (.int (((a + scan (bs.drop a) : Nat) : Int) + 1)) (rf q (a + scan (bs.drop a))))))
        revert r2 b2
        generalize (upd H1 rd (.ins CR dx (putF "at" (.int (((a + scan (bs.drop a) : Nat) : Int) + 1)) (rf q (a + scan (bs.drop a)))))) = H2
        intro r2 b2
        have ea : atI (bs.map V.int) (((a + scan (bs.drop a) + 1 : Nat) : Int) - 1) = some (V.int b) := by
          rw [show (((a + scan (bs.drop a) + 1 : Nat) : Int) - 1) = ((a + scan (bs.drop a) : Nat) : Int) by omega]
          exact at_row eb
        refine ⟨_, rfl, rd, CR, dx, _, _, rfl, r2.at_, T.cl, T.nR, rfl, _, rfl, rd, CR, dx, _, _, rfl, r2.at_, T.cl, T.nA, rfl, _, _, rfl, rfl, q, _, _, _, rfl, rfl, SqT.of r2.row.at_, ea, rfl, _, rfl, ?_⟩
        refine ite2 (fun z => ?u1) (fun z => ?u2)
        case' u1 =>
          have z : b = 0 := V.int.inj (of_decide_eq_true z)
          refine ⟨_, rfl, rd, CR, dx, _, _, rfl, r2.at_, T.cl, T.nA, rfl, _, rfl, _, _, rfl, rfl, _, _, rfl, rfl, _, rfl, ?_⟩
          refine ite2 (fun z2 => ?u3) (fun z2 => ?u4)
          case' u3 =>
            have z2 : (1 : Int) < ((a + scan (bs.drop a) + 1 : Nat) : Int) - (a : Int) := of_decide_eq_true z2
            exact ⟨_, rfl, bad_raise fun d H' s1 e => k2 (by rw [wr, if_pos ⟨z, by omega⟩]) d H' (b2.st s1) e⟩
          case' u4 => have nb : ¬ (b = 0 ∧ 0 < scan (bs.drop a)) := fun y => z2 (decide_eq_true (by omega))
        case' u2 =>
          have nb : ¬ (b = 0 ∧ 0 < scan (bs.drop a)) := fun y => z (decide_eq_true (by rw [y.1]))
        all_goals
          rw [if_neg nb] at wr
          have lc : ((bs.map V.int).drop a).take (a + scan (bs.drop a) + 1 - a) = ((bs.drop a).take (scan (bs.drop a) + 1)).map V.int := by
            rw [← List.map_drop, ← List.map_take, show a + scan (bs.drop a) + 1 - a = scan (bs.drop a) + 1 by omega]
          refine ⟨_, rfl, rd, CR, dx, _, _, rfl, r2.at_, T.cl, T.nR, rfl, _, rfl, _, rfl, _, rfl, rd, CR, dx, _, _, rfl, r2.at_, T.cl, T.nA, rfl, _, rfl, q, _, rfl, r2.row.at_, fun y H3 s3 hy => ?_⟩
          rw [cut_nat _ (by omega) (by rw [List.length_map]; omega), lc] at hy
          refine ⟨y, _, rfl, .inr ⟨SqT.of hy, RT.for_ItvT (K := K) (a := y) (xs := ((bs.drop a).take (scan (bs.drop a) + 1)).map V.int) (fun j σ H' => ∃ x3, σ = [some (.ref rd), some (.int (a : Int)), some (.int (val (((bs.drop a).take (scan (bs.drop a) + 1)).drop (scan (bs.drop a) + 1 - j)))), x3] ∧ H' = H3) ?_ ?_ ?_ ?_⟩⟩
          · refine ⟨none, ?_, rfl⟩
            rw [Nat.sub_zero, List.drop_eq_nil_of_le (by rw [List.length_take]; omega)]
            rfl
          · rintro j σ H' ⟨x3, rfl, rfl⟩
            exact SqT.of hy
          · rintro j x σ H' hj hx ⟨x3, rfl, rfl⟩
            have ln : (((bs.drop a).take (scan (bs.drop a) + 1)).map V.int).length = scan (bs.drop a) + 1 := by
              rw [List.length_map, List.length_take, List.length_drop]
              omega
            rw [ln] at hj hx
            obtain ⟨b', hb', rfl⟩ := at_ints hx
            refine ⟨_, rfl, _, _, rfl, rfl, .inr ⟨by decide, by decide⟩, _, rfl, _, _, rfl, rfl, (by decide : (0 : Int) < 128), _, _, rfl, rfl, some (.int b'), ?_, rfl⟩
            have e1 : ((bs.drop a).take (scan (bs.drop a) + 1)).drop (scan (bs.drop a) + 1 - (j + 1)) = b' :: ((bs.drop a).take (scan (bs.drop a) + 1)).drop (scan (bs.drop a) + 1 - j) := by
              obtain ⟨l1, e1⟩ := List.getElem?_eq_some_iff.mp hb'
              rw [show scan (bs.drop a) + 1 - (j + 1) = scan (bs.drop a) + 1 - 1 - j by omega, List.drop_eq_getElem_cons l1, e1, show scan (bs.drop a) + 1 - 1 - j + 1 = scan (bs.drop a) + 1 - j by omega]
            rw [e1, val_cons]
            rfl
          · rintro σ H' ⟨x3, rfl, rfl⟩
            have ln : (((bs.drop a).take (scan (bs.drop a) + 1)).map V.int).length = scan (bs.drop a) + 1 := by
              rw [List.length_map, List.length_take, List.length_drop]
              omega
            rw [ln, Nat.sub_self, List.drop_zero]
            exact ⟨_, rfl, k1 _ _ _ wr (b2.st s3) (s3 _ _ r2.at_)⟩
end
end Q

namespace Q
open PySem L2 QR
theorem rdS_at {r : List Int} {m h : Nat} {acc : List Nat} {b : Int} (e : r[h]? = some b) : rdS r (m + 1) h acc = if isSg b = true then rdS r m (h + 1) (acc ++ [b.toNat]) else .no h := by
  rw [rdS, e]
theorem rdS_no {r : List Int} {m h : Nat} {acc : List Nat} (e : r[h]? = none) : rdS r (m + 1) h acc = .no h := by
  rw [rdS, e]
theorem lens1 : ∀ acc : List Nat, ((acc.map fun c => sOf [c]).map (·.length)).sum = acc.length
  | [] => rfl
  | c :: r => by
    rw [List.map_cons, List.map_cons, List.sum_cons, lens1 r, List.length_cons]
    show 1 + r.length = _
    omega
section
variable {P : Program} {w : World} {K : PySem.W.Frag} {mg : Str → Option Value} {base : Heap}
theorem scRS : FnScope ["self", "start", "many", "signs", "_", "number"] ["self"] (defScope sRS) := ⟨rfl, rfl, rfl, by decide +kernel, rfl, by decide +kernel, by decide +kernel⟩
theorem ok_rs {CR CB fB fS fG : Addr} {dB dS dG : FuncData} (T : RTxt K mg CR) (M : RDefs K CR) (B : Bts mg) (C : Cst mg) (BT : BTxt K mg CB fB dB) (DS : Df K mg "is_sign" sIsSg ["number"] fS dS) (DG : Df K mg "sign_of" sSgOf ["number"] fG dG) : FnOk P w K mg base (L2.CX P w) 4 M.fS M.dS ["self"] (spRS CB CR) := by
  have GI : FnOk P w K mg base CX0 1 fB dB ["self", "place"] (spPlace CB) := ok_place BT
  have GD : FnOk P w K mg base (L2.CX P w) 3 M.fD M.dD ["self"] (spDue CB CR) := ok_due T M B BT
  have GW : FnOk P w K mg base (L2.CX P w) 3 M.fW M.dW ["self"] (spRW CB CR) := ok_rw T M B BT
  have GS : FnOk P w K mg base CX0 1 fS dS ["number"] spIsSg := ok_issg DS C
  have GG : FnOk P w K mg base CX0 1 fG dG ["number"] spSgOf := ok_sgof DG C
  obtain ⟨t1, h1⟩ := C.signs
  refine M.FS.okX scRS (fun vs H Q E h => ?_) (fun cdv A outer s H vs Q E hr h => ?_)
  · obtain ⟨rd, dx, q, bs, a, rfl, _⟩ := h
    rfl
  · obtain ⟨rd, dx, q, bs, a, rfl, ri, k⟩ := h
    have nd := scRS.nd
    have hr1 : Room 1 _ := hr.mono (by decide)
    have hr2 : Room 2 _ := hr.mono (by decide)
    refine ⟨_, pss_cons (ps_set (i := 1) nd rfl (.inl rfl) (pe_fld (pv 0) rfl))
      (pss_cons (ps_set (i := 2) nd rfl (.inl rfl) (pe_meth0 (pv 0) T.cl M.mW GW hr M.bW .nil (passes_call (takes_of rfl rfl rfl rfl) fun _ _ _ _ h => h)))
      (pss_cons (ps_if (pt_not (pt_chain op_le op_le pe_int (pv 2) (pe_glob (v := .int 20) rfl h1 ⟨_, rfl⟩))) (pss_one (ps_raise rfl (takes_of rfl rfl rfl rfl) (pmk_oex BT.ox BT.iC BT.tI GI hr2 BT.b .nil pass0 rfl BT.g (pa_cons (pv 1) pa_nil)))) pss_nil)
      (pss_cons (ps_set (i := 3) nd rfl (.inl rfl) (pe_lst pa_nil))
      (pss_cons (ps_for (passes_of rfl) rfl (pi_range1 rfl B.range (pa_cons (pv 2) pa_nil)) (pg_name (i := 4) nd rfl (.inl rfl))
        (pss_cons (ps_set (i := 5) nd rfl (.inl rfl) (pe_meth0 (pv 0) T.cl M.mD GD hr M.bD .nil (passes_call (takes_of rfl rfl rfl rfl) fun _ _ _ _ h => h)))
        (pss_cons (ps_if (pt_not (pt_val (pe_call GS hr1 rfl DS.m DS.k DS.b .nil pass0 (pa_cons (pv 5) pa_nil)))) (pss_one (ps_raise rfl (takes_of rfl rfl rfl rfl) (pmk_oex BT.ox BT.iC BT.tI GI hr2 BT.b .nil pass0 rfl BT.g (pa_cons (pe_fld (pv 0) rfl) pa_nil)))) pss_nil)
        (pss_cons (ps_expr (pe_bm PySem.F.plainAttrs_list PySem.F.slot_list_append PySem.F.type_list_append mt_append (pv 3) (pa_cons (pe_call GG hr1 rfl DG.m DG.k DG.b .nil pass0 (pa_cons (pv 5) pa_nil)) pa_nil)))
        (pss_one (ps_fldaug (pv 0) pe_int in_add))))))
      (pss_one (ps_ret (pe_join pe_str (pv 3)))))))), ?_⟩
    refine ⟨_, rfl, rd, CR, dx, _, _, rfl, ri.at_, T.cl, T.nA, rfl, ?_⟩
    refine ⟨_, rfl, rd, dx, _, rfl, ri.at_, rfl, rd, dx, q, bs, a, rfl, ri, fun n h H1 wr b1 e1 => ?_, fun wr d H' b e => k.2 a d H' (by unfold strR; rw [wr]) b e⟩
    obtain ⟨n0, ah, hl⟩ := rdW_nn wr
    have r1 := ri.go b1 e1 hl
    have eR : strR bs a = if 1 ≤ n ∧ n ≤ 20 then rdS bs n.toNat h [] else .no a := by
      unfold strR
      rw [wr]
    refine ⟨_, rfl, _, _, rfl, rfl, _, rfl, ?_⟩
    by_cases c : 1 ≤ n ∧ n ≤ 20
    · rw [if_pos c] at eR
      refine ite2 (fun _ => ?_) (fun z => absurd (decide_eq_true c.1) z)
      refine ⟨_, _, rfl, rfl, _, rfl, ite2 (fun z => ?_) (fun _ => ?_)⟩
      · rw [decide_eq_true c.2] at z
        cases z
      refine ⟨Nat.zero_le _, fun l hl0 => ?_⟩
      have lrd : l ≠ rd := fun z => by rw [z, e1] at hl0; cases hl0
      have b2 : Bu rd H (upd H1 l (.lst [])) := b1.st (sN hl0)
      have r2 : RdIn CR (upd H1 l (.lst [])) rd dx q bs h := r1.go (Bu.of (sN hl0)) ((sN hl0) _ _ e1) hl
      have nl : H l = none := by
        cases e : H l with
        | none => rfl
        | some o =>
          have := b1 _ _ e lrd
          rw [this] at hl0
          cases hl0
      have upb : ∀ {H2 : Hp} {o : HO}, Bu rd H H2 → Bu rd H (upd H2 l o) := fun b x u e n => by
        rw [upd_ne (ne_of_none e nl)]
        exact b x u e n
      refine ⟨_, rfl, n, rfl, by omega, by omega, for_range (lo := 0) (n := n.toNat) (fun i σ H' => ∃ (x4 x5 : Option V) (acc : List Nat), σ = [some (.ref rd), some (.int (a : Int)), some (.int n), some (.ref l), x4, x5] ∧ RdIn CR H' rd dx q bs (h + i) ∧ Bu rd H H' ∧ H' l = some (.lst (acc.map fun c => V.str (sOf [c]))) ∧ acc.length = i ∧ i ≤ n.toNat ∧ rdS bs (n.toNat - i) (h + i) acc = strR bs a) ?_ ?_ ?_⟩
      · exact ⟨none, none, [], rfl, r2, b2, upd_same, rfl, Nat.zero_le _, eR.symm⟩
      · rintro i σ H3 hi ⟨x4, x5, acc, rfl, r3, b3, e3, la, il, tgt⟩
        refine ⟨_, rfl, rd, dx, _, rfl, r3.at_, rfl, rd, dx, q, bs, h + i, rfl, r3, fun b eb => ?_, fun eb d H' s e => ?_⟩
        · refine ⟨_, rfl, b, rfl, ?_⟩
          rw [show n.toNat - i = (n.toNat - (i + 1)) + 1 by omega, rdS_at eb] at tgt
          cases sg : isSg b with
          | false =>
            rw [sg, if_neg Bool.false_ne_true] at tgt
            refine ⟨_, rfl, iteT ?_⟩
            exact ⟨_, rfl, rd, CR, dx, _, _, rfl, r3.at_, T.cl, T.nA, rfl, bad_raise fun d H' s e => k.2 (h + i) d H' tgt.symm (b3.st s) e⟩
          | true =>
            rw [sg, if_pos rfl] at tgt
            have lt := (List.getElem?_eq_some_iff.mp eb).1
            refine ⟨_, rfl, iteF ?_⟩
            refine ⟨_, rfl, .inl ⟨rfl, _, SqL.of e3⟩, _, rfl, b, rfl, sg, l, _, _, rfl, rfl, e3, ?_, ?_⟩
            · rw [List.length_map, la]
              exact size_ok (by omega)
            · have r4 : RdIn CR (upd H3 l (.lst ((acc.map fun c => V.str (sOf [c])) ++ [.str (sOf [b.toNat])]))) rd dx q bs (h + i) := by
                refine ⟨?_, r3.row.tk fun c xs e => ?_, r3.le⟩
                · rw [upd_ne lrd.symm]
                  exact r3.at_
                · rw [upd_ne (ne_of e e3 (fun z => by cases z))]
                  exact e
              refine ⟨_, rfl, rd, CR, dx, _, _, rfl, r4.at_, T.cl, T.nA, rfl, _, _, rfl, rfl, dx, _, r4.at_, (by show 2 < 1000; decide), _, _, acc ++ [b.toNat], rfl, ?_, (upb b3).at, ?_, ?_, by omega, ?_⟩
              · have z := r4.put (c := h + (i + 1)) (by omega)
                have ec : ((h + i : Nat) : Int) + 1 = ((h + (i + 1) : Nat) : Int) := by omega
                rw [← ec] at z
                exact z
              · rw [upd_ne lrd, upd_same, List.map_append]
                rfl
              · rw [List.length_append, la]
                rfl
              · exact tgt
        · rw [show n.toNat - i = (n.toNat - (i + 1)) + 1 by omega, rdS_no eb] at tgt
          exact k.2 (h + i) d H' tgt.symm (b3.st s) e
      · rintro σ H3 ⟨x4, x5, acc, rfl, r3, b3, e3, la, il, tgt⟩
        rw [Nat.sub_self] at tgt
        have tgt : R.ok (.str acc) (h + n.toNat) = strR bs a := tgt
        have lens := lens1 acc
        refine ⟨⟨_, rfl⟩, _, rfl, SX.S [], l, acc.map fun c => sOf [c], rfl, rfl, .inl (SqL.of (by rw [e3, List.map_map]; rfl)), ?_, ?_⟩
        · rw [lens, la]
          show n.toNat + (acc.map fun c => sOf [c]).length * 0 ≤ _
          omega
        · rw [join_sOf]
          exact k.1 (.str acc) (h + n.toNat) _ H3 tgt.symm b3 r3.at_ ⟨rfl, by omega⟩
    · rw [if_neg c] at eR
      by_cases c1 : 1 ≤ n
      · refine ite2 (fun _ => ?_) (fun z => absurd (decide_eq_true c1) z)
        refine ⟨_, _, rfl, rfl, _, rfl, ite2 (fun z => ?_) (fun z => ?_)⟩
        · exact ⟨_, rfl, bad_raise fun d H' s e => k.2 a d H' eR (b1.st s) e⟩
        · rw [decide_eq_false (show ¬ n ≤ 20 by omega)] at z
          exact absurd rfl z
      · refine ite2 (fun z => absurd (of_decide_eq_true z) c1) (fun _ => ?_)
        refine ⟨_, rfl, iteT ?_⟩
        exact ⟨_, rfl, bad_raise fun d H' s e => k.2 a d H' eR (b1.st s) e⟩
theorem scRT : FnScope ["self", "deep", "many", "parts"] ["self", "deep"] (defScope sRT) := ⟨rfl, rfl, rfl, by decide +kernel, rfl, by decide +kernel, by decide +kernel⟩
theorem ok_rt {CR CB fB : Addr} {dB : FuncData} {d : Nat} (T : RTxt K mg CR) (M : RDefs K CR) (B : Bts mg) (BT : BTxt K mg CB fB dB) (GP : FnOk P w K mg base (L2.CX P w) (2 * d + 5) M.fP M.dP ["self", "deep"] (spRP CB CR d)) : FnOk P w K mg base (L2.CX P w) (2 * d + 6) M.fT M.dT ["self", "deep"] (spRT CB CR d) := by
  have GW : FnOk P w K mg base (L2.CX P w) 3 M.fW M.dW ["self"] (spRW CB CR) := ok_rw T M B BT
  refine M.FT.okX scRT (fun vs H Q E h => ?_) (fun cdv A outer s H vs Q E hr h => ?_)
  · obtain ⟨rd, dx, q, bs, a, rfl, _⟩ := h
    rfl
  · obtain ⟨rd, dx, q, bs, a, rfl, ri, k⟩ := h
    have nd := scRT.nd
    have hr3 : Room 3 _ := hr.mono (by omega)
    refine ⟨_, pss_cons (ps_set (i := 2) nd rfl (.inl rfl) (pe_meth0 (pv 0) T.cl M.mW GW hr3 M.bW .nil (passes_call (takes_of rfl rfl rfl rfl) fun _ _ _ _ h => h)))
      (pss_cons (ps_set (i := 3) nd rfl (.inl rfl) (pe_lst pa_nil))
      (pss_cons (ps_while (passes_of rfl) (pt_cmpR op_lt (pe_callB call_len_seq (by rfl) B.len PySem.boot_len (pa_cons (pv 3) pa_nil)) (pv 2) (nomark _))
        (pss_one (ps_expr (pe_bm PySem.F.plainAttrs_list PySem.F.slot_list_append PySem.F.type_list_append mt_append (pv 3) (pa_cons (pe_meth (pv 0) T.cl M.mP GP hr M.bP .nil (passes_call (takes_of rfl rfl rfl rfl) fun _ _ _ _ h => h) (pa_cons (pv 1) pa_nil)) pa_nil)))))
      (pss_one (ps_ret (pe_callTy call_tuple_of (by rfl) B.tuple PyProof.Rows.boot_tuple (pa_cons (pv 3) pa_nil)))))), ?_⟩
    refine ⟨_, rfl, rd, dx, _, rfl, ri.at_, rfl, rd, dx, q, bs, a, rfl, ri, fun n h H1 wr b1 e1 => ?_, fun wr d H' b e => k.2 a d H' (by unfold tupR; rw [wr]) b e⟩
    obtain ⟨n0, ah, hl⟩ := rdW_nn wr
    have r1 := ri.go b1 e1 hl
    have eR : tupR bs d a = rdL (rdP bs d) (bs.length + 1) n.toNat h [] := by
      unfold tupR
      rw [wr]
    refine ⟨Nat.zero_le _, fun l hl0 => ?_⟩
    have lrd : l ≠ rd := fun z => by rw [z, e1] at hl0; cases hl0
    have b2 : Bu rd H (upd H1 l (.lst [])) := b1.st (sN hl0)
    have r2 : RdIn CR (upd H1 l (.lst [])) rd dx q bs h := r1.go (Bu.of (sN hl0)) ((sN hl0) _ _ e1) hl
    have nl : H l = none := by
      cases e : H l with
      | none => rfl
      | some o =>
        have := b1 _ _ e lrd
        rw [this] at hl0
        cases hl0
    have upb : ∀ {H2 : Hp} {o : HO}, Bu rd H H2 → Bu rd H (upd H2 l o) := fun b x u e n => by
      rw [upd_ne (ne_of_none e nl)]
      exact b x u e n
    refine ⟨fun m σ H' => ∃ (h' fu : Nat) (ts : List QR.T) (xs : List V), σ = [some (.ref rd), some (.int (d : Int)), some (.int n), some (.ref l)] ∧ RdIn CR H' rd dx q bs h' ∧ Bu rd H H' ∧ H' l = some (.lst xs) ∧ xs.length = ts.length ∧ (∀ (i : Nat) (x : V) (t : QR.T), xs[i]? = some x → ts[i]? = some t → Rep H' d t x) ∧
      ts.length ≤ n.toNat ∧ ts.length ≤ h' ∧ bs.length + 1 ≤ fu + h' ∧ rdL (rdP bs d) fu (n.toNat - ts.length) h' ts = tupR bs d a ∧ m = bs.length - h', ⟨_, h, bs.length + 1, [], [], rfl, r2, b2, upd_same, rfl, fun i x t hx => by simp at hx, Nat.zero_le _, Nat.zero_le _, by omega, eR.symm, rfl⟩, ?_⟩
    rintro m σ H3 ⟨h', fu, ts, xs, rfl, r3, b3, e3, lx, reps, tn, th, fl, tgt, rfl⟩
    refine ⟨_, rfl, l, _, rfl, .inl (SqL.of e3), _, rfl, _, _, rfl, rfl, _, rfl, ite2 (fun c => ?_) (fun c => ?_)⟩
    · have c : ts.length < n.toNat := by
        have c : ((xs.length : Nat) : Int) < n := of_decide_eq_true c
        omega
      refine ⟨fun σ' H' => ∃ (h2 fu : Nat) (ts : List QR.T) (xs : List V), σ' = [some (.ref rd), some (.int (d : Int)), some (.int n), some (.ref l)] ∧ RdIn CR H' rd dx q bs h2 ∧ Bu rd H H' ∧ H' l = some (.lst xs) ∧ xs.length = ts.length ∧ (∀ (i : Nat) (x : V) (t : QR.T), xs[i]? = some x → ts[i]? = some t → Rep H' d t x) ∧
        ts.length ≤ n.toNat ∧ ts.length ≤ h2 ∧ bs.length + 1 ≤ fu + h2 ∧ rdL (rdP bs d) fu (n.toNat - ts.length) h2 ts = tupR bs d a ∧ h' < h2, fun σ' H' ⟨h2, fu, ts, xs, z1, z2, z3, z4, z5, z6, z7, z8, z9, z10, z11⟩ => ⟨bs.length - h2, by have := z2.le; omega, h2, fu, ts, xs, z1, z2, z3, z4, z5, z6, z7, z8, z9, z10, rfl⟩, ?_⟩
      have le3 := r3.le
      obtain ⟨fu, rfl⟩ : ∃ f0, fu = f0 + 1 := ⟨fu - 1, by omega⟩
      have un : rdL (rdP bs d) (fu + 1) (n.toNat - ts.length) h' ts = match rdP bs d h' with
        | .no p => .no p
        | .ok t h2 => rdL (rdP bs d) fu (n.toNat - (ts.length + 1)) h2 (ts ++ [t]) := by
        rw [show n.toNat - ts.length = (n.toNat - (ts.length + 1)) + 1 by omega]
        rfl
      rw [un] at tgt
      refine ⟨_, rfl, .inl ⟨rfl, _, SqL.of e3⟩, _, rfl, rd, dx, _, rfl, r3.at_, rfl, _, rfl, rd, dx, q, bs, h', rfl, r3, fun t h2 v H4 e4 b4 a4 rp => ?_, fun p dd H4 e4 b4 a4 => ?_⟩
      · obtain ⟨f1, f2⟩ := rdP_fwd d h' t h2 e4
        rw [e4] at tgt
        have l4 := b4 _ _ e3 lrd
        have tk4 := r3.tk b4
        refine ⟨l, _, _, rfl, rfl, l4, by rw [lx]; exact size_ok (by have := r3.row.few; omega), ?_⟩
        have tk5 : Tk H4 (upd H4 l (.lst (xs ++ [v]))) := fun c ys e => by
          rw [upd_ne (ne_of e l4 (fun z => by cases z))]
          exact e
        refine ⟨h2, fu, ts ++ [t], xs ++ [v], rfl, ⟨by rw [upd_ne lrd.symm]; exact a4, (r3.row.tk tk4).tk tk5, f2⟩, upb (b3.tr b4), upd_same, by rw [List.length_append, List.length_append, lx]; rfl, fun i x t' hx ht => ?_, by rw [List.length_append]; show _ + 1 ≤ _; omega, by rw [List.length_append]; show _ + 1 ≤ _; omega, by omega, by rw [List.length_append]; exact tgt, f1⟩
        by_cases hi : i < xs.length
        · rw [List.getElem?_append_left hi] at hx
          rw [List.getElem?_append_left (by omega)] at ht
          exact ((reps i x t' hx ht).tk tk4).tk tk5
        · rw [List.getElem?_append_right (by omega)] at hx
          rw [List.getElem?_append_right (by omega)] at ht
          have z1 : i - xs.length = 0 := by
            have := (List.getElem?_eq_some_iff.mp hx).1
            have : i - xs.length < 1 := this
            omega
          rw [z1] at hx
          rw [← lx, z1] at ht
          cases hx
          cases ht
          exact rp.tk tk5
      · rw [e4] at tgt
        exact k.2 p dd H4 tgt.symm (b3.tr b4) a4
    · have c : n.toNat - ts.length = 0 := by
        have c : ¬ ((xs.length : Nat) : Int) < n := fun z => c (decide_eq_true z)
        omega
      have tgt : R.ok (.tup ts) h' = tupR bs d a := by
        rw [c] at tgt
        rw [← tgt]
        cases fu <;> rfl
      refine ⟨_, rfl, l, _, rfl, .inl ⟨SqL.of e3, fun z hz => ?_⟩⟩
      have s4 := sN (o := .tup xs) hz
      refine k.1 (.tup ts) h' _ _ tgt.symm (b3.st s4) (s4 _ _ r3.at_) ⟨z, xs, rfl, upd_same, lx, ?_, fun i x t hx ht => (reps i x t hx ht).same s4⟩
      have := r3.row.few
      have := r3.le
      omega
theorem scRP : FnScope ["self", "deep", "sort"] ["self", "deep"] (defScope sRP) := ⟨rfl, rfl, rfl, by decide +kernel, rfl, by decide +kernel, by decide +kernel⟩
theorem ok_rp {CR CB fB fS fG : Addr} {dB dS dG : FuncData} (T : RTxt K mg CR) (M : RDefs K CR) (B : Bts mg) (C : Cst mg) (BA : Bare K mg) (BT : BTxt K mg CB fB dB) (DS : Df K mg "is_sign" sIsSg ["number"] fS dS) (DG : Df K mg "sign_of" sSgOf ["number"] fG dG) : ∀ d, FnOk P w K mg base (L2.CX P w) (2 * d + 5) M.fP M.dP ["self", "deep"] (spRP CB CR d) := by
  have GI : FnOk P w K mg base CX0 1 fB dB ["self", "place"] (spPlace CB) := ok_place BT
  have GD : FnOk P w K mg base (L2.CX P w) 3 M.fD M.dD ["self"] (spDue CB CR) := ok_due T M B BT
  have GW : FnOk P w K mg base (L2.CX P w) 3 M.fW M.dW ["self"] (spRW CB CR) := ok_rw T M B BT
  have GS : FnOk P w K mg base (L2.CX P w) 4 M.fS M.dS ["self"] (spRS CB CR) := ok_rs T M B C BT DS DG
  obtain ⟨t3, h3⟩ := C.from0
  obtain ⟨t4, h4⟩ := C.below
  obtain ⟨t5, h5⟩ := C.strg
  obtain ⟨t6, h6⟩ := C.tupl
  obtain ⟨aB, hB, kB, oB, lB, cB, dB0⟩ := BA.ex
  have main : ∀ d, FnOk P w K mg base (L2.CX P w) (2 * d + 4) M.fT M.dT ["self", "deep"] (fun vs H Q E => 0 < d ∧ spRT CB CR (d - 1) vs H Q E) → FnOk P w K mg base (L2.CX P w) (2 * d + 5) M.fP M.dP ["self", "deep"] (spRP CB CR d) := by
    intro d GT
    refine M.FP.okX scRP (fun vs H Q E h => ?_) (fun cdv A outer s H vs Q E hr h => ?_)
    · obtain ⟨rd, dx, q, bs, a, rfl, _⟩ := h
      rfl
    · obtain ⟨rd, dx, q, bs, a, rfl, ri, k⟩ := h
      have nd := scRP.nd
      have hr2 : Room 2 _ := hr.mono (by omega)
      have hr3 : Room 3 _ := hr.mono (by omega)
      have hr4 : Room 4 _ := hr.mono (by omega)
      refine ⟨_, pss_cons (ps_set (i := 2) nd rfl (.inl rfl) (pe_meth0 (pv 0) T.cl M.mD GD hr3 M.bD .nil (passes_call (takes_of rfl rfl rfl rfl) fun _ _ _ _ h => h)))
        (pss_cons (ps_if (PW.pt (pw_or (pt_cmpR op_gt (pv 2) (pe_glob (v := .int 6) rfl h6 ⟨_, rfl⟩) (nomark _)) (pw_or1 (PW.pt (pw_and (pt_cmpR op_eq (pv 2) (pe_glob (v := .int 6) rfl h6 ⟨_, rfl⟩) (nomark _)) (pw_and1 (pt_cmpR op_eq (pv 1) pe_int (nomark _)))))))) (pss_one (ps_raise rfl (takes_of rfl rfl rfl rfl) (pmk_oex BT.ox BT.iC BT.tI GI hr2 BT.b .nil pass0 rfl BT.g (pa_cons (pe_fld (pv 0) rfl) pa_nil)))) pss_nil)
        (pss_cons (ps_fldaug (pv 0) pe_int in_add)
        (pss_cons (ps_if (pt_cmpR op_eq (pv 2) (pe_glob (v := .int 3) rfl h3 ⟨_, rfl⟩) (nomark _)) (pss_one (ps_ret (pe_meth0 (pv 0) T.cl M.mW GW hr3 M.bW .nil (passes_call (takes_of rfl rfl rfl rfl) fun _ _ _ _ h => h)))) pss_nil)
        (pss_cons (ps_if (pt_cmpR op_eq (pv 2) (pe_glob (v := .int 4) rfl h4 ⟨_, rfl⟩) (nomark _)) (pss_one (ps_ret (pe_op op_sub (pe_un un_neg pe_int) (pe_meth0 (pv 0) T.cl M.mW GW hr3 M.bW .nil (passes_call (takes_of rfl rfl rfl rfl) fun _ _ _ _ h => h))))) pss_nil)
        (pss_cons (ps_if (pt_cmpR op_eq (pv 2) (pe_glob (v := .int 5) rfl h5 ⟨_, rfl⟩) (nomark _)) (pss_one (ps_ret (pe_meth0 (pv 0) T.cl M.mS GS hr4 M.bS .nil (passes_call (takes_of rfl rfl rfl rfl) fun _ _ _ _ h => h)))) pss_nil)
        (pss_cons (ps_if (pt_cmpR op_eq (pv 2) (pe_glob (v := .int 6) rfl h6 ⟨_, rfl⟩) (nomark _)) (pss_one (ps_ret (pe_meth (pv 0) T.cl M.mT GT hr M.bT .nil (passes_call (takes_of rfl rfl rfl rfl) fun _ _ _ _ h => h) (pa_cons (pe_op op_sub (pv 1) pe_int) pa_nil)))) pss_nil)
        (pss_one (ps_ret (pe_ix ix_tup (pe_glob (v := .ref aB) rfl hB rfl) (pv 2) (fun _ _ => rfl)))))))))), ?_⟩
      have eP : ∃ g : Nat → Nat → R, rdP bs d a = rdG bs g (decide (d = 0)) a ∧ (0 < d → ∀ n h, g n h = rdL (rdP bs (d - 1)) (bs.length + 1) n h []) := by
        cases d with
        | zero => exact ⟨_, rfl, fun z => absurd z (by decide)⟩
        | succ d => exact ⟨_, rfl, fun _ n h => rfl⟩
      obtain ⟨g, eP, eg⟩ := eP
      rw [eP] at k
      refine ⟨_, rfl, rd, dx, _, rfl, ri.at_, rfl, rd, dx, q, bs, a, rfl, ri, fun b eb => ?_, fun eb dd H' s1 e => k.2 a dd H' (by unfold rdG; rw [eb]) (Bu.of s1) e⟩
      have lt := (List.getElem?_eq_some_iff.mp eb).1
      obtain ⟨b0, b256⟩ := ri.row.b b (List.mem_of_getElem? eb)
      have eG : rdG bs g (decide (d = 0)) a = if 6 < b ∨ (b = 6 ∧ decide (d = 0) = true) then .no a else if b = 0 then .ok .non (a + 1) else if b = 1 then .ok (.bl false) (a + 1) else if b = 2 then .ok (.bl true) (a + 1) else rdB bs g b a := by
        unfold rdG
        rw [eb]
      rw [eG] at k
      have dint : ∀ i j : Int, decide (V.int i = V.int j) = decide (i = j) := fun i j => by
        by_cases c : i = j
        · rw [c, decide_eq_true rfl, decide_eq_true rfl]
        · rw [decide_eq_false c, decide_eq_false fun z => c (V.int.inj z)]
      -- what is refused
      have bad : (6 < b ∨ (b = 6 ∧ decide (d = 0) = true)) → ∀ dd H', Same H H' → H' dd = some (xdB (a : Int)) → E (.ref CB) (some dd) H' := fun c dd H' s e => k.2 a dd H' (if_pos c) (Bu.of s) e
      refine ⟨_, rfl, _, _, rfl, rfl, _, rfl, ?_⟩
      refine ite2 (fun c => ?_) (fun c => ?_)
      · exact ⟨_, rfl, rd, CR, dx, _, _, rfl, ri.at_, T.cl, T.nA, rfl, bad_raise fun dd H' s e => bad (.inl (of_decide_eq_true c)) dd H' s e⟩
      have c6 : ¬ 6 < b := fun z => c (decide_eq_true z)
      clear c
      refine ⟨_, rfl, rfl, _, rfl, ?_⟩
      rw [dint]
      refine ite2 (fun c => ?v1) (fun c => ?v2)
      case' v1 =>
        refine ⟨_, rfl, rfl, _, rfl, ?_⟩
        rw [dint]
        refine ite2 (fun c2 => ?v3) (fun c2 => ?v4)
        case' v3 =>
          have c2 : (d : Int) = 0 := of_decide_eq_true c2
          exact ⟨_, rfl, rd, CR, dx, _, _, rfl, ri.at_, T.cl, T.nA, rfl, bad_raise fun dd H' s e => bad (.inr ⟨of_decide_eq_true c, decide_eq_true (by omega)⟩) dd H' s e⟩
        case' v4 => have ok6 : ¬ (b = 6 ∧ decide (d = 0) = true) := fun y => c2 (decide_eq_true (by have := of_decide_eq_true y.2; omega))
      case' v2 => have ok6 : ¬ (b = 6 ∧ decide (d = 0) = true) := fun y => c (decide_eq_true y.1)
      all_goals
        rw [if_neg (show ¬ (6 < b ∨ (b = 6 ∧ decide (d = 0) = true)) from fun y => y.elim c6 ok6)] at k
        refine ⟨_, rfl, rd, CR, dx, _, _, rfl, ri.at_, T.cl, T.nA, rfl, _, _, rfl, rfl, dx, _, ri.at_, (by show 2 < 1000; decide), ?_⟩
        have r20 := ri.put (c := a + 1) (by omega)
        have b2 : Bu rd H (upd H rd (.ins CR dx (putF "at" (.int ((a : Int) + 1)) (rf q a)))) := Bu.rf.at
        show tSeq _ _ _ _ (upd H rd (.ins CR dx (putF "at" (.int ((a : Int) + 1)) (rf q a))))
        have r2 : RdIn CR (upd H rd (.ins CR dx (putF "at" (.int ((a : Int) + 1)) (rf q a)))) rd dx q bs (a + 1) := r20
        clear r20
        revert b2 r2
        generalize (upd H rd (.ins CR dx (putF "at" (.int ((a : Int) + 1)) (rf q a)))) = H2
        intro b2 r2
        have k' := k.from b2
        refine ⟨_, rfl, rfl, _, rfl, ?_⟩
        rw [dint]
        refine ite2 (fun y => ?_) (fun y3 => ?_)
        · obtain rfl : b = 3 := of_decide_eq_true y
          have eB : rdB bs g 3 a = match rdW bs (a + 1) with
            | none => .no (a + 1)
            | some (n, h) => .ok (.int n) h := by
            unfold rdB
            cases rdW bs (a + 1) <;> rfl
          refine ⟨_, rfl, rd, dx, _, rfl, r2.at_, rfl, rd, dx, q, bs, a + 1, rfl, r2, fun n h H3 wr b3 e3 => k'.1 (.int n) h _ H3 (by show rdB bs g 3 a = _; rw [eB, wr]) b3 e3 (Rep.atom (t := .int n) (v := .int n) rfl), fun wr dd H3 b3 e3 => k'.2 (a + 1) dd H3 (by show rdB bs g 3 a = _; rw [eB, wr]) b3 e3⟩
        refine ⟨_, rfl, rfl, _, rfl, ?_⟩
        rw [dint]
        refine ite2 (fun y => ?_) (fun y4 => ?_)
        · obtain rfl : b = 4 := of_decide_eq_true y
          have eB : rdB bs g 4 a = match rdW bs (a + 1) with
            | none => .no (a + 1)
            | some (n, h) => .ok (.int (-1 - n)) h := by
            unfold rdB
            cases rdW bs (a + 1) <;> rfl
          refine ⟨_, rfl, _, rfl, rd, dx, _, rfl, r2.at_, rfl, rd, dx, q, bs, a + 1, rfl, r2, fun n h H3 wr b3 e3 => ⟨_, _, rfl, rfl, k'.1 (.int (-1 - n)) h _ H3 (by show rdB bs g 4 a = _; rw [eB, wr]) b3 e3 (Rep.atom (t := .int (-1 - n)) (v := .int (-1 - n)) rfl)⟩, fun wr dd H3 b3 e3 => k'.2 (a + 1) dd H3 (by show rdB bs g 4 a = _; rw [eB, wr]) b3 e3⟩
        refine ⟨_, rfl, rfl, _, rfl, ?_⟩
        rw [dint]
        refine ite2 (fun y => ?_) (fun y5 => ?_)
        · obtain rfl : b = 5 := of_decide_eq_true y
          have eB : rdB bs g 5 a = strR bs (a + 1) := by
            unfold rdB strR
            cases rdW bs (a + 1) <;> rfl
          refine ⟨_, rfl, rd, dx, _, rfl, r2.at_, rfl, rd, dx, q, bs, a + 1, rfl, r2, fun t h v H3 e b3 e3 rp => k'.1 t h v H3 (by show rdB bs g 5 a = _; rw [eB, e]) b3 e3 (.atom ?_), fun p dd H3 e b3 e3 => k'.2 p dd H3 (by show rdB bs g 5 a = _; rw [eB, e]) b3 e3⟩
          exact rp
        refine ⟨_, rfl, rfl, _, rfl, ?_⟩
        rw [dint]
        refine ite2 (fun y => ?_) (fun y6 => ?_)
        · obtain rfl : b = 6 := of_decide_eq_true y
          have d0 : 0 < d := by
            refine Nat.pos_of_ne_zero fun z => ok6 ⟨rfl, decide_eq_true z⟩
          have eB : rdB bs g 6 a = tupR bs (d - 1) (a + 1) := by
            unfold rdB tupR
            cases rdW bs (a + 1) with
            | none => rfl
            | some p => exact eg d0 _ _
          refine ⟨_, rfl, rd, dx, _, rfl, r2.at_, rfl, _, rfl, _, _, rfl, rfl, d0, rd, dx, q, bs, a + 1, ?_, r2, fun t h v H3 e b3 e3 rp => k'.1 t h v H3 (by show rdB bs g 6 a = _; rw [eB, e]) b3 e3 ?_, fun p dd H3 e b3 e3 => k'.2 p dd H3 (by show rdB bs g 6 a = _; rw [eB, e]) b3 e3⟩
          · show [V.ref rd, V.int ((d : Int) - 1)] = _
            rw [show ((d : Int) - 1) = ((d - 1 : Nat) : Int) by omega]
          · rw [show d - 1 + 1 = d by omega] at rp
            exact rp
        have n3 : b ≠ 3 := fun z => y3 (decide_eq_true z)
        have n4 : b ≠ 4 := fun z => y4 (decide_eq_true z)
        have n5 : b ≠ 5 := fun z => y5 (decide_eq_true z)
        have n6 : b ≠ 6 := fun z => y6 (decide_eq_true z)
        rcases (show b = 0 ∨ b = 1 ∨ b = 2 by omega) with rfl | rfl | rfl
        · exact ⟨_, rfl, aB, _, 0, .non, rfl, rfl, kB.sq _, atI_nat (j := 0) rfl, k'.1 .non (a + 1) _ _ rfl .rf r2.at_ (Rep.atom (t := .non) (v := .non) rfl)⟩
        · exact ⟨_, rfl, aB, _, 1, .bl false, rfl, rfl, kB.sq _, atI_nat (j := 1) rfl, k'.1 (.bl false) (a + 1) _ _ rfl .rf r2.at_ (Rep.atom (t := .bl false) (v := .bl false) rfl)⟩
        · exact ⟨_, rfl, aB, _, 2, .bl true, rfl, rfl, kB.sq _, atI_nat (j := 2) rfl, k'.1 (.bl true) (a + 1) _ _ rfl .rf r2.at_ (Rep.atom (t := .bl true) (v := .bl true) rfl)⟩
  intro d
  induction d with
  | zero => exact main 0 ⟨fun vs H Q E h => absurd h.1 (by decide), fun A outer s H args us vs Q E hr e0 hb r h => absurd h.1 (by decide)⟩
  | succ d ih => exact main (d + 1) ((ok_rt T M B BT ih).imp fun vs H Q E h => h.2)
end
end Q

namespace Q
open PySem L2 QR
abbrev sRAll : Stmt := top 32
abbrev sUns : Stmt := top 35
theorem lay_ints : ∀ l : List Int, PyData.canLayAll0 (l.map PyData.int) = true
  | [] => by simp [PyData.canLayAll0]
  | a :: r => by
    have ih := lay_ints r
    simp only [List.map_cons, PyData.canLayAll0, PyData.canLay0, ih, Bool.and_self]
theorem eqv_ints : ∀ x y : List Int, PyData.eqvAll (x.map PyData.int) (y.map PyData.int) = decide (x = y)
  | [], [] => by simp [PyData.eqvAll]
  | [], _ :: _ => by simp [PyData.eqvAll]
  | _ :: _, [] => by simp [PyData.eqvAll]
  | a :: x, b :: y => by
    have ih := eqv_ints x y
    simp only [List.map_cons, PyData.eqvAll, PyData.eqv, ih]
    by_cases c : a = b
    · subst c
      simp
    · simp [c]
theorem dp_ints {K : PySem.W.Frag} {H : Hp} : ∀ l : List Int, DpAll K H (l.map V.int) (l.map PyData.int)
  | [] => .nil
  | a :: r => .cons (.int a) (dp_ints r)
theorem depth_ints : ∀ l : List Int, PyData.depthAll (l.map PyData.int) = 0
  | [] => by simp [PyData.depthAll]
  | a :: r => by
    have ih := depth_ints r
    rw [List.map_cons]
    simp only [PyData.depthAll, PyData.depth, ih]
    rfl
theorem shaped_ints (l : List Int) : SeqAt.shaped (.tuple (l.map PyData.int)) = true := by
  unfold SeqAt.shaped
  have h := depth_ints l
  refine Bool.and_eq_true_iff.mpr ⟨?_, decide_eq_true ?_⟩
  · simp only [PyData.canLay0, lay_ints]
  · simp only [PyData.depth, h]
    decide
/-- t == u, t != u: tuples of whole numbers -/
def rEqI (f : Bool → Bool) : R2 := fun x y H Q => ∃ (a b : Addr) (ns ms : List Int), x = .ref a ∧ y = .ref b ∧ H a = some (.tup (ns.map V.int)) ∧ H b = some (.tup (ms.map V.int)) ∧ Q (.bl (f (decide (ns = ms)))) H
theorem op_neI {X : Cx} (hu : X.A.units + 64 < cLine) : OpR X (compareOp .NotEq) (rEqI fun b => !b) := by
  intro pins s σ H x y v u Q I rx ry h
  obtain ⟨a, b, ns, ms, rfl, rfl, ha, hb, k⟩ := h
  refine op_neD hu pins s σ H _ _ v u Q I rx ry ⟨_, _, .tup (SqT.of ha) (dp_ints ns), .tup (SqT.of hb) (dp_ints ms), shaped_ints ns, shaped_ints ms, ?_⟩
  simp only [PyData.eqv, eqv_ints]
  exact k
theorem op_eqI {X : Cx} (hu : X.A.units + 64 < cLine) : OpR X (compareOp .Eq) (rEqI fun b => b) := by
  intro pins s σ H x y v u Q I rx ry h
  obtain ⟨a, b, ns, ms, rfl, rfl, ha, hb, k⟩ := h
  refine op_eqD hu pins s σ H _ _ v u Q I rx ry ⟨_, _, .tup (SqT.of ha) (dp_ints ns), .tup (SqT.of hb) (dp_ints ms), shaped_ints ns, shaped_ints ms, ?_⟩
  simp only [PyData.eqv, eqv_ints]
  exact k
theorem cut_h4 (xs : List V) : cutV xs none (some (-4)) = xs.take (xs.length - 4) := by
  have e : HT.sIx xs.length xs.length (some (-4)) = xs.length - 4 := by
    show (if (-4 : Int) < 0 then ((-4 : Int) + (xs.length : Int)).toNat else min (-4 : Int).toNat xs.length) = _
    rw [if_pos (by decide)]
    omega
  unfold cutV
  rw [HT.sIx_none, e, List.drop_zero, Nat.sub_zero]
theorem cut_t4 (xs : List V) : cutV xs (some (-4)) none = xs.drop (xs.length - 4) := by
  have e : HT.sIx xs.length 0 (some (-4)) = xs.length - 4 := by
    show (if (-4 : Int) < 0 then ((-4 : Int) + (xs.length : Int)).toNat else min (-4 : Int).toNat xs.length) = _
    rw [if_pos (by decide)]
    omega
  unfold cutV
  rw [HT.sIx_none, e, List.take_of_length_le (by rw [List.length_drop]; omega)]
theorem RowAt.sub {H : Hp} {q : Addr} {bs cs : List Int} (h : ∀ b ∈ bs, 0 ≤ b ∧ b < 256) (l : bs.length ≤ 9000) (e : H q = some (.tup (cs.map V.int))) (s : ∀ b ∈ cs, b ∈ bs) (k : cs.length ≤ bs.length) : RowAt H q cs := ⟨e, fun b hb => h b (s b hb), by omega⟩
def spRAll (CB : Addr) : Sp := fun vs H Q E => ∃ (q : Addr) (bs : List Int), vs = [.ref q] ∧ RowAt H q bs ∧ (∀ t h v H', rdAll bs = .ok t h → Same H H' → Rep H' 20 t v → Q v H') ∧ ∀ p d H', rdAll bs = .no p → Same H H' → H' d = some (xdB (p : Int)) → E (.ref CB) (some d) H'
/-- what unsealed is asked of -/
def UnsIn (K : PySem.W.Frag) (H : Hp) (v : V) (t : T) : Prop := (∃ q bs, v = .ref q ∧ RowAt H q bs ∧ t = unsT bs) ∨ (∃ q xs, v = .ref q ∧ H q = some (.tup xs) ∧ xs.length ≤ 9000 ∧ (∀ x ∈ xs, Sc x) ∧ xs.all isB = false ∧ t = .tup []) ∨
  (∃ ty, TyX K H v ty ∧ PySem.W.kitOne K ty (.type "tuple") = some false ∧ t = .tup [])
def spUns (K : PySem.W.Frag) : Sp := fun vs H Q _ => ∃ (v : V) (t : T), vs = [v] ∧ UnsIn K H v t ∧ ∀ u H', Same H H' → Rep H' 22 t u → Q u H'
theorem rep_nil {H : Hp} {a : Addr} {d : Nat} (h : H a = some (.tup [])) : Rep H (d + 1) (.tup []) (.ref a) := ⟨a, [], rfl, h, rfl, Nat.zero_le _, fun i x t hx => by simp at hx⟩
theorem rep_one {H : Hp} {a : Addr} {d : Nat} {t : T} {v : V} (h : H a = some (.tup [v])) (r : Rep H d t v) : Rep H (d + 1) (.tup [t]) (.ref a) := ⟨a, [v], rfl, h, rfl, (by show 1 ≤ 9000; decide), fun i x t' hx ht => by
  cases i with
  | zero =>
    cases hx
    cases ht
    exact r
  | succ i => simp at hx⟩
section
variable {P : Program} {w : World} {K : PySem.W.Frag} {mg : Str → Option Value} {base : Heap}
theorem scRAll : FnScope ["row", "reader", "parcel"] ["row"] (defScope sRAll) := ⟨rfl, rfl, rfl, by decide +kernel, rfl, by decide +kernel, by decide +kernel⟩
theorem ok_rall {f CR CB fB fS fG : Addr} {fd dB dS dG : FuncData} (D : Df K mg "read_whole_row" sRAll ["row"] f fd) (T : RTxt K mg CR) (M : RDefs K CR) (B : Bts mg) (C : Cst mg) (BA : Bare K mg) (BT : BTxt K mg CB fB dB) (DS : Df K mg "is_sign" sIsSg ["number"] fS dS) (DG : Df K mg "sign_of" sSgOf ["number"] fG dG) : FnOk P w K mg base (L2.CX P w) 46 f fd ["row"] (spRAll CB) := by
  have GI : FnOk P w K mg base CX0 1 fB dB ["self", "place"] (spPlace CB) := ok_place BT
  have GN : FnOk P w K mg base CX0 1 M.fI M.dI ["self", "row"] (spRInit CR) := ok_rinit T M
  have GP : FnOk P w K mg base (L2.CX P w) 45 M.fP M.dP ["self", "deep"] (spRP CB CR 20) := ok_rp T M B C BA BT DS DG 20
  obtain ⟨t1, h1⟩ := C.deep
  refine D.F.okX scRAll (fun vs H Q E h => ?_) (fun cdv A outer s H vs Q E hr h => ?_)
  · obtain ⟨q, bs, rfl, _⟩ := h
    rfl
  · obtain ⟨q, bs, rfl, hq, k1, k2⟩ := h
    have nd := scRAll.nd
    have hr2 : Room 2 _ := hr.mono (by decide)
    refine ⟨_, pss_cons (ps_set (i := 1) nd rfl (.inl rfl) (pe_make M.mM GN hr2 rfl T.mgC M.bI .nil pass0 (pa_cons (pv 0) pa_nil)))
      (pss_cons (ps_set (i := 2) nd rfl (.inl rfl) (pe_meth (pv 1) T.cl M.mP GP hr M.bP .nil (passes_call (takes_of rfl rfl rfl rfl) fun _ _ _ _ h => h) (pa_cons (pe_glob (v := .int 20) rfl h1 ⟨_, rfl⟩) pa_nil)))
      (pss_cons (ps_if (pt_cmpR op_lt (pe_fld (pv 1) rfl) (pe_callB call_len_seq (by rfl) B.len PySem.boot_len (pa_cons (pv 0) pa_nil)) (nomark _)) (pss_one (ps_raise rfl (takes_of rfl rfl rfl rfl) (pmk_oex BT.ox BT.iC BT.tI GI hr2 BT.b .nil pass0 rfl BT.g (pa_cons (pe_fld (pv 1) rfl) pa_nil)))) pss_nil)
      (pss_one (ps_ret (pv 2))))), ?_⟩
    refine ⟨_, rfl, fun rd dx nr ndx nex => ?_⟩
    have s0 : Same H (upd (upd H dx (.own rd)) rd (.ins CR dx [])) := sNew (sNew sR ndx) nr
    refine ⟨rd, dx, q, rfl, upd_same, fun H1 b1 e1 => ⟨rfl, ?_⟩⟩
    have s1 : Same H H1 := fun b o e => b1 b o (s0 b o e) (ne_of_none e nr)
    have ri : RdIn CR H1 rd dx q bs 0 := ⟨e1, hq.same s1, Nat.zero_le _⟩
    refine ⟨_, rfl, rd, dx, _, rfl, e1, rfl, rd, dx, q, bs, 0, rfl, ri, fun t h v H2 e b2 e2 rp => ?_, fun p d H2 e b2 e2 => ?_⟩
    · obtain ⟨f1, f2⟩ := rdP_fwd 20 0 t h e
      have s2 : Same H H2 := fun b o e => b2 b o (s1 b o e) (ne_of_none e nr)
      refine ⟨_, rfl, rd, CR, dx, _, _, rfl, e2, T.cl, T.nA, rfl, _, rfl, q, _, rfl, .inr (SqT.of (s2 _ _ hq.at_)), _, _, rfl, rfl, _, rfl, ?_⟩
      rw [List.length_map]
      have eA : rdAll bs = if h = bs.length then .ok t h else .no h := by
        unfold rdAll
        rw [e]
      refine ite2 (fun c => ?_) (fun c => ?_)
      · have c : (h : Int) < (bs.length : Int) := of_decide_eq_true c
        rw [if_neg (by omega)] at eA
        exact ⟨_, rfl, rd, CR, dx, _, _, rfl, e2, T.cl, T.nA, rfl, bad_raise fun d H' s e => k2 h d H' eA (sT s2 s) e⟩
      · have c : ¬ (h : Int) < (bs.length : Int) := fun z => c (decide_eq_true z)
        rw [if_pos (by omega)] at eA
        exact ⟨_, rfl, k1 t h v H2 eA s2 rp⟩
    · have s2 : Same H H2 := fun b o e => b2 b o (s1 b o e) (ne_of_none e nr)
      refine k2 p d H2 ?_ s2 e2
      unfold rdAll
      rw [e]
theorem scUns : FnScope ["row", "inner"] ["row"] (defScope sUns) := ⟨rfl, rfl, rfl, by decide +kernel, rfl, by decide +kernel, by decide +kernel⟩
theorem ok_uns {f CB fB fR fS fM fA : Addr} {fd dB dR dS dM dA : FuncData} (D : Df K mg "unsealed" sUns ["row"] f fd) (B : Bts mg) (C : Cst mg) (BT : BTxt K mg CB fB dB) (DR : Df K mg "is_row" sIsRow ["thing"] fR dR) (GR : FnOk P w K mg base CX0 3 fR dR ["thing"] (spIsRow K)) (DS : Df K mg "seal_of" sSeal ["row"] fS dS) (DM : Df K mg "mark_of" sMkOf ["row"] fM dM)
    (DA : Df K mg "read_whole_row" sRAll ["row"] fA dA) (GA : FnOk P w K mg base (L2.CX P w) 46 fA dA ["row"] (spRAll CB)) : FnOk P w K mg base CX0 47 f fd ["row"] (spUns K) := by
  have GS : FnOk P w K mg base CX0 2 fS dS ["row"] spSeal := ok_seal DS B C DM
  obtain ⟨t1, h1⟩ := C.slen
  refine D.F.ok scUns (fun vs H Q E h => ?_) (fun cdv A outer s H vs Q E hr h => ?_)
  · obtain ⟨v, t, rfl, _⟩ := h
    rfl
  · obtain ⟨v, t, rfl, hin, k⟩ := h
    have nd := scUns.nd
    have hr2 : Room 2 _ := hr.mono (by decide)
    have hr3 : Room 3 _ := hr.mono (by decide)
    have hu := hr.units
    refine ⟨_, pss_cons (ps_if (pt_not (pt_val (pe_call GR hr3 rfl DR.m DR.k DR.b .nil pass0 (pa_cons (pv 0) pa_nil)))) (pss_one (ps_ret (pe_tup pa_nil))) pss_nil)
      (pss_cons (ps_set (i := 1) nd rfl (.inl rfl) (pe_slice sl_X (pv 0) po_none (po_some (pe_un un_neg (pe_glob (v := .int 4) rfl h1 ⟨_, rfl⟩)))))
      (pss_cons (ps_if (pt_cmpR (op_neI hu) (pe_slice sl_X (pv 0) (po_some (pe_un un_neg (pe_glob (v := .int 4) rfl h1 ⟨_, rfl⟩))) po_none) (pe_call GS hr2 rfl DS.m DS.k DS.b .nil pass0 (pa_cons (pv 1) pa_nil)) (nomark _)) (pss_one (ps_ret (pe_tup pa_nil))) pss_nil)
      (pss_one (ps_try_only (tb := fun W => tRet (tTup (tCons (tCallS (spRAll CB) (WE W) (tCons (tVar 1) tNil)) tNil))) (ts := fun a cls d => tRet (tTup tNil)) rfl rfl ⟨rfl, by decide, .inl BT.g⟩ takes0
        (fun W pn xe tk _ => pss_one (ps_ret (pe_tup (pa_cons (by exact (pe_callS GA hr rfl DA.m DA.k DA.b (fun σ => passAt tk σ) (by exact (pa_cons (pv 1) pa_nil)))) pa_nil)))) (fun a oe cls d pn _ _ => pss_one (ps_ret (pe_tup pa_nil))))))), ?_⟩
    have none : ∀ {H'}, Same H H' → t = .tup [] → ∀ a, H' a = Option.none → Q (.ref a) (upd H' a (.tup [])) := fun s e a ha => k _ _ (sT s (sN ha)) (by rw [e]; exact rep_nil upd_same)
    rcases hin with ⟨q, bs, rfl, hq, rfl⟩ | ⟨q, xs, rfl, hq, few, sc, nb, et⟩ | ⟨ty, ht, kt, et⟩
    · refine ⟨_, rfl, .ref q, rfl, .inl ⟨q, _, rfl, hq.at_, by rw [List.length_map]; exact hq.few, sc_ints bs, fun H1 s1 => ?_⟩⟩
      rw [all_isB hq.b]
      refine ⟨_, rfl, iteF ?_⟩
      refine ⟨_, rfl, _, rfl, _, rfl, q, _, rfl, s1 _ _ hq.at_, fun z H2 s2 hz => ?_⟩
      rw [cut_h4, List.length_map, ← List.map_take] at hz
      have s02 := sT s1 s2
      refine ⟨_, rfl, _, rfl, _, rfl, q, _, rfl, s02 _ _ hq.at_, fun y H3 s3 hy => ?_⟩
      rw [cut_t4, List.length_map, ← List.map_drop] at hy
      refine ⟨_, rfl, z, _, rfl, s3 _ _ hz, fun u H4 s4 hu4 => ?_⟩
      have s04 := sT s02 (sT s3 s4)
      refine ⟨y, u, _, _, rfl, rfl, s4 _ _ hy, hu4, _, rfl, ?_⟩
      have hz4 := s4 _ _ (s3 _ _ hz)
      by_cases c : bs.drop (bs.length - 4) = sealL (bs.take (bs.length - 4))
      · rw [decide_eq_true c]
        have l4 : 4 ≤ bs.length := by
          have := congrArg List.length c
          rw [List.length_drop] at this
          have e4 : (sealL (bs.take (bs.length - 4))).length = 4 := rfl
          omega
        have eU : unsT bs = match rdAll (bs.take (bs.length - 4)) with
          | .ok t _ => .tup [t]
          | .no _ => .tup [] := by
          unfold unsT
          rw [if_pos ⟨l4, c⟩]
          all_goals (cases rdAll (bs.take (bs.length - 4)) <;> rfl)
        refine iteF ⟨_, rfl, z, bs.take (bs.length - 4), rfl, .sub hq.b hq.few hz4 (fun b hb => List.mem_of_mem_take hb) (by rw [List.length_take]; omega), fun t h v H5 e s5 rp => ?_, fun p d H5 e s5 e5 => ?_⟩
        · refine ⟨(by show 1 ≤ sizeLine; decide), fun a ha => k _ _ (sT s04 (sT s5 (sN ha))) ?_⟩
          rw [eU, e]
          exact (rep_one upd_same (rp.same (sN ha))).more
        · refine ⟨true, BT.ex, fun _ a ha => ?_, fun q => nomatch q⟩
          refine ⟨Nat.zero_le _, fun b hb => none (sT s04 s5) ?_ b hb⟩
          rw [eU, e]
      · rw [decide_eq_false c]
        refine iteT ⟨Nat.zero_le _, fun b hb => none s04 ?_ b hb⟩
        unfold unsT
        rw [if_neg fun z => c z.2]
    · refine ⟨_, rfl, .ref q, rfl, .inl ⟨q, xs, rfl, hq, few, sc, fun H1 s1 => ?_⟩⟩
      rw [nb]
      exact ⟨_, rfl, iteT ⟨Nat.zero_le _, fun b hb => none s1 et b hb⟩⟩
    · refine ⟨_, rfl, v, rfl, .inr ⟨ty, ht, kt, ?_⟩⟩
      exact ⟨_, rfl, iteT ⟨Nat.zero_le _, fun b hb => none sR et b hb⟩⟩
end
end Q

namespace Q
open PySem L2 QR
abbrev sPool : Stmt := top 41
abbrev sDraw : Stmt := top 42
abbrev sIs : Stmt := top 43
abbrev sLW : Stmt := top 44
abbrev sLB : Stmt := top 45
abbrev sLNum : Stmt := top 46
abbrev sLPar : Stmt := top 47
abbrev sSame : Stmt := top 48
theorem sq_same {K : PySem.W.Frag} {H H' : Hp} {a : Addr} {xs : List V} (h : SqL K H a xs) (s : Same H H') : SqL K H' a xs :=
  h.elim (fun h => .inl (h.elim (fun h => .inl (s _ _ h)) fun ⟨o, h⟩ => .inr ⟨o, s _ _ h⟩)) fun h => .inr h
/-- the drawing pool at p, its great numbers at l -/
structure PoolX (H : Hp) (p l : Addr) (seed cnt : Int) (cs : List Int) : Prop where
  at_ : H p = some (.lst [.int seed, .int cnt, .ref l])
  lst : H l = some (.lst (cs.map V.int))
  ne : l ≠ p
  s0 : 0 ≤ seed
  s1 : seed < 2147483647
def PoolAt (H : Hp) (p l : Addr) : Prop := ∃ seed cnt cs, PoolX H p l seed cnt cs
/-- all stands but the pool -/
def Kp (p l : Addr) (H H' : Hp) : Prop := ∀ b o, H b = some o → b ≠ p → b ≠ l → H' b = some o
theorem Kp.rf {p l : Addr} {H : Hp} : Kp p l H H := fun _ _ e _ _ => e
theorem Kp.tr {p l : Addr} {H H1 H2 : Hp} (h : Kp p l H H1) (g : Kp p l H1 H2) : Kp p l H H2 := fun b o e n m => g b o (h b o e n m) n m
theorem Kp.st {p l : Addr} {H H1 H2 : Hp} (h : Kp p l H H1) (s : Same H1 H2) : Kp p l H H2 := fun b o e n m => s b o (h b o e n m)
theorem Kp.of {p l : Addr} {H H1 : Hp} (s : Same H H1) : Kp p l H H1 := fun b o e _ _ => s b o e
theorem Kp.atp {p l : Addr} {H H1 : Hp} {o : HO} (h : Kp p l H H1) : Kp p l H (upd H1 p o) := fun b u e n m => by rw [upd_ne n]; exact h b u e n m
theorem Kp.atl {p l : Addr} {H H1 : Hp} {o : HO} (h : Kp p l H H1) : Kp p l H (upd H1 l o) := fun b u e n m => by rw [upd_ne m]; exact h b u e n m
/-- over a thing that is new -/
theorem Kp.new {p l q : Addr} {H H1 : Hp} {o : HO} (h : Kp p l H H1) (n : H q = none) : Kp p l H (upd H1 q o) := fun b u e n1 n2 => by
  rw [upd_ne (ne_of_none e n)]
  exact h b u e n1 n2
theorem PoolAt.tk {H H' : Hp} {p l : Addr} (g : PoolAt H p l) (k : Kp p l H H') : Tk H H' := fun b xs e => by
  obtain ⟨seed, cnt, cs, x⟩ := g
  exact k b _ e (ne_of e x.at_ (fun z => by cases z)) (ne_of e x.lst (fun z => by cases z))
theorem PoolAt.same {H H' : Hp} {p l : Addr} (g : PoolAt H p l) (s : Same H H') : PoolAt H' p l := by
  obtain ⟨seed, cnt, cs, x⟩ := g
  exact ⟨seed, cnt, cs, s _ _ x.at_, s _ _ x.lst, x.ne, x.s0, x.s1⟩
theorem PoolAt.none {H : Hp} {p l q : Addr} (g : PoolAt H p l) (n : H q = Option.none) : q ≠ p ∧ q ≠ l := by
  obtain ⟨seed, cnt, cs, x⟩ := g
  exact ⟨fun e => (by rw [e, x.at_] at n; cases n), fun e => (by rw [e, x.lst] at n; cases n)⟩
theorem PoolAt.upd {H : Hp} {p l q : Addr} {o : HO} (g : PoolAt H p l) (n1 : q ≠ p) (n2 : q ≠ l) : PoolAt (L2.upd H q o) p l := by
  obtain ⟨seed, cnt, cs, x⟩ := g
  exact ⟨seed, cnt, cs, by rw [upd_ne n1.symm]; exact x.at_, by rw [upd_ne n2.symm]; exact x.lst, x.ne, x.s0, x.s1⟩
def spPool (K : PySem.W.Frag) : Sp := fun vs H Q _ => ∃ (a : Addr) (ns : List Int), vs = [.ref a] ∧ SqL K H a (ns.map V.int) ∧ ns.length ≤ 63 ∧ ∀ (p l : Addr) H', PoolAt H' p l → Same H H' → H p = none → H l = none → Q (.ref p) H'
def spDraw : Sp := fun vs H Q _ => ∃ (p l : Addr) (m : Int), vs = [.ref p, .int m] ∧ PoolAt H p l ∧ 0 < m ∧ m < 1099511627776 ∧ ∀ (d : Int) H', 0 ≤ d → d < m → PoolAt H' p l → Kp p l H H' → Q (.int d) H'
def spIs : Sp := fun vs H Q _ => ∃ i : Int, vs = [.int i, .int i] ∧ i.natAbs.log2 < 1920 ∧ Q (.bl true) H
def spLW : Sp := fun vs H Q _ => ∃ n : Int, vs = [.int n] ∧ 0 ≤ n ∧ (vlq n.toNat).length ≤ 8000 ∧ ∀ z H', Same H H' → H' z = some (.lst ((vlq n.toNat).map V.int)) → Q (.ref z) H'
def spLB (d : Nat) : Sp := fun vs H Q _ => ∃ (t : T) (v : V), vs = [v] ∧ Rep H d t v ∧ OkT d t ∧ (enc d t).length ≤ 8000 ∧ ∀ z H', Same H H' → H' z = some (.lst ((enc d t).map V.int)) → Q (.ref z) H'
def spLNum : Sp := fun vs H Q _ => ∃ (p l : Addr), vs = [.ref p] ∧ PoolAt H p l ∧ ∀ (i : Int) H', PoolAt H' p l → Kp p l H H' → i.natAbs < 2 ^ 55 → Q (.int i) H'
def bnd : Nat → Nat
  | 0 => 30
  | d + 1 => 4 * bnd d + 30
def spLPar (d : Nat) : Sp := fun vs H Q _ => ∃ (p l : Addr), vs = [.ref p, .int (d : Int)] ∧ PoolAt H p l ∧ ∀ (t : T) (v : V) H', PoolAt H' p l → Kp p l H H' → Rep H' d t v → OkT d t → (enc d t).length ≤ bnd d → Q v H'
def spSame (d : Nat) : Sp := fun vs H Q _ => ∃ (t : T) (u v : V), vs = [u, v] ∧ Rep H d t u ∧ Rep H d t v ∧ ∀ H', Same H H' → Q (.bl true) H'
theorem cut_map (ns : List Int) (n : Nat) : cutV (ns.map V.int) none (some (n : Int)) = (ns.take n).map V.int := by
  unfold cutV
  rw [HT.sIx_none, HT.sIx_nat, List.drop_zero, Nat.sub_zero, List.map_take]
  rcases Nat.le_total n (ns.map V.int).length with c | c
  · rw [Nat.min_eq_left c]
  · rw [Nat.min_eq_right c, List.take_length, List.take_of_length_le c]
theorem at_in {α : Type} (xs : List α) {d : Int} (h0 : 0 ≤ d) (h1 : d < xs.length) : ∃ v, v ∈ xs ∧ atI xs d = some v := by
  obtain ⟨n, rfl⟩ : ∃ n : Nat, d = (n : Int) := ⟨d.toNat, by omega⟩
  have hn : n < xs.length := by omega
  exact ⟨xs[n], List.getElem_mem _, atI_nat (List.getElem?_eq_getElem hn)⟩
theorem ix0 {n : Nat} (h : 0 < n) : ixN n 0 = some 0 := by
  unfold ixN
  rw [if_pos (by decide), if_pos (by omega)]
  rfl
section
variable {P : Program} {w : World} {K : PySem.W.Frag} {mg : Str → Option Value} {base : Heap}
theorem scPool : FnScope ["script", "seed", "cell"] ["script"] (defScope sPool) := ⟨rfl, rfl, rfl, by decide +kernel, rfl, by decide +kernel, by decide +kernel⟩
theorem ok_pool {f : Addr} {fd : FuncData} (D : Df K mg "_law_pool" sPool ["script"] f fd) (B : Bts mg) : FnOk P w K mg base CX0 1 f fd ["script"] (spPool K) := by
  refine D.F.ok scPool (fun vs H Q E h => ?_) (fun cdv A outer s H vs Q E hr h => ?_)
  · obtain ⟨a, ns, rfl, _⟩ := h
    rfl
  · obtain ⟨a, ns, rfl, hS, hlen, k⟩ := h
    have nd := scPool.nd
    refine ⟨_, pss_cons (ps_set (i := 1) nd rfl (.inl rfl) (pe_op op_add (pe_op op_add (pe_op op_mod (pe_callTy call_int1 (by rfl) B.int PyProof.Rows.boot_int (pa_cons (pe_callB (cr_sum rfl) (by rfl) B.sum PyProof.Rows.boot_sum (pa_cons (pe_slice sl_list (pv 0) po_none (po_some pe_int)) pa_nil)) pa_nil)) pe_int) (pe_callB call_len_seq (by rfl) B.len PySem.boot_len (pa_cons (pv 0) pa_nil))) pe_int))
      (pss_cons (ps_for PassesOwn.never rfl (pi_list (pe_slice sl_list (pv 0) po_none (po_some pe_int))) (pg_name (i := 2) nd rfl (.inl rfl))
        (pss_one (ps_set (i := 1) nd rfl (.inl rfl) (pe_op op_mod (pe_callTy call_int1 (by rfl) B.int PyProof.Rows.boot_int (pa_cons (pe_op op_add (pe_op op_add (pe_op op_mul (pv 1) pe_int) (pe_op op_mod (pe_callTy call_int1 (by rfl) B.int PyProof.Rows.boot_int (pa_cons (pv 2) pa_nil)) pe_int)) pe_int) pa_nil)) pe_int))))
      (pss_one (ps_ret (pe_lst (pa_cons (pv 1) (pa_cons pe_int (pa_cons (pe_lc (own := [("cell", 2)]) (g := gName 2) (tt := _) rfl nd (pi_list (pe_slice sl_list (pv 0) po_none (po_some pe_int)))
        (blkOk_by (N := ["script", "seed", "cell"]) (sc := defScope sPool) (by decide +kernel)) (fun _ _ _ _ _ => pg_name (i := 2) nd rfl (.inl rfl))
        (fun _ _ _ _ _ => pts_one (pt_cmpR op_ge (pe_callB call_abs (by rfl) B.abs (by decide +kernel) (pa_cons (pv 2) pa_nil)) (pe_op op_pow pe_int pe_int) (nomark _)))
        (fun _ _ _ _ _ => pe_callB call_abs (by rfl) B.abs (by decide +kernel) (pa_cons (pv 2) pa_nil))) pa_nil))))))), ?_⟩
    have e63 : ns.take 63 = ns := List.take_of_length_le hlen
    have c63 : cutV (ns.map V.int) none (some 63) = ns.map V.int := by rw [show (63 : Int) = ((63 : Nat) : Int) by decide, cut_map, e63]
    have c1 : cutV (ns.map V.int) none (some 1) = (ns.take 1).map V.int := cut_map ns 1
    refine ⟨_, rfl, _, rfl, a, _, rfl, hS, fun q1 hq1 => ?_⟩
    rw [c1]
    have s1 := sN (o := .lst ((ns.take 1).map V.int)) hq1
    refine ⟨q1, ns.take 1, rfl, SqL.of upd_same, .inl ⟨_, rfl, _, _, rfl, rfl, (by decide : (0 : Int) < 1000003), _, rfl, a, _, rfl, .inl (sq_same hS s1), _, _, rfl, rfl, _, _, rfl, rfl, ?_⟩⟩
    rw [List.length_map]
    have m0 : 0 ≤ (ns.take 1).sum % 1000003 := Int.emod_nonneg _ (by decide)
    have m1 : (ns.take 1).sum % 1000003 < 1000003 := Int.emod_lt_of_pos _ (by decide)
    refine ⟨_, rfl, _, rfl, a, _, rfl, sq_same hS s1, fun q2 hq2 => ?_⟩
    rw [c63]
    have s2 := sT s1 (sN (o := .lst (ns.map V.int)) hq2)
    have e2 : (upd (upd H q1 (.lst ((ns.take 1).map V.int))) q2 (.lst (ns.map V.int))) q2 = some (.lst (ns.map V.int)) := upd_same
    revert s2 e2
    generalize (upd (upd H q1 (.lst ((ns.take 1).map V.int))) q2 (.lst (ns.map V.int))) = H2
    intro s2 e2
    refine ⟨q2, rfl, ⟨_, SqL.of e2⟩, for_list (K := K) (a := q2) (xs := ns.map V.int) (fun i σ H' => ∃ (sd : Int) (x2 : Option V), σ = [some (.ref a), some (.int sd), x2] ∧ H' = H2 ∧ 0 ≤ sd ∧ sd < 2147483647) ?_ ?_ ?_ ?_⟩
    · exact ⟨_, none, rfl, rfl, by omega, by omega⟩
    · rintro i σ H' hi ⟨sd, x2, rfl, rfl, _⟩
      exact SqL.of e2
    · rintro i x σ H' hx ⟨sd, x2, rfl, rfl, h0, h1⟩
      obtain ⟨b, hb, rfl⟩ := at_ints hx
      refine ⟨_, rfl, _, _, rfl, rfl, .inr ⟨by decide, by decide⟩, _, rfl, .inl ⟨_, rfl, _, _, rfl, rfl, (by decide : (0 : Int) < 2147483629), _, _, rfl, rfl, _, _, rfl, rfl, .inl ⟨_, rfl, _, _, rfl, rfl, (by decide : (0 : Int) < 2147483647), _, some (.int b), rfl, rfl, Int.emod_nonneg _ (by decide), Int.emod_lt_of_pos _ (by decide)⟩⟩⟩
    · rintro σ H' ⟨sd, x2, rfl, rfl, h0, h1⟩
      refine ⟨_, rfl, _, rfl, _, rfl, a, _, rfl, sq_same hS s2, fun q3 hq3 => ?_⟩
      rw [c63]
      have s3 := sT s2 (sN (o := .lst (ns.map V.int)) hq3)
      have e3 : (upd H' q3 (.lst (ns.map V.int))) q3 = some (.lst (ns.map V.int)) := upd_same
      revert s3 e3
      generalize (upd H' q3 (.lst (ns.map V.int))) = H3
      intro s3 e3
      refine ⟨q3, rfl, ⟨_, SqL.of e3⟩, fun D hD => lc_list (K := K) (a := q3) (xs := ns.map V.int) (fun i H' => (∃ cs : List Int, H' D = some (.lst (cs.map V.int)) ∧ cs.length ≤ i) ∧ Same H3 H') ?_ ?_ ?_ ?_⟩
      · exact ⟨⟨[], upd_same, Nat.le_refl _⟩, sN hD⟩
      · rintro i H4 hi ⟨_, s4⟩
        exact SqL.of (s4 _ _ e3)
      · rintro i x H4 hx ⟨⟨cs, e4, hc⟩, s4⟩
        obtain ⟨b, hb, rfl⟩ := at_ints hx
        have hi := (List.getElem?_eq_some_iff.mp hb).1
        refine ⟨rfl, _, rfl, _, rfl, _, _, rfl, rfl, ⟨by decide, by decide, by decide⟩, _, _, rfl, rfl, _, rfl, ?_⟩
        refine ite2 (fun _ => ?_) (fun _ => ⟨⟨cs, e4, by omega⟩, s4⟩)
        refine ⟨_, rfl, _, rfl, _, e4, ?_, ⟨cs ++ [if b < 0 then -b else b], ?_, ?_⟩, sNew s4 hD⟩
        · rw [List.length_map]
          exact size_ok (by omega)
        · rw [upd_same, List.map_append]
          rfl
        · rw [List.length_append]
          show _ + 1 ≤ _
          omega
      · rintro H4 ⟨⟨cs, e4, _⟩, s4⟩
        refine ⟨(by show 3 ≤ sizeLine; decide), fun p hp => k p D _ ⟨sd, 0, cs, upd_same, ?_, ?_, h0, h1⟩ (sT s3 (sT s4 (sN hp))) (sNo (sT s3 s4) hp) (sNo s3 hD)⟩
        · rw [upd_ne (ne_of_none e4 hp)]
          exact e4
        · exact ne_of_none e4 hp
theorem scDraw : FnScope ["pool", "many", "cells", "digit", "mixed"] ["pool", "many"] (defScope sDraw) := ⟨rfl, rfl, rfl, by decide +kernel, rfl, by decide +kernel, by decide +kernel⟩
theorem ok_draw {f : Addr} {fd : FuncData} (D : Df K mg "_law_draw" sDraw ["pool", "many"] f fd) (B : Bts mg) : FnOk P w K mg base CX0 1 f fd ["pool", "many"] spDraw := by
  refine D.F.ok scDraw (fun vs H Q E h => ?_) (fun cdv A outer s H vs Q E hr h => ?_)
  · obtain ⟨p, l, m, rfl, _⟩ := h
    rfl
  · obtain ⟨p, l, m, rfl, ⟨seed, cnt, cs, x⟩, hm0, hm1, k⟩ := h
    have nd := scDraw.nd
    refine ⟨_, pss_cons (ps_asg (pe_op op_add (pe_ix ix_list (pv 0) pe_int (fun _ _ => rfl)) pe_int) (pg_sub (pv 0) pe_int set_list))
      (pss_cons (ps_set (i := 2) nd rfl (.inl rfl) (pe_ix ix_list (pv 0) pe_int (fun _ _ => rfl)))
      (pss_cons (ps_if (pt_cmpR op_gt (pe_callB call_len_seq (by rfl) B.len PySem.boot_len (pa_cons (pv 2) pa_nil)) pe_int (nomark _))
          (pss_cons (ps_set (i := 3) nd rfl (.inl rfl) (pe_op op_mod (pe_callTy call_int1 (by rfl) B.int PyProof.Rows.boot_int (pa_cons (pe_ix ix_list (pv 2) pe_int (fun _ _ => rfl)) pa_nil)) (pv 1)))
          (pss_cons (ps_asg (pe_op op_fdivW (pe_callTy call_int1 (by rfl) B.int PyProof.Rows.boot_int (pa_cons (pe_ix ix_list (pv 2) pe_int (fun _ _ => rfl)) pa_nil)) (pv 1)) (pg_sub (pv 2) pe_int set_list))
          (pss_cons (ps_if (pt_cmpR op_eq (pe_ix ix_list (pv 2) pe_int (fun _ _ => rfl)) pe_int (nomark _))
            (pss_one (ps_expr (pe_bm PySem.F.plainAttrs_list PySem.F.slot_list_pop PySem.F.type_list_pop mt_popAt (pv 2) (pa_cons pe_int pa_nil)))) pss_nil)
          (pss_one (ps_ret (pv 3)))))) pss_nil)
      (pss_cons (ps_set (i := 4) nd rfl (.inl rfl) (pe_op op_mod (pe_callTy call_int1 (by rfl) B.int PyProof.Rows.boot_int (pa_cons (pe_op op_mul (pe_op op_add (pe_ix ix_list (pv 0) pe_int (fun _ _ => rfl)) (pe_op op_mul pe_int (pe_ix ix_list (pv 0) pe_int (fun _ _ => rfl)))) pe_int) pa_nil)) pe_int))
      (pss_cons (ps_set (i := 4) nd rfl (.inl rfl) (pe_op op_mod (pe_callTy call_int1 (by rfl) B.int PyProof.Rows.boot_int (pa_cons (pe_op op_mul (pv 4) (pe_op op_add (pe_op op_fdiv (pv 4) pe_int) pe_int)) pa_nil)) pe_int))
      (pss_cons (ps_set (i := 4) nd rfl (.inl rfl) (pe_op op_mod (pe_callTy call_int1 (by rfl) B.int PyProof.Rows.boot_int (pa_cons (pe_op op_mul (pv 4) (pe_op op_add (pe_op op_fdiv (pv 4) pe_int) pe_int)) pa_nil)) pe_int))
      (pss_one (ps_ret (pe_op op_mod (pe_callTy call_int1 (by rfl) B.int PyProof.Rows.boot_int (pa_cons (pe_op op_fdiv (pv 4) pe_int) pa_nil)) (pv 1))))))))), ?_⟩
    refine ⟨_, rfl, p, _, 1, _, rfl, rfl, SqL.of x.at_, atI_nat (j := 1) rfl, _, _, rfl, rfl, _, rfl, p, _, 1, 1, rfl, rfl, x.at_, rfl, ?_⟩
    have k1 : Kp p l H (upd H p (.lst [.int seed, .int (cnt + 1), .ref l])) := Kp.rf.atp
    have x1 : PoolX (upd H p (.lst [.int seed, .int (cnt + 1), .ref l])) p l seed (cnt + 1) cs := ⟨upd_same, by rw [upd_ne x.ne]; exact x.lst, x.ne, x.s0, x.s1⟩
    show tSeq _ _ _ _ (upd H p (.lst [.int seed, .int (cnt + 1), .ref l]))
    revert k1 x1
    generalize upd H p (.lst [.int seed, .int (cnt + 1), .ref l]) = H1
    intro k1 x1
    refine ⟨_, rfl, p, _, 2, _, rfl, rfl, SqL.of x1.at_, atI_nat (j := 2) rfl, ?_⟩
    refine ⟨_, rfl, l, _, rfl, .inl (SqL.of x1.lst), _, _, rfl, rfl, _, rfl, ?_⟩
    refine ite2 (fun c => ?_) (fun _ => ?_)
    · have c : 0 < cs.length := by
        have z : (0 : Int) < ((cs.map V.int).length : Nat) := of_decide_eq_true c
        rw [List.length_map] at z
        omega
      obtain ⟨c0, cr, rfl⟩ : ∃ c0 cr, cs = c0 :: cr := by
        cases cs with
        | nil => simp at c
        | cons c0 cr => exact ⟨c0, cr, rfl⟩
      have a0 : ∀ (y : Int), atI ((y :: cr).map V.int) 0 = some (V.int y) := fun y => atI_nat (j := 0) rfl
      refine ⟨_, rfl, l, _, 0, _, rfl, rfl, SqL.of x1.lst, a0 c0, .inl ⟨_, rfl, _, rfl, _, _, rfl, rfl, hm0, ?_⟩⟩
      refine ⟨_, rfl, l, _, 0, _, rfl, rfl, SqL.of x1.lst, a0 c0, .inl ⟨_, rfl, _, rfl, _, _, rfl, rfl, wide_div (b := 40) hm0 (by omega) (by decide) (by decide), _, rfl, l, _, 0, 0, rfl, rfl, x1.lst, ix0 (by simp), ?_⟩⟩
      have k2 : Kp p l H (upd H1 l (.lst ((c0 / m :: cr).map V.int))) := k1.atl
      have x2 : PoolX (upd H1 l (.lst ((c0 / m :: cr).map V.int))) p l seed (cnt + 1) (c0 / m :: cr) := ⟨by rw [upd_ne x.ne.symm]; exact x1.at_, upd_same, x.ne, x.s0, x.s1⟩
      show tSeq _ _ _ _ (upd H1 l (.lst ((c0 / m :: cr).map V.int)))
      revert k2 x2
      generalize upd H1 l (.lst ((c0 / m :: cr).map V.int)) = H2
      intro k2 x2
      have d0 : 0 ≤ c0 % m := Int.emod_nonneg _ (by omega)
      have d1 : c0 % m < m := Int.emod_lt_of_pos _ hm0
      refine ⟨_, rfl, l, _, 0, _, rfl, rfl, SqL.of x2.lst, a0 _, rfl, _, rfl, ite2 (fun _ => ?_) (fun _ => ?_)⟩
      · refine ⟨_, rfl, .inl ⟨rfl, _, SqL.of x2.lst⟩, l, _, 0, 0, _, rfl, rfl, x2.lst, by decide, by decide, ?_, rfl, ?_⟩
        · rw [PySem.seqIndex_of (by decide) (by rw [List.length_map, List.length_cons]; omega)]
          rfl
        · exact ⟨_, rfl, k _ _ d0 d1 ⟨seed, cnt + 1, cr, by rw [upd_ne x.ne.symm]; exact x2.at_, upd_same, x.ne, x.s0, x.s1⟩ k2.atl⟩
      · exact ⟨_, rfl, k _ _ d0 d1 ⟨_, _, _, x2⟩ k2⟩
    · refine ⟨_, rfl, p, _, 0, _, rfl, rfl, SqL.of x1.at_, atI_nat (j := 0) rfl, _, rfl, p, _, 1, _, rfl, rfl, SqL.of x1.at_, atI_nat (j := 1) rfl, _, _, rfl, rfl, .inl ⟨by decide, by decide⟩, _, _, rfl, rfl, _, _, rfl, rfl, .inr ⟨by decide, by decide⟩, .inl ⟨_, rfl, _, _, rfl, rfl, (by decide : (0 : Int) < 2147483647), ?_⟩⟩
      have z0 : 0 ≤ (seed + 7919 * (cnt + 1)) * 48271 % 2147483647 := Int.emod_nonneg _ (by decide)
      have z1 : (seed + 7919 * (cnt + 1)) * 48271 % 2147483647 < 2147483647 := Int.emod_lt_of_pos _ (by decide)
      revert z0 z1
      generalize (seed + 7919 * (cnt + 1)) * 48271 % 2147483647 = s2
      intro z0 z1
      refine ⟨_, rfl, _, rfl, _, _, rfl, rfl, ⟨by decide, by decide⟩, _, _, rfl, rfl, _, _, rfl, rfl, .inl ⟨by omega, by omega⟩, .inl ⟨_, rfl, _, _, rfl, rfl, (by decide : (0 : Int) < 2147483647), ?_⟩⟩
      have q0 : 0 ≤ (s2 * (s2 / 1009 + 69621)) % 2147483647 := Int.emod_nonneg _ (by decide)
      have q1 : (s2 * (s2 / 1009 + 69621)) % 2147483647 < 2147483647 := Int.emod_lt_of_pos _ (by decide)
      revert q0 q1
      generalize (s2 * (s2 / 1009 + 69621)) % 2147483647 = n1
      intro q0 q1
      refine ⟨_, rfl, _, rfl, _, _, rfl, rfl, ⟨by decide, by decide⟩, _, _, rfl, rfl, _, _, rfl, rfl, .inl ⟨by omega, by omega⟩, .inl ⟨_, rfl, _, _, rfl, rfl, (by decide : (0 : Int) < 2147483399), ?_⟩⟩
      refine ⟨_, rfl, _, _, rfl, rfl, ⟨by decide, by decide⟩, .inl ⟨_, rfl, _, rfl, _, _, rfl, rfl, hm0, ?_⟩⟩
      exact k _ _ (Int.emod_nonneg _ (by omega)) (Int.emod_lt_of_pos _ hm0) ⟨_, _, _, x1⟩ k1
theorem scIs : FnScope ["told", "due"] ["told", "due"] (defScope sIs) := ⟨rfl, rfl, rfl, by decide +kernel, rfl, by decide +kernel, by decide +kernel⟩
theorem ok_is {f : Addr} {fd : FuncData} (D : Df K mg "_law_is" sIs ["told", "due"] f fd) (B : Bts mg) : FnOk P w K mg base CX0 1 f fd ["told", "due"] spIs := by
  refine D.F.ok scIs (fun vs H Q E h => ?_) (fun cdv A outer s H vs Q E hr h => ?_)
  · obtain ⟨i, rfl, _⟩ := h
    rfl
  · obtain ⟨i, rfl, hl, k⟩ := h
    refine ⟨_, pss_one (ps_ret (pe_cmpR op_eq (pe_callB SkE.call_repr_int (by rfl) B.repr PyProof.Rows.boot_repr (pa_cons (pv 0) pa_nil)) (pe_callB SkE.call_repr_int (by rfl) B.repr PyProof.Rows.boot_repr (pa_cons (pv 1) pa_nil)) (nomark _))), ?_⟩
    refine ⟨_, rfl, i, rfl, hl, _, rfl, i, rfl, hl, rfl, ?_⟩
    rw [decide_eq_true rfl]
    exact k
theorem scLW : FnScope ["number", "found"] ["number"] (defScope sLW) := ⟨rfl, rfl, rfl, by decide +kernel, rfl, by decide +kernel, by decide +kernel⟩
theorem ok_lw {f : Addr} {fd : FuncData} (D : Df K mg "_law_whole" sLW ["number"] f fd) : FnOk P w K mg base CX0 1 f fd ["number"] spLW := by
  refine D.F.ok scLW (fun vs H Q E h => ?_) (fun cdv A outer s H vs Q E hr h => ?_)
  · obtain ⟨n, rfl, _⟩ := h
    rfl
  · obtain ⟨n, rfl, n0, few, k⟩ := h
    have nd := scLW.nd
    refine ⟨_, pss_cons (ps_set (i := 1) nd rfl (.inl rfl) (pe_lst pa_nil))
      (pss_cons (ps_while PassesOwn.never (pt_cmpR op_gt (pv 0) pe_int (nomark _))
        (pss_cons (ps_expr (pe_bm PySem.F.plainAttrs_list PySem.F.slot_list_append PySem.F.type_list_append mt_append (pv 1) (pa_cons (pe_op op_add (pe_op op_mod (pv 0) pe_int) pe_int) pa_nil)))
        (pss_one (ps_set (i := 0) nd rfl (.inl rfl) (pe_op op_fdiv (pv 0) pe_int)))))
      (pss_one (ps_ret (pe_op op_cat (pv 1) (pe_lst (pa_cons (pv 0) pa_nil)))))), ?_⟩
    refine ⟨Nat.zero_le _, fun l hl => ?_⟩
    have W0 : ∀ {a b : List Int}, a ++ b = vlq n.toNat → a.length ≤ 8000 := fun {a b} e => by
      have := congrArg List.length e
      rw [List.length_append] at this
      omega
    refine ⟨fun m σ H' => ∃ acc : List Int, σ = [some (.int (m : Int)), some (.ref l)] ∧ H' l = some (.lst (acc.map V.int)) ∧ Same H H' ∧ acc ++ vlq m = vlq n.toNat, ⟨n.toNat, [], ?_, upd_same, sN hl, rfl⟩, ?_⟩
    · rw [Int.toNat_of_nonneg n0]
      rfl
    · rintro m σ H' ⟨acc, rfl, el, s1, e⟩
      refine ⟨_, rfl, _, _, rfl, rfl, _, rfl, ite2 (fun c => ?_) (fun c => ?_)⟩
      · have c : ¬ m < 128 := by
          have c : (127 : Int) < (m : Int) := of_decide_eq_true c
          omega
        refine ⟨fun σ' H' => ∃ acc : List Int, σ' = [some (.int ((m / 128 : Nat) : Int)), some (.ref l)] ∧ H' l = some (.lst (acc.map V.int)) ∧ Same H H' ∧ acc ++ vlq (m / 128) = vlq n.toNat, fun σ' H' h => ⟨m / 128, by omega, h⟩, ?_⟩
        refine ⟨_, rfl, .inl ⟨rfl, _, SqL.of el⟩, _, rfl, _, _, rfl, rfl, (by decide : (0 : Int) < 128), _, _, rfl, rfl, l, _, _, rfl, rfl, el, by rw [List.length_map]; exact size_ok (by have := W0 e; omega), ?_⟩
        refine ⟨_, rfl, _, _, rfl, rfl, ⟨by decide, by decide⟩, acc ++ [(m : Int) % 128 + 128], ?_, ?_, sNew s1 hl, ?_⟩
        · show [some (V.int ((m : Int) / 128)), some (V.ref l)] = _
          rw [show ((m : Int) / 128) = ((m / 128 : Nat) : Int) by omega]
        · rw [upd_same, List.map_append]
          rfl
        · rw [vlq_ge c] at e
          rw [List.append_assoc, ← e, show ((m : Int) % 128 + 128) = ((128 + m % 128 : Nat) : Int) by omega]
          rfl
      · have c : m < 128 := by
          have c : ¬ (127 : Int) < (m : Int) := fun z => c (decide_eq_true z)
          omega
        rw [vlq_lt c] at e
        refine ⟨_, rfl, _, rfl, (by show 1 ≤ sizeLine; decide), fun b hb => ?_⟩
        have elb : upd H' b (.lst [.int (m : Int)]) l = some (.lst (acc.map V.int)) := by
          rw [upd_ne (ne_of_none el hb)]
          exact el
        refine ⟨l, b, _, _, rfl, rfl, elb, upd_same, ?_, fun z hz => ?_⟩
        · rw [List.length_map]
          exact Nat.le_of_lt (size_ok (by have := W0 e; show _ + 1 ≤ _; omega))
        · refine k z _ (sT s1 (sT (sN hb) (sN hz))) ?_
          rw [upd_same, ← e, List.map_append]
          rfl
end
end Q

namespace Q
open PySem L2 QR
theorem walk_zipT {K : PySem.W.Frag} {a b : Addr} {xs ys : List V} {n : Nat} (hn : n = min xs.length ys.length) : Walk (RZ.ItzT K a b) n (fun H => SqT K H a xs ∧ SqT K H b ys) (YPair (fun i => xs[i]?) (fun i => ys[i]?)) := by
  subst hn
  refine ⟨fun i H hi q => ?_, fun H q => ⟨xs, ys, q.1, q.2, by omega⟩, fun i H v H' hi q y => ?_⟩
  · have h1 : i < xs.length := Nat.lt_of_lt_of_le hi (Nat.min_le_left _ _)
    have h2 : i < ys.length := Nat.lt_of_lt_of_le hi (Nat.min_le_right _ _)
    exact ⟨xs, ys, _, _, q.1, q.2, List.getElem?_eq_getElem h1, List.getElem?_eq_getElem h2⟩
  · obtain ⟨T, x, z, e1, e2, e3, e4, e5⟩ := y
    exact ⟨T, x, z, e1, e2, e3, e4 xs q.1, e5 ys q.2⟩
theorem rep_true (n : Nat) : (List.replicate n true).all id = true := by
  rw [List.all_eq_true]
  intro x hx
  rw [(List.mem_replicate.mp hx).2]
  rfl
theorem isI (a b : Nat) : decide (V.bl (decide (a = b)) = V.bl (decide (a = b))) = true := decide_eq_true rfl
section
variable {P : Program} {w : World} {K : PySem.W.Frag} {mg : Str → Option Value} {base : Heap}
theorem scLB : FnScope ["parcel", "found", "part", "sign"] ["parcel"] (defScope sLB) := ⟨rfl, rfl, rfl, by decide +kernel, rfl, by decide +kernel, by decide +kernel⟩
theorem ok_lb {f fW : Addr} {fd fdW : FuncData} (D : Df K mg "_law_bytes" sLB ["parcel"] f fd) (B : Bts mg) (DW : Df K mg "_law_whole" sLW ["number"] fW fdW) : ∀ d, FnOk P w K mg base CX0 (d + 2) f fd ["parcel"] (spLB d) := by
  have GW : FnOk P w K mg base CX0 1 fW fdW ["number"] spLW := ok_lw DW
  have main : ∀ d, FnOk P w K mg base CX0 (d + 1) f fd ["parcel"] (fun vs H Q E => 0 < d ∧ spLB (d - 1) vs H Q E) → FnOk P w K mg base CX0 (d + 2) f fd ["parcel"] (spLB d) := by
    intro d IH
    refine D.F.ok scLB (fun vs H Q E h => ?_) (fun cdv A outer s H vs Q E hr h => ?_)
    · obtain ⟨t, v, rfl, _⟩ := h
      rfl
    · obtain ⟨t, v, rfl, rep, ok, few, k⟩ := h
      have nd := scLB.nd
      have hr1 : Room 1 _ := hr.mono (by omega)
      refine ⟨_, pss_cons (ps_if (pt_cmp (pc_isN (pv 0))) (pss_one (ps_ret (pe_lst (pa_cons pe_int pa_nil)))) pss_nil)
        (pss_cons (ps_if (pt_val (pe_callB call_isi (by rfl) B.isinstance PyProof.Rows.boot_isinstance (pa_cons (pv 0) (pa_cons (pe_bltn (v := .ty "bool") rfl B.bool (by decide +kernel) rfl) pa_nil)))) (pss_one (ps_ret (pe_lst (pa_cons (pe_op op_add pe_int (pe_callTy call_int1 (by rfl) B.int PyProof.Rows.boot_int (pa_cons (pv 0) pa_nil))) pa_nil)))) pss_nil)
        (pss_cons (ps_if (pt_val (pe_callB call_isi (by rfl) B.isinstance PyProof.Rows.boot_isinstance (pa_cons (pv 0) (pa_cons (pe_bltn (v := .ty "int") rfl B.int PyProof.Rows.boot_int rfl) pa_nil)))) (pss_one (ps_ret (pe_ifExp (pt_cmpR op_ge (pv 0) pe_int (nomark _))
            (pe_op op_cat (pe_lst (pa_cons pe_int pa_nil)) (pe_call GW hr1 rfl DW.m DW.k DW.b .nil pass0 (pa_cons (pv 0) pa_nil)))
            (pe_op op_cat (pe_lst (pa_cons pe_int pa_nil)) (pe_call GW hr1 rfl DW.m DW.k DW.b .nil pass0 (pa_cons (pe_op op_sub (pe_op op_sub pe_int pe_int) (pv 0)) pa_nil)))))) pss_nil)
        (pss_cons (ps_if (pt_val (pe_callB call_isi (by rfl) B.isinstance PyProof.Rows.boot_isinstance (pa_cons (pv 0) (pa_cons (pe_bltn (v := .ty "str") rfl B.str PyProof.Rows.boot_str rfl) pa_nil)))) (pss_one (ps_ret (pe_op op_cat (pe_op op_cat (pe_lst (pa_cons pe_int pa_nil)) (pe_call GW hr1 rfl DW.m DW.k DW.b .nil pass0 (pa_cons (pe_callB call_len_str (by rfl) B.len PySem.boot_len (pa_cons (pv 0) pa_nil)) pa_nil)))
            (pe_lc (own := [("sign", 3)]) (g := gName 3) (tt := tYes) rfl nd (pi_str (pv 0)) (blkOk_by (N := ["parcel", "found", "part", "sign"]) (sc := defScope sLB) (by decide +kernel)) (fun _ _ _ _ _ => pg_name (i := 3) nd rfl (.inl rfl)) (fun _ _ _ _ _ => pts_nil)
              (fun _ _ _ _ _ => pe_callB call_ord (by rfl) B.ord (by decide +kernel) (pa_cons (pv 3) pa_nil)))))) pss_nil)
        (pss_cons (ps_set (i := 1) nd rfl (.inl rfl) (pe_op op_cat (pe_lst (pa_cons pe_int pa_nil)) (pe_call GW hr1 rfl DW.m DW.k DW.b .nil pass0 (pa_cons (pe_callB call_len_seq (by rfl) B.len PySem.boot_len (pa_cons (pv 0) pa_nil)) pa_nil))))
        (pss_cons (ps_for PassesOwn.never rfl (pi_tup (pv 0)) (pg_name (i := 2) nd rfl (.inl rfl)) (pss_one (ps_expr (pe_bm PySem.F.plainAttrs_list PySem.F.slot_list_extend PySem.F.type_list_extend mt_extend (pv 1) (pa_cons (pe_call IH hr rfl D.m D.k D.b .nil pass0 (pa_cons (pv 2) pa_nil)) pa_nil)))))
        (pss_one (ps_ret (pv 1)))))))), ?_⟩
      rcases rep.cases with ⟨rfl, rfl⟩ | ⟨b, rfl, rfl⟩ | ⟨i, rfl, rfl⟩ | ⟨z, rfl, rfl, zl⟩ | ⟨d', ls, a, xs, rfl, rfl, rfl, ha, hll, lfew, hk⟩
      · rw [enc_atom (t := .non) trivial] at few k
        exact ⟨_, rfl, _, rfl, iteT ⟨(by show 1 ≤ sizeLine; decide), fun z hz => k z _ (sN hz) upd_same⟩⟩
      · rw [enc_atom (t := .bl b) trivial] at few k
        refine ⟨_, rfl, _, rfl, iteF ?_⟩
        refine ⟨_, rfl, .bl b, .ty "bool", .type "bool", .type "bool", true, rfl, .ty _, .base (.bl _), kit_ty (by decide +kernel), _, rfl, iteT ?_⟩
        refine ⟨_, rfl, .inr ⟨b, rfl, _, _, rfl, rfl, (by show 1 ≤ sizeLine; decide), fun z hz => k z _ (sN hz) ?_⟩⟩
        rw [upd_same]
        cases b <;> rfl
      · rw [enc_atom (t := .int i) trivial] at few k
        refine ⟨_, rfl, _, rfl, iteF ?_⟩
        refine ⟨_, rfl, .int i, .ty "bool", .type "int", .type "bool", false, rfl, .ty _, .base (.int _), kit_ty (by decide +kernel), _, rfl, iteF ?_⟩
        refine ⟨_, rfl, .int i, .ty "int", .type "int", .type "int", true, rfl, .ty _, .base (.int _), kit_ty (by decide +kernel), _, rfl, iteT ?_⟩
        refine ⟨_, rfl, _, _, rfl, rfl, _, rfl, ite2 (fun c => ?_) (fun c => ?_)⟩
        · have c : 0 ≤ i := of_decide_eq_true c
          rw [encA_int c] at few k
          rw [List.length_cons] at few
          refine ⟨(by show 1 ≤ sizeLine; decide), fun z hz => ⟨_, rfl, i, rfl, c, by omega, fun y H2 s2 hy => ⟨z, y, _, _, rfl, rfl, s2 _ _ upd_same, hy, ?_, fun x hx => k x _ (sT (sN hz) (sT s2 (sN hx))) upd_same⟩⟩⟩
          rw [List.length_map]
          exact Nat.le_of_lt (size_ok (by show 1 + _ ≤ _; omega))
        · have c : ¬ 0 ≤ i := fun z => c (decide_eq_true z)
          rw [encA_neg c] at few k
          rw [List.length_cons] at few
          refine ⟨(by show 1 ≤ sizeLine; decide), fun z hz => ⟨_, _, rfl, rfl, _, rfl, _, _, rfl, rfl, -1 - i, rfl, by omega, by omega, fun y H2 s2 hy => ⟨z, y, _, _, rfl, rfl, s2 _ _ upd_same, hy, ?_, fun x hx => k x _ (sT (sN hz) (sT s2 (sN hx))) upd_same⟩⟩⟩
          rw [List.length_map]
          exact Nat.le_of_lt (size_ok (by show 1 + _ ≤ _; omega))
      · have okz := okT_atom ok
        rw [enc_atom okz] at few k
        have ee : encA (.str z) = 5 :: (vlq z.length ++ z.map fun c : Nat => (c : Int)) := rfl
        rw [ee] at few k
        rw [List.length_cons, List.length_append, List.length_map] at few
        have ez := sOf_len z
        refine ⟨_, rfl, _, rfl, iteF ?_⟩
        refine ⟨_, rfl, .str (sOf z), .ty "bool", .type "str", .type "bool", false, rfl, .ty _, .base (.str _), kit_ty (by decide +kernel), _, rfl, iteF ?_⟩
        refine ⟨_, rfl, .str (sOf z), .ty "int", .type "str", .type "int", false, rfl, .ty _, .base (.str _), kit_ty (by decide +kernel), _, rfl, iteF ?_⟩
        refine ⟨_, rfl, .str (sOf z), .ty "str", .type "str", .type "str", true, rfl, .ty _, .base (.str _), kit_ty (by decide +kernel), _, rfl, iteT ?_⟩
        refine ⟨(by show 1 ≤ sizeLine; decide), fun q hq => ⟨_, rfl, sOf z, rfl, by rw [ez]; exact Nat.le_of_lt (size_ok (by omega)), (z.length : Int), by rw [ez]; rfl, by omega, by rw [Int.toNat_natCast]; omega, fun y H2 s2 hy => ?_⟩⟩
        rw [Int.toNat_natCast] at hy
        refine ⟨q, y, _, _, rfl, rfl, s2 _ _ upd_same, hy, ?_, fun x hx => ?_⟩
        · rw [List.length_map]
          exact Nat.le_of_lt (size_ok (by show 1 + _ ≤ _; omega))
        have s3 := sT (sN hq) (sT s2 (sN (o := .lst ([.int 5] ++ (vlq z.length).map V.int)) hx))
        have e3 : (upd H2 x (.lst ([.int 5] ++ (vlq z.length).map V.int))) x = some (.lst ([.int 5] ++ (vlq z.length).map V.int)) := upd_same
        revert s3 e3
        generalize (upd H2 x (.lst ([.int 5] ++ (vlq z.length).map V.int))) = H3
        intro s3 e3
        refine ⟨_, rfl, sOf z, rfl, fun D hD => lc_it (walk_str (z := sOf z)) (fun i H' => H' D = some (.lst ((z.take i).map fun c => V.int ((c : Nat) : Int))) ∧ i ≤ z.length ∧ Same H3 H') ?_ ?_ ?_ ?_⟩
        · exact ⟨upd_same, Nat.zero_le _, sN hD⟩
        · rintro i H' hi _
          trivial
        · rintro i x' H1 H' hi ⟨eD, il, s1⟩ ⟨rfl, c, hc, rfl⟩
          have hc := sOf_at hc
          refine ⟨rfl, ?_⟩
          refine ⟨_, rfl, _, rfl, rfl, _, eD, ?_, ?_, (List.getElem?_eq_some_iff.mp hc).1, sNew s1 hD⟩
          · rw [List.length_map, List.length_take]
            exact size_ok (by omega)
          · rw [upd_same, take_more hc, List.map_append]
            rfl
        · rintro H4 ⟨eD, _, s4⟩
          have esz : (sOf z).cps.size = z.length := ez
          rw [esz, List.take_length] at eD
          refine ⟨x, D, _, _, rfl, rfl, s4 _ _ e3, eD, ?_, fun y2 hy2 => k y2 _ (sT s3 (sT s4 (sN hy2))) ?_⟩
          · simp only [List.length_append, List.length_map, List.length_singleton]
            exact Nat.le_of_lt (size_ok (by omega))
          · rw [upd_same]
            simp only [List.map_cons, List.map_append, List.append_assoc, List.cons_append, List.nil_append, List.map_map]
            rfl
      · have okl : ∀ t ∈ ls, OkT d' t := ok
        have ee : enc (d' + 1) (.tup ls) = 6 :: (vlq ls.length ++ (ls.map (enc d')).flatten) := rfl
        rw [ee] at few k
        rw [List.length_cons, List.length_append] at few
        refine ⟨_, rfl, _, rfl, iteF ?_⟩
        refine ⟨_, rfl, .ref a, .ty "bool", .type "tuple", .type "bool", false, rfl, .ty _, .base (.tup ha), kit_ty (by decide +kernel), _, rfl, iteF ?_⟩
        refine ⟨_, rfl, .ref a, .ty "int", .type "tuple", .type "int", false, rfl, .ty _, .base (.tup ha), kit_ty (by decide +kernel), _, rfl, iteF ?_⟩
        refine ⟨_, rfl, .ref a, .ty "str", .type "tuple", .type "str", false, rfl, .ty _, .base (.tup ha), kit_ty (by decide +kernel), _, rfl, iteF ?_⟩
        refine ⟨(by show 1 ≤ sizeLine; decide), fun q hq => ⟨_, rfl, a, xs, rfl, .inr (SqT.of (sN hq _ _ ha)), (ls.length : Int), by rw [hll]; rfl, by omega, by rw [Int.toNat_natCast]; omega, fun y H2 s2 hy => ?_⟩⟩
        rw [Int.toNat_natCast] at hy
        refine ⟨q, y, _, _, rfl, rfl, s2 _ _ upd_same, hy, ?_, fun l hl => ?_⟩
        · rw [List.length_map]
          exact Nat.le_of_lt (size_ok (by show 1 + _ ≤ _; omega))
        have s20 := sT (sN hq) s2
        have s3 := sT s20 (sN (o := .lst ([.int 6] ++ (vlq ls.length).map V.int)) hl)
        have e3 : (upd H2 l (.lst ([.int 6] ++ (vlq ls.length).map V.int))) l = some (.lst ([.int 6] ++ (vlq ls.length).map V.int)) := upd_same
        have nl : H l = none := sNo s20 hl
        revert s3 e3
        generalize (upd H2 l (.lst ([.int 6] ++ (vlq ls.length).map V.int))) = H3
        intro s3 e3
        refine ⟨_, rfl, a, rfl, ⟨_, SqT.of (s3 _ _ ha)⟩, for_tup (K := K) (a := a) (xs := xs) (fun i σ H' => ∃ x2 x3, σ = [some (.ref a), some (.ref l), x2, x3] ∧ Same H H' ∧ H' l = some (.lst ([.int 6] ++ (vlq ls.length).map V.int ++ (((ls.take i).map (enc d')).flatten).map V.int))) ?_ ?_ ?_ ?_⟩
        · refine ⟨none, none, rfl, s3, ?_⟩
          rw [e3]
          simp
        · rintro i σ H' hi ⟨x2, x3, rfl, s, e⟩
          exact SqT.of (s _ _ ha)
        · rintro i x σ H' hx ⟨x2, x3, rfl, s, e⟩
          have hi := (List.getElem?_eq_some_iff.mp hx).1
          have hil : i < ls.length := by omega
          have ht : ls[i]? = some ls[i] := List.getElem?_eq_getElem hil
          have ft := flat_take (d := d') ls (i + 1)
          rw [take_more ht, List.map_append, List.flatten_append, List.length_append] at ft
          have e1 : (([ls[i]].map (enc d')).flatten) = enc d' ls[i] := by simp
          rw [e1] at ft
          refine ⟨_, rfl, .inl ⟨rfl, _, SqL.of e⟩, _, rfl, by omega, ls[i], x, rfl, (hk i x _ hx ht).same s, okl _ (List.mem_of_getElem? ht), ?_, fun y4 H4 s4 hy4 => ⟨l, y4, _, _, rfl, rfl, s4 _ _ e, hy4, ?_, _, x3, rfl, sNew (sT s s4) nl, ?_⟩⟩
          · simp only [Nat.add_sub_cancel]
            omega
          · simp only [List.length_append, List.length_map, List.length_singleton, Nat.add_sub_cancel]
            exact Nat.le_of_lt (size_ok (by omega))
          · rw [upd_same, take_more ht, List.map_append, List.flatten_append, e1, List.map_append, ← List.append_assoc]
            rfl
        · rintro σ H' ⟨x2, x3, rfl, s, e⟩
          refine ⟨_, rfl, k l H' s ?_⟩
          rw [e, hll, List.take_length]
          simp only [List.map_cons, List.map_append, List.append_assoc, List.cons_append, List.nil_append]
  intro d
  induction d with
  | zero => exact main 0 ⟨fun vs H Q E h => absurd h.1 (by decide), fun A outer s H args us vs Q E hr e0 hb r h => absurd h.1 (by decide)⟩
  | succ d ih => exact main (d + 1) (ih.imp fun vs H Q E h => h.2)
theorem scSame : FnScope ["one", "other", "first", "later"] ["one", "other"] (defScope sSame) := ⟨rfl, rfl, rfl, by decide +kernel, rfl, by decide +kernel, by decide +kernel⟩
theorem ok_same {f : Addr} {fd : FuncData} (D : Df K mg "_law_same" sSame ["one", "other"] f fd) (B : Bts mg) : ∀ d, FnOk P w K mg base CX0 (d + 1) f fd ["one", "other"] (spSame d) := by
  have main : ∀ d, FnOk P w K mg base CX0 d f fd ["one", "other"] (fun vs H Q E => 0 < d ∧ spSame (d - 1) vs H Q E) → FnOk P w K mg base CX0 (d + 1) f fd ["one", "other"] (spSame d) := by
    intro d IH
    refine D.F.ok scSame (fun vs H Q E h => ?_) (fun cdv A outer s H vs Q E hr h => ?_)
    · obtain ⟨t, u, v, rfl, _⟩ := h
      rfl
    · obtain ⟨t, u, v, rfl, ru, rv, k⟩ := h
      have nd := scSame.nd
      refine ⟨_, pss_cons (ps_if (PW.pt (pw_or (pt_val (pe_callB call_isi (by rfl) B.isinstance PyProof.Rows.boot_isinstance (pa_cons (pv 0) (pa_cons (pe_bltn (v := .ty "tuple") rfl B.tuple PyProof.Rows.boot_tuple rfl) pa_nil)))) (pw_or1 (pt_val (pe_callB call_isi (by rfl) B.isinstance PyProof.Rows.boot_isinstance (pa_cons (pv 1) (pa_cons (pe_bltn (v := .ty "tuple") rfl B.tuple PyProof.Rows.boot_tuple rfl) pa_nil)))))))
          (pss_cons (ps_if (PW.pt (pw_or (pt_not (pt_val (pe_callB call_isi (by rfl) B.isinstance PyProof.Rows.boot_isinstance (pa_cons (pv 0) (pa_cons (pe_bltn (v := .ty "tuple") rfl B.tuple PyProof.Rows.boot_tuple rfl) pa_nil))))) (pw_or (pt_not (pt_val (pe_callB call_isi (by rfl) B.isinstance PyProof.Rows.boot_isinstance (pa_cons (pv 1) (pa_cons (pe_bltn (v := .ty "tuple") rfl B.tuple PyProof.Rows.boot_tuple rfl) pa_nil)))))
            (pw_or1 (pt_cmpR op_ne (pe_callB call_len_seq (by rfl) B.len PySem.boot_len (pa_cons (pv 0) pa_nil)) (pe_callB call_len_seq (by rfl) B.len PySem.boot_len (pa_cons (pv 1) pa_nil)) (nomark _)))))) pss_never pss_nil)
          (pss_one (ps_ret (pe_callB (cr_all rfl) (by rfl) B.all PyProof.Rows.boot_all (pa_cons (pe_lc (own := [("first", 2), ("later", 3)]) (g := gTup K 2 (gCons (gName 2) (gCons (gName 3) gNil))) (tt := tYes) rfl nd (RZ.pi_zipA rfl B.zip (pa_cons (pv 0) (pa_cons (pv 1) pa_nil)))
            (blkOk_by (N := ["one", "other", "first", "later"]) (sc := defScope sSame) (by decide +kernel)) (fun _ _ _ _ _ => pg_tup rfl (pgs_cons (pg_name (i := 2) nd rfl (.inl rfl)) (pgs_cons (pg_name (i := 3) nd rfl (.inl rfl)) pgs_nil))) (fun _ _ _ _ _ => pts_nil)
            (fun _ _ _ _ _ => pe_call IH hr rfl D.m D.k D.b .nil pass0 (pa_cons (pv 2) (pa_cons (pv 3) pa_nil)))) pa_nil))))) pss_nil)
        (pss_cons (ps_if (PW.pt (pw_or (pt_cmpR op_ne (pe_callB call_isi (by rfl) B.isinstance PyProof.Rows.boot_isinstance (pa_cons (pv 0) (pa_cons (pe_bltn (v := .ty "bool") rfl B.bool (by decide +kernel) rfl) pa_nil))) (pe_callB call_isi (by rfl) B.isinstance PyProof.Rows.boot_isinstance (pa_cons (pv 1) (pa_cons (pe_bltn (v := .ty "bool") rfl B.bool (by decide +kernel) rfl) pa_nil))) (nomark _))
          (pw_or1 (pt_cmpR op_ne (pe_callB call_isi (by rfl) B.isinstance PyProof.Rows.boot_isinstance (pa_cons (pv 0) (pa_cons (pe_bltn (v := .ty "str") rfl B.str PyProof.Rows.boot_str rfl) pa_nil))) (pe_callB call_isi (by rfl) B.isinstance PyProof.Rows.boot_isinstance (pa_cons (pv 1) (pa_cons (pe_bltn (v := .ty "str") rfl B.str PyProof.Rows.boot_str rfl) pa_nil))) (nomark _))))) pss_never pss_nil)
        (pss_one (ps_ret (pe_cmpR op_eq (pv 0) (pv 1) (nomark _))))), ?_⟩
      have atom : ∀ (v : V) (ty : String), TyX K H v (.type ty) → kitB ty "tuple" = some false → ∀ (b1 b2 : Bool), kitB ty "bool" = some b1 → kitB ty "str" = some b2 → scal v v = true → True := fun _ _ _ _ _ _ _ _ _ => trivial
      clear atom
      have fals : ∀ b : Bool, (!decide (V.bl b = V.bl b)) = false := fun b => by rw [decide_eq_true rfl]; rfl
      rcases ru.cases with ⟨rfl, rfl⟩ | ⟨b, rfl, rfl⟩ | ⟨i, rfl, rfl⟩ | ⟨z, rfl, rfl, zl⟩ | ⟨d', ls, a, xs, rfl, rfl, rfl, ha, hll, lfew, hk⟩
      · obtain rfl : v = .non := by cases d <;> exact rv
        refine ⟨_, rfl, .non, .ty "tuple", .type "NoneType", .type "tuple", false, rfl, .ty _, .base .non, kit_ty (by decide +kernel), _, rfl, iteF ?_⟩
        refine ⟨_, rfl, .non, .ty "tuple", .type "NoneType", .type "tuple", false, rfl, .ty _, .base .non, kit_ty (by decide +kernel), _, rfl, iteF ?_⟩
        refine ⟨_, rfl, .non, .ty "bool", .type "NoneType", .type "bool", false, rfl, .ty _, .base .non, kit_ty (by decide +kernel), _, rfl, .non, .ty "bool", .type "NoneType", .type "bool", false, rfl, .ty _, .base .non, kit_ty (by decide +kernel), rfl, _, rfl, ?_⟩
        rw [fals]
        refine iteF ⟨_, rfl, .non, .ty "str", .type "NoneType", .type "str", false, rfl, .ty _, .base .non, kit_ty (by decide +kernel), _, rfl, .non, .ty "str", .type "NoneType", .type "str", false, rfl, .ty _, .base .non, kit_ty (by decide +kernel), rfl, _, rfl, ?_⟩
        rw [fals]
        refine iteF ⟨_, rfl, _, rfl, rfl, ?_⟩
        rw [decide_eq_true rfl]
        exact k _ sR
      · obtain rfl : v = .bl b := by cases d <;> exact rv
        refine ⟨_, rfl, .bl b, .ty "tuple", .type "bool", .type "tuple", false, rfl, .ty _, .base (.bl _), kit_ty (by decide +kernel), _, rfl, iteF ?_⟩
        refine ⟨_, rfl, .bl b, .ty "tuple", .type "bool", .type "tuple", false, rfl, .ty _, .base (.bl _), kit_ty (by decide +kernel), _, rfl, iteF ?_⟩
        refine ⟨_, rfl, .bl b, .ty "bool", .type "bool", .type "bool", true, rfl, .ty _, .base (.bl _), kit_ty (by decide +kernel), _, rfl, .bl b, .ty "bool", .type "bool", .type "bool", true, rfl, .ty _, .base (.bl _), kit_ty (by decide +kernel), rfl, _, rfl, ?_⟩
        rw [fals]
        refine iteF ⟨_, rfl, .bl b, .ty "str", .type "bool", .type "str", false, rfl, .ty _, .base (.bl _), kit_ty (by decide +kernel), _, rfl, .bl b, .ty "str", .type "bool", .type "str", false, rfl, .ty _, .base (.bl _), kit_ty (by decide +kernel), rfl, _, rfl, ?_⟩
        rw [fals]
        refine iteF ⟨_, rfl, _, rfl, rfl, ?_⟩
        rw [decide_eq_true rfl]
        exact k _ sR
      · obtain rfl : v = .int i := by cases d <;> exact rv
        refine ⟨_, rfl, .int i, .ty "tuple", .type "int", .type "tuple", false, rfl, .ty _, .base (.int _), kit_ty (by decide +kernel), _, rfl, iteF ?_⟩
        refine ⟨_, rfl, .int i, .ty "tuple", .type "int", .type "tuple", false, rfl, .ty _, .base (.int _), kit_ty (by decide +kernel), _, rfl, iteF ?_⟩
        refine ⟨_, rfl, .int i, .ty "bool", .type "int", .type "bool", false, rfl, .ty _, .base (.int _), kit_ty (by decide +kernel), _, rfl, .int i, .ty "bool", .type "int", .type "bool", false, rfl, .ty _, .base (.int _), kit_ty (by decide +kernel), rfl, _, rfl, ?_⟩
        rw [fals]
        refine iteF ⟨_, rfl, .int i, .ty "str", .type "int", .type "str", false, rfl, .ty _, .base (.int _), kit_ty (by decide +kernel), _, rfl, .int i, .ty "str", .type "int", .type "str", false, rfl, .ty _, .base (.int _), kit_ty (by decide +kernel), rfl, _, rfl, ?_⟩
        rw [fals]
        refine iteF ⟨_, rfl, _, rfl, rfl, ?_⟩
        rw [decide_eq_true rfl]
        exact k _ sR
      · obtain ⟨rfl, _⟩ : v = .str (sOf z) ∧ z.length ≤ 9000 := by cases d <;> exact rv
        refine ⟨_, rfl, .str (sOf z), .ty "tuple", .type "str", .type "tuple", false, rfl, .ty _, .base (.str _), kit_ty (by decide +kernel), _, rfl, iteF ?_⟩
        refine ⟨_, rfl, .str (sOf z), .ty "tuple", .type "str", .type "tuple", false, rfl, .ty _, .base (.str _), kit_ty (by decide +kernel), _, rfl, iteF ?_⟩
        refine ⟨_, rfl, .str (sOf z), .ty "bool", .type "str", .type "bool", false, rfl, .ty _, .base (.str _), kit_ty (by decide +kernel), _, rfl, .str (sOf z), .ty "bool", .type "str", .type "bool", false, rfl, .ty _, .base (.str _), kit_ty (by decide +kernel), rfl, _, rfl, ?_⟩
        rw [fals]
        refine iteF ⟨_, rfl, .str (sOf z), .ty "str", .type "str", .type "str", true, rfl, .ty _, .base (.str _), kit_ty (by decide +kernel), _, rfl, .str (sOf z), .ty "str", .type "str", .type "str", true, rfl, .ty _, .base (.str _), kit_ty (by decide +kernel), rfl, _, rfl, ?_⟩
        rw [fals]
        refine iteF ⟨_, rfl, _, rfl, rfl, ?_⟩
        rw [decide_eq_true rfl]
        exact k _ sR
      · obtain ⟨b, ys, rfl, hb, hl2, lf2, hk2⟩ : ∃ b ys, v = .ref b ∧ H b = some (.tup ys) ∧ ys.length = ls.length ∧ ys.length ≤ 9000 ∧ ∀ (i : Nat) (x : V) (t : QR.T), ys[i]? = some x → ls[i]? = some t → Rep H d' t x := rv
        refine ⟨_, rfl, .ref a, .ty "tuple", .type "tuple", .type "tuple", true, rfl, .ty _, .base (.tup ha), kit_ty (by decide +kernel), _, rfl, iteT ?_⟩
        refine ⟨_, rfl, .ref a, .ty "tuple", .type "tuple", .type "tuple", true, rfl, .ty _, .base (.tup ha), kit_ty (by decide +kernel), _, rfl, iteF ?_⟩
        refine ⟨_, rfl, .ref b, .ty "tuple", .type "tuple", .type "tuple", true, rfl, .ty _, .base (.tup hb), kit_ty (by decide +kernel), _, rfl, iteF ?_⟩
        refine ⟨_, rfl, a, xs, rfl, .inr (SqT.of ha), _, rfl, b, ys, rfl, .inr (SqT.of hb), rfl, _, rfl, ?_⟩
        rw [hll, hl2, decide_eq_true (rfl : V.int (ls.length : Int) = V.int (ls.length : Int))]
        refine iteF ?_
        refine ⟨_, rfl, _, rfl, a, b, xs, ys, rfl, .inr ⟨SqT.of ha, SqT.of hb, fun D hD => lc_it (walk_zipT (K := K) (a := a) (b := b) (xs := xs) (ys := ys) (n := ls.length) (by omega)) (fun i H' => H' D = some (.lst ((List.replicate i true).map V.bl)) ∧ i ≤ ls.length ∧ Same H H') ?_ ?_ ?_ ?_⟩⟩
        · exact ⟨upd_same, Nat.zero_le _, sN hD⟩
        · rintro i H3 hi ⟨_, _, s3⟩
          exact ⟨SqT.of (s3 _ _ ha), SqT.of (s3 _ _ hb)⟩
        · rintro i v H3 H4 hi ⟨eD, _, s3⟩ ⟨T, x, y, rfl, hT, rfl, hx, hy⟩
          have ht : ls[i]? = some ls[i] := List.getElem?_eq_getElem hi
          have s4 := sN (o := .tup [x, y]) hT
          refine ⟨T, _, rfl, SqT.of upd_same, rfl, _, _, rfl, _, _, rfl, rfl, rfl, ?_⟩
          refine ⟨_, rfl, _, rfl, by omega, ls[i], x, y, rfl, (hk i x _ hx ht).same (sT s3 s4), (hk2 i y _ hy ht).same (sT s3 s4), fun H5 s5 => ⟨_, s5 _ _ (s4 _ _ eD), ?_, ?_, hi, sNew (sT s3 (sT s4 s5)) hD⟩⟩
          · rw [List.length_map, List.length_replicate]
            exact size_ok (by omega)
          · rw [upd_same, List.replicate_succ', List.map_append]
            rfl
        · rintro H3 ⟨eD, _, s3⟩
          refine ⟨D, _, rfl, SqL.of eD, ?_⟩
          rw [rep_true]
          exact k _ s3
  intro d
  induction d with
  | zero => exact main 0 ⟨fun vs H Q E h => absurd h.1 (by decide), fun A outer s H args us vs Q E hr e0 hb r h => absurd h.1 (by decide)⟩
  | succ d ih => exact main (d + 1) (ih.imp fun vs H Q E h => h.2)
end
end Q

namespace Q
open PySem L2 QR
abbrev sLSg : Stmt := top 49
abbrev sLMk : Stmt := top 54
abbrev sLSl : Stmt := top 55
abbrev sLRW : Stmt := top 50
theorem bnd_ge : ∀ d, 30 ≤ bnd d
  | 0 => Nat.le_refl _
  | d + 1 => by
    show 30 ≤ 4 * bnd d + 30
    omega
theorem enc_int {d : Nat} {i : Int} (h : i.natAbs < 2 ^ 55) : (enc d (.int i)).length ≤ 9 := by
  rw [enc_atom (t := .int i) trivial]
  by_cases c : 0 ≤ i
  · rw [encA_int c, List.length_cons]
    have := vlq_small 7 i.toNat (Nat.lt_of_lt_of_le (show i.toNat < 2 ^ 55 by omega) (by decide))
    omega
  · rw [encA_neg c, List.length_cons]
    have := vlq_small 7 (-1 - i).toNat (Nat.lt_of_lt_of_le (show (-1 - i).toNat < 2 ^ 55 by omega) (by decide))
    omega
theorem okT_at {d : Nat} {t : T} (h : okA t) : OkT d t := by
  cases d with
  | zero => exact h
  | succ d => cases t with
    | tup l => exact h.elim
    | _ => exact h
theorem flat_bnd {d : Nat} {B : Nat} : ∀ {l : List T}, (∀ t ∈ l, (enc d t).length ≤ B) → ((l.map (enc d)).flatten).length ≤ l.length * B
  | [], _ => by simp
  | t :: l, h => by
    have := flat_bnd (l := l) fun x hx => h x (List.mem_cons_of_mem _ hx)
    have := h t List.mem_cons_self
    rw [List.map_cons, List.flatten_cons, List.length_append, List.length_cons, Nat.add_mul]
    omega
def drS : Str := " ~a0Zb'"
theorem drS_ok : ∀ c ∈ drS.cps.toList, isSg (c : Int) = true := by decide +kernel
theorem drS_len : drS.cps.toList.length = 7 := by decide +kernel
def lsA : Str := " !\"#$&'()*+,-./0123456789:;<=>?@ABCDEFGHIJKLMNOPQRSTUVWXYZ[\\]^_"
def lsB : Str := "`abcdefghijklmnopqrstuvwxyz{|}~"
theorem ls_at : ∀ k : Nat, k < 94 → (lsA ++ lsB).cps.toList[k]? = some (if k < 5 then 32 + k else 33 + k) := by decide +kernel
def spLSg : Sp := fun vs H Q _ => ∃ b : Int, vs = [.int b] ∧ isSg b = true ∧ Q (.str (sOf [b.toNat])) H
def spLMk (K : PySem.W.Frag) : Sp := fun vs H Q _ => ∃ (q : Addr) (bs : List Int), vs = [.ref q] ∧ H q = some (.tup (bs.map V.int)) ∧ Q (.int (mkF bs)) H
def spLSl : Sp := fun vs H Q _ => ∃ (q : Addr) (bs : List Int), vs = [.ref q] ∧ H q = some (.tup (bs.map V.int)) ∧ bs.length ≤ 9000 ∧ ∀ z H', Same H H' → H' z = some (.tup ((bs ++ sealL bs).map V.int)) → Q (.ref z) H'
def spLRW : Sp := fun vs H Q _ => ∃ (q : Addr) (bs : List Int) (a : Nat), vs = [.ref q, .int (a : Int)] ∧ RowAt H q bs ∧ a ≤ bs.length ∧ (∀ n h z H', rdW bs a = some (n, h) → Same H H' → H' z = some (.tup [.int n, .int ((h : Nat) : Int)]) → Q (.ref z) H') ∧ (rdW bs a = none → ∀ z H', Same H H' → H' z = some (.tup [.non, .int (a : Int)]) → Q (.ref z) H')
section
variable {P : Program} {w : World} {K : PySem.W.Frag} {mg : Str → Option Value} {base : Heap}
theorem scLNum : FnScope ["pool", "kind", "found", "turn"] ["pool"] (defScope sLNum) := ⟨rfl, rfl, rfl, by decide +kernel, rfl, by decide +kernel, by decide +kernel⟩
theorem ok_lnum {f fD : Addr} {fd fdD : FuncData} (D : Df K mg "_law_number" sLNum ["pool"] f fd) (B : Bts mg) (DD : Df K mg "_law_draw" sDraw ["pool", "many"] fD fdD) : FnOk P w K mg base CX0 2 f fd ["pool"] spLNum := by
  have GD : FnOk P w K mg base CX0 1 fD fdD ["pool", "many"] spDraw := ok_draw DD B
  refine D.F.ok scLNum (fun vs H Q E h => ?_) (fun cdv A outer s H vs Q E hr h => ?_)
  · obtain ⟨p, l, rfl, _⟩ := h
    rfl
  · obtain ⟨p, l, rfl, g0, k⟩ := h
    have nd := scLNum.nd
    refine ⟨_, pss_cons (ps_set (i := 1) nd rfl (.inl rfl) (pe_call GD hr rfl DD.m DD.k DD.b .nil pass0 (pa_cons (pv 0) (pa_cons pe_int pa_nil))))
      (pss_cons (ps_if (pt_cmpR op_lt (pv 1) pe_int (nomark _)) (pss_one (ps_ret (pe_ix ix_list (pe_lst (pa_cons pe_int (pa_cons pe_int (pa_cons (pe_un un_neg pe_int) (pa_cons pe_int (pa_cons pe_int (pa_cons (pe_un un_neg pe_int) (pa_cons (pe_un un_neg pe_int) (pa_cons pe_int (pa_cons pe_int (pa_cons pe_int (pa_cons (pe_un un_neg pe_int) pa_nil))))))))))))
          (pe_call GD hr rfl DD.m DD.k DD.b .nil pass0 (pa_cons (pv 0) (pa_cons pe_int pa_nil))) (fun _ _ => rfl)))) pss_nil)
      (pss_cons (ps_set (i := 2) nd rfl (.inl rfl) (pe_call GD hr rfl DD.m DD.k DD.b .nil pass0 (pa_cons (pv 0) (pa_cons pe_int pa_nil))))
      (pss_cons (ps_for PassesOwn.never rfl (pi_range1 rfl B.range (pa_cons (pe_call GD hr rfl DD.m DD.k DD.b .nil pass0 (pa_cons (pv 0) (pa_cons pe_int pa_nil))) pa_nil)) (pg_name (i := 3) nd rfl (.inl rfl))
        (pss_one (ps_set (i := 2) nd rfl (.inl rfl) (pe_op op_add (pe_op op_mul (pv 2) pe_int) (pe_call GD hr rfl DD.m DD.k DD.b .nil pass0 (pa_cons (pv 0) (pa_cons pe_int pa_nil)))))))
      (pss_one (ps_ret (pe_ifExp (pt_cmpR op_lt (pv 1) pe_int (nomark _)) (pv 2) (pe_op op_sub pe_int (pv 2)))))))), ?_⟩
    refine ⟨_, rfl, p, l, 7, rfl, g0, by decide, by decide, fun kd H1 kd0 kd1 g1 k1 => ?_⟩
    refine ⟨_, rfl, _, _, rfl, rfl, _, rfl, ite2 (fun _ => ?_) (fun _ => ?_)⟩
    · refine ⟨_, rfl, _, rfl, _, rfl, _, rfl, (by show 11 ≤ sizeLine; decide), fun q hq => ?_⟩
      have g2 := g1.same (sN (o := .lst [.int 0, .int 1, .int (-1), .int 127, .int 128, .int (-128), .int (-129), .int 300, .int 16383, .int 16384, .int (-16385)]) hq)
      refine ⟨_, rfl, p, l, 11, rfl, g2, by decide, by decide, fun d H2 d0 d1 g3 k3 => ?_⟩
      obtain ⟨n1, n2⟩ := g1.none hq
      obtain ⟨v, hv, ev⟩ := at_in ([.int 0, .int 1, .int (-1), .int 127, .int 128, .int (-128), .int (-129), .int 300, .int 16383, .int 16384, .int (-16385)] : List V) d0 d1
      have fin : ∀ i : Int, v = .int i → i.natAbs < 2 ^ 55 → Q v H2 := fun i e hi => by
        rw [e]
        exact k i H2 g3 ((k1.tr (Kp.of (sN hq))).tr k3) hi
      refine ⟨q, _, d, v, rfl, rfl, SqL.of (k3 _ _ upd_same n1 n2), ev, ?_⟩
      simp only [List.mem_cons, List.not_mem_nil, or_false] at hv
      rcases hv with e | e | e | e | e | e | e | e | e | e | e <;> exact fin _ e (by decide)
    · refine ⟨_, rfl, p, l, 1000, rfl, g1, by decide, by decide, fun fo H2 fo0 fo1 g2 k2 => ?_⟩
      refine ⟨_, rfl, p, l, 5, rfl, g2, by decide, by decide, fun tn H3 tn0 tn1 g3 k3 => ?_⟩
      refine ⟨tn, rfl, by omega, by omega, for_range (lo := 0) (n := tn.toNat) (fun i σ H' => ∃ (fo : Int) (x3 : Option V), σ = [some (.ref p), some (.int kd), some (.int fo), x3] ∧ 0 ≤ fo ∧ fo < 1000 ^ (i + 1) ∧ PoolAt H' p l ∧ Kp p l H H') ?_ ?_ ?_⟩
      · exact ⟨fo, none, rfl, fo0, fo1, g3, (k1.tr k2).tr k3⟩
      · rintro i σ H4 hi ⟨fo, x3, rfl, f0, f1, g4, k4⟩
        refine ⟨_, rfl, _, _, rfl, rfl, .inr ⟨by decide, by decide⟩, _, rfl, p, l, 1000, rfl, g4, by decide, by decide, fun d H5 d0 d1 g5 k5 => ⟨_, _, rfl, rfl, _, _, rfl, by omega, ?_, g5, k4.tr k5⟩⟩
        rw [show (1000 : Int) ^ (i + 1 + 1) = 1000 ^ (i + 1) * 1000 from Int.pow_succ _ _]
        omega
      · rintro σ H4 ⟨fo, x3, rfl, f0, f1, g4, k4⟩
        have fb : fo < 1000 ^ 5 := by
          refine Int.lt_of_lt_of_le f1 ?_
          have h5 : tn.toNat + 1 ≤ 5 := by omega
          revert h5
          generalize tn.toNat + 1 = n
          intro h5
          rcases (show n = 0 ∨ n = 1 ∨ n = 2 ∨ n = 3 ∨ n = 4 ∨ n = 5 by omega) with rfl | rfl | rfl | rfl | rfl | rfl <;> decide
        have fb : fo < 1000000000000000 := fb
        refine ⟨_, rfl, _, _, rfl, rfl, _, rfl, ite2 (fun _ => ?_) (fun _ => ?_)⟩
        · exact ⟨_, rfl, k fo H4 g4 k4 (by omega)⟩
        · exact ⟨_, rfl, _, _, rfl, rfl, k (0 - fo) H4 g4 k4 (by omega)⟩
theorem scLPar : FnScope ["pool", "deep", "kind", "many", "at", "turn"] ["pool", "deep"] (defScope sLPar) := ⟨rfl, rfl, rfl, by decide +kernel, rfl, by decide +kernel, by decide +kernel⟩
theorem ok_lpar {f fD fN : Addr} {fd fdD fdN : FuncData} (D : Df K mg "_law_parcel" sLPar ["pool", "deep"] f fd) (B : Bts mg) (DD : Df K mg "_law_draw" sDraw ["pool", "many"] fD fdD) (DN : Df K mg "_law_number" sLNum ["pool"] fN fdN) : ∀ d, FnOk P w K mg base CX0 (d + 3) f fd ["pool", "deep"] (spLPar d) := by
  have GD : FnOk P w K mg base CX0 1 fD fdD ["pool", "many"] spDraw := ok_draw DD B
  have GN : FnOk P w K mg base CX0 2 fN fdN ["pool"] spLNum := ok_lnum DN B DD
  have main : ∀ d, FnOk P w K mg base CX0 (d + 2) f fd ["pool", "deep"] (fun vs H Q E => 0 < d ∧ spLPar (d - 1) vs H Q E) → FnOk P w K mg base CX0 (d + 3) f fd ["pool", "deep"] (spLPar d) := by
    intro d IH
    refine D.F.ok scLPar (fun vs H Q E h => ?_) (fun cdv A outer s H vs Q E hr h => ?_)
    · obtain ⟨p, l, rfl, _⟩ := h
      rfl
    · obtain ⟨p, l, rfl, g0, k⟩ := h
      have nd := scLPar.nd
      have hr1 : Room 1 _ := hr.mono (by omega)
      have hr2 : Room 2 _ := hr.mono (by omega)
      have bd := bnd_ge d
      refine ⟨_, pss_cons (ps_set (i := 2) nd rfl (.inl rfl) (pe_call GD hr1 rfl DD.m DD.k DD.b .nil pass0 (pa_cons (pv 0) (pa_cons pe_int pa_nil))))
        (pss_cons (ps_if (pt_cmpR op_lt (pv 2) pe_int (nomark _)) (pss_one (ps_ret (pe_ix ix_list (pe_lst (pa_cons pe_non (pa_cons pe_bl (pa_cons pe_bl pa_nil)))) (pv 2) (fun _ _ => rfl)))) pss_nil)
        (pss_cons (ps_if (pt_cmpR op_lt (pv 2) pe_int (nomark _)) (pss_one (ps_ret (pe_call GN hr2 rfl DN.m DN.k DN.b .nil pass0 (pa_cons (pv 0) pa_nil)))) pss_nil)
        (pss_cons (ps_if (pt_cmpR op_lt (pv 2) pe_int (nomark _))
          (pss_cons (ps_set (i := 3) nd rfl (.inl rfl) (pe_ifExp (pt_cmpR op_eq (pe_call GD hr1 rfl DD.m DD.k DD.b .nil pass0 (pa_cons (pv 0) (pa_cons pe_int pa_nil))) pe_int (nomark _)) pe_int (pe_op op_add pe_int (pe_call GD hr1 rfl DD.m DD.k DD.b .nil pass0 (pa_cons (pv 0) (pa_cons pe_int pa_nil))))))
          (pss_one (ps_ret (pe_join pe_str (pe_lc (own := [("at", 4)]) (g := gName 4) (tt := tYes) rfl nd (pi_range1 rfl B.range (pa_cons (pv 3) pa_nil)) (blkOk_by (N := ["pool", "deep", "kind", "many", "at", "turn"]) (sc := defScope sLPar) (by decide +kernel)) (fun _ _ _ _ _ => pg_name (i := 4) nd rfl (.inl rfl)) (fun _ _ _ _ _ => pts_nil)
            (fun _ _ _ _ _ => pe_ix ix_str pe_str (pe_call GD hr1 rfl DD.m DD.k DD.b .nil pass0 (pa_cons (pv 0) (pa_cons pe_int pa_nil))) (fun _ _ => rfl))))))) pss_nil)
        (pss_cons (ps_if (pt_cmpR op_eq (pv 1) pe_int (nomark _)) (pss_one (ps_ret pe_int)) pss_nil)
        (pss_one (ps_ret (pe_callTy call_tuple_of (by rfl) B.tuple PyProof.Rows.boot_tuple (pa_cons (pe_lc (own := [("turn", 5)]) (g := gName 5) (tt := tYes) rfl nd (pi_range1 rfl B.range (pa_cons (pe_call GD hr1 rfl DD.m DD.k DD.b .nil pass0 (pa_cons (pv 0) (pa_cons pe_int pa_nil))) pa_nil)) (blkOk_by (N := ["pool", "deep", "kind", "many", "at", "turn"]) (sc := defScope sLPar) (by decide +kernel)) (fun _ _ _ _ _ => pg_name (i := 5) nd rfl (.inl rfl)) (fun _ _ _ _ _ => pts_nil)
          (fun _ _ _ _ _ => pe_call IH hr rfl D.m D.k D.b .nil pass0 (pa_cons (pv 0) (pa_cons (pe_op op_sub (pv 1) pe_int) pa_nil)))) pa_nil)))))))), ?_⟩
      refine ⟨_, rfl, p, l, 10, rfl, g0, by decide, by decide, fun kd H1 kd0 kd1 g1 k1 => ?_⟩
      have atm : ∀ (t : QR.T) (v : V) H', PoolAt H' p l → Kp p l H H' → RepA t v → okA t → (encA t).length ≤ 30 → Q v H' := fun t v H' g kk ra oa le => k t v H' g kk (.atom ra) (okT_at oa) (by rw [enc_atom oa]; omega)
      refine ⟨_, rfl, _, _, rfl, rfl, _, rfl, ite2 (fun c => ?_) (fun c3 => ?_)⟩
      · have c : kd < 3 := of_decide_eq_true c
        refine ⟨(by show 3 ≤ sizeLine; decide), fun q hq => ?_⟩
        have s2 := sN (o := .lst [.non, .bl true, .bl false]) hq
        rcases (show kd = 0 ∨ kd = 1 ∨ kd = 2 by omega) with rfl | rfl | rfl
        · exact ⟨_, rfl, q, _, 0, .non, rfl, rfl, SqL.of upd_same, atI_nat (j := 0) rfl, atm .non _ _ (g1.same s2) (k1.st s2) rfl trivial (by decide)⟩
        · exact ⟨_, rfl, q, _, 1, .bl true, rfl, rfl, SqL.of upd_same, atI_nat (j := 1) rfl, atm (.bl true) _ _ (g1.same s2) (k1.st s2) rfl trivial (by decide)⟩
        · exact ⟨_, rfl, q, _, 2, .bl false, rfl, rfl, SqL.of upd_same, atI_nat (j := 2) rfl, atm (.bl false) _ _ (g1.same s2) (k1.st s2) rfl trivial (by decide)⟩
      refine ⟨_, rfl, _, _, rfl, rfl, _, rfl, ite2 (fun c => ?_) (fun c5 => ?_)⟩
      · refine ⟨_, rfl, p, l, rfl, g1, fun i H2 g2 k2 hi => k (.int i) (.int i) H2 g2 (k1.tr k2) (Rep.atom (t := .int i) (v := .int i) rfl) (okT_at (t := .int i) trivial) (by have := enc_int (d := d) hi; omega)⟩
      refine ⟨_, rfl, _, _, rfl, rfl, _, rfl, ite2 (fun c => ?_) (fun c7 => ?_)⟩
      · -- a string
        refine ⟨_, rfl, p, l, 8, rfl, g1, by decide, by decide, fun d8 H2 e0 e1 g2 k2 => ⟨rfl, _, rfl, ?_⟩⟩
        refine ite2 (fun _ => ?t1) (fun _ => ?t2)
        case' t1 =>
          obtain ⟨m, H3, em, m1, m20, g3, k3⟩ : ∃ (m : Int) (H3 : Hp), (20 = m ∧ H3 = H2) ∧ 1 ≤ m ∧ m ≤ 20 ∧ PoolAt H3 p l ∧ Kp p l H H3 := ⟨20, H2, ⟨rfl, rfl⟩, by decide, by decide, g2, k1.tr k2⟩
          obtain ⟨em, rfl⟩ := em
          rw [em]
        case' t2 =>
          refine ⟨_, rfl, p, l, 6, rfl, g2, by decide, by decide, fun d6 H3 f0 f1 g3 k3' => ⟨_, _, rfl, rfl, ?_⟩⟩
          have k3 := (k1.tr k2).tr k3'
          obtain ⟨m, em, m1, m20⟩ : ∃ m : Int, 1 + d6 = m ∧ 1 ≤ m ∧ m ≤ 20 := ⟨_, rfl, by omega, by omega⟩
          have em2 : (fun i j : Int => V.int (i + j)) 1 d6 = V.int m := by rw [← em]
          rw [em2]
        all_goals
          refine ⟨⟨_, rfl⟩, _, rfl, m, rfl, by omega, by omega, fun D hD => ?_⟩
          obtain ⟨nD1, nD2⟩ := g3.none hD
          refine lc_range (lo := 0) (n := m.toNat) (fun i H' => ∃ zs : List Nat, H' D = some (.lst (zs.map fun c => V.str (sOf [c]))) ∧ zs.length = i ∧ (∀ c ∈ zs, isSg (c : Int) = true) ∧ PoolAt H' p l ∧ Kp p l H H') ?_ ?_ ?_
          · exact ⟨[], upd_same, rfl, fun c hc => by simp at hc, g3.same (sN hD), k3.st (sN hD)⟩
          · rintro i H' hi ⟨zs, eD, lz, sg, g4, k4⟩
            refine ⟨rfl, _, rfl, p, l, 7, rfl, g4, by decide, by decide, fun d7 H5 a0 a1 g5 k5 => ?_⟩
            obtain ⟨c, hc, ec⟩ := at_in drS.cps.toList a0 (by rw [drS_len]; exact a1)
            refine ⟨drS, d7, c, rfl, rfl, by decide +kernel, ec, _, k5 _ _ eD nD1 nD2, ?_, zs ++ [c], ?_, ?_, ?_, g5.upd nD1 nD2, ?_⟩
            · rw [List.length_map]
              exact size_ok (by omega)
            · rw [upd_same, List.map_append]
              rfl
            · rw [List.length_append, lz]
              rfl
            · intro x hx
              rcases List.mem_append.mp hx with hx | hx
              · exact sg x hx
              · rw [List.mem_singleton.mp hx]
                exact drS_ok c hc
            · intro b o e n1 n2
              have hb := k4 b o e n1 n2
              have hb3 := k3 b o e n1 n2
              rw [upd_ne (ne_of_none hb3 hD)]
              exact k5 b o hb n1 n2
          · rintro H' ⟨zs, eD, lz, sg, g4, k4⟩
            refine ⟨SX.S [], D, zs.map fun c => sOf [c], rfl, rfl, .inl (SqL.of (by rw [eD, List.map_map]; rfl)), ?_, ?_⟩
            · rw [lens1, List.length_map]
              show zs.length + zs.length * 0 ≤ _
              omega
            · rw [join_sOf]
              refine atm (.str zs) _ H' g4 k4 ⟨rfl, by omega⟩ ⟨by omega, by omega, sg⟩ ?_
              show (5 :: (vlq zs.length ++ zs.map fun c : Nat => (c : Int))).length ≤ 30
              rw [List.length_cons, List.length_append, List.length_map, vlq_lt (by omega)]
              show 1 + _ + 1 ≤ 30
              omega
      refine ⟨_, rfl, rfl, _, rfl, ite2 (fun c => ?_) (fun c0 => ?_)⟩
      · exact atm (.int 7) _ _ g1 k1 rfl trivial (by rw [encA_int (by decide), vlq_lt (by decide)]; decide)
      · have d0 : 0 < d := by
          refine Nat.pos_of_ne_zero fun z => c0 (decide_eq_true ?_)
          rw [z]
          rfl
        refine ⟨_, rfl, p, l, 5, rfl, g1, by decide, by decide, fun tn H2 t0 t1 g2 k2 => ?_⟩
        refine ⟨tn, rfl, by omega, by omega, fun D hD => ?_⟩
        obtain ⟨nD1, nD2⟩ := g2.none hD
        have k02 := k1.tr k2
        refine lc_range (lo := 0) (n := tn.toNat) (fun i H' => ∃ (xs : List V) (ts : List QR.T), H' D = some (.lst xs) ∧ xs.length = i ∧ ts.length = i ∧ (∀ (j : Nat) (x : V) (t : QR.T), xs[j]? = some x → ts[j]? = some t → Rep H' (d - 1) t x) ∧ (∀ t ∈ ts, OkT (d - 1) t) ∧ (∀ t ∈ ts, (enc (d - 1) t).length ≤ bnd (d - 1)) ∧ PoolAt H' p l ∧ Kp p l H H') ?_ ?_ ?_
        · exact ⟨[], [], upd_same, rfl, rfl, fun j x t hx => by simp at hx, fun t ht => by simp at ht, fun t ht => by simp at ht, g2.same (sN hD), k02.st (sN hD)⟩
        · rintro i H' hi ⟨xs, ts, eD, lx, lt, reps, oks, bds, g4, k4⟩
          refine ⟨rfl, _, rfl, _, rfl, _, _, rfl, rfl, d0, p, l, ?_, g4, fun t v H5 g5 k5 rp ok bd5 => ?_⟩
          · show [V.ref p, V.int ((d : Int) - 1)] = _
            rw [show ((d : Int) - 1) = ((d - 1 : Nat) : Int) by omega]
          have eD5 := k5 _ _ eD nD1 nD2
          have tk5 : Tk H5 (upd H5 D (.lst (xs ++ [v]))) := fun c ys e => by
            rw [upd_ne (ne_of e eD5 (fun z => by cases z))]
            exact e
          refine ⟨xs, eD5, by rw [lx]; exact size_ok (by omega), xs ++ [v], ts ++ [t], upd_same, by rw [List.length_append, lx]; rfl, by rw [List.length_append, lt]; rfl, fun j x t' hx ht => ?_, fun t' ht => ?_, fun t' ht => ?_, g5.upd nD1 nD2, fun b o e n1 n2 => ?_⟩
          · by_cases hj : j < xs.length
            · rw [List.getElem?_append_left hj] at hx
              rw [List.getElem?_append_left (by omega)] at ht
              exact ((reps j x t' hx ht).tk (g4.tk k5)).tk tk5
            · rw [List.getElem?_append_right (by omega)] at hx
              rw [List.getElem?_append_right (by omega)] at ht
              have z1 : j - xs.length = 0 := by
                have := (List.getElem?_eq_some_iff.mp hx).1
                have : j - xs.length < 1 := this
                omega
              rw [z1] at hx
              rw [show j - ts.length = 0 by omega] at ht
              cases hx
              cases ht
              exact rp.tk tk5
          · rcases List.mem_append.mp ht with ht | ht
            · exact oks t' ht
            · rw [List.mem_singleton.mp ht]
              exact ok
          · rcases List.mem_append.mp ht with ht | ht
            · exact bds t' ht
            · rw [List.mem_singleton.mp ht]
              exact bd5
          · have hb := k4 b o e n1 n2
            have hb2 := k02 b o e n1 n2
            rw [upd_ne (ne_of_none hb2 hD)]
            exact k5 b o hb n1 n2
        · rintro H' ⟨xs, ts, eD, lx, lt, reps, oks, bds, g4, k4⟩
          refine ⟨D, xs, rfl, .inl ⟨SqL.of eD, fun z hz => ?_⟩⟩
          have s5 := sN (o := .tup xs) hz
          obtain ⟨d', rfl⟩ : ∃ d', d = d' + 1 := ⟨d - 1, by omega⟩
          refine k (.tup ts) _ _ (g4.same s5) (k4.st s5) ⟨z, xs, rfl, upd_same, by omega, by omega, fun j x t hx ht => (reps j x t hx ht).same s5⟩ oks ?_
          show (6 :: (vlq ts.length ++ (ts.map (enc d')).flatten)).length ≤ 4 * bnd d' + 30
          have fb := flat_bnd (d := d') (B := bnd d') bds
          rw [List.length_cons, List.length_append, vlq_lt (by omega)]
          have l4 : ts.length ≤ 4 := by omega
          have m4 : ts.length * bnd d' ≤ 4 * bnd d' := Nat.mul_le_mul_right _ l4
          show 1 + _ + 1 ≤ _
          omega
  intro d
  induction d with
  | zero => exact main 0 ⟨fun vs H Q E h => absurd h.1 (by decide), fun A outer s H args us vs Q E hr e0 hb r h => absurd h.1 (by decide)⟩
  | succ d ih => exact main (d + 1) (ih.imp fun vs H Q E h => h.2)
end
end Q

/-! t[::-1] of a tuple -/
namespace HT
open PySem PySem.Calls PySem.W PyProof.Rows
theorem adjust_back (n : Nat) : Builtin.Slice.sliceAdjust none none (-1) (n : Int) = ((n : Int) - 1, -1) := by
  unfold Builtin.Slice.sliceAdjust
  rfl
theorem places_back (n : Nat) : Builtin.Slice.slicePlaces ((n : Int) - 1) (-1) (-1) = n := by
  unfold Builtin.Slice.slicePlaces
  have h1 : ¬ ((-1 : Int) > 0) := by decide
  rw [if_neg h1]
  by_cases c : (n : Int) - 1 > -1
  · rw [if_pos c, show (- -1 : Int) = 1 by decide, Int.ediv_one]
    omega
  · rw [if_neg c]
    omega
theorem fm_congr {α β : Type} {f g : α → Option β} : ∀ {l : List α}, (∀ x ∈ l, f x = g x) → l.filterMap f = l.filterMap g
  | [], _ => rfl
  | a :: l, h => by
    rw [List.filterMap_cons, List.filterMap_cons, h a List.mem_cons_self, fm_congr fun x hx => h x (List.mem_cons_of_mem _ hx)]
theorem pick_back (xs : Array Value) : (List.range xs.size).filterMap (fun (k : Nat) => xs[((xs.size : Int) - 1 + (k : Int) * (-1)).toNat]?) = xs.toList.reverse := by
  have e : (List.range xs.size).filterMap (fun (k : Nat) => xs[((xs.size : Int) - 1 + (k : Int) * (-1)).toNat]?) = ((List.range xs.size).map fun k => xs.size - 1 - k).filterMap (xs[·]?) := by
    rw [List.filterMap_map]
    refine fm_congr fun k hk => ?_
    have := List.mem_range.mp hk
    show xs[((xs.size : Int) - 1 + (k : Int) * (-1)).toNat]? = xs[xs.size - 1 - k]?
    rw [show ((xs.size : Int) - 1 + (k : Int) * (-1)).toNat = xs.size - 1 - k by omega]
  rw [e, PySem.W.krv_range, List.filterMap_reverse, PySem.W.krv_all]
section
variable {prog : Program} {w : World} {A : Around} {E : Value → Shared → Prop} {s : Shared}
theorem sliceApplied_back {sl : Addr} {vs : Value} {n : Nat} {Q : Int × Int × Nat → Shared → Prop} (hs : s.heap.IsSliceOf sl .none .none vs) (ps : IsPart vs (some (-1)))
    (h : Q ((n : Int) - 1, -1, n) s) : wpAny (model prog w) A (Builtin.Slice.sliceApplied (.ref sl) (pure (n : Int))) Q E s := by
  obtain ⟨os, hos, hcs, hds⟩ := id hs
  unfold Builtin.Slice.sliceApplied Builtin.Slice.sliceFields
  refine wpAny_bind (wpAny_bind (wpAny_field hos hds (x := .none) rfl (wpAny_bind (wpAny_field hos hds (x := .none) rfl (wpAny_bind (wpAny_field hos hds (x := vs) rfl (wpAny_pure ?_)))))))
  refine wpAny_bind (slicePart_ ps ?_)
  show wpAny _ _ (if ((-1 : Int) == 0) = true then _ else _) _ _ s
  rw [if_neg (by decide)]
  refine wpAny_bind (slicePart_ .none (wpAny_bind (slicePart_ .none (wpAny_bind (wpAny_pure ?_)))))
  show wpAny _ _ (match Builtin.Slice.sliceAdjust none none (-1) (n : Int) with | (lo, hi) => pure (lo, (-1 : Int), Builtin.Slice.slicePlaces lo hi (-1))) _ _ s
  rw [adjust_back n]
  show wpAny _ _ (pure ((n : Int) - 1, (-1 : Int), Builtin.Slice.slicePlaces ((n : Int) - 1) (-1) (-1))) _ _ s
  rw [places_back]
  exact wpAny_pure h
theorem getItem_tuple_back {t sl : Addr} {items : Array Value} {vs : Value} {Q : Value → Shared → Prop} (ht : IsTup s.heap t items) (hs : s.heap.IsSliceOf sl .none .none vs) (ps : IsPart vs (some (-1)))
    (h : Q (.ref s.heap.objs.size) { s with heap := s.heap.push { cls := .type "tuple", data := .seq items.toList.reverse.toArray } }) (hsz : items.size ≤ sizeLine) : wpAny (model prog w) A (getItem (.ref t) (.ref sl)) Q E s := by
  have fits : sizeOk (.seq items.toList.reverse.toArray) := by
    show items.toList.reverse.toArray.size ≤ sizeLine
    rw [List.size_toArray, List.length_reverse, Array.length_toList]
    exact hsz
  obtain ⟨os, hos, hcs, hds⟩ := id hs
  have hTs : s.TypeIs (.ref sl) "slice" := ⟨os, hos, hcs⟩
  unfold getItem
  try with_reducible refine wpAny_holding ?_
  first | refine wpAny_bind (wpAny_pure ?_) | skip
  refine wpAny_bind (wpAny_sequenceKey ht.typeIs (by decide) ?_)
  refine wpAny_bind (wpAny_callSpecial?_slot (name := Str.ofString "__getitem__") ht.typeIs PyProof.Rows.slot_tuple_getitem
    (wpAny_call_entry PyProof.Rows.slot_tuple_getitem ht.typeIs entry_tuple_getitem ?_ (args_tuple_getitem _ _)))
  show wpAny _ _ (Builtin.Tuple.tupleItemsOf (.ref t) >>= _) _ _ s
  refine wpAny_bind (tupleItemsOf_ ht ?_)
  refine wpAny_bind (wpAny_typeOf hTs ?_)
  rw [if_pos (by decide)]
  refine wpAny_bind (sliceApplied_back hs ps ?_)
  have no : ¬ ((((items.size : Int) - 1) == 0 && (-1 : Int) == 1 && items.size == items.size) = true) := by
    intro q
    rw [Bool.and_eq_true, Bool.and_eq_true] at q
    exact absurd q.1.2 (by decide)
  show wpAny _ _ (if (((items.size : Int) - 1) == 0 && (-1 : Int) == 1 && items.size == items.size) = true then _ else _) _ _ s
  rw [if_neg no, pick_back]
  first
    | exact wpAny_bind (m := Builtin.Tuple.tupleExact _) (wpAny_newObj_type (wpAny_pure ⟨_, rfl, wpAny_pure h⟩) fits)
    | exact wpAny_bind (m := Builtin.Tuple.tupleExact _) (wpAny_newObj_type (wpAny_bind (wpAny_pure (wpAny_pure ⟨_, rfl, wpAny_pure h⟩))) fits)
    | exact wpAny_bind (wpAny_bind (m := Builtin.Tuple.tupleExact _) (wpAny_newObj_type (wpAny_pure (wpAny_pure ⟨_, rfl, wpAny_pure h⟩)) fits))
    | exact wpAny_bind (wpAny_bind (m := Builtin.Tuple.tupleExact _) (wpAny_newObj_type (wpAny_pure ⟨_, rfl, wpAny_pure h⟩) fits))
end
end HT
namespace L2
open PySem PySem.Spec PyProof.Rows HT
section
variable {X : Cx}
/-- t[::-1], the items turned about -/
def tRevT (K : PySem.W.Frag) (te : TE) : TE := fun σ H Q => te σ H fun x H1 => ∃ a xs, x = .ref a ∧ SqT K H1 a xs ∧ ∀ p, H1 p = none → Q (.ref p) (upd H1 p (.tup xs.reverse))
theorem pe_revT {e : Expr} {te : TE} {k : Nat} {p1 p2 p3 pos : Pos} (he : PE X e te) : PE X (.Subscript e (.Slice none none (some (.UnaryOp .USub (.Constant (.int 1) k p1) p2)) p3) pos) (tRevT X.K te) := by
  refine ⟨fun pins s σ H Q I h => Subscript_ (thn (he.run pins s σ H _ I h) fun v s1 ⟨x, H1, I1, r1, q1⟩ => ?_)⟩
  obtain ⟨a, xs, rfl, hx, q⟩ := q1
  cases r1
  have hst : PO X (some (.UnaryOp .USub (.Constant (.int 1) k p1) p2)) (tPart (tUn (rU fun i => .int (-i)) (tC (.int 1)))) := po_some (pe_un un_neg pe_int)
  refine wpAny_Slice (thn (po_none.run pins s1 σ H1 (fun o H2 => o = none ∧ H2 = H1) I1 ⟨rfl, rfl⟩) fun vl s2 ⟨l, H2, I2, pl, el, e2⟩ => ?_)
  subst el e2
  refine thn (po_none.run pins s2 σ H2 (fun o H3 => o = none ∧ H3 = H2) I2 ⟨rfl, rfl⟩) fun vu s3 ⟨u, H3, I3, pu, eu, e3⟩ => ?_
  subst eu e3
  refine thn (hst.run pins s3 σ H3 (fun o H4 => o = some (-1) ∧ H4 = H3) I3 ⟨1, rfl, -1, rfl, rfl, rfl⟩) fun vs s4 ⟨o, H4, I4, ps, eo, e4⟩ => ?_
  subst eo e4
  have I5 : Inv X pins σ H4 { s4 with heap := s4.heap.push { cls := .type "slice", data := .fields #[vl, vu, vs] } } := I4.kept (t' := s4.toks) fun b ob q => Heap.get?_push_of_some _ q
  obtain ⟨its, r, ht, hz⟩ := I5.tuple hx
  have hlen := r.length
  cases pl
  cases pu
  show wpAny (model X.prog X.w) X.A (subscriptTail e (.Slice none none (some (.UnaryOp .USub (.Constant (.int 1) k p1) p2)) p3) (.ref a) (.ref s4.heap.objs.size)) (EP X pins σ Q) X.xe _
  refine tail_any (ops := [.ref a, .ref s4.heap.objs.size]) ht.typeIs PyProof.Rows.slot_tuple_getitem.lookup ?_ (by with_unfolding_all rfl)
  refine getItem_tuple_back ht (Heap.IsSliceOf.new _ .none .none vs) ps ?_ (by rw [List.size_toArray]; omega)
  refine ⟨.ref _, _, I5.laid (t' := s4.toks) (o := .tup xs.reverse) (fun b ob q => Heap.get?_push_of_some _ q) (Nat.le_refl _) ?_, rfl, q _ (I5.hok.fresh (Nat.le_refl _))⟩
  exact ⟨by rw [List.length_reverse]; exact hz, _, r.reverse, IsTup.new _ _⟩
end
end L2

namespace Q
open PySem L2 QR
abbrev sLR : Stmt := top 51
abbrev sLRS : Stmt := top 52
abbrev sTold : Stmt := top 53
abbrev sOpen : Stmt := top 56
/-- what the law's reader tells: (None, p) or ((t,), h) -/
def OutL (D : Nat) (x : R) (H : Hp) (Q : VK) : Prop :=
  (∀ t h v w z H', x = .ok t h → Same H H' → H' w = some (.tup [v]) → Rep H' D t v → H' z = some (.tup [.ref w, .int ((h : Nat) : Int)]) → Q (.ref z) H') ∧ ∀ p z H', x = .no p → Same H H' → H' z = some (.tup [.non, .int ((p : Nat) : Int)]) → Q (.ref z) H'
theorem OutL.from {D : Nat} {x : R} {H H1 : Hp} {Q : VK} (h : OutL D x H Q) (s : Same H H1) : OutL D x H1 Q :=
  ⟨fun t h' v w z H' e s' a b c => h.1 t h' v w z H' e (sT s s') a b c, fun p z H' e s' a => h.2 p z H' e (sT s s') a⟩
def strL (bs : List Int) (a : Nat) (n : Int) (h : Nat) : R := if 1 ≤ n ∧ n ≤ 20 then rdS bs n.toNat h [] else .no a
def spLRS : Sp := fun vs H Q _ => ∃ (q : Addr) (bs : List Int) (a h : Nat) (n : Int), vs = [.ref q, .int (a : Int), .int n, .int (h : Int)] ∧ RowAt H q bs ∧ h ≤ bs.length ∧ OutL 0 (strL bs a n h) H Q
def spLR (d : Nat) : Sp := fun vs H Q _ => ∃ (q : Addr) (bs : List Int) (a : Nat), vs = [.ref q, .int (a : Int), .int (d : Int)] ∧ RowAt H q bs ∧ a ≤ bs.length ∧ OutL d (rdP bs d a) H Q
def spTold : Sp := fun vs H Q _ => ∃ (q : Addr) (bs : List Int), vs = [.ref q] ∧ RowAt H q bs ∧ (∀ t h v w H', rdAll bs = .ok t h → Same H H' → H' w = some (.tup [v]) → Rep H' 20 t v → Q (.ref w) H') ∧ ∀ p H', rdAll bs = .no p → Same H H' → Q (.int ((p : Nat) : Int)) H'
def spOpen : Sp := fun vs H Q _ => ∃ (q : Addr) (bs : List Int), vs = [.ref q] ∧ RowAt H q bs ∧ ∀ u H', Same H H' → Rep H' 22 (unsT bs) u → Q u H'
theorem at_k {m : Int} {q : Addr} {bs : List Int} {i : Int} {a : Nat} {b : Int} (e : i = (a : Int)) (h : bs[a]? = some b) : atI (bs.map V.int) i = some (V.int b) := by
  rw [e]
  exact at_row h
theorem rdS_go {bs : List Int} : ∀ (m h : Nat) (acc : List Nat), (∀ i, i < m → ∃ b, bs[h + i]? = some b ∧ isSg b = true) → rdS bs m h acc = .ok (.str (acc ++ ((bs.drop h).take m).map Int.toNat)) (h + m)
  | 0, h, acc, _ => by simp [rdS]
  | m + 1, h, acc, k => by
    obtain ⟨b, e, sg⟩ := k 0 (by omega)
    have e : bs[h]? = some b := e
    rw [rdS_at e, if_pos sg, rdS_go m (h + 1) (acc ++ [b.toNat]) (fun i hi => by
      obtain ⟨c, e2, s2⟩ := k (i + 1) (by omega)
      exact ⟨c, by rw [← e2]; congr 1; omega, s2⟩)]
    obtain ⟨l1, e1⟩ := List.getElem?_eq_some_iff.mp e
    rw [List.drop_eq_getElem_cons l1, List.take_succ_cons, e1, List.map_cons, List.append_assoc]
    show R.ok _ _ = R.ok _ _
    congr 1
    omega
theorem rdS_stop {bs : List Int} : ∀ (i m h : Nat) (acc : List Nat), i < m → (∀ j, j < i → ∃ b, bs[h + j]? = some b ∧ isSg b = true) → (∀ b, bs[h + i]? = some b → isSg b = false) → rdS bs m h acc = .no (h + i)
  | 0, m + 1, h, acc, _, _, k => by
    cases e : bs[h]? with
    | none => exact rdS_no e
    | some b => rw [rdS_at e, k b e, if_neg Bool.false_ne_true]; rfl
  | i + 1, m + 1, h, acc, hi, g, k => by
    obtain ⟨b, e, sg⟩ := g 0 (by omega)
    have e : bs[h]? = some b := e
    rw [rdS_at e, if_pos sg, rdS_stop i m (h + 1) (acc ++ [b.toNat]) (by omega) (fun j hj => by
      obtain ⟨c, e2, s2⟩ := g (j + 1) (by omega)
      exact ⟨c, by rw [← e2]; congr 1; omega, s2⟩) (fun b hb => k b (by rw [← hb]; congr 1; omega))]
    congr 1
    omega
theorem dint (i j : Int) : decide (V.int i = V.int j) = decide (i = j) := by
  by_cases c : i = j
  · rw [c, decide_eq_true rfl, decide_eq_true rfl]
  · rw [decide_eq_false c, decide_eq_false fun z => c (V.int.inj z)]
section
variable {P : Program} {w : World} {K : PySem.W.Frag} {mg : Str → Option Value} {base : Heap}
theorem scLSg : FnScope ["byte", "signs"] ["byte"] (defScope sLSg) := ⟨rfl, rfl, rfl, by decide +kernel, rfl, by decide +kernel, by decide +kernel⟩
theorem ok_lsg {f : Addr} {fd : FuncData} (D : Df K mg "_law_sign" sLSg ["byte"] f fd) (B : Bts mg) : FnOk P w K mg base CX0 1 f fd ["byte"] spLSg := by
  refine D.F.ok scLSg (fun vs H Q E h => ?_) (fun cdv A outer s H vs Q E hr h => ?_)
  · obtain ⟨b, rfl, _⟩ := h
    rfl
  · obtain ⟨b, rfl, sg, k⟩ := h
    have nd := scLSg.nd
    obtain ⟨b1, b2, b3⟩ := sg_b sg
    refine ⟨_, pss_cons (ps_set (i := 1) nd rfl (.inl rfl) pe_str)
      (pss_cons (ps_set (i := 1) nd rfl (.inl rfl) (pe_op op_add_str (pv 1) pe_str))
      (pss_one (ps_ret (pe_ix ix_str (pv 1) (pe_op op_sub (pe_op op_sub (pv 0) pe_int) (pe_callTy call_int1 (by rfl) B.int PyProof.Rows.boot_int (pa_cons (pe_cmpR op_gt (pv 0) pe_int (nomark _)) pa_nil))) (fun _ _ => rfl))))), ?_⟩
    refine ⟨_, rfl, lsA, lsB, rfl, rfl, by decide +kernel, _, rfl, _, rfl, _, _, rfl, rfl, _, rfl, _, _, rfl, rfl, .inr ⟨_, rfl, _, _, rfl, rfl, ?_⟩⟩
    refine ⟨lsA ++ lsB, _, b.toNat, rfl, rfl, by decide +kernel, ?_, k⟩
    by_cases c : 37 < b
    · rw [decide_eq_true c, if_pos rfl, show b - 32 - 1 = ((b.toNat - 33 : Nat) : Int) by omega]
      refine atI_nat ?_
      rw [ls_at _ (by omega), if_neg (by omega), show 33 + (b.toNat - 33) = b.toNat by omega]
    · rw [decide_eq_false c, if_neg Bool.false_ne_true, show b - 32 - 0 = ((b.toNat - 32 : Nat) : Int) by omega]
      refine atI_nat ?_
      rw [ls_at _ (by omega), if_pos (by omega), show 32 + (b.toNat - 32) = b.toNat by omega]
theorem scLMk : FnScope ["row", "found", "byte"] ["row"] (defScope sLMk) := ⟨rfl, rfl, rfl, by decide +kernel, rfl, by decide +kernel, by decide +kernel⟩
theorem ok_lmk {f : Addr} {fd : FuncData} (D : Df K mg "_law_mark" sLMk ["row"] f fd) (B : Bts mg) : FnOk P w K mg base CX0 1 f fd ["row"] (spLMk K) := by
  refine D.F.ok scLMk (fun vs H Q E h => ?_) (fun cdv A outer s H vs Q E hr h => ?_)
  · obtain ⟨q, bs, rfl, _⟩ := h
    rfl
  · obtain ⟨q, bs, rfl, hq, k⟩ := h
    have nd := scLMk.nd
    refine ⟨_, pss_cons (ps_set (i := 1) nd rfl (.inl rfl) pe_int)
      (pss_cons (ps_for PassesOwn.never rfl (pi_tup (pv 0)) (pg_name (i := 2) nd rfl (.inl rfl))
        (pss_one (ps_set (i := 1) nd rfl (.inl rfl) (pe_op op_mod (pe_callTy call_int1 (by rfl) B.int PyProof.Rows.boot_int (pa_cons (pe_op op_add (pe_op op_add (pe_op op_mul (pv 1) pe_int) (pv 2)) pe_int) pa_nil)) (pe_op op_sub (pe_op op_pow pe_int pe_int) pe_int)))))
      (pss_one (ps_ret (pv 1)))), ?_⟩
    refine ⟨_, rfl, q, rfl, ⟨_, SqT.of hq⟩, for_tup (K := K) (a := q) (xs := bs.map V.int) (fun i σ H' => ∃ x2, σ = [some (.ref q), some (.int (mkF (bs.take i))), x2] ∧ H' = H) ?_ ?_ ?_ ?_⟩
    · exact ⟨none, rfl, rfl⟩
    · rintro i σ H' hi ⟨x2, rfl, rfl⟩
      exact SqT.of hq
    · rintro i x σ H' hx ⟨x2, rfl, rfl⟩
      obtain ⟨b, hb, rfl⟩ := at_ints hx
      refine ⟨_, rfl, _, _, rfl, rfl, .inr ⟨by decide, by decide⟩, _, rfl, _, _, rfl, rfl, _, _, rfl, rfl, .inl ⟨_, rfl, _, _, rfl, rfl, ⟨by decide, by decide, by decide⟩, _, _, rfl, rfl, _, _, rfl, rfl, (by show (0 : Int) < 2 ^ Int.toNat 61 - 1; decide), some (.int b), ?_, rfl⟩⟩
      rw [take_more hb, mkF_snoc]
      rfl
    · rintro σ H' ⟨x2, rfl, rfl⟩
      rw [List.length_map, List.take_length]
      exact ⟨_, rfl, k⟩
theorem scLSl : FnScope ["row", "left", "worth"] ["row"] (defScope sLSl) := ⟨rfl, rfl, rfl, by decide +kernel, rfl, by decide +kernel, by decide +kernel⟩
theorem ok_lsl {f fM : Addr} {fd fdM : FuncData} (D : Df K mg "_law_sealed" sLSl ["row"] f fd) (B : Bts mg) (DM : Df K mg "_law_mark" sLMk ["row"] fM fdM) : FnOk P w K mg base CX0 2 f fd ["row"] spLSl := by
  have GM : FnOk P w K mg base CX0 1 fM fdM ["row"] (spLMk K) := ok_lmk DM B
  refine D.F.ok scLSl (fun vs H Q E h => ?_) (fun cdv A outer s H vs Q E hr h => ?_)
  · obtain ⟨q, bs, rfl, _⟩ := h
    rfl
  · obtain ⟨q, bs, rfl, hq, few, k⟩ := h
    have nd := scLSl.nd
    refine ⟨_, pss_cons (ps_set (i := 1) nd rfl (.inr rfl) (pe_op op_mod (pe_call GM hr rfl DM.m DM.k DM.b .nil pass0 (pa_cons (pv 0) pa_nil)) (pe_op op_pow pe_int pe_int)))
      (pss_one (ps_ret (pe_op op_catS (pe_callTy call_tuple_of (by rfl) B.tuple PyProof.Rows.boot_tuple (pa_cons (pv 0) pa_nil)) (pe_callTy call_tuple_of (by rfl) B.tuple PyProof.Rows.boot_tuple (pa_cons (pe_lc (own := [("worth", 2)]) (g := gName 2) (tt := tYes) rfl nd (pi_tup (pe_tup (pa_cons pe_int (pa_cons pe_int (pa_cons pe_int (pa_cons pe_int pa_nil)))))) (blkOk_by (N := ["row", "left", "worth"]) (sc := defScope sLSl) (by decide +kernel)) (fun _ _ _ _ _ => pg_name (i := 2) nd rfl (.inl rfl)) (fun _ _ _ _ _ => pts_nil)
        (fun _ _ _ _ _ => pe_op op_mod (pe_callTy call_int1 (by rfl) B.int PyProof.Rows.boot_int (pa_cons (pe_op op_fdiv (pv 1) (pv 2)) pa_nil)) pe_int)) pa_nil))))), ?_⟩
    refine ⟨_, rfl, q, bs, rfl, hq, _, _, rfl, rfl, ⟨by decide, by decide, by decide⟩, _, _, rfl, rfl, (by show (0 : Int) < 2 ^ Int.toNat 32; decide), ?_⟩
    have e32 : (2 : Int) ^ Int.toNat 32 = 4294967296 := rfl
    rw [e32]
    refine ⟨_, rfl, q, _, rfl, .inr ⟨SqT.of hq, ?_⟩⟩
    refine ⟨(by show 4 ≤ sizeLine; decide), fun tp htp => ?_⟩
    have s1 := sN (o := .tup [.int 1, .int 256, .int 65536, .int 16777216]) htp
    have e1 : (upd H tp (.tup [.int 1, .int 256, .int 65536, .int 16777216])) tp = some (.tup [.int 1, .int 256, .int 65536, .int 16777216]) := upd_same
    revert s1 e1
    generalize (upd H tp (.tup [.int 1, .int 256, .int 65536, .int 16777216])) = H1
    intro s1 e1
    refine ⟨tp, rfl, ⟨_, SqT.of e1⟩, fun D hD => lc_tup (K := K) (a := tp) (xs := [.int 1, .int 256, .int 65536, .int 16777216]) (fun i H' => H' D = some (.lst (((sealL bs).take i).map V.int)) ∧ Same H1 H') ?_ ?_ ?_ ?_⟩
    · exact ⟨upd_same, sN hD⟩
    · rintro i H' hi ⟨_, s2⟩
      exact SqT.of (s2 _ _ e1)
    · rintro i x H' hx ⟨eD, s2⟩
      have wth : ∃ (wi : Int) (b : Int), x = .int wi ∧ 0 < wi ∧ wi < 1073741824 ∧ (sealL bs)[i]? = some (mkF bs % 4294967296 / wi % 256) := by
        match i, hx with
        | 0, hx => cases hx; exact ⟨1, 0, rfl, by decide, by decide, by rw [Int.ediv_one]; rfl⟩
        | 1, hx => cases hx; exact ⟨256, 0, rfl, by decide, by decide, rfl⟩
        | 2, hx => cases hx; exact ⟨65536, 0, rfl, by decide, by decide, rfl⟩
        | 3, hx => cases hx; exact ⟨16777216, 0, rfl, by decide, by decide, rfl⟩
      obtain ⟨wi, _, rfl, w0, w1, es⟩ := wth
      refine ⟨rfl, _, rfl, _, rfl, _, _, rfl, rfl, ⟨w0, w1⟩, .inl ⟨_, rfl, _, _, rfl, rfl, (by decide : (0 : Int) < 256), _, eD, ?_, ?_, sNew s2 hD⟩⟩
      · rw [List.length_map, List.length_take]
        exact size_ok (by show min _ 4 ≤ _; omega)
      · rw [upd_same, take_more es, List.map_append]
        rfl
    · rintro H' ⟨eD, s2⟩
      refine ⟨D, _, rfl, .inl ⟨SqL.of eD, fun z hz => ?_⟩⟩
      have s3 := sN (o := .tup (((sealL bs).take 4).map V.int)) hz
      refine ⟨q, z, bs.map V.int, (sealL bs).map V.int, rfl, rfl, s3 _ _ (s2 _ _ (s1 _ _ hq)), upd_same, ?_, fun y H4 s4 hy => k y H4 (sT s1 (sT s2 (sT s3 s4))) (by rw [List.map_append]; exact hy)⟩
      rw [List.length_map]
      exact Nat.le_of_lt (size_ok (by show _ + 4 ≤ _; omega))
theorem scLRW : FnScope ["row", "at", "behind", "found", "byte"] ["row", "at"] (defScope sLRW) := ⟨rfl, rfl, rfl, by decide +kernel, rfl, by decide +kernel, by decide +kernel⟩
theorem ok_lrw {f : Addr} {fd : FuncData} (D : Df K mg "_law_read_whole" sLRW ["row", "at"] f fd) (B : Bts mg) : FnOk P w K mg base CX0 1 f fd ["row", "at"] spLRW := by
  refine D.F.ok scLRW (fun vs H Q E h => ?_) (fun cdv A outer s H vs Q E hr h => ?_)
  · obtain ⟨q, bs, a, rfl, _⟩ := h
    rfl
  · obtain ⟨q, bs, a, rfl, hq, al, k1, k2⟩ := h
    have nd := scLRW.nd
    have few := hq.few
    refine ⟨_, pss_cons (ps_for PassesOwn.never rfl (pi_range2 rfl B.range (pa_cons (pe_op op_add (pv 1) pe_int) (pa_cons (pe_op op_add (pe_callB call_len_seq (by rfl) B.len PySem.boot_len (pa_cons (pv 0) pa_nil)) pe_int) pa_nil))) (pg_name (i := 2) nd rfl (.inl rfl))
        (pss_one (ps_if (pt_cmpR op_lt (pe_ix ix_tup (pv 0) (pe_op op_sub (pv 2) pe_int) (fun _ _ => rfl)) pe_int (nomark _))
          (pss_cons (ps_if (PW.pt (pw_and (pt_cmpR op_eq (pe_ix ix_tup (pv 0) (pe_op op_sub (pv 2) pe_int) (fun _ _ => rfl)) pe_int (nomark _)) (pw_and1 (pt_cmpR op_gt (pe_op op_sub (pv 2) (pv 1)) pe_int (nomark _))))) (pss_one (ps_ret (pe_tup (pa_cons pe_non (pa_cons (pv 1) pa_nil))))) pss_nil)
          (pss_cons (ps_set (i := 3) nd rfl (.inl rfl) pe_int)
          (pss_cons (ps_for PassesOwn.never rfl (pi_tup (pe_revT (pe_slice sl_X (pv 0) (po_some (pv 1)) (po_some (pv 2))))) (pg_name (i := 4) nd rfl (.inl rfl))
            (pss_one (ps_set (i := 3) nd rfl (.inl rfl) (pe_op op_add (pe_op op_mul (pv 3) pe_int) (pe_op op_mod (pe_callTy call_int1 (by rfl) B.int PyProof.Rows.boot_int (pa_cons (pv 4) pa_nil)) pe_int)))))
          (pss_one (ps_ret (pe_tup (pa_cons (pv 3) (pa_cons (pv 2) pa_nil)))))))) pss_nil)))
      (pss_one (ps_ret (pe_tup (pa_cons pe_non (pa_cons (pv 1) pa_nil))))), ?_⟩
    refine ⟨_, rfl, _, _, rfl, rfl, _, rfl, q, _, rfl, .inr (SqT.of hq.at_), _, _, rfl, rfl, ?_⟩
    rw [List.length_map]
    refine ⟨_, _, rfl, ⟨by omega, by omega, by omega, by omega⟩, for_range (lo := (a : Int) + 1) (n := ((bs.length : Int) + 1 - ((a : Int) + 1)).toNat) (fun i σ H' => ∃ x2, σ = [some (.ref q), some (.int (a : Int)), x2, none, none] ∧ Same H H' ∧ i ≤ scan (bs.drop a)) ?_ ?_ ?_⟩
    · exact ⟨none, rfl, sR, Nat.zero_le _⟩
    · rintro i σ H1 hi ⟨x2, rfl, s1, hs⟩
      have lt : a + i < bs.length := by omega
      have eb : bs[a + i]? = some bs[a + i] := List.getElem?_eq_getElem lt
      revert eb
      generalize bs[a + i] = b
      intro eb
      have h1 := s1 _ _ hq.at_
      have ea : atI (bs.map V.int) ((a : Int) + 1 + (i : Int) - 1) = some (V.int b) := at_k (m := 0) (q := q) (by omega) eb
      refine ⟨_, rfl, _, rfl, _, _, rfl, rfl, q, _, _, _, rfl, rfl, SqT.of h1, ea, _, _, rfl, rfl, _, rfl, ite2 (fun c => ?_) (fun c => ?_)⟩
      · have c : b < 128 := of_decide_eq_true c
        have ei : i = scan (bs.drop a) := by
          rcases Nat.lt_or_ge i (scan (bs.drop a)) with z | z
          · obtain ⟨b', e', c'⟩ := scan_big z
            rw [List.getElem?_drop, eb] at e'
            cases e'
            omega
          · omega
        have wr : rdW bs a = if b = 0 ∧ 0 < i then none else some (val ((bs.drop a).take (i + 1)), a + i + 1) := by
          unfold rdW
          rw [← ei, eb]
        refine ⟨_, rfl, _, rfl, _, _, rfl, rfl, q, _, _, _, rfl, rfl, SqT.of h1, ea, rfl, _, rfl, ?_⟩
        rw [dint]
        refine ite2 (fun z => ?u1) (fun z => ?u2)
        case' u1 =>
          have z : b = 0 := of_decide_eq_true z
          refine ⟨_, rfl, _, rfl, _, _, rfl, rfl, _, _, rfl, rfl, _, rfl, ?_⟩
          refine ite2 (fun z2 => ?u3) (fun z2 => ?u4)
          case' u3 =>
            have z2 : (1 : Int) < (a : Int) + 1 + (i : Int) - (a : Int) := of_decide_eq_true z2
            exact ⟨_, rfl, (by show 2 ≤ sizeLine; decide), fun y hy => k2 (by rw [wr, if_pos ⟨z, by omega⟩]) y _ (sT s1 (sN hy)) upd_same⟩
          case' u4 => have nb : ¬ (b = 0 ∧ 0 < i) := fun y => z2 (decide_eq_true (by omega))
        case' u2 => have nb : ¬ (b = 0 ∧ 0 < i) := fun y => z (decide_eq_true y.1)
        all_goals
          rw [if_neg nb] at wr
          have lc : ((bs.map V.int).drop a).take (a + i + 1 - a) = ((bs.drop a).take (i + 1)).map V.int := by
            rw [← List.map_drop, ← List.map_take, show a + i + 1 - a = i + 1 by omega]
          refine ⟨_, rfl, _, rfl, _, rfl, _, rfl, _, rfl, q, _, rfl, h1, fun y H3 s3 hy => ?_⟩
          rw [show ((a : Int) + 1 + (i : Int)) = ((a + i + 1 : Nat) : Int) by omega, cut_nat _ (by omega) (by rw [List.length_map]; omega), lc] at hy
          refine ⟨y, _, rfl, SqT.of hy, fun y2 hy2 => ?_⟩
          have s4 := sT s1 (sT s3 (sN (o := .tup ((((bs.drop a).take (i + 1)).map V.int).reverse)) hy2))
          have e4 : (upd H3 y2 (.tup ((((bs.drop a).take (i + 1)).map V.int).reverse))) y2 = some (.tup ((((bs.drop a).take (i + 1)).map V.int).reverse)) := upd_same
          revert s4 e4
          generalize (upd H3 y2 (.tup ((((bs.drop a).take (i + 1)).map V.int).reverse))) = H4
          intro s4 e4
          have ln : (((bs.drop a).take (i + 1)).map V.int).reverse.length = i + 1 := by
            rw [List.length_reverse, List.length_map, List.length_take, List.length_drop]
            omega
          refine ⟨y2, rfl, ⟨_, SqT.of e4⟩, for_tup (K := K) (a := y2) (xs := (((bs.drop a).take (i + 1)).map V.int).reverse) (fun j σ H' => ∃ x4, σ = [some (.ref q), some (.int (a : Int)), some (.int ((a : Int) + 1 + (i : Int))), some (.int (val (((bs.drop a).take (i + 1)).drop (i + 1 - j)))), x4] ∧ H' = H4) ?_ ?_ ?_ ?_⟩
          · refine ⟨none, ?_, rfl⟩
            rw [Nat.sub_zero, List.drop_eq_nil_of_le (by rw [List.length_take]; omega)]
            rfl
          · rintro j σ H' hj ⟨x4, rfl, rfl⟩
            exact SqT.of e4
          · rintro j x σ H' hx ⟨x4, rfl, rfl⟩
            have hj := (List.getElem?_eq_some_iff.mp hx).1
            rw [ln] at hj
            rw [List.getElem?_reverse (by rw [List.length_map, List.length_take, List.length_drop]; omega)] at hx
            have l2 : (((bs.drop a).take (i + 1)).map V.int).length = i + 1 := by rw [← List.length_reverse]; exact ln
            rw [l2] at hx
            obtain ⟨b', hb', rfl⟩ := at_ints hx
            refine ⟨_, rfl, _, _, rfl, rfl, .inr ⟨by decide, by decide⟩, _, rfl, .inl ⟨_, rfl, _, _, rfl, rfl, (by decide : (0 : Int) < 128), _, _, rfl, rfl, some (.int b'), ?_, rfl⟩⟩
            have e1 : ((bs.drop a).take (i + 1)).drop (i + 1 - (j + 1)) = b' :: ((bs.drop a).take (i + 1)).drop (i + 1 - j) := by
              obtain ⟨l1, e1⟩ := List.getElem?_eq_some_iff.mp hb'
              rw [show i + 1 - (j + 1) = i + 1 - 1 - j by omega, List.drop_eq_getElem_cons l1, e1, show i + 1 - 1 - j + 1 = i + 1 - j by omega]
            rw [e1, val_cons]
            rfl
          · rintro σ H' ⟨x4, rfl, rfl⟩
            rw [ln, Nat.sub_self, List.drop_zero]
            refine ⟨_, rfl, _, rfl, (by show 2 ≤ sizeLine; decide), fun y5 hy5 => k1 _ _ y5 _ wr (sT s4 (sN hy5)) ?_⟩
            rw [upd_same, show ((a : Int) + 1 + (i : Int)) = ((a + i + 1 : Nat) : Int) by omega]
      · have c : ¬ b < 128 := fun z => c (decide_eq_true z)
        refine ⟨_, rfl, s1, ?_⟩
        rcases Nat.lt_or_ge i (scan (bs.drop a)) with z | z
        · omega
        · have ei : i = scan (bs.drop a) := by omega
          have := scan_at (l := bs.drop a) (b := b) (by rw [List.getElem?_drop, ← ei]; exact eb)
          omega
    · rintro σ H1 ⟨x2, rfl, s1, hs⟩
      have sl := scan_le (bs.drop a)
      rw [List.length_drop] at sl
      refine ⟨_, rfl, (by show 2 ≤ sizeLine; decide), fun y hy => k2 ?_ y _ (sT s1 (sN hy)) upd_same⟩
      unfold rdW
      rw [List.getElem?_eq_none (by omega)]
end
end Q

namespace Q
open PySem L2 QR
section
variable {P : Program} {w : World} {K : PySem.W.Frag} {mg : Str → Option Value} {base : Heap}
theorem scLRS : FnScope ["row", "begin", "many", "here", "at", "byte"] ["row", "begin", "many", "here"] (defScope sLRS) := ⟨rfl, rfl, rfl, by decide +kernel, rfl, by decide +kernel, by decide +kernel⟩
theorem ok_lrs {f fS : Addr} {fd fdS : FuncData} (D : Df K mg "_law_read_string" sLRS ["row", "begin", "many", "here"] f fd) (B : Bts mg) (DS : Df K mg "_law_sign" sLSg ["byte"] fS fdS) : FnOk P w K mg base CX0 2 f fd ["row", "begin", "many", "here"] spLRS := by
  have GS : FnOk P w K mg base CX0 1 fS fdS ["byte"] spLSg := ok_lsg DS B
  refine D.F.ok scLRS (fun vs H Q E h => ?_) (fun cdv A outer s H vs Q E hr h => ?_)
  · obtain ⟨q, bs, a, h, n, rfl, _⟩ := h
    rfl
  · obtain ⟨q, bs, a, h, n, rfl, hq, hl, k⟩ := h
    have nd := scLRS.nd
    have few := hq.few
    refine ⟨_, pss_cons (ps_if (pt_not (pt_chain op_le op_le pe_int (pv 2) pe_int)) (pss_one (ps_ret (pe_tup (pa_cons pe_non (pa_cons (pv 1) pa_nil))))) pss_nil)
      (pss_cons (ps_for PassesOwn.never rfl (pi_range2 rfl B.range (pa_cons (pv 3) (pa_cons (pe_op op_add (pv 3) (pv 2)) pa_nil))) (pg_name (i := 4) nd rfl (.inl rfl))
        (pss_one (ps_if (PW.pt (pw_or (pt_cmpR op_ge (pv 4) (pe_callB call_len_seq (by rfl) B.len PySem.boot_len (pa_cons (pv 0) pa_nil)) (nomark _)) (pw_or (pt_not (pt_chain op_le op_le pe_int (pe_ix ix_tup (pv 0) (pv 4) (fun _ _ => rfl)) pe_int)) (pw_or1 (pt_cmpR op_eq (pe_ix ix_tup (pv 0) (pv 4) (fun _ _ => rfl)) pe_int (nomark _))))))
          (pss_one (ps_ret (pe_tup (pa_cons pe_non (pa_cons (pe_callB (call_min2 rfl) (by rfl) B.min (by decide +kernel) (pa_cons (pv 4) (pa_cons (pe_callB call_len_seq (by rfl) B.len PySem.boot_len (pa_cons (pv 0) pa_nil)) pa_nil))) pa_nil))))) pss_nil)))
      (pss_one (ps_ret (pe_tup (pa_cons (pe_tup (pa_cons (pe_join pe_str (pe_lc (own := [("byte", 5)]) (g := gName 5) (tt := tYes) rfl nd (pi_tup (pe_slice sl_X (pv 0) (po_some (pv 3)) (po_some (pe_op op_add (pv 3) (pv 2))))) (blkOk_by (N := ["row", "begin", "many", "here", "at", "byte"]) (sc := defScope sLRS) (by decide +kernel)) (fun _ _ _ _ _ => pg_name (i := 5) nd rfl (.inl rfl)) (fun _ _ _ _ _ => pts_nil)
        (fun _ _ _ _ _ => pe_call GS hr rfl DS.m DS.k DS.b .nil pass0 (pa_cons (pv 5) pa_nil)))) pa_nil)) (pa_cons (pe_op op_add (pv 3) (pv 2)) pa_nil)))))), ?_⟩
    refine ⟨_, rfl, _, _, rfl, rfl, _, rfl, ?_⟩
    have no : ¬ (1 ≤ n ∧ n ≤ 20) → ∀ y, H y = none → Q (.ref y) (upd H y (.tup [.non, .int (a : Int)])) := fun c y hy => k.2 a y _ (by unfold strL; rw [if_neg c]) (sN hy) upd_same
    by_cases c : 1 ≤ n ∧ n ≤ 20
    · have eR : strL bs a n h = rdS bs n.toNat h [] := if_pos c
      rw [eR] at k
      refine ite2 (fun _ => ?_) (fun z => absurd (decide_eq_true c.1) z)
      refine ⟨_, _, rfl, rfl, _, rfl, ite2 (fun z => ?_) (fun _ => ?_)⟩
      · rw [decide_eq_true c.2] at z
        cases z
      refine ⟨_, rfl, _, rfl, _, rfl, _, _, rfl, rfl, _, _, rfl, ⟨by omega, by omega, by omega, by omega⟩, for_range (lo := (h : Int)) (n := ((h : Int) + n - (h : Int)).toNat) (fun i σ H' => ∃ x4, σ = [some (.ref q), some (.int (a : Int)), some (.int n), some (.int (h : Int)), x4, none] ∧ H' = H ∧ ∀ j, j < i → ∃ b, bs[h + j]? = some b ∧ isSg b = true) ?_ ?_ ?_⟩
      · exact ⟨none, rfl, rfl, fun j hj => by omega⟩
      · rintro i σ H1 hi ⟨x4, rfl, rfl, ok⟩
        have hin : i < n.toNat := by omega
        have le : h + i ≤ bs.length := by
          rcases Nat.eq_zero_or_pos i with z | z
          · omega
          · obtain ⟨b, e, _⟩ := ok (i - 1) (by omega)
            have := (List.getElem?_eq_some_iff.mp e).1
            omega
        have stop : (∀ b, bs[h + i]? = some b → isSg b = false) → ∀ y, H1 y = none → Q (.ref y) (upd H1 y (.tup [.non, .int (if ((bs.length : Nat) : Int) < (h : Int) + (i : Int) then ((bs.length : Nat) : Int) else (h : Int) + (i : Int))])) := fun z y hy => by
          refine k.2 (h + i) y _ (rdS_stop i n.toNat h [] hin ok z) (sN hy) ?_
          rw [upd_same, if_neg (by omega)]
          rfl
        refine ⟨_, rfl, _, rfl, q, _, rfl, .inr (SqT.of hq.at_), _, _, rfl, rfl, _, rfl, ?_⟩
        rw [List.length_map]
        refine ite2 (fun z => ?_) (fun z => ?_)
        · have z : ((bs.length : Nat) : Int) ≤ (h : Int) + (i : Int) := of_decide_eq_true z
          refine ⟨_, rfl, _, rfl, q, _, rfl, .inr (SqT.of hq.at_), _, _, rfl, (by show 2 ≤ sizeLine; decide), fun y hy => ?_⟩
          rw [List.length_map]
          exact stop (fun b e => by have := (List.getElem?_eq_some_iff.mp e).1; omega) y hy
        · have z : ¬ ((bs.length : Nat) : Int) ≤ (h : Int) + (i : Int) := fun y => z (decide_eq_true y)
          have eb : bs[h + i]? = some bs[h + i] := List.getElem?_eq_getElem (by omega)
          revert eb
          generalize bs[h + i] = b
          intro eb
          have ea : atI (bs.map V.int) ((h : Int) + (i : Int)) = some (V.int b) := at_k (m := 0) (q := q) (by omega) eb
          have tl : isSg b = false → ∀ y, H1 y = none → Q (.ref y) (upd H1 y (.tup [.non, .int (if ((bs.length : Nat) : Int) < (h : Int) + (i : Int) then ((bs.length : Nat) : Int) else (h : Int) + (i : Int))])) := fun sg => stop fun b' e => by
            rw [eb] at e
            cases e
            exact sg
          have sgE : isSg b = (decide (32 ≤ b) && decide (b ≤ 126) && !decide (b = 37)) := rfl
          refine ⟨_, rfl, _, rfl, q, _, _, _, rfl, rfl, SqT.of hq.at_, ea, _, _, rfl, rfl, _, rfl, ?_⟩
          by_cases c1 : (32 : Int) ≤ b
          · rw [decide_eq_true c1]
            refine iteT ⟨_, _, rfl, rfl, _, rfl, ?_⟩
            by_cases c2 : b ≤ 126
            · rw [decide_eq_true c2]
              refine iteF ⟨_, rfl, _, rfl, q, _, _, _, rfl, rfl, SqT.of hq.at_, ea, rfl, _, rfl, ?_⟩
              rw [dint]
              refine ite2 (fun c3 => ?_) (fun c3 => ?_)
              · refine ⟨_, rfl, _, rfl, q, _, rfl, .inr (SqT.of hq.at_), _, _, rfl, (by show 2 ≤ sizeLine; decide), fun y hy => ?_⟩
                rw [List.length_map]
                exact tl (by rw [sgE, c3]; simp) y hy
              · refine ⟨_, rfl, rfl, fun j hj => ?_⟩
                rcases Nat.lt_or_ge j i with y | y
                · exact ok j y
                · obtain rfl : j = i := by omega
                  refine ⟨b, eb, ?_⟩
                  rw [sgE, decide_eq_true c1, decide_eq_true c2, decide_eq_false fun y => c3 (decide_eq_true y)]
                  rfl
            · rw [decide_eq_false c2]
              refine iteT ?_
              refine ⟨_, rfl, _, rfl, q, _, rfl, .inr (SqT.of hq.at_), _, _, rfl, (by show 2 ≤ sizeLine; decide), fun y hy => ?_⟩
              rw [List.length_map]
              exact tl (by rw [sgE, decide_eq_false c2]; simp) y hy
          · rw [decide_eq_false c1]
            refine iteF ⟨_, rfl, iteT ?_⟩
            refine ⟨_, rfl, _, rfl, q, _, rfl, .inr (SqT.of hq.at_), _, _, rfl, (by show 2 ≤ sizeLine; decide), fun y hy => ?_⟩
            rw [List.length_map]
            exact tl (by rw [sgE, decide_eq_false c1]; simp) y hy
      · rintro σ H1 ⟨x4, rfl, rfl, ok⟩
        have ok : ∀ j, j < n.toNat → ∃ b, bs[h + j]? = some b ∧ isSg b = true := fun j hj => ok j (by omega)
        have le : h + n.toNat ≤ bs.length := by
          obtain ⟨b, e, _⟩ := ok (n.toNat - 1) (by omega)
          have := (List.getElem?_eq_some_iff.mp e).1
          omega
        have tgt := rdS_go n.toNat h [] ok
        rw [List.nil_append] at tgt
        refine ⟨⟨_, rfl⟩, _, rfl, _, rfl, _, rfl, _, rfl, _, rfl, _, _, rfl, rfl, _, rfl, q, _, rfl, hq.at_, fun y H2 s2 hy => ?_⟩
        have lc : ((bs.map V.int).drop h).take (h + n.toNat - h) = ((bs.drop h).take n.toNat).map V.int := by
          rw [← List.map_drop, ← List.map_take, show h + n.toNat - h = n.toNat by omega]
        rw [show ((h : Int) + n) = ((h + n.toNat : Nat) : Int) by omega, cut_nat _ (by omega) (by rw [List.length_map]; omega), lc] at hy
        refine ⟨y, rfl, ⟨_, SqT.of hy⟩, fun D hD => lc_tup (K := K) (a := y) (xs := ((bs.drop h).take n.toNat).map V.int) (fun i H' => H' D = some (.lst ((((bs.drop h).take n.toNat).take i).map fun b => V.str (sOf [b.toNat]))) ∧ Same H2 H') ?_ ?_ ?_ ?_⟩
        · exact ⟨upd_same, sN hD⟩
        · rintro i H3 hi ⟨_, s3⟩
          exact SqT.of (s3 _ _ hy)
        · rintro i x H3 hx ⟨eD, s3⟩
          obtain ⟨b, hb, rfl⟩ := at_ints hx
          have hi := (List.getElem?_eq_some_iff.mp hb).1
          rw [List.length_take, List.length_drop] at hi
          have hb2 : bs[h + i]? = some b := by
            rw [List.getElem?_take, if_pos (by omega), List.getElem?_drop] at hb
            exact hb
          obtain ⟨b', e', sg⟩ := ok i (by omega)
          rw [hb2] at e'
          cases e'
          refine ⟨rfl, _, rfl, b, rfl, sg, _, eD, ?_, ?_, sNew s3 hD⟩
          · rw [List.length_map, List.length_take]
            exact size_ok (by omega)
          · rw [upd_same, take_more hb, List.map_append]
            rfl
        · rintro H3 ⟨eD, s3⟩
          rw [List.length_map, List.take_length] at eD
          have lz : (((bs.drop h).take n.toNat).map Int.toNat).length = n.toNat := by
            rw [List.length_map, List.length_take, List.length_drop]
            omega
          refine ⟨SX.S [], D, (((bs.drop h).take n.toNat).map Int.toNat).map fun c => sOf [c], rfl, rfl, .inl (SqL.of (by rw [eD, List.map_map, List.map_map]; rfl)), ?_, ?_⟩
          · have l5 : ((((bs.drop h).take n.toNat).map Int.toNat).map fun c => sOf [c]).length = n.toNat := by rw [List.length_map, lz]
            rw [lens1, l5, lz]
            show n.toNat + n.toNat * 0 ≤ _
            omega
          · rw [join_sOf]
            refine ⟨(by show 1 ≤ sizeLine; decide), fun t1 ht1 => ⟨_, rfl, _, rfl, _, _, rfl, rfl, (by show 2 ≤ sizeLine; decide), fun t2 ht2 => ?_⟩⟩
            have s4 := sN (o := .tup [.str (sOf (((bs.drop h).take n.toNat).map Int.toNat))]) ht1
            refine k.1 _ (h + n.toNat) (.str (sOf (((bs.drop h).take n.toNat).map Int.toNat))) t1 t2 _ tgt (sT s2 (sT s3 (sT s4 (sN ht2)))) (sN ht2 _ _ upd_same) ⟨rfl, by omega⟩ ?_
            rw [upd_same]
            show some (HO.tup [V.ref t1, V.int ((h : Int) + n)]) = _
            rw [show ((h : Int) + n) = ((h + n.toNat : Nat) : Int) by omega]
    · by_cases c1 : 1 ≤ n
      · refine ite2 (fun _ => ?_) (fun z => absurd (decide_eq_true c1) z)
        refine ⟨_, _, rfl, rfl, _, rfl, ite2 (fun z => ?_) (fun z => ?_)⟩
        · exact ⟨_, rfl, (by show 2 ≤ sizeLine; decide), no c⟩
        · rw [decide_eq_false (show ¬ n ≤ 20 by omega)] at z
          exact absurd rfl z
      · refine ite2 (fun z => absurd (of_decide_eq_true z) c1) (fun _ => ?_)
        exact ⟨_, rfl, iteT ⟨_, rfl, (by show 2 ≤ sizeLine; decide), no c⟩⟩
theorem scLR : FnScope ["row", "at", "left", "sort", "number", "here", "found", "part"] ["row", "at", "left"] (defScope sLR) := ⟨rfl, rfl, rfl, by decide +kernel, rfl, by decide +kernel, by decide +kernel⟩
theorem ok_lr {f fW fS fG : Addr} {fd fdW fdS fdG : FuncData} (D : Df K mg "_law_read" sLR ["row", "at", "left"] f fd) (B : Bts mg) (DW : Df K mg "_law_read_whole" sLRW ["row", "at"] fW fdW) (DS : Df K mg "_law_read_string" sLRS ["row", "begin", "many", "here"] fS fdS) (DG : Df K mg "_law_sign" sLSg ["byte"] fG fdG) : ∀ d, FnOk P w K mg base CX0 (d + 3) f fd ["row", "at", "left"] (spLR d) := by
  have GW : FnOk P w K mg base CX0 1 fW fdW ["row", "at"] spLRW := ok_lrw DW B
  have GS : FnOk P w K mg base CX0 2 fS fdS ["row", "begin", "many", "here"] spLRS := ok_lrs DS B DG
  have main : ∀ d, FnOk P w K mg base CX0 (d + 2) f fd ["row", "at", "left"] (fun vs H Q E => 0 < d ∧ spLR (d - 1) vs H Q E) → FnOk P w K mg base CX0 (d + 3) f fd ["row", "at", "left"] (spLR d) := by
    intro d IH
    refine D.F.ok scLR (fun vs H Q E h => ?_) (fun cdv A outer s H vs Q E hr h => ?_)
    · obtain ⟨q, bs, a, rfl, _⟩ := h
      rfl
    · obtain ⟨q, bs, a, rfl, hq, al, k⟩ := h
      have nd := scLR.nd
      have few := hq.few
      have hr1 : Room 1 _ := hr.mono (by omega)
      have hr2 : Room 2 _ := hr.mono (by omega)
      refine ⟨_, pss_cons (ps_if (pt_cmpR op_ge (pv 1) (pe_callB call_len_seq (by rfl) B.len PySem.boot_len (pa_cons (pv 0) pa_nil)) (nomark _)) (pss_one (ps_ret (pe_tup (pa_cons pe_non (pa_cons (pe_callB call_len_seq (by rfl) B.len PySem.boot_len (pa_cons (pv 0) pa_nil)) pa_nil))))) pss_nil)
        (pss_cons (ps_set (i := 3) nd rfl (.inl rfl) (pe_ix ix_tup (pv 0) (pv 1) (fun _ _ => rfl)))
        (pss_cons (ps_if (PW.pt (pw_or (pt_cmpR op_gt (pv 3) pe_int (nomark _)) (pw_or1 (PW.pt (pw_and (pt_cmpR op_eq (pv 3) pe_int (nomark _)) (pw_and1 (pt_cmpR op_eq (pv 2) pe_int (nomark _)))))))) (pss_one (ps_ret (pe_tup (pa_cons pe_non (pa_cons (pv 1) pa_nil))))) pss_nil)
        (pss_cons (ps_if (pt_cmpR op_lt (pv 3) pe_int (nomark _)) (pss_one (ps_ret (pe_tup (pa_cons (pe_tup (pa_cons (pe_ix ix_list (pe_lst (pa_cons pe_non (pa_cons pe_bl (pa_cons pe_bl pa_nil)))) (pv 3) (fun _ _ => rfl)) pa_nil)) (pa_cons (pe_op op_add (pv 1) pe_int) pa_nil))))) pss_nil)
        (pss_cons (ps_asg (pe_call GW hr1 rfl DW.m DW.k DW.b .nil pass0 (pa_cons (pv 0) (pa_cons (pe_op op_add (pv 1) pe_int) pa_nil))) (pg_tup rfl (pgs_cons (pg_name (i := 4) nd rfl (.inl rfl)) (pgs_cons (pg_name (i := 5) nd rfl (.inl rfl)) pgs_nil))))
        (pss_cons (ps_if (pt_cmp (pc_isN (pv 4))) (pss_one (ps_ret (pe_tup (pa_cons pe_non (pa_cons (pv 5) pa_nil))))) pss_nil)
        (pss_cons (ps_if (pt_cmpR op_lt (pv 3) pe_int (nomark _)) (pss_one (ps_ret (pe_tup (pa_cons (pe_tup (pa_cons (pe_ifExp (pt_cmpR op_eq (pv 3) pe_int (nomark _)) (pv 4) (pe_op op_sub (pe_op op_sub pe_int pe_int) (pv 4))) pa_nil)) (pa_cons (pv 5) pa_nil))))) pss_nil)
        (pss_cons (ps_if (pt_cmpR op_eq (pv 3) pe_int (nomark _)) (pss_one (ps_ret (pe_call GS hr2 rfl DS.m DS.k DS.b .nil pass0 (pa_cons (pv 0) (pa_cons (pe_op op_add (pv 1) pe_int) (pa_cons (pv 4) (pa_cons (pv 5) pa_nil))))))) pss_nil)
        (pss_cons (ps_set (i := 6) nd rfl (.inl rfl) (pe_lst pa_nil))
        (pss_cons (ps_while PassesOwn.never (pt_cmpR op_lt (pe_callB call_len_seq (by rfl) B.len PySem.boot_len (pa_cons (pv 6) pa_nil)) (pv 4) (nomark _))
          (pss_cons (ps_asg (pe_call IH hr rfl D.m D.k D.b .nil pass0 (pa_cons (pv 0) (pa_cons (pv 5) (pa_cons (pe_op op_sub (pv 2) pe_int) pa_nil)))) (pg_tup rfl (pgs_cons (pg_name (i := 7) nd rfl (.inl rfl)) (pgs_cons (pg_name (i := 5) nd rfl (.inl rfl)) pgs_nil))))
          (pss_cons (ps_if (pt_cmp (pc_isN (pv 7))) (pss_one (ps_ret (pe_tup (pa_cons pe_non (pa_cons (pv 5) pa_nil))))) pss_nil)
          (pss_one (ps_expr (pe_bm PySem.F.plainAttrs_list PySem.F.slot_list_append PySem.F.type_list_append mt_append (pv 6) (pa_cons (pe_ix ix_tup (pv 7) pe_int (fun _ _ => rfl)) pa_nil)))))))
        (pss_one (ps_ret (pe_tup (pa_cons (pe_tup (pa_cons (pe_callTy call_tuple_of (by rfl) B.tuple PyProof.Rows.boot_tuple (pa_cons (pv 6) pa_nil)) pa_nil)) (pa_cons (pv 5) pa_nil)))))))))))))), ?_⟩
      have eP : ∃ g : Nat → Nat → R, rdP bs d a = rdG bs g (decide (d = 0)) a ∧ (0 < d → ∀ n h, g n h = rdL (rdP bs (d - 1)) (bs.length + 1) n h []) := by
        cases d with
        | zero => exact ⟨_, rfl, fun z => absurd z (by decide)⟩
        | succ d => exact ⟨_, rfl, fun _ n h => rfl⟩
      obtain ⟨g, eP, eg⟩ := eP
      rw [eP] at k
      -- what is told of an atom
      have told : ∀ {H1 : Hp} (t : QR.T) (v : V) (h : Nat) (hi : Int), Same H H1 → rdG bs g (decide (d = 0)) a = .ok t h → Rep H1 d t v → hi = (h : Int) → ∀ y, H1 y = none → ∀ z, upd H1 y (.tup [v]) z = none → Q (.ref z) (upd (upd H1 y (.tup [v])) z (.tup [.ref y, .int hi])) := fun t v h hi s e r ei y hy z hz => by
        have s1 := sN (o := .tup [v]) hy
        refine k.1 t h v y z _ e (sT s (sT s1 (sN hz))) (sN hz _ _ upd_same) ((r.same s1).same (sN hz)) ?_
        rw [upd_same, ei]
      refine ⟨_, rfl, _, rfl, q, _, rfl, .inr (SqT.of hq.at_), _, _, rfl, rfl, _, rfl, ?_⟩
      rw [List.length_map]
      refine ite2 (fun c => ?_) (fun c => ?_)
      · have c : a = bs.length := by
          have c : ((bs.length : Nat) : Int) ≤ (a : Int) := of_decide_eq_true c
          omega
        refine ⟨_, rfl, q, _, rfl, .inr (SqT.of hq.at_), (by show 2 ≤ sizeLine; decide), fun y hy => k.2 a y _ ?_ (sN hy) ?_⟩
        · unfold rdG
          rw [List.getElem?_eq_none (by omega)]
        · rw [upd_same, List.length_map, c]
      have lt : a < bs.length := by
        have c : ¬ ((bs.length : Nat) : Int) ≤ (a : Int) := fun z => c (decide_eq_true z)
        omega
      clear c
      have eb : bs[a]? = some bs[a] := List.getElem?_eq_getElem lt
      revert eb
      generalize bs[a] = b
      intro eb
      obtain ⟨b0, b256⟩ := hq.b b (List.mem_of_getElem? eb)
      have eG : rdG bs g (decide (d = 0)) a = if 6 < b ∨ (b = 6 ∧ decide (d = 0) = true) then .no a else if b = 0 then .ok .non (a + 1) else if b = 1 then .ok (.bl false) (a + 1) else if b = 2 then .ok (.bl true) (a + 1) else rdB bs g b a := by
        unfold rdG
        rw [eb]
      have bad : (6 < b ∨ (b = 6 ∧ decide (d = 0) = true)) → ∀ y, H y = none → Q (.ref y) (upd H y (.tup [.non, .int (a : Int)])) := fun c y hy => k.2 a y _ (by rw [eG, if_pos c]) (sN hy) upd_same
      refine ⟨_, rfl, _, rfl, q, _, _, _, rfl, rfl, SqT.of hq.at_, at_row eb, ?_⟩
      refine ⟨_, rfl, _, _, rfl, rfl, _, rfl, ?_⟩
      refine ite2 (fun c => ?_) (fun c => ?_)
      · exact ⟨_, rfl, (by show 2 ≤ sizeLine; decide), bad (.inl (of_decide_eq_true c))⟩
      have c6 : ¬ 6 < b := fun z => c (decide_eq_true z)
      clear c
      refine ⟨_, rfl, rfl, _, rfl, ?_⟩
      rw [dint]
      refine ite2 (fun c => ?v1) (fun c => ?v2)
      case' v1 =>
        refine ⟨_, rfl, rfl, _, rfl, ?_⟩
        rw [dint]
        refine ite2 (fun c2 => ?v3) (fun c2 => ?v4)
        case' v3 =>
          have c2 : (d : Int) = 0 := of_decide_eq_true c2
          exact ⟨_, rfl, (by show 2 ≤ sizeLine; decide), bad (.inr ⟨of_decide_eq_true c, decide_eq_true (by omega)⟩)⟩
        case' v4 => have ok6 : ¬ (b = 6 ∧ decide (d = 0) = true) := fun y => c2 (decide_eq_true (by have := of_decide_eq_true y.2; omega))
      case' v2 => have ok6 : ¬ (b = 6 ∧ decide (d = 0) = true) := fun y => c (decide_eq_true y.1)
      all_goals
        rw [if_neg (show ¬ (6 < b ∨ (b = 6 ∧ decide (d = 0) = true)) from fun y => y.elim c6 ok6)] at eG
        refine ⟨_, rfl, _, _, rfl, rfl, _, rfl, ite2 (fun c3 => ?_) (fun c3 => ?_)⟩
        · have c3 : b < 3 := of_decide_eq_true c3
          refine ⟨(by show 3 ≤ sizeLine; decide), fun l hl => ?_⟩
          have s1 := sN (o := .lst [.non, .bl false, .bl true]) hl
          rcases (show b = 0 ∨ b = 1 ∨ b = 2 by omega) with rfl | rfl | rfl
          · exact ⟨_, rfl, l, _, 0, .non, rfl, rfl, SqL.of upd_same, atI_nat (j := 0) rfl, (by show 1 ≤ sizeLine; decide), fun y hy => ⟨_, rfl, _, _, rfl, rfl, (by show 2 ≤ sizeLine; decide), told .non .non (a + 1) _ s1 eG (Rep.atom (t := .non) (v := .non) rfl) (by omega) y hy⟩⟩
          · exact ⟨_, rfl, l, _, 1, .bl false, rfl, rfl, SqL.of upd_same, atI_nat (j := 1) rfl, (by show 1 ≤ sizeLine; decide), fun y hy => ⟨_, rfl, _, _, rfl, rfl, (by show 2 ≤ sizeLine; decide), told (.bl false) (.bl false) (a + 1) _ s1 eG (Rep.atom (t := .bl false) (v := .bl false) rfl) (by omega) y hy⟩⟩
          · exact ⟨_, rfl, l, _, 2, .bl true, rfl, rfl, SqL.of upd_same, atI_nat (j := 2) rfl, (by show 1 ≤ sizeLine; decide), fun y hy => ⟨_, rfl, _, _, rfl, rfl, (by show 2 ≤ sizeLine; decide), told (.bl true) (.bl true) (a + 1) _ s1 eG (Rep.atom (t := .bl true) (v := .bl true) rfl) (by omega) y hy⟩⟩
        have n3 : ¬ b < 3 := fun z => c3 (decide_eq_true z)
        rw [if_neg (by omega), if_neg (by omega), if_neg (by omega)] at eG
        refine ⟨_, rfl, _, rfl, _, _, rfl, rfl, q, bs, a + 1, ?_, hq, by omega, fun n h z H1 wr s1 hz => ?_, fun wr z H1 s1 hz => ?_⟩
        · show [V.ref q, V.int ((a : Int) + 1)] = _
          rw [show ((a : Int) + 1) = ((a + 1 : Nat) : Int) by omega]
        · obtain ⟨n0, ah, hl⟩ := rdW_nn wr
          refine ⟨z, _, rfl, SqT.of hz, rfl, _, _, rfl, _, _, rfl, rfl, ?_⟩
          refine ⟨_, rfl, _, rfl, iteF ?_⟩
          have hq1 := hq.same s1
          refine ⟨_, rfl, _, _, rfl, rfl, _, rfl, ite2 (fun c5 => ?_) (fun c5 => ?_)⟩
          · have c5 : b < 5 := of_decide_eq_true c5
            refine ⟨_, rfl, rfl, _, rfl, ?_⟩
            rw [dint]
            refine ite2 (fun e3 => ?_) (fun e3 => ?_)
            · obtain rfl : b = 3 := of_decide_eq_true e3
              have eB : rdG bs g (decide (d = 0)) a = .ok (.int n) h := by
                rw [eG]
                unfold rdB
                rw [wr]
                rfl
              exact ⟨_, rfl, (by show 1 ≤ sizeLine; decide), fun y hy => ⟨_, rfl, (by show 2 ≤ sizeLine; decide), told (.int n) (.int n) h _ s1 eB (Rep.atom (t := .int n) (v := .int n) rfl) rfl y hy⟩⟩
            · obtain rfl : b = 4 := by
                have : ¬ b = 3 := fun z => e3 (decide_eq_true z)
                omega
              have eB : rdG bs g (decide (d = 0)) a = .ok (.int (-1 - n)) h := by
                rw [eG]
                unfold rdB
                rw [wr]
                rfl
              exact ⟨_, _, rfl, rfl, _, rfl, _, _, rfl, rfl, (by show 1 ≤ sizeLine; decide), fun y hy => ⟨_, rfl, (by show 2 ≤ sizeLine; decide), told (.int (-1 - n)) (.int (-1 - n)) h _ s1 eB (Rep.atom (t := .int (-1 - n)) (v := .int (-1 - n)) rfl) rfl y hy⟩⟩
          · have n5 : ¬ b < 5 := fun z => c5 (decide_eq_true z)
            refine ⟨_, rfl, rfl, _, rfl, ?_⟩
            rw [dint]
            refine ite2 (fun e5 => ?_) (fun e5 => ?_)
            · obtain rfl : b = 5 := of_decide_eq_true e5
              have eB : rdG bs g (decide (d = 0)) a = strL bs (a + 1) n h := by
                rw [eG]
                unfold rdB strL
                rw [wr]
                rfl
              rw [eB] at k
              refine ⟨_, rfl, _, rfl, _, _, rfl, rfl, _, rfl, _, rfl, q, bs, a + 1, h, n, ?_, hq1, hl, fun t h2 v w z2 H2 e s2 a1 a2 a3 => k.1 t h2 v w z2 H2 e (sT s1 s2) a1 (.atom a2) a3, fun p z2 H2 e s2 a1 => k.2 p z2 H2 e (sT s1 s2) a1⟩
              show [V.ref q, V.int ((a : Int) + 1), V.int n, V.int (h : Int)] = _
              rw [show ((a : Int) + 1) = ((a + 1 : Nat) : Int) by omega]
            · obtain rfl : b = 6 := by
                have : ¬ b = 5 := fun z => e5 (decide_eq_true z)
                omega
              have d0 : 0 < d := Nat.pos_of_ne_zero fun z => ok6 ⟨rfl, decide_eq_true z⟩
              have eB : rdG bs g (decide (d = 0)) a = rdL (rdP bs (d - 1)) (bs.length + 1) n.toNat h [] := by
                rw [eG]
                unfold rdB
                rw [wr]
                exact eg d0 _ _
              rw [eB] at k
              clear told eB eG e5 n5 c5 n3 c3 ok6 c6 bad
              have kk := OutL.from k s1
              refine ⟨Nat.zero_le _, fun l hl0 => ?_⟩
              have nl : H l = none := sNo s1 hl0
              refine ⟨fun m σ H' => ∃ (h' fu : Nat) (ts : List QR.T) (xs : List V) (x7 : Option V), σ = [some (.ref q), some (.int (a : Int)), some (.int (d : Int)), some (.int 6), some (.int n), some (.int ((h' : Nat) : Int)), some (.ref l), x7] ∧ Same H H' ∧ H' l = some (.lst xs) ∧ xs.length = ts.length ∧ (∀ (i : Nat) (x : V) (t : QR.T), xs[i]? = some x → ts[i]? = some t → Rep H' (d - 1) t x) ∧
                ts.length ≤ n.toNat ∧ ts.length ≤ h' ∧ h' ≤ bs.length ∧ bs.length + 1 ≤ fu + h' ∧ rdL (rdP bs (d - 1)) fu (n.toNat - ts.length) h' ts = rdL (rdP bs (d - 1)) (bs.length + 1) n.toNat h [] ∧ m = bs.length - h', ⟨_, h, bs.length + 1, [], [], none, rfl, sNew s1 nl, upd_same, rfl, fun i x t hx => by simp at hx, Nat.zero_le _, Nat.zero_le _, hl, by omega, rfl, rfl⟩, ?_⟩
              rintro m σ H3 ⟨h', fu, ts, xs, x7, rfl, s3, e3, lx, reps, tn, th, hb, fl, tgt, rfl⟩
              have hq3 := hq.same s3
              refine ⟨_, rfl, l, _, rfl, .inl (SqL.of e3), _, rfl, _, _, rfl, rfl, _, rfl, ite2 (fun c => ?_) (fun c => ?_)⟩
              · have c : ts.length < n.toNat := by
                  have c : ((xs.length : Nat) : Int) < n := of_decide_eq_true c
                  omega
                refine ⟨fun σ' H' => ∃ (h2 fu : Nat) (ts : List QR.T) (xs : List V) (x7 : Option V), σ' = [some (.ref q), some (.int (a : Int)), some (.int (d : Int)), some (.int 6), some (.int n), some (.int ((h2 : Nat) : Int)), some (.ref l), x7] ∧ Same H H' ∧ H' l = some (.lst xs) ∧ xs.length = ts.length ∧ (∀ (i : Nat) (x : V) (t : QR.T), xs[i]? = some x → ts[i]? = some t → Rep H' (d - 1) t x) ∧
                  ts.length ≤ n.toNat ∧ ts.length ≤ h2 ∧ h2 ≤ bs.length ∧ bs.length + 1 ≤ fu + h2 ∧ rdL (rdP bs (d - 1)) fu (n.toNat - ts.length) h2 ts = rdL (rdP bs (d - 1)) (bs.length + 1) n.toNat h [] ∧ h' < h2, fun σ' H' ⟨h2, fu, ts, xs, x7, z1, z2, z3, z4, z5, z6, z7, z8, z9, z10, z11⟩ => ⟨bs.length - h2, by omega, h2, fu, ts, xs, x7, z1, z2, z3, z4, z5, z6, z7, z8, z9, z10, rfl⟩, ?_⟩
                obtain ⟨fu, rfl⟩ : ∃ f0, fu = f0 + 1 := ⟨fu - 1, by omega⟩
                have un : rdL (rdP bs (d - 1)) (fu + 1) (n.toNat - ts.length) h' ts = match rdP bs (d - 1) h' with
                  | .no p => .no p
                  | .ok t h2 => rdL (rdP bs (d - 1)) fu (n.toNat - (ts.length + 1)) h2 (ts ++ [t]) := by
                  rw [show n.toNat - ts.length = (n.toNat - (ts.length + 1)) + 1 by omega]
                  rfl
                rw [un] at tgt
                refine ⟨_, rfl, _, rfl, _, rfl, _, _, rfl, rfl, d0, q, bs, h', ?_, hq3, hb, fun t h2 v wv z2 H4 e4 s4 w4 rp z4 => ?_, fun p z2 H4 e4 s4 z4 => ?_⟩
                · show [V.ref q, V.int ((h' : Nat) : Int), V.int ((d : Int) - 1)] = _
                  rw [show ((d : Int) - 1) = ((d - 1 : Nat) : Int) by omega]
                · obtain ⟨f1, f2⟩ := rdP_fwd (d - 1) h' t h2 e4
                  rw [e4] at tgt
                  refine ⟨z2, _, rfl, SqT.of z4, rfl, _, _, rfl, _, _, rfl, rfl, ?_⟩
                  refine ⟨_, rfl, _, rfl, iteF ?_⟩
                  have l4 := s4 _ _ e3
                  refine ⟨_, rfl, .inl ⟨rfl, _, SqL.of l4⟩, _, rfl, wv, _, 0, v, rfl, rfl, SqT.of w4, atI_nat (j := 0) rfl, l, _, _, rfl, rfl, l4, by rw [lx]; exact size_ok (by omega), ?_⟩
                  have tk5 : Tk H4 (upd H4 l (.lst (xs ++ [v]))) := fun c ys e => by
                    rw [upd_ne (ne_of e l4 (fun z => by cases z))]
                    exact e
                  refine ⟨h2, fu, ts ++ [t], xs ++ [v], _, rfl, sNew (sT s3 s4) nl, upd_same, by rw [List.length_append, List.length_append, lx]; rfl, fun i x t' hx ht => ?_, by rw [List.length_append]; show _ + 1 ≤ _; omega, by rw [List.length_append]; show _ + 1 ≤ _; omega, f2, by omega, by rw [List.length_append]; exact tgt, f1⟩
                  by_cases hi : i < xs.length
                  · rw [List.getElem?_append_left hi] at hx
                    rw [List.getElem?_append_left (by omega)] at ht
                    exact ((reps i x t' hx ht).same s4).tk tk5
                  · rw [List.getElem?_append_right (by omega)] at hx
                    rw [List.getElem?_append_right (by omega)] at ht
                    have z1 : i - xs.length = 0 := by
                      have := (List.getElem?_eq_some_iff.mp hx).1
                      have : i - xs.length < 1 := this
                      omega
                    rw [z1] at hx
                    rw [← lx, z1] at ht
                    cases hx
                    cases ht
                    exact rp.tk tk5
                · rw [e4] at tgt
                  refine ⟨z2, _, rfl, SqT.of z4, rfl, _, _, rfl, _, _, rfl, rfl, ?_⟩
                  refine ⟨_, rfl, _, rfl, iteT ?_⟩
                  exact ⟨_, rfl, (by show 2 ≤ sizeLine; decide), fun y hy => k.2 p y _ tgt.symm (sT s3 (sT s4 (sN hy))) upd_same⟩
              · have c : n.toNat - ts.length = 0 := by
                  have c : ¬ ((xs.length : Nat) : Int) < n := fun z => c (decide_eq_true z)
                  omega
                rw [c] at tgt
                have tgt : R.ok (.tup ts) h' = rdL (rdP bs (d - 1)) (bs.length + 1) n.toNat h [] := by
                  rw [← tgt]
                  cases fu <;> rfl
                refine ⟨_, rfl, l, _, rfl, .inl ⟨SqL.of e3, fun t0 ht0 => ⟨(by show 1 ≤ sizeLine; decide), fun t1 ht1 => ⟨_, rfl, (by show 2 ≤ sizeLine; decide), fun t2 ht2 => ?_⟩⟩⟩⟩
                have s4 := sN (o := .tup xs) ht0
                have s5 := sN (o := .tup [.ref t0]) ht1
                have s6 := sN (o := .tup [.ref t1, .int ((h' : Nat) : Int)]) ht2
                have s456 := sT s4 (sT s5 s6)
                refine k.1 (.tup ts) h' (.ref t0) t1 t2 _ tgt.symm (sT s3 s456) (s6 _ _ upd_same) ?_ upd_same
                obtain ⟨d', rfl⟩ : ∃ d', d = d' + 1 := ⟨d - 1, by omega⟩
                exact ⟨t0, xs, rfl, s6 _ _ (s5 _ _ upd_same), lx, by omega, fun i x t hx ht => (reps i x t hx ht).same s456⟩
        · have eB : rdG bs g (decide (d = 0)) a = .no (a + 1) := by
            rw [eG]
            unfold rdB
            rw [wr]
          refine ⟨z, _, rfl, SqT.of hz, rfl, _, _, rfl, _, _, rfl, rfl, ?_⟩
          refine ⟨_, rfl, _, rfl, iteT ?_⟩
          exact ⟨_, rfl, (by show 2 ≤ sizeLine; decide), fun y hy => k.2 (a + 1) y _ eB (sT s1 (sN hy)) upd_same⟩
  intro d
  induction d with
  | zero => exact main 0 ⟨fun vs H Q E h => absurd h.1 (by decide), fun A outer s H args us vs Q E hr e0 hb r h => absurd h.1 (by decide)⟩
  | succ d ih => exact main (d + 1) (ih.imp fun vs H Q E h => h.2)
theorem scTold : FnScope ["row", "found", "here"] ["row"] (defScope sTold) := ⟨rfl, rfl, rfl, by decide +kernel, rfl, by decide +kernel, by decide +kernel⟩
theorem ok_told {f fR fW fS fG : Addr} {fd fdR fdW fdS fdG : FuncData} (D : Df K mg "_law_told" sTold ["row"] f fd) (B : Bts mg) (DR : Df K mg "_law_read" sLR ["row", "at", "left"] fR fdR) (DW : Df K mg "_law_read_whole" sLRW ["row", "at"] fW fdW) (DS : Df K mg "_law_read_string" sLRS ["row", "begin", "many", "here"] fS fdS) (DG : Df K mg "_law_sign" sLSg ["byte"] fG fdG) : FnOk P w K mg base CX0 24 f fd ["row"] spTold := by
  have GR : FnOk P w K mg base CX0 23 fR fdR ["row", "at", "left"] (spLR 20) := ok_lr DR B DW DS DG 20
  refine D.F.ok scTold (fun vs H Q E h => ?_) (fun cdv A outer s H vs Q E hr h => ?_)
  · obtain ⟨q, bs, rfl, _⟩ := h
    rfl
  · obtain ⟨q, bs, rfl, hq, k1, k2⟩ := h
    have nd := scTold.nd
    refine ⟨_, pss_cons (ps_asg (pe_call GR hr rfl DR.m DR.k DR.b .nil pass0 (pa_cons (pv 0) (pa_cons pe_int (pa_cons pe_int pa_nil)))) (pg_tup rfl (pgs_cons (pg_name (i := 1) nd rfl (.inl rfl)) (pgs_cons (pg_name (i := 2) nd rfl (.inl rfl)) pgs_nil))))
      (pss_cons (ps_if (pt_cmp (pc_isN (pv 1))) (pss_one (ps_ret (pv 2))) pss_nil)
      (pss_one (ps_ret (pe_ifExp (pt_cmpR op_eq (pv 2) (pe_callB call_len_seq (by rfl) B.len PySem.boot_len (pa_cons (pv 0) pa_nil)) (nomark _)) (pv 1) (pv 2))))), ?_⟩
    refine ⟨_, rfl, q, bs, 0, rfl, hq, Nat.zero_le _, fun t h v wv z H1 e s1 hw rp hz => ?_, fun p z H1 e s1 hz => ?_⟩
    · refine ⟨z, _, rfl, SqT.of hz, rfl, _, _, rfl, _, _, rfl, rfl, ?_⟩
      refine ⟨_, rfl, _, rfl, iteF ?_⟩
      have eA : rdAll bs = if h = bs.length then .ok t h else .no h := by
        unfold rdAll
        rw [e]
      refine ⟨_, rfl, _, rfl, q, _, rfl, .inr (SqT.of (s1 _ _ hq.at_)), rfl, _, rfl, ?_⟩
      rw [List.length_map, dint]
      refine ite2 (fun c => ?_) (fun c => ?_)
      · have c : ((h : Nat) : Int) = (bs.length : Int) := of_decide_eq_true c
        rw [if_pos (by omega)] at eA
        exact ⟨_, rfl, k1 t h v wv H1 eA s1 hw rp⟩
      · have c : ¬ ((h : Nat) : Int) = (bs.length : Int) := fun z => c (decide_eq_true z)
        rw [if_neg (by omega)] at eA
        exact ⟨_, rfl, k2 h H1 eA s1⟩
    · refine ⟨z, _, rfl, SqT.of hz, rfl, _, _, rfl, _, _, rfl, rfl, ?_⟩
      refine ⟨_, rfl, _, rfl, iteT ⟨_, rfl, k2 p H1 ?_ s1⟩⟩
      unfold rdAll
      rw [e]
theorem scOpen : FnScope ["row", "found"] ["row"] (defScope sOpen) := ⟨rfl, rfl, rfl, by decide +kernel, rfl, by decide +kernel, by decide +kernel⟩
theorem ok_open {f fT fL fM : Addr} {fd fdT fdL fdM : FuncData} (D : Df K mg "_law_opened" sOpen ["row"] f fd) (B : Bts mg) (DT : Df K mg "_law_told" sTold ["row"] fT fdT) (GT : FnOk P w K mg base CX0 24 fT fdT ["row"] spTold) (DL : Df K mg "_law_sealed" sLSl ["row"] fL fdL) (DM : Df K mg "_law_mark" sLMk ["row"] fM fdM) : FnOk P w K mg base CX0 25 f fd ["row"] spOpen := by
  have GL : FnOk P w K mg base CX0 2 fL fdL ["row"] spLSl := ok_lsl DL B DM
  refine D.F.ok scOpen (fun vs H Q E h => ?_) (fun cdv A outer s H vs Q E hr h => ?_)
  · obtain ⟨q, bs, rfl, _⟩ := h
    rfl
  · obtain ⟨q, bs, rfl, hq, k⟩ := h
    have nd := scOpen.nd
    have hr2 : Room 2 _ := hr.mono (by decide)
    have hu := hr.units
    refine ⟨_, pss_cons (ps_if (PW.pt (pw_or (pt_cmpR op_lt (pe_callB call_len_seq (by rfl) B.len PySem.boot_len (pa_cons (pv 0) pa_nil)) pe_int (nomark _)) (pw_or1 (pt_cmpR (op_neI hu) (pe_call GL hr2 rfl DL.m DL.k DL.b .nil pass0 (pa_cons (pe_slice sl_X (pv 0) po_none (po_some (pe_un un_neg pe_int))) pa_nil)) (pv 0) (nomark _))))) (pss_one (ps_ret (pe_tup pa_nil))) pss_nil)
      (pss_cons (ps_set (i := 1) nd rfl (.inl rfl) (pe_call GT hr rfl DT.m DT.k DT.b .nil pass0 (pa_cons (pe_slice sl_X (pv 0) po_none (po_some (pe_un un_neg pe_int))) pa_nil)))
      (pss_one (ps_ret (pe_ifExp (pt_val (pe_callB call_isi (by rfl) B.isinstance PyProof.Rows.boot_isinstance (pa_cons (pv 1) (pa_cons (pe_bltn (v := .ty "tuple") rfl B.tuple PyProof.Rows.boot_tuple rfl) pa_nil)))) (pv 1) (pe_tup pa_nil))))), ?_⟩
    have none : ∀ {H'}, Same H H' → unsT bs = .tup [] → ∀ a, H' a = Option.none → Q (.ref a) (upd H' a (.tup [])) := fun s e a ha => k _ _ (sT s (sN ha)) (by rw [e]; exact rep_nil upd_same)
    refine ⟨_, rfl, q, _, rfl, .inr (SqT.of hq.at_), _, _, rfl, rfl, _, rfl, ?_⟩
    rw [List.length_map]
    refine ite2 (fun c => ?_) (fun c => ?_)
    · have c : ((bs.length : Nat) : Int) < 4 := of_decide_eq_true c
      refine ⟨Nat.zero_le _, none sR ?_⟩
      unfold unsT
      rw [if_neg fun z => by omega]
    have l4 : 4 ≤ bs.length := by
      have c : ¬ ((bs.length : Nat) : Int) < 4 := fun z => c (decide_eq_true z)
      omega
    clear c
    refine ⟨_, rfl, _, rfl, _, rfl, q, _, rfl, hq.at_, fun z H1 s1 hz => ?_⟩
    rw [cut_h4, List.length_map, ← List.map_take] at hz
    refine ⟨z, _, rfl, hz, by rw [List.length_take]; have := hq.few; omega, fun y H2 s2 hy => ?_⟩
    have s02 := sT s1 s2
    refine ⟨_, rfl, y, q, _, _, rfl, rfl, hy, s02 _ _ hq.at_, _, rfl, ?_⟩
    by_cases c : bs.drop (bs.length - 4) = sealL (bs.take (bs.length - 4))
    · have e1 : bs.take (bs.length - 4) ++ sealL (bs.take (bs.length - 4)) = bs := by
        rw [← c, List.take_append_drop]
      have eU : unsT bs = match rdAll (bs.take (bs.length - 4)) with
        | .ok t _ => .tup [t]
        | .no _ => .tup [] := by
        unfold unsT
        rw [if_pos ⟨l4, c⟩]
        all_goals (cases rdAll (bs.take (bs.length - 4)) <;> rfl)
      rw [decide_eq_true e1]
      refine iteF ?_
      refine ⟨_, rfl, _, rfl, _, rfl, q, _, rfl, s02 _ _ hq.at_, fun z3 H3 s3 hz3 => ?_⟩
      rw [cut_h4, List.length_map, ← List.map_take] at hz3
      have s03 := sT s02 s3
      refine ⟨z3, bs.take (bs.length - 4), rfl, .sub hq.b hq.few hz3 (fun b hb => List.mem_of_mem_take hb) (by rw [List.length_take]; omega), fun t h v wv H4 e s4 hw rp => ?_, fun p H4 e s4 => ?_⟩
      · rw [e] at eU
        refine ⟨_, rfl, .ref wv, .ty "tuple", .type "tuple", .type "tuple", true, rfl, .ty _, .base (.tup hw), kit_ty (by decide +kernel), _, rfl, iteT ⟨_, rfl, k _ _ (sT s03 s4) ?_⟩⟩
        rw [eU]
        exact (rep_one hw rp).more
      · rw [e] at eU
        refine ⟨_, rfl, .int ((p : Nat) : Int), .ty "tuple", .type "int", .type "tuple", false, rfl, .ty _, .base (.int _), kit_ty (by decide +kernel), _, rfl, iteF ⟨Nat.zero_le _, none (sT s03 s4) eU⟩⟩
    · have e1 : ¬ bs.take (bs.length - 4) ++ sealL (bs.take (bs.length - 4)) = bs := fun e => c (by
        have z := congrArg (fun l => l.drop (bs.length - 4)) e
        have lz : (bs.take (bs.length - 4)).length = bs.length - 4 := by rw [List.length_take]; omega
        have z1 : (bs.take (bs.length - 4) ++ sealL (bs.take (bs.length - 4))).drop (bs.length - 4) = sealL (bs.take (bs.length - 4)) := by
          have := List.drop_left (l₁ := bs.take (bs.length - 4)) (l₂ := sealL (bs.take (bs.length - 4)))
          rwa [lz] at this
        rw [← z1]
        exact z.symm)
      rw [decide_eq_false e1]
      refine iteT ⟨Nat.zero_le _, none s02 ?_⟩
      unfold unsT
      rw [if_neg fun z => c z.2]
end
end Q

namespace Q
open PySem L2 QR
abbrev sLaw : Stmt := top 61
def spLaw (K : PySem.W.Frag) : Sp := fun vs H Q _ => ∃ (a : Addr) (ns : List Int), vs = [.ref a] ∧ SqL K H a (ns.map V.int) ∧ ns.length ≤ 63 ∧ ∀ H', Q (.bl true) H'
/-- a row of few bytes -/
def Br (H : Hp) (v : V) (n : Nat) : Prop := ∃ (q : Addr) (bs : List Int), v = .ref q ∧ H q = some (.tup (bs.map V.int)) ∧ (∀ b ∈ bs, 0 ≤ b ∧ b < 256) ∧ bs.length ≤ n
theorem Br.tk {H H' : Hp} {v : V} {n : Nat} (h : Br H v n) (k : Tk H H') : Br H' v n := by
  obtain ⟨q, bs, e, a, b, c⟩ := h
  exact ⟨q, bs, e, k _ _ a, b, c⟩
theorem Br.same {H H' : Hp} {v : V} {n : Nat} (h : Br H v n) (s : Same H H') : Br H' v n := h.tk (.of s)
theorem Br.row {H : Hp} {v : V} {n : Nat} (h : Br H v n) (l : n ≤ 9000) : ∃ q bs, v = .ref q ∧ RowAt H q bs := by
  obtain ⟨q, bs, e, a, b, c⟩ := h
  exact ⟨q, bs, e, a, b, by omega⟩
theorem Br.up {H : Hp} {v : V} {n m : Nat} (h : Br H v n) (l : n ≤ m) : Br H v m := by
  obtain ⟨q, bs, e, a, b, c⟩ := h
  exact ⟨q, bs, e, a, b, by omega⟩
theorem cut_ints (bs : List Int) (lo hi : Option Int) : ∃ cs : List Int, cutV (bs.map V.int) lo hi = cs.map V.int ∧ (∀ b ∈ cs, b ∈ bs) ∧ cs.length ≤ bs.length := by
  unfold cutV
  rw [← List.map_drop, ← List.map_take]
  refine ⟨_, rfl, fun b hb => List.mem_of_mem_drop (List.mem_of_mem_take hb), ?_⟩
  rw [List.length_take, List.length_drop]
  omega
theorem Br.cut {H H' : Hp} {q z : Addr} {bs : List Int} {lo hi : Option Int} (h : RowAt H q bs) {n : Nat} (l : bs.length ≤ n) (e : H' z = some (.tup (cutV (bs.map V.int) lo hi))) : Br H' (.ref z) n := by
  obtain ⟨cs, e1, e2, e3⟩ := cut_ints bs lo hi
  rw [e1] at e
  exact ⟨z, cs, rfl, e, fun b hb => h.b b (e2 b hb), by omega⟩
theorem Br.one {H : Hp} {z : Addr} {b : Int} (e : H z = some (.tup [.int b])) (h0 : 0 ≤ b) (h1 : b < 256) : Br H (.ref z) 1 := ⟨z, [b], rfl, e, fun x hx => by rw [List.mem_singleton.mp hx]; exact ⟨h0, h1⟩, Nat.le_refl _⟩
/-- a sum of rows, read -/
theorem cat_br {H : Hp} {x y : V} {n m : Nat} {Q : VK} (a : Br H x n) (b : Br H y m) (l : n + m ≤ 20000) (k : ∀ z H', Same H H' → Br H' z (n + m) → Q z H') : rCatS x y H Q := by
  obtain ⟨q, bs, rfl, h1, h2, h3⟩ := a
  obtain ⟨r, cs, rfl, g1, g2, g3⟩ := b
  refine ⟨q, r, _, _, rfl, rfl, h1, g1, ?_, fun z H' s e => k _ H' s ⟨z, bs ++ cs, rfl, by rw [List.map_append]; exact e, fun x hx => ?_, by rw [List.length_append]; omega⟩⟩
  · rw [List.length_map, List.length_map]
    exact Nat.le_of_lt (size_ok (by omega))
  · exact (List.mem_append.mp hx).elim (h2 x) (g2 x)
/-- what is no row -/
def OddV (p l : Addr) (H : Hp) (v : V) : Prop := v = .non ∨ (∃ z, v = .str z) ∨ (∃ i, v = .int i) ∨ (∃ q xs, v = .ref q ∧ H q = some (.lst xs) ∧ q ≠ p ∧ q ≠ l) ∨ (∃ q, v = .ref q ∧ H q = some (.dK []) ∧ q ≠ p ∧ q ≠ l) ∨
  (∃ q, v = .ref q ∧ H q = some (.tup [])) ∨ ∃ q xs, v = .ref q ∧ H q = some (.tup xs) ∧ xs.length ≤ 9000 ∧ (∀ x ∈ xs, Sc x) ∧ xs.all isB = false
theorem OddV.kp {p l : Addr} {H H' : Hp} {v : V} (h : OddV p l H v) (g : PoolAt H p l) (k : Kp p l H H') : OddV p l H' v := by
  rcases h with h | h | h | ⟨q, xs, e, a, n1, n2⟩ | ⟨q, e, a, n1, n2⟩ | ⟨q, e, a⟩ | ⟨q, xs, e, a, r⟩
  · exact .inl h
  · exact .inr (.inl h)
  · exact .inr (.inr (.inl h))
  · exact .inr (.inr (.inr (.inl ⟨q, xs, e, k _ _ a n1 n2, n1, n2⟩)))
  · exact .inr (.inr (.inr (.inr (.inl ⟨q, e, k _ _ a n1 n2, n1, n2⟩))))
  · exact .inr (.inr (.inr (.inr (.inr (.inl ⟨q, e, g.tk k _ _ a⟩)))))
  · exact .inr (.inr (.inr (.inr (.inr (.inr ⟨q, xs, e, g.tk k _ _ a, r⟩)))))
theorem OddV.same {p l : Addr} {H H' : Hp} {v : V} (h : OddV p l H v) (s : Same H H') : OddV p l H' v := by
  rcases h with h | h | h | ⟨q, xs, e, a, n⟩ | ⟨q, e, a, n⟩ | ⟨q, e, a⟩ | ⟨q, xs, e, a, r⟩
  · exact .inl h
  · exact .inr (.inl h)
  · exact .inr (.inr (.inl h))
  · exact .inr (.inr (.inr (.inl ⟨q, xs, e, s _ _ a, n⟩)))
  · exact .inr (.inr (.inr (.inr (.inl ⟨q, e, s _ _ a, n⟩))))
  · exact .inr (.inr (.inr (.inr (.inr (.inl ⟨q, e, s _ _ a⟩)))))
  · exact .inr (.inr (.inr (.inr (.inr (.inr ⟨q, xs, e, s _ _ a, r⟩)))))
theorem OddV.uns {K : PySem.W.Frag} {p l : Addr} {H : Hp} {v : V} (h : OddV p l H v) : UnsIn K H v (.tup []) := by
  rcases h with rfl | ⟨z, rfl⟩ | ⟨i, rfl⟩ | ⟨q, xs, rfl, a, _⟩ | ⟨q, rfl, a, _⟩ | ⟨q, rfl, a⟩ | ⟨q, xs, rfl, a, r1, r2, r3⟩
  · exact .inr (.inr ⟨_, .base .non, kit_ty (by decide +kernel), rfl⟩)
  · exact .inr (.inr ⟨_, .base (.str _), kit_ty (by decide +kernel), rfl⟩)
  · exact .inr (.inr ⟨_, .base (.int _), kit_ty (by decide +kernel), rfl⟩)
  · exact .inr (.inr ⟨_, .base (.lst a), kit_ty (by decide +kernel), rfl⟩)
  · exact .inr (.inr ⟨_, .base (.dK a), kit_ty (by decide +kernel), rfl⟩)
  · refine .inl ⟨q, [], rfl, ⟨a, fun b hb => by simp at hb, Nat.zero_le _⟩, ?_⟩
    unfold unsT
    rw [if_neg fun z => absurd z.1 (by decide)]
  · exact .inr (.inl ⟨q, xs, rfl, a, r1, r2, r3, rfl⟩)
/-- a row and one more that is no byte -/
theorem odd_cat {p l : Addr} {H : Hp} {x : V} {n : Nat} {y : V} {b : Addr} {Q : VK} (a : Br H x n) (hb : H b = some (.tup [y])) (sc : Sc y) (nb : isB y = false) (ln : n ≤ 8000) (k : ∀ z H', Same H H' → OddV p l H' z → Q z H') : rCatS x (.ref b) H Q := by
  obtain ⟨q, bs, rfl, h1, h2, h3⟩ := a
  refine ⟨q, b, _, _, rfl, rfl, h1, hb, ?_, fun z H' s e => k _ H' s (.inr (.inr (.inr (.inr (.inr (.inr ⟨z, _, rfl, e, ?_, fun x hx => ?_, ?_⟩))))))⟩
  · rw [List.length_map]
    exact Nat.le_of_lt (size_ok (by show _ + 1 ≤ _; omega))
  · rw [List.length_append, List.length_map]
    show _ + 1 ≤ _
    omega
  · rcases List.mem_append.mp hx with hx | hx
    · exact sc_ints bs x hx
    · rw [List.mem_singleton.mp hx]
      exact sc
  · rw [List.all_append]
    show (_ && ([y].all isB)) = false
    rw [show [y].all isB = false by show (isB y && true) = false; rw [nb]; rfl, Bool.and_false]
theorem log_61 (bs : List Int) : (mkF bs).natAbs.log2 < 1920 := by
  obtain ⟨h0, h1⟩ := mkF_b bs
  refine Nat.lt_of_le_of_lt ?_ (show 61 < 1920 by decide)
  rcases Nat.eq_zero_or_pos (mkF bs).natAbs with z | z
  · rw [z]
    decide
  · have : (mkF bs).natAbs.log2 < 62 := (Nat.log2_lt (by omega)).mpr (Nat.lt_of_lt_of_le (show (mkF bs).natAbs < 2305843009213693951 by omega) (by decide))
    omega
-- the defs of rows
end Q

/-! xs[a:] = ys -/
namespace L2
open PySem PySem.Spec PyProof.Rows
theorem setItem_tail {prog : Program} {w : World} {A : Around} {E : Value → Shared → Prop} {s : Shared} {l b sl : Addr} {items new : Array Value} {n n2 : Nat} {vl : Value} {a : Nat} {Q : Unit → Shared → Prop}
    (e : s.heap.get? l = some { cls := Value.type "list", data := Data.seq items n }) (e2 : s.heap.get? b = some { cls := Value.type "list", data := Data.seq new n2 }) (hne : l ≠ b) (hs : s.heap.IsSliceOf sl vl Value.none Value.none)
    (pl : IsPart vl (some (a : Int))) (ha : a ≤ items.size) (hsz : items.size + new.size ≤ sizeLine)
    (h : Q () { heap := s.heap.update l (Obj.mapSeq fun xs => xs.extract 0 a ++ new ++ xs.extract items.size), gens := s.gens, drawn := s.drawn, toks := s.toks, os := s.os }) :
    wpAny (model prog w) A (setItem (.ref l) (.ref sl) (.ref b)) Q E s := by
  have hl : s.heap.IsList l items := IsL.isList e
  have hb : s.heap.IsList b new := IsL.isList e2
  obtain ⟨os, hos, hcs, hds⟩ := id hs
  have hTs : s.TypeIs (.ref sl) "slice" := ⟨os, hos, hcs⟩
  unfold setItem
  refine wpAny_holding ?_
  refine wpAny_bind (wpAny_sequenceKey hl.typeIs (by decide) ?_)
  refine wpAny_bind (wpAny_callSpecial?_slot hl.typeIs slot_list_setitem (wpAny_call_entry slot_list_setitem hl.typeIs entry_list_setitem ?_ (args_list_setitem _ _ _)))
  unfold Builtin.«list.__setitem__»
  have hb1 : (Value.ref l == Value.ref b) = false := beq_eq_false_iff_ne.mpr (fun z => hne (Value.ref.inj z))
  refine wpAny_bind (wpAny_pure (a := (Value.ref l, [Value.ref sl, Value.ref b])) ?_)
  refine wpAny_bind ?_
  unfold Builtin.List.listSubscript?
  refine wpAny_bind (wpAny_specialOf hTs slice_no_index ?_)
  refine wpAny_pure (a := (none : Option Int)) ?_
  refine wpAny_bind (wpAny_typeOf hTs ?_)
  have e0 : ((Value.type "slice" != Value.type "slice") = true) = False := by simp
  simp only [e0, if_false, listSliceParts_eq]
  refine wpAny_bind (wpAny_bind (wpAny_field hos hds rfl (wpAny_bind (wpAny_listPart IsPart.none ?_))))
  have e1 : ((rawPart none == rawInt 0) = true) = False := by simp [rawPart, rawInt]
  simp only [e1, if_false]
  refine wpAny_bind (wpAny_field hos hds rfl (wpAny_bind (wpAny_listPart pl ?_)))
  refine wpAny_bind (wpAny_field hos hds rfl (wpAny_bind (wpAny_listPart IsPart.none ?_)))
  refine wpAny_pure ?_
  have e3 : (Builtin.List.listSameRef (Value.ref l) (Value.ref b) = true) = False := by
    unfold Builtin.List.listSameRef
    simp [hne]
  simp only [e3, if_false]
  unfold Builtin.List.listAllItems
  refine wpAny_bind (wpAny_bind (wpAny_typeOf hb.typeIs ?_))
  have e4 : ((Value.type "list" == Value.type "list" || Value.type "list" == Value.type "tuple") = true) = True := by simp
  simp only [e4, if_true]
  unfold Builtin.List.listItems
  refine wpAny_bind (wpAny_seqItems e2 rfl (wpAny_pure ?_))
  refine wpAny_bind (wpAny_bind (wpAny_seqItems e rfl (wpAny_pure ?_)))
  rw [sliceIndices_raw _ _ _ _ (by simp)]
  refine wpAny_bind (wpAny_pure ?_)
  have e5 : sliceBounds (some (a : Int)) none none items.size = ((a : Int), (items.size : Int), 1) := by
    unfold sliceBounds
    simp
    omega
  rw [e5]
  have e6 : ((((1 : Int) == 1) = true)) = True := by simp
  simp only [e6, if_true]
  refine wpAny_bind (wpAny_rule ?_)
  have e7 : (Builtin.List.listTooLong (items.size + new.size) = true) = False := by
    unfold Builtin.List.listTooLong
    simp
    omega
  simp only [e7, if_false]
  have e8 : (max (a : Int) (items.size : Int)).toNat = items.size := by omega
  rw [e8]
  refine wpAny_bind (wpAny_updateSeq e rfl ?_ (by omega) (by simp; omega))
  refine wpAny_bind (wpAny_letGo ?_)
  exact wpAny_pure ⟨.none, rfl, wpAny_pure h⟩

def sSlPut (td tl' : TE) (tl : TO) : TE → TS := fun tv D σ H => tv σ H fun v H1 => td σ H1 fun x H2 => tl σ H2 fun a H3 => ∃ (l b : Addr) (xs ys : List V) (n : Nat), x = .ref l ∧ v = .ref b ∧ a = some (n : Int) ∧ H3 l = some (.lst xs) ∧ H3 b = some (.lst ys) ∧ l ≠ b ∧ n ≤ xs.length ∧ xs.length + ys.length ≤ sizeLine ∧ D.nx σ (upd H3 l (.lst (xs.take n ++ ys)))
section
variable {X : Cx} {o value : Expr} {lo : Option Expr} {pos pos' p2 : Pos} {td tv : TE} {tl : TO}
theorem ps_slput (ho : PE X o td) (hl : PO X lo tl) (hv : PE X value tv) (hs : swapsWith value (some (.Subscript o (.Slice lo none none p2) pos')) pos.line X.env = pure false := by rfl) : PS X (.Assign [.Subscript o (.Slice lo none none p2) pos'] value pos) (sSlPut td td tl tv) := by
  refine ⟨fun pins s σ H D I h => wpAny_Assign_Subscript (thn (hv.run pins s σ H _ I h) fun v s1 ⟨x1, H1, I1, r1, q1⟩ => thn (ho.run pins s1 σ H1 _ I1 q1) fun ov s2 ⟨x2, H2, I2, r2, q2⟩ => wpAny_Slice (thn (hl.run pins s2 σ H2 _ I2 q2) fun vl s3 ⟨a, H3, I3, pl, q3⟩ => ?_)) hs⟩
  rw [evalPart_none]
  refine wpAny_pure ?_
  refine wpAny_pure ?_
  obtain ⟨l, b, xs, ys, n, rfl, rfl, rfl, hL, hB, ne, le, sz, q⟩ := q3
  cases r1
  cases r2
  have I4 := I3.kept (t' := s3.toks) fun b ob q => Heap.get?_push_of_some { cls := Value.type "slice", data := Data.fields #[vl, Value.none, Value.none] } q
  obtain ⟨z, its, k, r, hlen, e⟩ := Inv.lstM I4 hL
  obtain ⟨z2, its2, k2, r2, hlen2, e2⟩ := Inv.lstM I4 hB
  refine setItem_tail e e2 ne (Heap.IsSliceOf.new s3.heap vl Value.none Value.none) pl (by rw [List.size_toArray]; omega) (by rw [List.size_toArray, List.size_toArray]; omega) ?_
  refine ⟨σ, _, I4.lset hL e (its' := its.take n ++ its2) ?_ ((r.take n).append r2) ?_, q⟩
  · show its.toArray.extract 0 n ++ its2.toArray ++ its.toArray.extract its.toArray.size = _
    simp
  · rw [List.length_append, List.length_take]
    omega
end
end L2

namespace Q
open PySem L2 QR
abbrev sDI : Stmt := inClass (top 37) 0
abbrev sDW : Stmt := inClass (top 37) 1
abbrev sDS : Stmt := inClass (top 37) 2
abbrev sDB : Stmt := inClass (top 37) 3
abbrev sDY : Stmt := inClass (top 37) 4
abbrev sDC : Stmt := inClass (top 37) 5
abbrev sDD : Stmt := inClass (top 37) 6
abbrev sDK : Stmt := inClass (top 37) 7
/-! rows in a list, by what they hold -/
def RowsV (H : Hp) (vs : List V) (bss : List (List Int)) : Prop := vs.length = bss.length ∧ ∀ (i : Nat) (v : V) (bs : List Int), vs[i]? = some v → bss[i]? = some bs → ∃ q, v = .ref q ∧ RowAt H q bs
theorem RowsV.tk {H H' : Hp} {vs : List V} {bss : List (List Int)} (h : RowsV H vs bss) (k : Tk H H') : RowsV H' vs bss := ⟨h.1, fun i v bs hv hb => by
  obtain ⟨q, e, r⟩ := h.2 i v bs hv hb
  exact ⟨q, e, r.tk k⟩⟩
theorem RowsV.nil {H : Hp} : RowsV H [] [] := ⟨rfl, fun i v bs hv => by simp at hv⟩
theorem RowsV.append {H : Hp} {vs us : List V} {bss css : List (List Int)} (h : RowsV H vs bss) (g : RowsV H us css) : RowsV H (vs ++ us) (bss ++ css) := by
  refine ⟨by rw [List.length_append, List.length_append, h.1, g.1], fun i v bs hv hb => ?_⟩
  by_cases c : i < vs.length
  · rw [List.getElem?_append_left c] at hv
    rw [List.getElem?_append_left (by rw [← h.1]; exact c)] at hb
    exact h.2 i v bs hv hb
  · rw [List.getElem?_append_right (by omega)] at hv
    rw [List.getElem?_append_right (by rw [← h.1]; omega), ← h.1] at hb
    exact g.2 _ v bs hv hb
theorem RowsV.one {H : Hp} {q : Addr} {bs : List Int} (h : RowAt H q bs) : RowsV H [.ref q] [bs] := ⟨rfl, fun i v cs hv hb => by
  cases i with
  | zero =>
    cases hv
    cases hb
    exact ⟨q, rfl, h⟩
  | succ i => simp at hv⟩
theorem RowsV.take {H : Hp} {vs : List V} {bss : List (List Int)} (h : RowsV H vs bss) (n : Nat) : RowsV H (vs.take n) (bss.take n) := by
  refine ⟨by rw [List.length_take, List.length_take, h.1], fun i v bs hv hb => ?_⟩
  have hi : i < (vs.take n).length := (List.getElem?_eq_some_iff.mp hv).1
  rw [List.length_take] at hi
  rw [List.getElem?_take_of_lt (by omega)] at hv hb
  exact h.2 i v bs hv hb
theorem RowsV.drop {H : Hp} {vs : List V} {bss : List (List Int)} (h : RowsV H vs bss) (n : Nat) : RowsV H (vs.drop n) (bss.drop n) := by
  refine ⟨by rw [List.length_drop, List.length_drop, h.1], fun i v bs hv hb => ?_⟩
  rw [List.getElem?_drop] at hv hb
  exact h.2 _ v bs hv hb
def RowsAt (H : Hp) (l : Addr) (bss : List (List Int)) : Prop := ∃ vs, H l = some (.lst vs) ∧ RowsV H vs bss
theorem RowsAt.same {H H' : Hp} {l : Addr} {bss : List (List Int)} (h : RowsAt H l bss) (s : Same H H') : RowsAt H' l bss := h.imp fun vs h => ⟨s _ _ h.1, h.2.tk (.of s)⟩
def dF (ra : Addr) (m : Nat) : List (Str × V) := [("_rows", .ref ra), ("_many_synced", .int (m : Int))]
theorem dF_m (ra : Addr) (m k : Nat) : putF "_many_synced" (.int (k : Int)) (dF ra m) = dF ra k := by
  unfold dF putF
  rw [if_neg (by decide +kernel)]
  unfold putF
  rw [if_pos rfl]
theorem dF_r (ra rb : Addr) (m : Nat) : putF "_rows" (.ref rb) (dF ra m) = dF rb m := by
  unfold dF putF
  rw [if_pos rfl]
/-- a disk -/
structure DiskX (CD : Addr) (H : Hp) (x dx ra : Addr) (bss : List (List Int)) (m : Nat) : Prop where
  at_ : H x = some (.ins CD dx (dF ra m))
  rows : RowsAt H ra bss
  le : m ≤ bss.length
  few : bss.length ≤ 200
theorem DiskX.same {CD : Addr} {H H' : Hp} {x dx ra : Addr} {bss : List (List Int)} {m : Nat} (h : DiskX CD H x dx ra bss m) (s : Same H H') : DiskX CD H' x dx ra bss m := ⟨s _ _ h.at_, h.rows.same s, h.le, h.few⟩
theorem DiskX.ne {CD : Addr} {H : Hp} {x dx ra : Addr} {bss : List (List Int)} {m : Nat} (h : DiskX CD H x dx ra bss m) : x ≠ ra := fun e => by
  obtain ⟨vs, hv, _⟩ := h.rows
  rw [← e, h.at_] at hv
  cases hv
/-- all stands but two -/
def B2 (a b : Addr) (H H' : Hp) : Prop := ∀ c o, H c = some o → c ≠ a → c ≠ b → H' c = some o
theorem B2.rf {a b : Addr} {H : Hp} : B2 a b H H := fun _ _ e _ _ => e
theorem B2.st {a b : Addr} {H H1 H2 : Hp} (h : B2 a b H H1) (s : Same H1 H2) : B2 a b H H2 := fun c o e n m => s _ _ (h c o e n m)
theorem B2.of {a b : Addr} {H H1 : Hp} (s : Same H H1) : B2 a b H H1 := fun c o e _ _ => s _ _ e
theorem B2.tr {a b : Addr} {H H1 H2 : Hp} (h : B2 a b H H1) (g : B2 a b H1 H2) : B2 a b H H2 := fun c o e n m => g c o (h c o e n m) n m
theorem B2.a {a b : Addr} {H H1 : Hp} {o : HO} (h : B2 a b H H1) : B2 a b H (upd H1 a o) := fun c u e n m => by rw [upd_ne n]; exact h c u e n m
theorem B2.b {a b : Addr} {H H1 : Hp} {o : HO} (h : B2 a b H H1) : B2 a b H (upd H1 b o) := fun c u e n m => by rw [upd_ne m]; exact h c u e n m
/-- what the top says of Disk -/
structure DTxt (K : PySem.W.Frag) (mg : Str → Option Value) (CD : Addr) : Prop where
  cl : Cls K CD
  nR : NoAttr K CD "_rows"
  nM : NoAttr K CD "_many_synced"
  mgC : mg "Disk" = some (.ref CD)
structure DDefs (K : PySem.W.Frag) (CD : Addr) where
  fI : Addr
  dI : FuncData
  FI : Fun K "__init__" "Disk.__init__" sDI fI dI
  bI : Binds K dI ["self"] []
  mM : Mk K CD fI
  fW : Addr
  dW : FuncData
  FW : Fun K "write" "Disk.write" sDW fW dW
  bW : Binds K dW ["self", "row"] []
  mW : Meth K CD "write" fW
  fS : Addr
  dS : FuncData
  FS : Fun K "sync" "Disk.sync" sDS fS dS
  bS : Binds K dS ["self"] []
  mS : Meth K CD "sync" fS
  fB : Addr
  dB : FuncData
  FB : Fun K "blocks" "Disk.blocks" sDB fB dB
  bB : Binds K dB ["self"] []
  mB : Meth K CD "blocks" fB
  fY : Addr
  dY : FuncData
  FY : Fun K "synced" "Disk.synced" sDY fY dY
  bY : Binds K dY ["self"] []
  mY : Meth K CD "synced" fY
  fC : Addr
  dC : FuncData
  FC : Fun K "cut" "Disk.cut" sDC fC dC
  bC : Binds K dC ["self", "kept"] []
  mC : Meth K CD "cut" fC
  fD : Addr
  dD : FuncData
  FD : Fun K "drop" "Disk.drop" sDD fD dD
  bD : Binds K dD ["self", "number"] []
  mD : Meth K CD "drop" fD
  fK : Addr
  dK : FuncData
  FK : Fun K "copy" "Disk.copy" sDK fK dK
  bK : Binds K dK ["self"] []
  mK : Meth K CD "copy" fK
def spDI (CD : Addr) : Sp := fun vs H Q _ => ∃ (x dx : Addr), vs = [.ref x] ∧ H x = some (.ins CD dx []) ∧ ∀ ra H', H ra = none → ra ≠ x → Bu x H H' → DiskX CD H' x dx ra [] 0 → Q .non H'
def spDW (CD : Addr) : Sp := fun vs H Q _ => ∃ (x dx ra q : Addr) (bss : List (List Int)) (m : Nat) (bs : List Int), vs = [.ref x, .ref q] ∧ DiskX CD H x dx ra bss m ∧ bss.length < 200 ∧ RowAt H q bs ∧ ∀ H', Bu ra H H' → DiskX CD H' x dx ra (bss ++ [bs]) m → Q (.int (bss.length : Int)) H'
def spDS (CD : Addr) : Sp := fun vs H Q _ => ∃ (x dx ra : Addr) (bss : List (List Int)) (m : Nat), vs = [.ref x] ∧ DiskX CD H x dx ra bss m ∧ ∀ H', Bu x H H' → DiskX CD H' x dx ra bss bss.length → Q (.int ((bss.length : Int) - (m : Int))) H'
def spDB (CD : Addr) : Sp := fun vs H Q _ => ∃ (x dx ra : Addr) (bss : List (List Int)) (m : Nat), vs = [.ref x] ∧ DiskX CD H x dx ra bss m ∧ ∀ z H', H z = none → Same H H' → RowsAt H' z bss → Q (.ref z) H'
def spDY (CD : Addr) : Sp := fun vs H Q _ => ∃ (x dx ra : Addr) (bss : List (List Int)) (m : Nat), vs = [.ref x] ∧ DiskX CD H x dx ra bss m ∧ Q (.int (m : Int)) H
def spDD (CD : Addr) : Sp := fun vs H Q _ => ∃ (x dx ra : Addr) (bss : List (List Int)) (m n : Nat), vs = [.ref x, .int (n : Int)] ∧ DiskX CD H x dx ra bss m ∧ n ≤ bss.length ∧ ∀ rb H', H rb = none → Bu x H H' → DiskX CD H' x dx rb (bss.take n) (min m n) → Q .non H'
def spDK (CD : Addr) : Sp := fun vs H Q _ => ∃ (x dx ra : Addr) (bss : List (List Int)) (m : Nat), vs = [.ref x] ∧ DiskX CD H x dx ra bss m ∧ ∀ y dy rb H', H y = none → H rb = none → Same H H' → DiskX CD H' y dy rb bss m → Q (.ref y) H'
section
variable {P : Program} {w : World} {K : PySem.W.Frag} {mg : Str → Option Value} {base : Heap}
theorem cut_to (xs : List V) (n : Nat) : cutV xs none (some (n : Int)) = xs.take n := by
  unfold cutV
  rw [HT.sIx_none, HT.sIx_nat, List.drop_zero, Nat.sub_zero]
  rcases Nat.le_total n xs.length with c | c
  · rw [Nat.min_eq_left c]
  · rw [Nat.min_eq_right c, List.take_length, List.take_of_length_le c]
theorem scDI : FnScope ["self"] ["self"] (defScope sDI) := ⟨rfl, rfl, rfl, by decide +kernel, rfl, by decide +kernel, by decide +kernel⟩
theorem ok_di {CD : Addr} (T : DTxt K mg CD) (M : DDefs K CD) : FnOk P w K mg base CX0 1 M.fI M.dI ["self"] (spDI CD) := by
  refine M.FI.ok scDI (fun vs H Q E h => ?_) (fun cdv A outer s H vs Q E hr h => ?_)
  · obtain ⟨x, dx, rfl, _⟩ := h
    rfl
  · obtain ⟨x, dx, rfl, e, k⟩ := h
    refine ⟨_, pss_cons (ps_fld (pv 0) (pe_lst pa_nil) rfl) (pss_one (ps_fld (pv 0) pe_int rfl)), ?_⟩
    refine ⟨Nat.zero_le _, fun ra hra => ?_⟩
    have nx : ra ≠ x := fun z => by rw [z, e] at hra; cases hra
    refine ⟨_, rfl, x, CD, dx, _, rfl, by rw [upd_ne nx.symm]; exact e, T.cl, T.nR, (by show 0 < 1000; decide), ?_⟩
    refine ⟨_, rfl, x, CD, dx, _, rfl, upd_same, T.cl, T.nM, (by show 1 < 1000; decide), ?_⟩
    have s1 := sN (o := .lst []) hra
    refine k ra _ hra nx (((Bu.of s1).at).at) ⟨?_, ⟨[], by rw [upd_ne nx, upd_ne nx, upd_same], .nil⟩, Nat.le_refl _, Nat.zero_le _⟩
    rw [upd_same]
    show some (HO.ins CD dx (putF "_many_synced" (.int ((0 : Nat) : Int)) [("_rows", V.ref ra)])) = _
    unfold putF
    rw [if_neg (by decide +kernel)]
    rfl
theorem scDW : FnScope ["self", "row"] ["self", "row"] (defScope sDW) := ⟨rfl, rfl, rfl, by decide +kernel, rfl, by decide +kernel, by decide +kernel⟩
theorem ok_dw {CD fR : Addr} {dR : FuncData} (T : DTxt K mg CD) (M : DDefs K CD) (B : Bts mg) (DR : Df K mg "is_row" sIsRow ["thing"] fR dR) (GR : FnOk P w K mg base CX0 3 fR dR ["thing"] (spIsRow K)) : FnOk P w K mg base CX0 4 M.fW M.dW ["self", "row"] (spDW CD) := by
  refine M.FW.ok scDW (fun vs H Q E h => ?_) (fun cdv A outer s H vs Q E hr h => ?_)
  · obtain ⟨x, dx, ra, q, bss, m, bs, rfl, _⟩ := h
    rfl
  · obtain ⟨x, dx, ra, q, bss, m, bs, rfl, d, lt, hq, k⟩ := h
    refine ⟨_, pss_cons (ps_if (pt_not (pt_val (pe_call GR hr rfl DR.m DR.k DR.b .nil pass0 (pa_cons (pv 1) pa_nil)))) pss_never pss_nil)
      (pss_cons (ps_expr (pe_bm PySem.F.plainAttrs_list PySem.F.slot_list_append PySem.F.type_list_append mt_append (pe_fld (pv 0) rfl) (pa_cons (pv 1) pa_nil)))
      (pss_one (ps_ret (pe_op op_sub (pe_callB call_len_seq (by rfl) B.len PySem.boot_len (pa_cons (pe_fld (pv 0) rfl) pa_nil)) pe_int)))), ?_⟩
    refine ⟨_, rfl, .ref q, rfl, .inl ⟨q, _, rfl, hq.at_, by rw [List.length_map]; exact hq.few, sc_ints bs, fun H1 s1 => ?_⟩⟩
    rw [all_isB hq.b]
    refine ⟨_, rfl, iteF ?_⟩
    have d1 := d.same s1
    have ne := d1.ne
    obtain ⟨vs, hv, rv⟩ := d1.rows
    refine ⟨_, rfl, x, CD, dx, _, _, rfl, d1.at_, T.cl, T.nR, rfl, .inl ⟨rfl, _, SqL.of hv⟩, _, rfl, ra, _, _, rfl, rfl, hv, size_ok (by rw [rv.1]; have := d.few; omega), ?_⟩
    have e2 : (upd H1 ra (.lst (vs ++ [.ref q]))) x = some (.ins CD dx (dF ra m)) := by
      rw [upd_ne ne]
      exact d1.at_
    refine ⟨_, rfl, x, CD, dx, _, _, rfl, e2, T.cl, T.nR, rfl, ra, _, rfl, .inl (SqL.of upd_same), _, _, rfl, rfl, ?_⟩
    have el : (((vs ++ [V.ref q]).length : Nat) : Int) - 1 = (bss.length : Int) := by
      rw [List.length_append, rv.1]
      show ((bss.length + 1 : Nat) : Int) - 1 = _
      omega
    have tk : Tk H1 (upd H1 ra (.lst (vs ++ [.ref q]))) := fun c ys e => by
      rw [upd_ne (ne_of e hv (fun z => by cases z))]
      exact e
    show Q (V.int ((((vs ++ [V.ref q]).length : Nat) : Int) - 1)) _
    rw [el]
    exact k _ ((Bu.of s1).at) ⟨e2, ⟨_, upd_same, (rv.tk tk).append (.one ((hq.same s1).tk tk))⟩, by rw [List.length_append]; have := d.le; omega, by rw [List.length_append]; show _ + 1 ≤ _; omega⟩
theorem scDS : FnScope ["self", "waited"] ["self"] (defScope sDS) := ⟨rfl, rfl, rfl, by decide +kernel, rfl, by decide +kernel, by decide +kernel⟩
theorem ok_ds {CD : Addr} (T : DTxt K mg CD) (M : DDefs K CD) (B : Bts mg) : FnOk P w K mg base CX0 1 M.fS M.dS ["self"] (spDS CD) := by
  refine M.FS.ok scDS (fun vs H Q E h => ?_) (fun cdv A outer s H vs Q E hr h => ?_)
  · obtain ⟨x, dx, ra, bss, m, rfl, _⟩ := h
    rfl
  · obtain ⟨x, dx, ra, bss, m, rfl, d, k⟩ := h
    have nd := scDS.nd
    obtain ⟨vs, hv, rv⟩ := d.rows
    refine ⟨_, pss_cons (ps_set (i := 1) nd rfl (.inl rfl) (pe_op op_sub (pe_callB call_len_seq (by rfl) B.len PySem.boot_len (pa_cons (pe_fld (pv 0) rfl) pa_nil)) (pe_fld (pv 0) rfl)))
      (pss_cons (ps_fld (pv 0) (pe_callB call_len_seq (by rfl) B.len PySem.boot_len (pa_cons (pe_fld (pv 0) rfl) pa_nil)) rfl)
      (pss_one (ps_ret (pv 1)))), ?_⟩
    refine ⟨_, rfl, x, CD, dx, _, _, rfl, d.at_, T.cl, T.nR, rfl, ra, _, rfl, .inl (SqL.of hv), _, rfl, x, CD, dx, _, _, rfl, d.at_, T.cl, T.nM, rfl, _, _, rfl, rfl, ?_⟩
    refine ⟨_, rfl, x, CD, dx, _, _, rfl, d.at_, T.cl, T.nR, rfl, ra, _, rfl, .inl (SqL.of hv), _, rfl, x, CD, dx, _, rfl, d.at_, T.cl, T.nM, (by show 2 < 1000; decide), ?_⟩
    rw [rv.1, dF_m]
    have b1 : Bu x H (upd H x (.ins CD dx (dF ra bss.length))) := Bu.rf.at
    have tk : Tk H (upd H x (.ins CD dx (dF ra bss.length))) := fun c ys e => b1 c _ e (ne_of e d.at_ (fun z => by cases z))
    exact ⟨_, rfl, k _ b1 ⟨upd_same, ⟨vs, b1 _ _ hv d.ne.symm, rv.tk tk⟩, Nat.le_refl _, d.few⟩⟩
theorem scDB : FnScope ["self"] ["self"] (defScope sDB) := ⟨rfl, rfl, rfl, by decide +kernel, rfl, by decide +kernel, by decide +kernel⟩
theorem ok_db {CD : Addr} (T : DTxt K mg CD) (M : DDefs K CD) (B : Bts mg) : FnOk P w K mg base CX0 1 M.fB M.dB ["self"] (spDB CD) := by
  refine M.FB.ok scDB (fun vs H Q E h => ?_) (fun cdv A outer s H vs Q E hr h => ?_)
  · obtain ⟨x, dx, ra, bss, m, rfl, _⟩ := h
    rfl
  · obtain ⟨x, dx, ra, bss, m, rfl, d, k⟩ := h
    obtain ⟨vs, hv, rv⟩ := d.rows
    refine ⟨_, pss_one (ps_ret (pe_callTy call_list_of (by rfl) B.list PyProof.Rows.boot_list (pa_cons (pe_fld (pv 0) rfl) pa_nil))), ?_⟩
    refine ⟨_, rfl, x, CD, dx, _, _, rfl, d.at_, T.cl, T.nR, rfl, ra, _, rfl, .inl (SqL.of hv), fun z hz => ?_⟩
    exact k z _ hz (sN hz) ⟨vs, upd_same, rv.tk (.of (sN hz))⟩
theorem scDY : FnScope ["self"] ["self"] (defScope sDY) := ⟨rfl, rfl, rfl, by decide +kernel, rfl, by decide +kernel, by decide +kernel⟩
theorem ok_dy {CD : Addr} (T : DTxt K mg CD) (M : DDefs K CD) : FnOk P w K mg base CX0 1 M.fY M.dY ["self"] (spDY CD) := by
  refine M.FY.ok scDY (fun vs H Q E h => ?_) (fun cdv A outer s H vs Q E hr h => ?_)
  · obtain ⟨x, dx, ra, bss, m, rfl, _⟩ := h
    rfl
  · obtain ⟨x, dx, ra, bss, m, rfl, d, k⟩ := h
    refine ⟨_, pss_one (ps_ret (pe_fld (pv 0) rfl)), ?_⟩
    exact ⟨_, rfl, x, CD, dx, _, _, rfl, d.at_, T.cl, T.nM, rfl, k⟩
theorem scDD : FnScope ["self", "number"] ["self", "number"] (defScope sDD) := ⟨rfl, rfl, rfl, by decide +kernel, rfl, by decide +kernel, by decide +kernel⟩
theorem ok_dd {CD fN fP : Addr} {dN dP : FuncData} (T : DTxt K mg CD) (M : DDefs K CD) (B : Bts mg) (DN : Df K mg "is_number_below" sNum ["limit", "thing"] fN dN) (DP : Df K mg "is_plain_int" sPlain ["thing"] fP dP) : FnOk P w K mg base CX0 3 M.fD M.dD ["self", "number"] (spDD CD) := by
  have GN : FnOk P w K mg base CX0 2 fN dN ["limit", "thing"] (spNum K) := ok_num DN B DP
  refine M.FD.ok scDD (fun vs H Q E h => ?_) (fun cdv A outer s H vs Q E hr h => ?_)
  · obtain ⟨x, dx, ra, bss, m, n, rfl, _⟩ := h
    rfl
  · obtain ⟨x, dx, ra, bss, m, n, rfl, d, le, k⟩ := h
    obtain ⟨vs, hv, rv⟩ := d.rows
    refine ⟨_, pss_cons (ps_if (pt_not (pt_val (pe_call GN hr rfl DN.m DN.k DN.b .nil pass0 (pa_cons (pe_op op_add (pe_callB call_len_seq (by rfl) B.len PySem.boot_len (pa_cons (pe_fld (pv 0) rfl) pa_nil)) pe_int) (pa_cons (pv 1) pa_nil))))) pss_never pss_nil)
      (pss_cons (ps_fld (pv 0) (pe_slice sl_list (pe_fld (pv 0) rfl) po_none (po_some (pv 1))) rfl)
      (pss_one (ps_fld (pv 0) (pe_callB (call_min2 rfl) (by rfl) B.min PyProof.Rows.boot_min (pa_cons (pe_fld (pv 0) rfl) (pa_cons (pv 1) pa_nil))) rfl))), ?_⟩
    refine ⟨_, rfl, x, CD, dx, _, _, rfl, d.at_, T.cl, T.nR, rfl, ra, _, rfl, .inl (SqL.of hv), _, _, rfl, rfl, _, rfl, _, _, rfl, .inl ⟨(n : Int), rfl, _, rfl, ?_⟩⟩
    rw [decide_eq_true (show (0 : Int) ≤ (n : Int) by omega), decide_eq_true (show (n : Int) < ((vs.length : Nat) : Int) + 1 by rw [rv.1]; omega)]
    refine iteF ?_
    refine ⟨_, rfl, x, CD, dx, _, _, rfl, d.at_, T.cl, T.nR, rfl, _, rfl, _, rfl, ra, _, rfl, SqL.of hv, fun rb hrb => ?_⟩
    rw [cut_to]
    have s1 := sN (o := .lst (vs.take n)) hrb
    have nxb : rb ≠ x := (ne_of_none d.at_ hrb).symm
    refine ⟨_, rfl, x, CD, dx, _, rfl, s1 _ _ d.at_, T.cl, T.nR, (by show 2 < 1000; decide), ?_⟩
    rw [dF_r]
    refine ⟨_, rfl, x, CD, dx, _, _, rfl, upd_same, T.cl, T.nM, rfl, _, rfl, _, _, rfl, ?_⟩
    refine ⟨_, rfl, x, CD, dx, _, rfl, upd_same, T.cl, T.nM, (by show 2 < 1000; decide), ?_⟩
    have em : (if (n : Int) < (m : Int) then (n : Int) else (m : Int)) = ((min m n : Nat) : Int) := by
      by_cases c : (n : Int) < (m : Int)
      · rw [if_pos c]
        omega
      · rw [if_neg c]
        omega
    rw [em, dF_m]
    have b1 : Bu x H (upd (upd (upd H rb (.lst (vs.take n))) x (.ins CD dx (dF rb m))) x (.ins CD dx (dF rb (min m n)))) := ((Bu.of s1).at).at
    have tk : Tk H (upd (upd (upd H rb (.lst (vs.take n))) x (.ins CD dx (dF rb m))) x (.ins CD dx (dF rb (min m n)))) := fun c ys e => b1 c _ e (ne_of e d.at_ (fun z => by cases z))
    exact k rb _ hrb b1 ⟨upd_same, ⟨vs.take n, by rw [upd_ne nxb, upd_ne nxb, upd_same], (rv.tk tk).take n⟩, by rw [List.length_take]; have := d.le; omega, by rw [List.length_take]; have := d.few; omega⟩
theorem scDK : FnScope ["self", "other"] ["self"] (defScope sDK) := ⟨rfl, rfl, rfl, by decide +kernel, rfl, by decide +kernel, by decide +kernel⟩
theorem ok_dk {CD : Addr} (T : DTxt K mg CD) (M : DDefs K CD) (B : Bts mg) : FnOk P w K mg base CX0 3 M.fK M.dK ["self"] (spDK CD) := by
  have GI : FnOk P w K mg base CX0 1 M.fI M.dI ["self"] (spDI CD) := ok_di T M
  refine M.FK.ok scDK (fun vs H Q E h => ?_) (fun cdv A outer s H vs Q E hr h => ?_)
  · obtain ⟨x, dx, ra, bss, m, rfl, _⟩ := h
    rfl
  · obtain ⟨x, dx, ra, bss, m, rfl, d, k⟩ := h
    have nd := scDK.nd
    refine ⟨_, pss_cons (ps_set (i := 1) nd rfl (.inl rfl) (pe_make0 M.mM GI hr rfl T.mgC M.bI .nil pass0))
      (pss_cons (ps_fld (pv 1) (pe_callTy call_list_of (by rfl) B.list PyProof.Rows.boot_list (pa_cons (pe_fld (pv 0) rfl) pa_nil)) rfl)
      (pss_cons (ps_fld (pv 1) (pe_fld (pv 0) rfl) rfl)
      (pss_one (ps_ret (pv 1))))), ?_⟩
    obtain ⟨vs, hv, rv⟩ := d.rows
    refine fun y dy ny ndy nyd => ?_
    have s0 : Same H (upd (upd H dy (.own y)) y (.ins CD dy [])) := sNew (sNew sR ndy) ny
    refine ⟨y, dy, rfl, upd_same, fun rb H1 _ _ b1 d1 => ⟨rfl, ?_⟩⟩
    have s1 : Same H H1 := fun b o e => b1 b o (s0 b o e) (ne_of_none e ny)
    have nxy : x ≠ y := ne_of_none d.at_ ny
    refine ⟨_, rfl, x, CD, dx, _, _, rfl, s1 _ _ d.at_, T.cl, T.nR, rfl, ra, _, rfl, .inl (SqL.of (s1 _ _ hv)), fun z hz => ?_⟩
    have s2 := sT s1 (sN (o := .lst vs) hz)
    refine ⟨_, rfl, y, CD, dy, _, rfl, sN hz _ _ d1.at_, T.cl, T.nR, (by show 2 < 1000; decide), ?_⟩
    rw [dF_r]
    have s3 : Same H (upd (upd H1 z (.lst vs)) y (.ins CD dy (dF z 0))) := sNew s2 ny
    refine ⟨_, rfl, x, CD, dx, _, _, rfl, s3 _ _ d.at_, T.cl, T.nM, rfl, _, rfl, y, CD, dy, _, rfl, upd_same, T.cl, T.nM, (by show 2 < 1000; decide), ?_⟩
    rw [dF_m]
    have s4 : Same H (upd (upd (upd H1 z (.lst vs)) y (.ins CD dy (dF z 0))) y (.ins CD dy (dF z m))) := sNew s3 ny
    have nzy : z ≠ y := (ne_of_none d1.at_ hz).symm
    exact ⟨_, rfl, k y dy z _ ny (sNo s1 hz) s4 ⟨upd_same, ⟨vs, by rw [upd_ne nzy, upd_ne nzy, upd_same], rv.tk (.of s4)⟩, d.le, d.few⟩⟩
end
end Q

namespace L2
open PySem PySem.Spec PyProof.Rows
theorem ext_tuple {prog : Program} {w : World} {A : Around} {E : Value → Shared → Prop} {s : Shared} {l b : Addr} {items items2 : Array Value} {n : Nat} {Q : Value → Shared → Prop}
    (e : s.heap.get? l = some { cls := Value.type "list", data := Data.seq items n }) (hb : s.heap.IsTuple b items2) (hsz : items.size + items2.size ≤ sizeLine)
    (h : Q .none { heap := s.heap.update l (Obj.mapSeq fun x => x ++ items2), gens := s.gens, drawn := s.drawn, toks := s.toks, os := s.os }) :
    wpAny (model prog w) A (call (.builtin "list.extend") [.ref l, .ref b]) Q E s := by
  have hl : s.heap.IsList l items := IsL.isList e
  obtain ⟨ob, ho, hc, m, hd⟩ := id hb
  refine wpAny_call_entry F.slot_list_extend hl.typeIs F.entry_list_extend ?_ (F.args_list_extend_2 _ _)
  unfold Builtin.«list.extend»
  refine wpAny_bind (wpAny_pure (a := (Value.ref l, Value.ref b)) ?_)
  unfold Builtin.List.listExtendWith
  have hTs : s.TypeIs (.ref b) "tuple" := ⟨ob, ho, hc⟩
  refine wpAny_bind (wpAny_typeOf hTs ?_)
  have e1 : ((Builtin.List.listSameRef (Value.ref l) (Value.ref b) || Value.type "tuple" == Value.type "list" || Value.type "tuple" == Value.type "tuple") = true) = True := by simp
  simp only [e1, if_true]
  unfold Builtin.List.listItems
  refine wpAny_bind (wpAny_bind (wpAny_seqItems ho hd (wpAny_pure ?_)))
  refine wpAny_bind (wpAny_bind (wpAny_seqItems e rfl (wpAny_pure ?_)))
  have e2 : ((!items.isEmpty && Builtin.List.listTooLong (items.size + items2.size)) = true) = False := by
    rw [notLongL hsz, Bool.and_false]
    simp
  simp only [e2, if_false]
  unfold Builtin.List.listUpdate
  refine wpAny_bind (wpAny_updateSeq e rfl ?_ (by omega) (by simp; omega))
  exact wpAny_pure ⟨.none, rfl, h⟩
/-- xs.extend(t) -/
theorem mt_extT {X : Cx} : MtM X "list.extend" (fun x vs H Q => ∃ (l b : Addr) (xs zs : List V), x = .ref l ∧ vs = [.ref b] ∧ H l = some (.lst xs) ∧ H b = some (.tup zs) ∧ xs.length + zs.length ≤ sizeLine ∧ Q .non (upd H l (.lst (xs ++ zs)))) := by
  intro pins s σ H x vs v us Q I rx rv h
  obtain ⟨l, b, xs, zs, rfl, rfl, hH, hB, hz, q⟩ := h
  cases rx
  cases rv with
  | cons ru r0 =>
    cases r0
    cases ru
    obtain ⟨z, its, n, r, hl, e⟩ := Inv.lstM I hH
    obtain ⟨z2, its2, r2, ob, ho, hc, m, hd⟩ := I.hok b _ hB
    have hl2 := r2.length
    refine ext_tuple e ⟨ob, ho, hc, m, hd⟩ (by rw [List.size_toArray, List.size_toArray]; omega) ?_
    exact ⟨.non, _, I.lset hH e (its' := its ++ its2) (by simp) (r.append r2) (by rw [List.length_append]; omega), rfl, q⟩
end L2
namespace Q
open PySem L2 QR
abbrev sKP : Stmt := top 39
abbrev sLKt : Stmt := top 57
abbrev sLBk : Stmt := top 58
abbrev sPR : Stmt := top 60
theorem str_ok {z : List Nat} (h : ∀ c ∈ z, isSg (c : Int) = true) : PyData.canLay0 (.str (sOf z)) = true := by
  simp only [PyData.canLay0, PyData.strOk]
  show z.toArray.all _ = true
  rw [Array.all_eq_true_iff_forall_mem]
  intro c hc
  have := (sg_b (h c (by simpa using hc))).2.1
  exact decide_eq_true (by omega)
theorem rep_dp {K : PySem.W.Frag} {H : Hp} : ∀ {d : Nat} {t : QR.T} {v : V}, Rep H d t v → OkT d t → ∃ e, Dp K H v e ∧ PyData.canLay0 e = true ∧ e.depth ≤ d := by
  have key : ∀ d, (∀ d', d = d' + 1 → ∀ t v, Rep H d' t v → OkT d' t → ∃ e, Dp K H v e ∧ PyData.canLay0 e = true ∧ e.depth ≤ d') → ∀ t v, Rep H d t v → OkT d t → ∃ e, Dp K H v e ∧ PyData.canLay0 e = true ∧ e.depth ≤ d := by
    intro d IH t v r o
    rcases r.cases with ⟨rfl, rfl⟩ | ⟨b, rfl, rfl⟩ | ⟨i, rfl, rfl⟩ | ⟨z, rfl, rfl, _⟩ | ⟨d1, l, a, xs, e1, rfl, rfl, ha, hl, _, hk⟩
    · exact ⟨_, .non, by simp [PyData.canLay0], by simp [PyData.depth]⟩
    · exact ⟨_, .bl b, by simp [PyData.canLay0], by simp [PyData.depth]⟩
    · exact ⟨_, .int i, by simp [PyData.canLay0], by simp [PyData.depth]⟩
    · exact ⟨_, .str _, str_ok (okT_atom o).2.2, by simp [PyData.depth]⟩
    · subst e1
      have okl : ∀ t ∈ l, OkT d1 t := o
      have main : ∀ (xs : List V) (ls : List QR.T), xs.length = ls.length → (∀ (i : Nat) (x : V) (t : QR.T), xs[i]? = some x → ls[i]? = some t → Rep H d1 t x) → (∀ t ∈ ls, OkT d1 t) → ∃ es, DpAll K H xs es ∧ PyData.canLayAll0 es = true ∧ PyData.depthAll es ≤ d1 := by
        intro xs
        induction xs with
        | nil => exact fun ls _ _ _ => ⟨[], .nil, by simp [PyData.canLayAll0], by simp [PyData.depthAll]⟩
        | cons x xs ih =>
          intro ls hl hk ho
          cases ls with
          | nil => simp at hl
          | cons t ls =>
            obtain ⟨e, h1, h2, h3⟩ := IH d1 rfl t x (hk 0 x t rfl rfl) (ho t List.mem_cons_self)
            obtain ⟨es, g1, g2, g3⟩ := ih ls (by simpa using hl) (fun i x t hx ht => hk (i + 1) x t hx ht) fun t ht => ho t (List.mem_cons_of_mem _ ht)
            exact ⟨e :: es, .cons h1 g1, by simp [PyData.canLayAll0, h2, g2], by simp only [PyData.depthAll]; omega⟩
      obtain ⟨es, g1, g2, g3⟩ := main xs l hl hk okl
      exact ⟨.tuple es, .tup (SqT.of ha) g1, by simp [PyData.canLay0, g2], by simp only [PyData.depth]; omega⟩
  intro d
  induction d with
  | zero =>
    intro t v
    exact key 0 (fun d' e => by omega) t v
  | succ d ih =>
    intro t v
    refine key (d + 1) (fun d' e t v => ?_) t v
    obtain rfl : d' = d := by omega
    exact ih
/-- told == () -/
def rNil : R2 := fun x y H Q => ∃ (a b : Addr), x = .ref a ∧ y = .ref b ∧ H b = some (.tup []) ∧ ((H a = some (.tup []) ∧ Q (.bl true) H) ∨ ∃ (d : Nat) (t : QR.T) (v : V), H a = some (.tup [v]) ∧ Rep H d t v ∧ OkT d t ∧ d ≤ 40 ∧ Q (.bl false) H)
theorem op_eqN {X : Cx} (hu : X.A.units + 64 < cLine) : OpR X (compareOp .Eq) rNil := by
  intro pins s σ H x y v u Q I rx ry h
  obtain ⟨a, b, rfl, rfl, hb, ⟨ha, k⟩ | ⟨d, t, v, ha, rep, ok, le, k⟩⟩ := h
  · refine op_eqD hu pins s σ H _ _ _ u Q I rx ry ⟨.tuple [], .tuple [], .tup (SqT.of ha) .nil, .tup (SqT.of hb) .nil, by decide +kernel, by decide +kernel, ?_⟩
    rw [show PyData.eqv (.tuple []) (.tuple []) = true by decide +kernel]
    exact k
  · obtain ⟨e, h1, h2, h3⟩ := rep_dp (K := X.K) rep ok
    refine op_eqD hu pins s σ H _ _ _ u Q I rx ry ⟨.tuple [e], .tuple [], .tup (SqT.of ha) (.cons h1 .nil), .tup (SqT.of hb) .nil, ?_, by decide +kernel, ?_⟩
    · unfold SeqAt.shaped
      refine Bool.and_eq_true_iff.mpr ⟨?_, decide_eq_true ?_⟩
      · simp [PyData.canLay0, PyData.canLayAll0, h2]
      · simp only [PyData.depth, PyData.depthAll]
        omega
    · rw [show PyData.eqv (.tuple [e]) (.tuple []) = false by simp [PyData.eqv, PyData.eqvAll]]
      exact k
end Q

/-! zip of a list with a tuple -/
namespace L2
open PySem PySem.Spec PyProof.Rows
theorem zipM_next_item {prog : Program} {w : World} {A : Around} {E : Value → Shared → Prop} {s : Shared} {z TI TO i1 i2 l1 l2 : Addr} {k1 k2 : Nat} {xs ys : Array Value} {x y a b : Value} {Q : Value → Shared → Prop}
  (D : ZipApart z TI TO i1 i2 l1 l2) (hz : IsZip s.heap z TI TO Value.none) (hTI : IsPair s.heap TI (.ref i1) (.ref i2)) (hTO : IsPair s.heap TO a b) (h1 : s.heap.IsListIter i1 l1 k1) (h2 : s.heap.IsTupleIter i2 l2 k2)
  (hl1 : s.heap.IsList l1 xs) (hl2 : s.heap.IsTuple l2 ys) (hx : xs[k1]? = some x) (hy : ys[k2]? = some y)
  (hq : ∀ h' : Heap, IsZip h' z TI TO (rawInt s.heap.objs.size) → IsPair h' TO x y → h'.IsListIter i1 l1 (k1 + 1) → h'.IsTupleIter i2 l2 (k2 + 1) → IsPair h' s.heap.objs.size x y → h'.objs.size = s.heap.objs.size + 1 →
    (∀ (c : Addr) (o : Obj), c ≠ z → c ≠ TO → c ≠ i1 → c ≠ i2 → s.heap.get? c = some o → h'.get? c = some o) → Q (.ref s.heap.objs.size) { heap := h', gens := s.gens, drawn := s.drawn, toks := s.toks, os := s.os }) :
  wpAny (model prog w) A (Builtin.«zip.__next__» { pos := [.ref z] }) (fun fin s' => ∃ v, fin = Fin.done (Flow.ret v) ∧ Q v s') E s := by
  have u1 : ∀ (b : Addr) (o : Obj), b ≠ z → s.heap.get? b = some o → (s.heap.update z (Obj.mapFields fun x => x.setIfInBounds 0 Value.ellipsis)).get? b = some o := fun b o ne e => Heap.get?_update_of_ne _ ne.symm e
  have g1 := h1.at (fun o e => u1 i1 o D.i1z e)
  have gl1 : (s.heap.update z (Obj.mapFields fun x => x.setIfInBounds 0 Value.ellipsis)).IsList l1 xs := hl1.imp fun o h => ⟨u1 _ _ D.l1z h.1, h.2⟩
  unfold Builtin.«zip.__next__»
  wp_walk using wpAny_field hz rfl rfl, wpAny_seqItems hTI rfl, wpAny_nextOf_list_item g1 gl1 hx, wpAny_onRaise
  intro h3 g3 sb3
  have k3 : ∀ (b : Addr) (o : Obj), b ≠ z → b ≠ i1 → s.heap.get? b = some o → h3.get? b = some o := fun b o n1 n2 e => (sb3.2 b n2).trans (u1 b o n1 e)
  have hTO3 : IsPair h3 TO a b := k3 TO _ D.TOz D.TOi1 hTO
  have u4 : ∀ (b : Addr) (o : Obj), b ≠ TO → h3.get? b = some o → (h3.update TO (Obj.mapSeq fun x_1 => x_1.setIfInBounds 0 x)).get? b = some o := fun b o ne e => Heap.get?_update_of_ne _ ne.symm e
  have g4 := h2.at (h' := h3.update TO (Obj.mapSeq fun x_1 => x_1.setIfInBounds 0 x)) (fun o e => u4 i2 o D.TOi2.symm (k3 i2 o D.i2z D.i12.symm e))
  have gl4 : (h3.update TO (Obj.mapSeq fun x_1 => x_1.setIfInBounds 0 x)).IsTuple l2 ys := hl2.imp fun o h => ⟨u4 _ _ D.l2TO (k3 _ _ D.l2z D.l2i1 h.1), h.2⟩
  wp_walk using wpAny_seqItems hTO3 rfl, RZ.nextOf_tuple_item g4 gl4 hy, wpAny_onRaise, wpAny_letGo
  intro h5 g5 sb5
  have hTO4 : IsPair (h3.update TO (Obj.mapSeq fun x_1 => x_1.setIfInBounds 0 x)) TO x b := (Heap.get?_update_self _ hTO3 rfl).trans (by rfl)
  have hTO5 : IsPair h5 TO x b := (sb5.2 TO D.TOi2).trans hTO4
  have hTO6 : IsPair (h5.update TO (Obj.mapSeq fun x_1 => x_1.setIfInBounds (0 + 1) y)) TO x y := (Heap.get?_update_self _ hTO5 rfl).trans (by rfl)
  have hz1 : (s.heap.update z (Obj.mapFields fun x => x.setIfInBounds 0 Value.ellipsis)).get? z = some { cls := Value.type "zip", data := Data.fields #[Value.ellipsis, Value.bool false, Value.bool false, Value.ref TI, Value.ref TO] } := (Heap.get?_update_self _ hz rfl).trans (by rfl)
  have hz3 := (sb3.2 z D.i1z.symm).trans hz1
  have hz4 := Heap.get?_update_of_ne (Obj.mapSeq fun x_1 => x_1.setIfInBounds 0 x) D.TOz hz3
  have hz5 := (sb5.2 z D.i2z.symm).trans hz4
  have hz6 := Heap.get?_update_of_ne (Obj.mapSeq fun x_1 => x_1.setIfInBounds (0 + 1) y) D.TOz hz5
  wp_walk using wpAny_seqItems hTO5 rfl, wpAny_seqItems hTO6 rfl, wpAny_letGo
  have sz : (h5.update TO (Obj.mapSeq fun x_1 => x_1.setIfInBounds (0 + 1) y)).objs.size = s.heap.objs.size := by
    rw [Heap.size_update, sb5.1]
    show (h3.update TO _).objs.size = _
    rw [Heap.size_update, sb3.1]
    show (s.heap.update z _).objs.size = _
    rw [Heap.size_update]
  have nz : (h5.update TO (Obj.mapSeq fun x_1 => x_1.setIfInBounds (0 + 1) y)).objs.size ≠ z := (Nat.ne_of_lt (Heap.lt_size hz6)).symm
  refine ⟨_, rfl, ?_⟩
  have c6 : ∀ (b : Addr) (o : Obj), b ≠ z → (h5.update TO (Obj.mapSeq fun x_1 => x_1.setIfInBounds (0 + 1) y)).get? b = some o → ((((h5.update TO (Obj.mapSeq fun x => x.setIfInBounds (0 + 1) y)).push { cls := Value.type "tuple", data := Data.seq #[x, y].toList.toArray }).update z (Obj.mapFields fun x => x.setIfInBounds 0 (rawInt ↑(h5.update TO (Obj.mapSeq fun x => x.setIfInBounds (0 + 1) y)).objs.size))).update z (Obj.mapFields fun x => x.setIfInBounds 1 (Value.bool false))).get? b = some o := fun b o n e => Heap.get?_update_of_ne _ n.symm (Heap.get?_update_of_ne _ n.symm (Heap.get?_push_of_some _ e))
  have c5 : ∀ (b : Addr) (o : Obj), b ≠ z → b ≠ TO → h5.get? b = some o → _ := fun b o n m e => c6 b o n (Heap.get?_update_of_ne _ m.symm e)
  have c3 : ∀ (b : Addr) (o : Obj), b ≠ z → b ≠ TO → b ≠ i2 → h3.get? b = some o → _ := fun b o n m q e => c5 b o n m ((sb5.2 b q).trans (u4 b o m e))
  have hz7 := Heap.get?_push_of_some { cls := Value.type "tuple", data := Data.seq #[x, y].toList.toArray } hz6
  have hz8 := (Heap.get?_update_self (Obj.mapFields fun x => x.setIfInBounds 0 (rawInt ↑(h5.update TO (Obj.mapSeq fun x => x.setIfInBounds (0 + 1) y)).objs.size)) hz7 rfl)
  have hz9 := (Heap.get?_update_self (Obj.mapFields fun x => x.setIfInBounds 1 (Value.bool false)) hz8 rfl)
  have pT : ((h5.update TO (Obj.mapSeq fun x => x.setIfInBounds (0 + 1) y)).push { cls := Value.type "tuple", data := Data.seq #[x, y].toList.toArray }).get? (h5.update TO (Obj.mapSeq fun x => x.setIfInBounds (0 + 1) y)).objs.size = some { cls := Value.type "tuple", data := Data.seq #[x, y].toList.toArray } := Heap.get?_push_size _ rfl
  have p9 := Heap.get?_update_of_ne (Obj.mapFields fun x => x.setIfInBounds 1 (Value.bool false)) nz.symm (Heap.get?_update_of_ne (Obj.mapFields fun x => x.setIfInBounds 0 (rawInt ↑(h5.update TO (Obj.mapSeq fun x => x.setIfInBounds (0 + 1) y)).objs.size)) nz.symm pT)
  have s9 : ((((h5.update TO (Obj.mapSeq fun x => x.setIfInBounds (0 + 1) y)).push { cls := Value.type "tuple", data := Data.seq #[x, y].toList.toArray }).update z (Obj.mapFields fun x => x.setIfInBounds 0 (rawInt ↑(h5.update TO (Obj.mapSeq fun x => x.setIfInBounds (0 + 1) y)).objs.size))).update z (Obj.mapFields fun x => x.setIfInBounds 1 (Value.bool false))).objs.size = s.heap.objs.size + 1 := by
    rw [Heap.size_update, Heap.size_update, Heap.size_push, sz]
  revert c6 c5 c3 hz9 p9 s9
  generalize ((((h5.update TO (Obj.mapSeq fun x => x.setIfInBounds (0 + 1) y)).push { cls := Value.type "tuple", data := Data.seq #[x, y].toList.toArray }).update z (Obj.mapFields fun x => x.setIfInBounds 0 (rawInt ↑(h5.update TO (Obj.mapSeq fun x => x.setIfInBounds (0 + 1) y)).objs.size))).update z (Obj.mapFields fun x => x.setIfInBounds 1 (Value.bool false))) = h9
  intro c6 c5 c3 hz9 p9 s9
  rw [sz] at hz9 p9 ⊢
  exact hq h9 (hz9.trans (by rfl)) (c6 TO _ D.TOz hTO6) (g3.at fun o e => c3 i1 o D.i1z D.TOi1.symm D.i12 e) (g5.at fun o e => c5 i2 o D.i2z D.TOi2.symm e) (p9.trans (by rfl)) s9 fun c o n1 n2 n3 n4 e => c3 c o n1 n2 n4 (k3 c o n1 n3 e)
theorem zipM_next_end {prog : Program} {w : World} {A : Around} {E : Value → Shared → Prop} {s : Shared} {z TI TO i1 i2 l1 l2 : Addr} {k1 : Nat} {xs : Array Value} {a b : Value} {Q : PySem.Fin → Shared → Prop}
  (hh : A.handled = none) (D : ZipApart z TI TO i1 i2 l1 l2) (hz : IsZip s.heap z TI TO Value.none) (hTI : IsPair s.heap TI (.ref i1) (.ref i2)) (hTO : IsPair s.heap TO a b) (h1 : s.heap.IsListIter i1 l1 k1)
  (hl1 : s.heap.IsList l1 xs) (hx : xs[k1]? = none)
  (hq : ∀ (h' : Heap) (e : Addr), (∀ (c : Addr) (o : Obj), c ≠ z → c ≠ i1 → s.heap.get? c = some o → h'.get? c = some o) → (∃ o, h'.get? e = some o ∧ o.cls = Value.type "StopIteration") → E (.ref e) { heap := h', gens := s.gens, drawn := s.drawn, toks := s.toks, os := s.os }) :
  wpAny (model prog w) A (Builtin.«zip.__next__» { pos := [.ref z] }) Q E s := by
  have u1 : ∀ (b : Addr) (o : Obj), b ≠ z → s.heap.get? b = some o → (s.heap.update z (Obj.mapFields fun x => x.setIfInBounds 0 Value.ellipsis)).get? b = some o := fun b o ne e => Heap.get?_update_of_ne _ ne.symm e
  have g1 := h1.at (fun o e => u1 i1 o D.i1z e)
  have gl1 : (s.heap.update z (Obj.mapFields fun x => x.setIfInBounds 0 Value.ellipsis)).IsList l1 xs := hl1.imp fun o h => ⟨u1 _ _ D.l1z h.1, h.2⟩
  have hz1 : (s.heap.update z (Obj.mapFields fun x => x.setIfInBounds 0 Value.ellipsis)).get? z = some { cls := Value.type "zip", data := Data.fields #[Value.ellipsis, Value.bool false, Value.bool false, Value.ref TI, Value.ref TO] } := (Heap.get?_update_self _ hz rfl).trans (by rfl)
  unfold Builtin.«zip.__next__»
  wp_walk using wpAny_field hz rfl rfl, wpAny_seqItems hTI rfl, wpAny_nextOf_list_end hh g1 gl1 hx, wpAny_onRaise
  intro h3 e3 xb3 he3
  have hz3 := xb3 z _ D.i1z.symm hz1
  refine wpAny_setField_rec hz3 (by show 0 < 5; decide) fun h4 hz4 sb4 => ?_
  obtain ⟨o, ho, hc⟩ := he3
  have ne : e3 ≠ z := fun q => by
    rw [q, hz3] at ho
    cases ho
    exact absurd (show Value.type "zip" = Value.type "StopIteration" from hc) (by decide)
  exact hq h4 e3 (fun c o n1 n2 e => (sb4.2 c n1).trans (xb3 c o n2 (u1 c o n1 e))) ⟨o, (sb4.2 e3 ne).trans ho, hc⟩
theorem pyNext_zipM_item {prog : Program} {w : World} {A : Around} {E : Value → Shared → Prop} {s : Shared} {z TI TO i1 i2 l1 l2 : Addr} {k1 k2 : Nat} {xs ys : Array Value} {x y a b : Value} {Q : Option Value → Shared → Prop}
  (D : ZipApart z TI TO i1 i2 l1 l2) (hz : IsZip s.heap z TI TO Value.none) (hTI : IsPair s.heap TI (.ref i1) (.ref i2)) (hTO : IsPair s.heap TO a b) (h1 : s.heap.IsListIter i1 l1 k1) (h2 : s.heap.IsTupleIter i2 l2 k2)
  (hl1 : s.heap.IsList l1 xs) (hl2 : s.heap.IsTuple l2 ys) (hx : xs[k1]? = some x) (hy : ys[k2]? = some y)
  (hq : ∀ h' : Heap, IsZip h' z TI TO (rawInt s.heap.objs.size) → IsPair h' TO x y → h'.IsListIter i1 l1 (k1 + 1) → h'.IsTupleIter i2 l2 (k2 + 1) → IsPair h' s.heap.objs.size x y → h'.objs.size = s.heap.objs.size + 1 →
    (∀ (c : Addr) (o : Obj), c ≠ z → c ≠ TO → c ≠ i1 → c ≠ i2 → s.heap.get? c = some o → h'.get? c = some o) → Q (some (.ref s.heap.objs.size)) { heap := h', gens := s.gens, drawn := s.drawn, toks := s.toks, os := s.os }) :
  wpAny (model prog w) A (pyNext (.ref z)) Q E s := by
  have hT : s.TypeIs (.ref z) "zip" := ⟨_, hz, rfl⟩
  exact wpAny_bind (wpAny_attempt (wpAny_callSpecial?_slot hT F.slot_zip_next (wpAny_call_entry F.slot_zip_next hT F.entry_zip_next (zipM_next_item D hz hTI hTO h1 h2 hl1 hl2 hx hy fun h' a1 a2 a3 a4 a5 a6 a7 => wpAny_pure (hq h' a1 a2 a3 a4 a5 a6 a7)) (F.args_zip_next_1 _))))
theorem pyNext_zipM_end {prog : Program} {w : World} {A : Around} {E : Value → Shared → Prop} {s : Shared} {z TI TO i1 i2 l1 l2 : Addr} {k1 : Nat} {xs : Array Value} {a b : Value} {Q : Option Value → Shared → Prop}
  (hh : A.handled = none) (D : ZipApart z TI TO i1 i2 l1 l2) (hz : IsZip s.heap z TI TO Value.none) (hTI : IsPair s.heap TI (.ref i1) (.ref i2)) (hTO : IsPair s.heap TO a b) (h1 : s.heap.IsListIter i1 l1 k1)
  (hl1 : s.heap.IsList l1 xs) (hx : xs[k1]? = none)
  (hq : ∀ (h' : Heap), (∀ (c : Addr) (o : Obj), c ≠ z → c ≠ i1 → s.heap.get? c = some o → h'.get? c = some o) → Q none { heap := h', gens := s.gens, drawn := s.drawn, toks := s.toks, os := s.os }) :
  wpAny (model prog w) A (pyNext (.ref z)) Q E s := by
  have hT : s.TypeIs (.ref z) "zip" := ⟨_, hz, rfl⟩
  exact wpAny_bind (wpAny_attempt (wpAny_callSpecial?_slot hT F.slot_zip_next (wpAny_call_entry F.slot_zip_next hT F.entry_zip_next (zipM_next_end hh D hz hTI hTO h1 hl1 hx fun h' e hk ⟨o, ho, hc⟩ => wpAny_bind (wpAny_isInstance ⟨o, ho, hc⟩ isSubtype_stop (wpAny_pure (hq h' hk)))) (F.args_zip_next_1 _))))
def ItzM (K : PySem.W.Frag) (a b : Addr) : It where
  go := fun i H => ∃ xs ys x y, SqL K H a xs ∧ SqT K H b ys ∧ xs[i]? = some x ∧ ys[i]? = some y
  yld := fun i H v H' => ∃ T x y, v = V.ref T ∧ H T = none ∧ H' = upd H T (HO.tup [x, y]) ∧ (∀ xs, SqL K H a xs → xs[i]? = some x) ∧ ∀ ys, SqT K H b ys → ys[i]? = some y
  stop := fun i H => ∃ xs, SqL K H a xs ∧ xs.length ≤ i
theorem turn_zipM {P : Program} {w : World} {K : PySem.W.Frag} {elts : List Expr} {kk : Nat} {tpos : Pos} {a b z TI TO i1 i2 : Addr} (D : ZipApart z TI TO i1 i2 a b) :
    Turn P w K (.Tuple elts kk tpos) (ItzM K a b) [z, TI, TO, i1, i2] z fun i h => IsZip h z TI TO Value.none ∧ IsPair h TI (.ref i1) (.ref i2) ∧ (∃ x y, IsPair h TO x y) ∧ h.IsListIter i1 a i ∧ h.IsTupleIter i2 b i where
  mem := by simp
  obj := by
    rintro i h ⟨hz, hTI, ⟨x, y, hTO⟩, ⟨o1, e1, _, d1⟩, ⟨o2, e2, _, d2⟩⟩ c hc
    simp only [List.mem_cons, List.not_mem_nil, or_false] at hc
    rcases hc with rfl | rfl | rfl | rfl | rfl
    · exact ⟨_, hz, fun v q => nomatch q⟩
    · exact ⟨_, hTI, fun v q => nomatch q⟩
    · exact ⟨_, hTO, fun v q => nomatch q⟩
    · exact ⟨o1, e1, fun v q => by rw [d1] at q; cases q⟩
    · exact ⟨o2, e2, fun v q => by rw [d2] at q; cases q⟩
  keep := by
    rintro i h h' ⟨hz, hTI, ⟨x, y, hTO⟩, h1, h2⟩ k
    exact ⟨k z (by simp) _ hz, k TI (by simp) _ hTI, ⟨x, y, k TO (by simp) _ hTO⟩, h1.at (k i1 (by simp)), h2.at (k i2 (by simp))⟩
  item := by
    intro X hP hw hK hc i pins s σ H E I hf st hg
    subst hP
    subst hw
    subst hK
    obtain ⟨hz, hTI, ⟨x0, y0, hTO⟩, h1, h2⟩ := st
    obtain ⟨xs, ys, x, y, hqx, hqy, hx, hy⟩ := hg
    obtain ⟨its, rv, p, _⟩ := I.list hqx
    obtain ⟨its2, rv2, p2, _⟩ := I.tuple hqy
    obtain ⟨u, hu, ru⟩ := rv.get hx
    obtain ⟨u2, hu2, ru2⟩ := rv2.get hy
    have hzl := Heap.lt_size hz
    refine pyNext_zipM_item D hz hTI hTO h1 h2 (PlainL.isList p) p2 (by rw [List.getElem?_toArray]; exact hu) (by rw [List.getElem?_toArray]; exact hu2) fun h' z' TO' h1' h2' hT hsz hk => ?_
    refine ⟨.ref s.heap.objs.size, rfl, wpAny_letOwnedTupleGo_zip z' fun h'' z'' sb => ?_⟩
    have hT2 := (sb.2 s.heap.objs.size (Nat.ne_of_gt hzl)).trans hT
    have I1 := I.turnedNew (h' := h'') (t' := s.toks) (ch := [z, TI, TO, i1, i2]) (T := s.heap.objs.size) (ob := .tup [x, y])
      (fun c o hb q => (sb.2 c (fun e => hb (by simp [e]))).trans (hk c o (fun e => hb (by simp [e])) (fun e => hb (by simp [e])) (fun e => hb (by simp [e])) (fun e => hb (by simp [e])) q)) hf (Nat.le_refl _)
      ⟨(by show 2 ≤ sizeLine; decide), [u, u2], .cons ru (.cons ru2 .nil), _, hT2, rfl, 0, rfl⟩
    refine ⟨.ref s.heap.objs.size, _, I1, rfl, ⟨s.heap.objs.size, x, y, rfl, I.hok.fresh (Nat.le_refl _), rfl, fun l hl => by rw [I.list_inj hl hqx]; exact hx, fun l hl => by rw [I.tuple_inj hl hqy]; exact hy⟩,
      ⟨z'', (sb.2 TI D.TIz).trans (hk TI _ D.TIz D.TITO D.TIi1 D.TIi2 hTI), ⟨u, u2, (sb.2 TO D.TOz).trans TO'⟩, h1'.at (fun o q => (sb.2 i1 D.i1z).trans q), h2'.at (fun o q => (sb.2 i2 D.i2z).trans q)⟩, fun c hcm => ?_⟩
    have hlt : c < s.heap.objs.size := by
      obtain ⟨o1, e1, _⟩ := h1
      obtain ⟨o2, e2, _⟩ := h2
      simp only [List.mem_cons, List.not_mem_nil, or_false] at hcm
      rcases hcm with rfl | rfl | rfl | rfl | rfl
      · exact hzl
      · exact Heap.lt_size hTI
      · exact Heap.lt_size hTO
      · exact Heap.lt_size e1
      · exact Heap.lt_size e2
    rw [upd_ne (Nat.ne_of_lt hlt)]
    exact (hf c hcm).1
  done := by
    intro X hP hw hK hc i pins s σ H E I hf st hg
    subst hP
    subst hw
    subst hK
    obtain ⟨hz, hTI, ⟨x0, y0, hTO⟩, h1, h2⟩ := st
    obtain ⟨xs, hqx, hend⟩ := hg
    obtain ⟨its, rv, p, _⟩ := I.list hqx
    have l1 := rv.length
    refine pyNext_zipM_end (I.ok.hd hc) D hz hTI hTO h1 (PlainL.isList p) (by rw [List.getElem?_toArray]; exact List.getElem?_eq_none (by omega)) fun h' hk => ⟨rfl, I.turnedL (t' := s.toks) (ch := [z, TI, TO, i1, i2]) (fun c o hb q => hk c o (fun e => hb (by simp [e])) (fun e => hb (by simp [e])) q) hf⟩
  self := fun A i s Q E st h => wpAny_pyIter_zip st.1 h
end L2

/-! for x, y in zip(list, tuple) -/
namespace L2
open PySem PySem.Spec PyProof.Rows
abbrev zM1 (h : Heap) (l1 : Addr) : Heap := h.push { cls := Value.type "list_iterator", data := Data.fields #[Value.ref l1, Value.int 0 0] }
abbrev zM2 (h : Heap) (l1 l2 : Addr) : Heap := (zM1 h l1).push { cls := Value.type "tuple_iterator", data := Data.fields #[Value.ref l2, Value.int 0 0] }
abbrev zM3 (h : Heap) (l1 l2 : Addr) : Heap := (zM2 h l1 l2).push { cls := Value.type "tuple", data := Data.seq #[Value.ref h.objs.size, Value.ref (zM1 h l1).objs.size] }
abbrev zM4 (h : Heap) (l1 l2 : Addr) : Heap := (zM3 h l1 l2).push { cls := Value.type "tuple", data := Data.seq #[Value.none, Value.none] }
abbrev zM5 (h : Heap) (l1 l2 : Addr) : Heap := (zM4 h l1 l2).push { cls := Value.type "zip", data := Data.fields #[Value.none, Value.bool false, Value.bool false, Value.ref (zM2 h l1 l2).objs.size, Value.ref (zM3 h l1 l2).objs.size] }
theorem meets_zipM_new (l1 l2 : Addr) (xs ys : Array Value) : Meets (Builtin.«zip.__new__» { pos := [.type "zip", .ref l1, .ref l2] }) fun x R s =>
    s.heap.IsList l1 xs ∧ s.heap.IsTuple l2 ys ∧ R (.ok (.ret (.ref (zM4 s.heap l1 l2).objs.size))) { heap := zM5 s.heap l1 l2, gens := s.gens, drawn := s.drawn, toks := s.toks, os := s.os } := .of_wp fun prog w A R s h => by
  obtain ⟨hp, g, d, tk, os⟩ := s
  obtain ⟨hl1, hl2, h⟩ := h
  have hsub := sub_zip
  have hL1 := hl1
  have hL2 := Heap.IsTuple.push hl2 { cls := Value.type "list_iterator", data := Data.fields #[Value.ref l1, Value.int 0 0] }
  unfold Builtin.«zip.__new__»
  wp_walk using wpAny_pyIter_list hL1, wpAny_pyIter_tuple hL2
  exact ⟨_, rfl, h⟩
theorem call_zipM {prog : Program} {w : World} {A : Around} {E : Value → Shared → Prop} {s : Shared} {l1 l2 : Addr} {xs ys : Array Value} {Q : Value → Shared → Prop} (hl1 : s.heap.IsList l1 xs) (hl2 : s.heap.IsTuple l2 ys)
    (h : ∀ h' : Heap, IsZip h' (s.heap.objs.size + 4) (s.heap.objs.size + 2) (s.heap.objs.size + 3) Value.none → IsPair h' (s.heap.objs.size + 2) (.ref s.heap.objs.size) (.ref (s.heap.objs.size + 1)) → IsPair h' (s.heap.objs.size + 3) Value.none Value.none →
      h'.IsListIter s.heap.objs.size l1 0 → h'.IsTupleIter (s.heap.objs.size + 1) l2 0 → (∀ (c : Addr) (o : Obj), s.heap.get? c = some o → h'.get? c = some o) → Q (.ref (s.heap.objs.size + 4)) { heap := h', gens := s.gens, drawn := s.drawn, toks := s.toks, os := s.os }) :
    wpAny (model prog w) A (call (.type "zip") [.ref l1, .ref l2]) Q E s := by
  refine callType_new F.called_zip (by decide) (F.typeCall_zip_2 _ _) (F.newCall_zip_2 _ _) (fun obj => F.args_object_init_3 obj _ _) F.entry_zip_new (meets_zipM_new l1 l2 xs ys) ⟨hl1, hl2, ?_⟩
  have z1 : (zM1 s.heap l1).objs.size = s.heap.objs.size + 1 := Heap.size_push _ _
  have z2 : (zM2 s.heap l1 l2).objs.size = s.heap.objs.size + 2 := by
    show ((zM1 s.heap l1).push _).objs.size = _
    rw [Heap.size_push, z1]
  have z3 : (zM3 s.heap l1 l2).objs.size = s.heap.objs.size + 3 := by
    show ((zM2 s.heap l1 l2).push _).objs.size = _
    rw [Heap.size_push, z2]
  have z4 : (zM4 s.heap l1 l2).objs.size = s.heap.objs.size + 4 := by
    show ((zM3 s.heap l1 l2).push _).objs.size = _
    rw [Heap.size_push, z3]
  have g5 : (zM5 s.heap l1 l2).get? (zM4 s.heap l1 l2).objs.size = some { cls := Value.type "zip", data := Data.fields #[Value.none, Value.bool false, Value.bool false, Value.ref (zM2 s.heap l1 l2).objs.size, Value.ref (zM3 s.heap l1 l2).objs.size] } := Heap.get?_push_size (zM4 s.heap l1 l2) rfl
  have g4 : (zM5 s.heap l1 l2).get? (zM3 s.heap l1 l2).objs.size = some { cls := Value.type "tuple", data := Data.seq #[Value.none, Value.none] } := Heap.get?_push_of_some _ (Heap.get?_push_size (zM3 s.heap l1 l2) rfl)
  have g3 : (zM5 s.heap l1 l2).get? (zM2 s.heap l1 l2).objs.size = some { cls := Value.type "tuple", data := Data.seq #[Value.ref s.heap.objs.size, Value.ref (zM1 s.heap l1).objs.size] } := Heap.get?_push_of_some _ (Heap.get?_push_of_some _ (Heap.get?_push_size (zM2 s.heap l1 l2) rfl))
  have g2 : (zM5 s.heap l1 l2).get? (zM1 s.heap l1).objs.size = some { cls := Value.type "tuple_iterator", data := Data.fields #[Value.ref l2, Value.int 0 0] } := Heap.get?_push_of_some _ (Heap.get?_push_of_some _ (Heap.get?_push_of_some _ (Heap.get?_push_size (zM1 s.heap l1) rfl)))
  have g1 : (zM5 s.heap l1 l2).get? s.heap.objs.size = some { cls := Value.type "list_iterator", data := Data.fields #[Value.ref l1, Value.int 0 0] } := Heap.get?_push_of_some _ (Heap.get?_push_of_some _ (Heap.get?_push_of_some _ (Heap.get?_push_of_some _ (Heap.get?_push_size s.heap rfl))))
  have hk : ∀ (c : Addr) (o : Obj), s.heap.get? c = some o → (zM5 s.heap l1 l2).get? c = some o := fun c o e => Heap.get?_push_of_some _ (Heap.get?_push_of_some _ (Heap.get?_push_of_some _ (Heap.get?_push_of_some _ (Heap.get?_push_of_some _ e))))
  rw [z4, z2, z3] at g5
  rw [z3] at g4
  rw [z2, z1] at g3
  rw [z1] at g2
  show Shared.TypeIs _ (.ref (zM4 s.heap l1 l2).objs.size) "zip" ∧ _
  rw [z4]
  exact ⟨⟨_, g5, rfl⟩, h _ g5 g3 g4 ⟨_, g1, rfl, rfl⟩ ⟨_, g2, rfl, rfl⟩ hk⟩
def iZipM (K : PySem.W.Frag) (ta : TA) : TI := fun σ H R => ta σ H fun vs H1 => ∃ a b xs ys, vs = [.ref a, .ref b] ∧ SqL K H1 a xs ∧ SqT K H1 b ys ∧ R (ItzM K a b) H1
theorem pi_zipM {X : Cx} {e e2 : Expr} {ta : TA} {p pos tpos : Pos} {elts : List Expr} {kk : Nat} (hg : Gl X "zip") (hm : X.mg "zip" = none) (ha : PA X [e, e2] ta)
    (hs : starEach [e, e2] X.env = (false, eval e X.env) :: starEach [e2] X.env := by rfl) (hpl : (backTo pos (starEach [e2] X.env)).any (·.1) = false := by rfl) : PI X (.Tuple elts kk tpos) (.Call (.Name "zip" p) [e, e2] [] pos) (iZipM X.K ta) := by
  refine ⟨fun pins s σ H R I h => Call_ (ld_blt I hg hm boot_zip (callWith_type1 (thn (ha.run pos pins s σ H _ I h) fun us s1 ⟨vs, H1, I1, r1, q1⟩ => ?_) hs hpl))⟩
  obtain ⟨a, b, xs, ys, rfl, hqx, hqy, q⟩ := q1
  cases r1 with
  | cons r rr =>
    cases rr with
    | cons r' r0 =>
      cases r0
      cases r
      cases r'
      obtain ⟨its, rv, p1, _⟩ := I1.list hqx
      obtain ⟨its2, rv2, p2, _⟩ := I1.tuple hqy
      obtain ⟨o2, ho2, hc2⟩ := id p2
      refine call_zipM (PlainL.isList p1) p2 fun h' hz hTI hTO h1 h2 hk => wpAny_pyIter_zip hz ?_
      have I2 := I1.kept (t' := s1.toks) hk
      refine ⟨s1.heap.objs.size + 4, [s1.heap.objs.size + 4, s1.heap.objs.size + 2, s1.heap.objs.size + 3, s1.heap.objs.size, s1.heap.objs.size + 1], _, ItzM X.K a b, H1, rfl, I2, turn_zipM (PySem.W.ktu_apart s1.heap.objs.size a b (PlainL.lt p1) (Heap.lt_size ho2)), ⟨hz, hTI, ⟨_, _, hTO⟩, h1, h2⟩, fun c hcm => ?_, q⟩
      have hle : s1.heap.objs.size ≤ c := by
        simp only [List.mem_cons, List.not_mem_nil, or_false] at hcm
        rcases hcm with h | h | h | h | h <;> (rw [h]; first | exact Nat.le_add_right _ _ | exact Nat.le_refl _)
      exact I1.fpOk hle (I1.hok.fresh hle)
theorem walk_zipM {K : PySem.W.Frag} {a b : Addr} {xs ys : List V} (hn : xs.length = ys.length) : Walk (ItzM K a b) xs.length (fun H => SqL K H a xs ∧ SqT K H b ys) (YPair (fun i => xs[i]?) (fun i => ys[i]?)) := by
  refine ⟨fun i H hi q => ?_, fun H q => ⟨xs, q.1, Nat.le_refl _⟩, fun i H v H' hi q y => ?_⟩
  · exact ⟨xs, ys, _, _, q.1, q.2, List.getElem?_eq_getElem hi, List.getElem?_eq_getElem (by omega)⟩
  · obtain ⟨T, x, z, e1, e2, e3, e4, e5⟩ := y
    exact ⟨T, x, z, e1, e2, e3, e4 xs q.1, e5 ys q.2⟩
end L2

namespace Q
open PySem L2 QR
abbrev sCut : Stmt := top 38
/-- how much is left of each -/
def CutOk (ns : List Int) (bss : List (List Int)) : Prop := ns.length = bss.length ∧ ∀ (i : Nat) (n : Int) (bs : List Int), ns[i]? = some n → bss[i]? = some bs → 0 ≤ n ∧ n ≤ (bs.length : Int)
def cutL : List (List Int) → List Int → List (List Int)
  | bs :: bss, n :: ns => bs.take n.toNat :: cutL bss ns
  | _, _ => []
theorem cutL_len : ∀ {bss : List (List Int)} {ns : List Int}, ns.length = bss.length → (cutL bss ns).length = bss.length
  | [], _, _ => rfl
  | bs :: bss, [], h => by simp at h
  | bs :: bss, n :: ns, h => by
    show (cutL bss ns).length + 1 = _
    rw [cutL_len (by simpa using h)]
    rfl
theorem cutL_at : ∀ {bss : List (List Int)} {ns : List Int} {i : Nat} {n : Int} {bs : List Int}, ns[i]? = some n → bss[i]? = some bs → (cutL bss ns)[i]? = some (bs.take n.toNat)
  | [], _, i, n, bs, _, h => by simp at h
  | b :: bss, [], i, n, bs, h, _ => by simp at h
  | b :: bss, m :: ns, 0, n, bs, h, g => by
    cases h
    cases g
    rfl
  | b :: bss, m :: ns, i + 1, n, bs, h, g => cutL_at (bss := bss) (ns := ns) (i := i) h g
def spCut : Sp := fun vs H Q _ => ∃ (wl tq : Addr) (us : List V) (bss : List (List Int)) (ns : List Int), vs = [.ref wl, .ref tq] ∧ H wl = some (.lst us) ∧ RowsV H us bss ∧ H tq = some (.tup (ns.map V.int)) ∧ CutOk ns bss ∧ bss.length ≤ 200 ∧ ∀ H', Same H H' → Q (.bl true) H'
def spDC (CD : Addr) : Sp := fun vs H Q _ => ∃ (x dx ra tq : Addr) (bss : List (List Int)) (m : Nat) (ns : List Int), vs = [.ref x, .ref tq] ∧ DiskX CD H x dx ra bss m ∧ H tq = some (.tup (ns.map V.int)) ∧ CutOk ns (bss.drop m) ∧ ∀ H', B2 x ra H H' → DiskX CD H' x dx ra (bss.take m ++ cutL (bss.drop m) ns) bss.length → Q .non H'
section
variable {P : Program} {w : World} {K : PySem.W.Frag} {mg : Str → Option Value} {base : Heap}
theorem scCut : FnScope ["waiting", "thing", "row", "many"] ["waiting", "thing"] (defScope sCut) := ⟨rfl, rfl, rfl, by decide +kernel, rfl, by decide +kernel, by decide +kernel⟩
theorem ok_cut {f fN fP : Addr} {fd dN dP : FuncData} (D : Df K mg "is_cut" sCut ["waiting", "thing"] f fd) (B : Bts mg) (DN : Df K mg "is_number_below" sNum ["limit", "thing"] fN dN) (DP : Df K mg "is_plain_int" sPlain ["thing"] fP dP) : FnOk P w K mg base CX0 3 f fd ["waiting", "thing"] spCut := by
  have GN : FnOk P w K mg base CX0 2 fN dN ["limit", "thing"] (spNum K) := ok_num DN B DP
  refine D.F.ok scCut (fun vs H Q E h => ?_) (fun cdv A outer s H vs Q E hr h => ?_)
  · obtain ⟨wl, tq, us, bss, ns, rfl, _⟩ := h
    rfl
  · obtain ⟨wl, tq, us, bss, ns, rfl, hw, rv, ht, ⟨cl, co⟩, few, k⟩ := h
    have nd := scCut.nd
    refine ⟨_, pss_cons (ps_if (PW.pt (pw_or (pt_not (pt_val (pe_callB call_isi (by rfl) B.isinstance PyProof.Rows.boot_isinstance (pa_cons (pv 1) (pa_cons (pe_bltn (v := .ty "tuple") rfl B.tuple PyProof.Rows.boot_tuple rfl) pa_nil)))))
        (pw_or1 (pt_cmpR op_ne (pe_callB call_len_seq (by rfl) B.len PySem.boot_len (pa_cons (pv 1) pa_nil)) (pe_callB call_len_seq (by rfl) B.len PySem.boot_len (pa_cons (pv 0) pa_nil)) (nomark _))))) pss_never pss_nil)
      (pss_one (ps_ret (pe_callB (cr_all rfl) (by rfl) B.all PyProof.Rows.boot_all (pa_cons (pe_lc (own := [("row", 2), ("many", 3)]) (g := gTup K 2 (gCons (gName 2) (gCons (gName 3) gNil))) (tt := tYes) rfl nd (pi_zipM rfl B.zip (pa_cons (pv 0) (pa_cons (pv 1) pa_nil)))
        (blkOk_by (N := ["waiting", "thing", "row", "many"]) (sc := defScope sCut) (by decide +kernel)) (fun _ _ _ _ _ => pg_tup rfl (pgs_cons (pg_name (i := 2) nd rfl (.inl rfl)) (pgs_cons (pg_name (i := 3) nd rfl (.inl rfl)) pgs_nil))) (fun _ _ _ _ _ => pts_nil)
        (fun _ _ _ _ _ => pe_call GN hr rfl DN.m DN.k DN.b .nil pass0 (pa_cons (pe_op op_add (pe_callB (r := fun xs H Q => ∃ (p : Addr) (ys : List V), xs = [V.ref p] ∧ (SqL K H p ys ∨ SqT K H p ys) ∧ Q (V.int (ys.length : Int)) H) call_len_seq (by rfl) B.len PySem.boot_len (pa_cons (pv 2) pa_nil)) pe_int) (pa_cons (pv 3) pa_nil)))) pa_nil)))), ?_⟩
    refine ⟨_, rfl, .ref tq, .ty "tuple", .type "tuple", .type "tuple", true, rfl, .ty _, .base (.tup ht), kit_ty (by decide +kernel), _, rfl, iteF ?_⟩
    refine ⟨_, rfl, tq, _, rfl, .inr (SqT.of ht), _, rfl, wl, _, rfl, .inl (SqL.of hw), rfl, _, rfl, ?_⟩
    rw [List.length_map, cl, rv.1, decide_eq_true rfl]
    refine iteF ?_
    refine ⟨_, rfl, _, rfl, wl, tq, us, _, rfl, SqL.of hw, SqT.of ht, fun D hD => lc_it (walk_zipM (K := K) (a := wl) (b := tq) (xs := us) (ys := ns.map V.int) (by rw [List.length_map, cl, rv.1])) (fun i H' => H' D = some (.lst ((List.replicate i true).map V.bl)) ∧ i ≤ us.length ∧ Same H H') ?_ ?_ ?_ ?_⟩
    · exact ⟨upd_same, Nat.zero_le _, sN hD⟩
    · rintro i H3 hi ⟨_, _, s3⟩
      exact ⟨SqL.of (s3 _ _ hw), SqT.of (s3 _ _ ht)⟩
    · rintro i v H3 H4 hi ⟨eD, _, s3⟩ ⟨T, x, y, rfl, hT, rfl, hx, hy⟩
      obtain ⟨n, hn, rfl⟩ := at_ints hy
      have hb : bss[i]? = some (bss[i]'(by rw [← rv.1]; exact hi)) := List.getElem?_eq_getElem _
      obtain ⟨q, rfl, hq⟩ := rv.2 i x _ hx hb
      obtain ⟨n0, n1⟩ := co i n _ hn hb
      have s4 := sN (o := .tup [.ref q, .int n]) hT
      have hq4 := hq.same (sT s3 s4)
      refine ⟨T, _, rfl, SqT.of upd_same, rfl, _, _, rfl, _, _, rfl, rfl, rfl, ?_⟩
      refine ⟨_, rfl, q, _, rfl, .inr (SqT.of hq4.at_), _, _, rfl, rfl, _, rfl, _, _, rfl, .inl ⟨n, rfl, ?_⟩⟩
      rw [List.length_map, decide_eq_true n0, decide_eq_true (show n < (((bss[i]'(by rw [← rv.1]; exact hi)).length : Nat) : Int) + 1 by omega)]
      refine ⟨_, s4 _ _ eD, ?_, ?_, hi, sNew (sT s3 s4) hD⟩
      · rw [List.length_map, List.length_replicate]
        have := rv.1
        exact size_ok (by omega)
      · rw [upd_same, List.replicate_succ', List.map_append]
        rfl
    · rintro H3 ⟨eD, _, s3⟩
      refine ⟨D, _, rfl, SqL.of eD, ?_⟩
      rw [rep_true]
      exact k _ s3
theorem scDC : FnScope ["self", "kept", "waiting", "row", "many"] ["self", "kept"] (defScope sDC) := ⟨rfl, rfl, rfl, by decide +kernel, rfl, by decide +kernel, by decide +kernel⟩
theorem cut_fromV (xs : List V) (n : Nat) : cutV xs (some (n : Int)) none = xs.drop n := by
  unfold cutV
  rw [HT.sIx_none, HT.sIx_nat, List.take_of_length_le (by rw [List.length_drop]; omega)]
  rcases Nat.le_total n xs.length with c | c
  · rw [Nat.min_eq_left c]
  · rw [Nat.min_eq_right c, List.drop_of_length_le (Nat.le_refl _), List.drop_of_length_le c]
theorem ok_dc {CD fC fN fP : Addr} {dC dN dP : FuncData} (T : DTxt K mg CD) (M : DDefs K CD) (B : Bts mg) (DC : Df K mg "is_cut" sCut ["waiting", "thing"] fC dC) (DN : Df K mg "is_number_below" sNum ["limit", "thing"] fN dN) (DP : Df K mg "is_plain_int" sPlain ["thing"] fP dP) : FnOk P w K mg base CX0 4 M.fC M.dC ["self", "kept"] (spDC CD) := by
  have GC : FnOk P w K mg base CX0 3 fC dC ["waiting", "thing"] spCut := ok_cut DC B DN DP
  refine M.FC.ok scDC (fun vs H Q E h => ?_) (fun cdv A outer s H vs Q E hr h => ?_)
  · obtain ⟨x, dx, ra, tq, bss, m, ns, rfl, _⟩ := h
    rfl
  · obtain ⟨x, dx, ra, tq, bss, m, ns, rfl, d, ht, co, k⟩ := h
    have nd := scDC.nd
    obtain ⟨vs, hv, rv⟩ := d.rows
    refine ⟨_, pss_cons (ps_set (i := 2) nd rfl (.inl rfl) (pe_slice sl_list (pe_fld (pv 0) rfl) (po_some (pe_fld (pv 0) rfl)) po_none))
      (pss_cons (ps_if (pt_not (pt_val (pe_call GC hr rfl DC.m DC.k DC.b .nil pass0 (pa_cons (pv 2) (pa_cons (pv 1) pa_nil))))) pss_never pss_nil)
      (pss_cons (ps_slput (pe_fld (pv 0) rfl) (po_some (pe_fld (pv 0) rfl)) (pe_lc (own := [("row", 3), ("many", 4)]) (g := gTup K 2 (gCons (gName 3) (gCons (gName 4) gNil))) (tt := tYes) rfl nd (pi_zipM rfl B.zip (pa_cons (pv 2) (pa_cons (pv 1) pa_nil)))
          (blkOk_by (N := ["self", "kept", "waiting", "row", "many"]) (sc := defScope sDC) (by decide +kernel)) (fun _ _ _ _ _ => pg_tup rfl (pgs_cons (pg_name (i := 3) nd rfl (.inl rfl)) (pgs_cons (pg_name (i := 4) nd rfl (.inl rfl)) pgs_nil))) (fun _ _ _ _ _ => pts_nil)
          (fun _ _ _ _ _ => pe_slice sl_X (pv 3) po_none (po_some (pv 4)))))
      (pss_one (ps_fld (pv 0) (pe_callB call_len_seq (by rfl) B.len PySem.boot_len (pa_cons (pe_fld (pv 0) rfl) pa_nil)) rfl)))), ?_⟩
    refine ⟨_, rfl, x, CD, dx, _, _, rfl, d.at_, T.cl, T.nR, rfl, _, rfl, x, CD, dx, _, _, rfl, d.at_, T.cl, T.nM, rfl, _, rfl, ra, _, rfl, SqL.of hv, fun wl hwl => ?_⟩
    rw [cut_fromV]
    have s1 := sN (o := .lst (vs.drop m)) hwl
    have d1 := d.same s1
    have few := d.few
    have le := d.le
    have rv1 := rv.tk (.of s1)
    refine ⟨_, rfl, _, rfl, wl, tq, vs.drop m, bss.drop m, ns, rfl, upd_same, rv1.drop m, s1 _ _ ht, co, by rw [List.length_drop]; omega, fun H2 s2 => ⟨_, rfl, iteF ?_⟩⟩
    have s02 := sT s1 s2
    have hw2 := s2 _ _ (show (upd H wl (.lst (vs.drop m))) wl = some (.lst (vs.drop m)) from upd_same)
    have rv2 := (rv.tk (.of s02)).drop m
    have ht2 := s02 _ _ ht
    obtain ⟨cl, co'⟩ := co
    have el : (vs.drop m).length = ns.length := by rw [rv2.1, cl]
    refine ⟨_, rfl, _, rfl, wl, tq, vs.drop m, _, rfl, SqL.of hw2, SqT.of ht2, fun D hD => lc_it (walk_zipM (K := K) (a := wl) (b := tq) (xs := vs.drop m) (ys := ns.map V.int) (by rw [List.length_map]; exact el)) (fun i H' => ∃ zs : List V, H' D = some (.lst zs) ∧ zs.length = i ∧ i ≤ (vs.drop m).length ∧ (∀ (j : Nat) (v : V) (bs : List Int), zs[j]? = some v → (cutL (bss.drop m) ns)[j]? = some bs → ∃ q, v = .ref q ∧ RowAt H' q bs) ∧ Same H2 H') ?_ ?_ ?_ ?_⟩
    · exact ⟨[], upd_same, rfl, Nat.zero_le _, fun j v bs hv => by simp at hv, sN hD⟩
    · rintro i H3 hi ⟨_, _, _, _, _, s3⟩
      exact ⟨SqL.of (s3 _ _ hw2), SqT.of (s3 _ _ ht2)⟩
    · rintro i v H3 H4 hi ⟨zs, eD, lz, _, reps, s3⟩ ⟨T', x', y, rfl, hT, rfl, hx, hy⟩
      obtain ⟨n, hn, rfl⟩ := at_ints hy
      have hb : (bss.drop m)[i]? = some ((bss.drop m)[i]'(by rw [← rv2.1]; exact hi)) := List.getElem?_eq_getElem _
      obtain ⟨q, rfl, hq⟩ := rv2.2 i x' _ hx hb
      obtain ⟨n0, n1⟩ := co' i n _ hn hb
      obtain ⟨n', rfl⟩ : ∃ n' : Nat, n = (n' : Int) := ⟨n.toNat, by omega⟩
      have s4 := sN (o := .tup [.ref q, .int (n' : Int)]) hT
      have hq4 := hq.same (sT s3 s4)
      refine ⟨T', _, rfl, SqT.of upd_same, rfl, _, _, rfl, _, _, rfl, rfl, rfl, ?_⟩
      refine ⟨_, rfl, _, rfl, _, rfl, q, _, rfl, hq4.at_, fun z5 H5 s5 hz5 => ?_⟩
      rw [cut_map] at hz5
      have s45 := sT s4 s5
      have eD5 := s45 _ _ eD
      have tk5 : Tk H5 (upd H5 D (.lst (zs ++ [.ref z5]))) := fun c ys e => by
        rw [upd_ne (ne_of e eD5 (fun z => by cases z))]
        exact e
      refine ⟨zs, eD5, size_ok (by rw [lz]; have := List.length_drop (i := m) (l := vs); rw [rv.1] at this; omega), zs ++ [.ref z5], upd_same, by rw [List.length_append, lz]; rfl, hi, fun j v bs hv hb' => ?_, sNew (sT s3 s45) hD⟩
      by_cases c : j < zs.length
      · rw [List.getElem?_append_left c] at hv
        obtain ⟨q', e', r'⟩ := reps j v bs hv hb'
        exact ⟨q', e', (r'.same s45).tk tk5⟩
      · rw [List.getElem?_append_right (by omega)] at hv
        have z1 : j - zs.length = 0 := by
          have := (List.getElem?_eq_some_iff.mp hv).1
          have : j - zs.length < 1 := this
          omega
        rw [z1] at hv
        cases hv
        have ej : j = i := by omega
        subst ej
        rw [cutL_at hn hb] at hb'
        cases hb'
        exact ⟨z5, rfl, RowAt.tk ⟨hz5, fun b hb => hq.b b (List.mem_of_mem_take hb), by rw [List.length_take]; have := hq.few; omega⟩ tk5⟩
    · rintro H3 ⟨zs, eD, lz, _, reps, s3⟩
      have s03 := sT s02 s3
      have d3 := d.same s03
      have hv3 := s03 _ _ hv
      have nD : ra ≠ D := ne_of_none (s02 _ _ hv) hD
      have ld : (vs.drop m).length = bss.length - m := by rw [List.length_drop, rv.1]
      refine ⟨_, rfl, x, CD, dx, _, _, rfl, d3.at_, T.cl, T.nR, rfl, _, rfl, x, CD, dx, _, _, rfl, d3.at_, T.cl, T.nM, rfl, _, rfl, ra, D, vs, zs, m, rfl, rfl, rfl, hv3, eD, nD, by rw [rv.1]; exact le, Nat.le_of_lt (size_ok (by rw [rv.1, lz, ld]; omega)), ?_⟩
      have nxr := d3.ne
      have eX : (upd H3 ra (.lst (vs.take m ++ zs))) x = some (.ins CD dx (dF ra m)) := by
        rw [upd_ne nxr]
        exact d3.at_
      refine ⟨_, rfl, x, CD, dx, _, _, rfl, eX, T.cl, T.nR, rfl, ra, _, rfl, .inl (SqL.of upd_same), _, rfl, x, CD, dx, _, rfl, eX, T.cl, T.nM, (by show 2 < 1000; decide), ?_⟩
      have lq : (vs.take m ++ zs).length = bss.length := by
        rw [List.length_append, List.length_take, lz, ld, rv.1]
        omega
      rw [lq, dF_m]
      have b2 : B2 x ra H (upd (upd H3 ra (.lst (vs.take m ++ zs))) x (.ins CD dx (dF ra bss.length))) := ((B2.of s03).b).a
      have tk : Tk H3 (upd (upd H3 ra (.lst (vs.take m ++ zs))) x (.ins CD dx (dF ra bss.length))) := fun c ys e => by
        rw [upd_ne (ne_of e d3.at_ (fun z => by cases z)), upd_ne (ne_of e hv3 (fun z => by cases z))]
        exact e
      have lc : (cutL (bss.drop m) ns).length = bss.length - m := by rw [cutL_len cl, List.length_drop]
      refine k _ b2 ⟨upd_same, ⟨_, by rw [upd_ne nxr.symm]; exact upd_same, ((rv.tk (.of s03)).tk tk |>.take m).append ⟨by rw [lz, ld, lc], fun j v bs hv hb => ?_⟩⟩, ?_, ?_⟩
      · obtain ⟨q, e, r⟩ := reps j v bs hv hb
        exact ⟨q, e, r.tk tk⟩
      · rw [List.length_append, List.length_take, lc]
        omega
      · rw [List.length_append, List.length_take, lc]
        omega
end
end Q

namespace Q
open PySem L2 QR
/-- the parcels, as far as each is sealed of one -/
def keptT : List (List Int) → List QR.T
  | [] => []
  | r :: rs => match unsT r with
    | .tup [t] => t :: keptT rs
    | _ => []
def KeptV (H : Hp) (ws : List V) (ts : List QR.T) : Prop := ws.length = ts.length ∧ ∀ (i : Nat) (v : V) (t : QR.T), ws[i]? = some v → ts[i]? = some t → Rep H 21 t v
theorem KeptV.tk {H H' : Hp} {ws : List V} {ts : List QR.T} (h : KeptV H ws ts) (k : Tk H H') : KeptV H' ws ts := ⟨h.1, fun i v t a b => (h.2 i v t a b).tk k⟩
theorem KeptV.snoc {H : Hp} {ws : List V} {ts : List QR.T} {v : V} {t : QR.T} (h : KeptV H ws ts) (r : Rep H 21 t v) : KeptV H (ws ++ [v]) (ts ++ [t]) := by
  refine ⟨by rw [List.length_append, List.length_append, h.1]; rfl, fun i x u hx hu => ?_⟩
  by_cases c : i < ws.length
  · rw [List.getElem?_append_left c] at hx
    rw [List.getElem?_append_left (by rw [← h.1]; exact c)] at hu
    exact h.2 i x u hx hu
  · rw [List.getElem?_append_right (by omega)] at hx
    rw [List.getElem?_append_right (by rw [← h.1]; omega)] at hu
    have z1 : i - ws.length = 0 := by
      have := (List.getElem?_eq_some_iff.mp hx).1
      have : i - ws.length < 1 := this
      omega
    rw [z1] at hx
    rw [← h.1, z1] at hu
    cases hx
    cases hu
    exact r
theorem uns_cases {r : List Int} (hb : ∀ b ∈ r, 0 ≤ b ∧ b < 256) : unsT r = .tup [] ∨ ∃ t, unsT r = .tup [t] ∧ OkT 20 t := by
  unfold unsT
  split
  · cases e : rdAll (r.take (r.length - 4)) with
    | ok t h => exact .inr ⟨t, rfl, (rdAll_back (fun b hb' => hb b (List.mem_of_mem_take hb')) e).1⟩
    | no p => exact .inl rfl
  · exact .inl rfl
theorem kept_stop {bss : List (List Int)} {i : Nat} {r : List Int} (h : bss[i]? = some r) (u : unsT r = .tup []) : keptT (bss.drop i) = [] := by
  obtain ⟨hi, e⟩ := List.getElem?_eq_some_iff.mp h
  rw [List.drop_eq_getElem_cons hi, e]
  unfold keptT
  rw [u]
theorem kept_go {bss : List (List Int)} {i : Nat} {r : List Int} {t : QR.T} (h : bss[i]? = some r) (u : unsT r = .tup [t]) : keptT (bss.drop i) = t :: keptT (bss.drop (i + 1)) := by
  obtain ⟨hi, e⟩ := List.getElem?_eq_some_iff.mp h
  rw [List.drop_eq_getElem_cons hi, e]
  conv => lhs; unfold keptT
  rw [u]
def spKP (tp : Bool) : Sp := fun vs H Q _ => ∃ (b : Addr) (us : List V) (bss : List (List Int)), vs = [.ref b] ∧ H b = some (if tp = true then .tup us else .lst us) ∧ RowsV H us bss ∧ bss.length ≤ 200 ∧ ∀ z ws H', Same H H' → H' z = some (.lst ws) → KeptV H' ws (keptT bss) → Q (.ref z) H'
def spLKt : Sp := fun vs H Q _ => ∃ (b : Addr) (us : List V) (bss : List (List Int)), vs = [.ref b] ∧ H b = some (.lst us) ∧ RowsV H us bss ∧ bss.length ≤ 200 ∧ ∀ z ws H', Same H H' → H' z = some (.lst ws) → KeptV H' ws (keptT bss) → Q (.ref z) H'
section
variable {P : Program} {w : World} {K : PySem.W.Frag} {mg : Str → Option Value} {base : Heap}
theorem kit_lst : PySem.W.kitAny K (.type "list") [.type "list", .type "tuple"] = some true := by
  simp [PySem.W.kitAny, show PySem.W.kitOne K (.type "list") (.type "list") = some true from kit_ty (by decide +kernel)]
theorem kit_tup : PySem.W.kitAny K (.type "tuple") [.type "list", .type "tuple"] = some true := by
  simp [PySem.W.kitAny, show PySem.W.kitOne K (.type "tuple") (.type "list") = some false from kit_ty (by decide +kernel), show PySem.W.kitOne K (.type "tuple") (.type "tuple") = some true from kit_ty (by decide +kernel)]
theorem scKP : FnScope ["blocks", "block", "parcels", "told"] ["blocks"] (defScope sKP) := ⟨rfl, rfl, rfl, by decide +kernel, rfl, by decide +kernel, by decide +kernel⟩
theorem ok_kpL {f fR fU : Addr} {fd dR dU : FuncData} (D : Df K mg "kept_parcels" sKP ["blocks"] f fd) (B : Bts mg) (DR : Df K mg "is_row" sIsRow ["thing"] fR dR) (GR : FnOk P w K mg base CX0 3 fR dR ["thing"] (spIsRow K)) (DU : Df K mg "unsealed" sUns ["row"] fU dU) (GU : FnOk P w K mg base CX0 47 fU dU ["row"] (spUns K)) : FnOk P w K mg base CX0 48 f fd ["blocks"] (spKP false) := by
  refine D.F.ok scKP (fun vs H Q E h => ?_) (fun cdv A outer s H vs Q E hr h => ?_)
  · obtain ⟨b, us, bss, rfl, _⟩ := h
    rfl
  · obtain ⟨b, us, bss, rfl, hb, rv, few, k⟩ := h
    have hb : H b = some (.lst us) := hb
    have nd := scKP.nd
    have hu := hr.units
    have hr3 : Room 3 _ := hr.mono (by decide)
    refine ⟨_, pss_cons (ps_if (PW.pt (pw_or (pt_not (pt_val (pe_callB call_isiT (by rfl) B.isinstance PyProof.Rows.boot_isinstance (pa_cons (pv 0) (pa_cons (pe_tup (pa_cons (pe_bltn (v := .ty "list") rfl B.list PyProof.Rows.boot_list rfl) (pa_cons (pe_bltn (v := .ty "tuple") rfl B.tuple PyProof.Rows.boot_tuple rfl) pa_nil))) pa_nil)))))
        (pw_or1 (pt_not (pt_val (pe_callB (cr_all rfl) (by rfl) B.all PyProof.Rows.boot_all (pa_cons (pe_lc (own := [("block", 1)]) (g := gName 1) (tt := tYes) rfl nd (pi_list (pv 0)) (blkOk_by (N := ["blocks", "block", "parcels", "told"]) (sc := defScope sKP) (by decide +kernel)) (fun _ _ _ _ _ => pg_name (i := 1) nd rfl (.inl rfl)) (fun _ _ _ _ _ => pts_nil)
          (fun _ _ _ _ _ => pe_call GR hr3 rfl DR.m DR.k DR.b .nil pass0 (pa_cons (pv 1) pa_nil))) pa_nil))))))) pss_never pss_nil)
      (pss_cons (ps_set (i := 2) nd rfl (.inl rfl) (pe_lst pa_nil))
      (pss_cons (ps_for PassesOwn.never rfl (pi_list (pv 0)) (pg_name (i := 1) nd rfl (.inl rfl))
        (pss_cons (ps_set (i := 3) nd rfl (.inl rfl) (pe_call GU hr rfl DU.m DU.k DU.b .nil pass0 (pa_cons (pv 1) pa_nil)))
        (pss_cons (ps_if (pt_cmpR (op_eqN hu) (pv 3) (pe_tup pa_nil) (nomark _)) (pss_one ps_break) pss_nil)
        (pss_one (ps_expr (pe_bm PySem.F.plainAttrs_list PySem.F.slot_list_extend PySem.F.type_list_extend mt_extT (pv 2) (pa_cons (pv 3) pa_nil)))))))
      (pss_one (ps_ret (pv 2))))), ?_⟩
    refine ⟨_, rfl, (by show 2 ≤ sizeLine; decide), fun tp htp => ?_⟩
    have s1 := sN (o := .tup [.ty "list", .ty "tuple"]) htp
    refine ⟨.ref b, tp, [.ty "list", .ty "tuple"], .type "list", [.type "list", .type "tuple"], true, rfl, upd_same, .cons (.ty _) (.cons (.ty _) .nil), .base (.lst (s1 _ _ hb)), kit_lst, _, rfl, iteF ?_⟩
    refine ⟨_, rfl, b, rfl, ⟨_, SqL.of (s1 _ _ hb)⟩, fun D hD => lc_list (K := K) (a := b) (xs := us) (fun i H' => H' D = some (.lst ((List.replicate i true).map V.bl)) ∧ Same (upd H tp (.tup [.ty "list", .ty "tuple"])) H') ?_ ?_ ?_ ?_⟩
    · exact ⟨upd_same, sN hD⟩
    · rintro i H' hi ⟨_, s2⟩
      exact SqL.of (s2 _ _ (s1 _ _ hb))
    · rintro i x H' hx ⟨eD, s2⟩
      have hi := (List.getElem?_eq_some_iff.mp hx).1
      have hbs : bss[i]? = some (bss[i]'(by rw [← rv.1]; exact hi)) := List.getElem?_eq_getElem _
      obtain ⟨q, rfl, hq⟩ := rv.2 i x _ hx hbs
      have hq2 := hq.same (sT s1 s2)
      refine ⟨rfl, _, rfl, .ref q, rfl, .inl ⟨q, _, rfl, hq2.at_, by rw [List.length_map]; exact hq2.few, sc_ints _, fun H3 s3 => ?_⟩⟩
      rw [all_isB hq2.b]
      refine ⟨_, s3 _ _ eD, ?_, ?_, sNew (sT s2 s3) hD⟩
      · rw [List.length_map, List.length_replicate]
        have := rv.1
        exact size_ok (by omega)
      · rw [upd_same, List.replicate_succ', List.map_append]
        rfl
    · rintro H2 ⟨eD, s2⟩
      refine ⟨D, _, rfl, SqL.of eD, ?_⟩
      rw [rep_true]
      refine ⟨_, rfl, iteF ?_⟩
      have s02 := sT s1 s2
      refine ⟨Nat.zero_le _, fun l hl => ?_⟩
      have s03 := sT s02 (sN (o := .lst []) hl)
      have nl := sNo s02 hl
      refine ⟨_, rfl, b, rfl, ⟨_, SqL.of (s03 _ _ hb)⟩, for_list (K := K) (a := b) (xs := us) (fun i σ H' => ∃ (ws : List V) (ts : List QR.T) (x1 x3 : Option V), σ = [some (.ref b), x1, some (.ref l), x3] ∧ H' l = some (.lst ws) ∧ Same H H' ∧ KeptV H' ws ts ∧ keptT bss = ts ++ keptT (bss.drop i) ∧ ws.length ≤ i) ?_ ?_ ?_ ?_⟩
      · exact ⟨[], [], _, _, rfl, upd_same, s03, ⟨rfl, fun i v t hv => by simp at hv⟩, rfl, Nat.le_refl _⟩
      · rintro i σ H' hi ⟨ws, ts, x1, x3, rfl, e, s, _⟩
        exact SqL.of (s _ _ hb)
      · rintro i x σ H' hx ⟨ws, ts, x1, x3, rfl, e, s, kv, ek, lw⟩
        have hi := (List.getElem?_eq_some_iff.mp hx).1
        have hbs : bss[i]? = some (bss[i]'(by rw [← rv.1]; exact hi)) := List.getElem?_eq_getElem _
        obtain ⟨q, rfl, hq⟩ := rv.2 i x _ hx hbs
        have hq2 := hq.same s
        refine ⟨_, rfl, .ref q, unsT (bss[i]'(by rw [← rv.1]; exact hi)), rfl, .inl ⟨q, _, rfl, hq2, rfl⟩, fun u H3 s3 ru => ?_⟩
        have few2 := rv.1
        rcases uns_cases hq.b with eu | ⟨t, eu, ok⟩
        · rw [eu] at ru
          obtain ⟨ua, us', rfl, hua, lu, _⟩ : ∃ a xs, u = .ref a ∧ H3 a = some (.tup xs) ∧ xs.length = ([] : List QR.T).length ∧ _ := ru
          obtain rfl : us' = [] := List.eq_nil_of_length_eq_zero lu
          refine ⟨_, rfl, Nat.zero_le _, fun e0 he0 => ?_⟩
          have s4 := sN (o := .tup []) he0
          refine ⟨ua, e0, rfl, rfl, upd_same, .inl ⟨s4 _ _ hua, _, rfl, iteT ?_⟩⟩
          have s34 := sT s3 s4
          refine ⟨_, rfl, k l ws _ (sT s s34) (s34 _ _ e) ?_⟩
          rw [ek, kept_stop hbs eu, List.append_nil]
          exact kv.tk (.of s34)
        · rw [eu] at ru
          obtain ⟨ua, us', rfl, hua, lu, _, rr⟩ : ∃ a xs, u = .ref a ∧ H3 a = some (.tup xs) ∧ xs.length = [t].length ∧ xs.length ≤ 9000 ∧ ∀ (i : Nat) (x : V) (t' : QR.T), xs[i]? = some x → [t][i]? = some t' → Rep H3 21 t' x := ru
          obtain ⟨v0, rfl⟩ := List.length_eq_one_iff.mp lu
          have r0 := rr 0 v0 t rfl rfl
          refine ⟨_, rfl, Nat.zero_le _, fun e0 he0 => ?_⟩
          have s4 := sN (o := .tup []) he0
          refine ⟨ua, e0, rfl, rfl, upd_same, .inr ⟨21, t, v0, s4 _ _ hua, r0.same s4, (ok.up 1).1, by decide, _, rfl, iteF ?_⟩⟩
          have s34 := sT s3 s4
          have e4 := s34 _ _ e
          refine ⟨_, rfl, .inl ⟨rfl, _, SqL.of e4⟩, _, rfl, l, ua, ws, [v0], rfl, rfl, e4, s4 _ _ hua, Nat.le_of_lt (size_ok (by show _ + 1 ≤ _; omega)), ?_⟩
          have tk : Tk (upd H3 e0 (.tup [])) (upd (upd H3 e0 (.tup [])) l (.lst (ws ++ [v0]))) := fun c ys e' => by
            rw [upd_ne (ne_of e' e4 (fun z => by cases z))]
            exact e'
          refine ⟨ws ++ [v0], ts ++ [t], _, _, rfl, upd_same, sNew (sT s s34) nl, ((kv.tk (.of s34)).tk tk).snoc ((r0.same s4).tk tk), by rw [ek, kept_go hbs eu, List.append_assoc]; rfl, by rw [List.length_append]; show _ + 1 ≤ _; omega⟩
      · rintro σ H' ⟨ws, ts, x1, x3, rfl, e, s, kv, ek, lw⟩
        rw [rv.1, List.drop_length] at ek
        refine ⟨_, rfl, k l ws _ s e ?_⟩
        rw [ek]
        show KeptV H' ws (ts ++ [])
        rw [List.append_nil]
        exact kv
theorem ok_kpT {f fR fU : Addr} {fd dR dU : FuncData} (D : Df K mg "kept_parcels" sKP ["blocks"] f fd) (B : Bts mg) (DR : Df K mg "is_row" sIsRow ["thing"] fR dR) (GR : FnOk P w K mg base CX0 3 fR dR ["thing"] (spIsRow K)) (DU : Df K mg "unsealed" sUns ["row"] fU dU) (GU : FnOk P w K mg base CX0 47 fU dU ["row"] (spUns K)) : FnOk P w K mg base CX0 48 f fd ["blocks"] (spKP true) := by
  refine D.F.ok scKP (fun vs H Q E h => ?_) (fun cdv A outer s H vs Q E hr h => ?_)
  · obtain ⟨b, us, bss, rfl, _⟩ := h
    rfl
  · obtain ⟨b, us, bss, rfl, hb, rv, few, k⟩ := h
    have hb : H b = some (.tup us) := hb
    have nd := scKP.nd
    have hu := hr.units
    have hr3 : Room 3 _ := hr.mono (by decide)
    refine ⟨_, pss_cons (ps_if (PW.pt (pw_or (pt_not (pt_val (pe_callB call_isiT (by rfl) B.isinstance PyProof.Rows.boot_isinstance (pa_cons (pv 0) (pa_cons (pe_tup (pa_cons (pe_bltn (v := .ty "list") rfl B.list PyProof.Rows.boot_list rfl) (pa_cons (pe_bltn (v := .ty "tuple") rfl B.tuple PyProof.Rows.boot_tuple rfl) pa_nil))) pa_nil)))))
        (pw_or1 (pt_not (pt_val (pe_callB (cr_all rfl) (by rfl) B.all PyProof.Rows.boot_all (pa_cons (pe_lc (own := [("block", 1)]) (g := gName 1) (tt := tYes) rfl nd (pi_tup (pv 0)) (blkOk_by (N := ["blocks", "block", "parcels", "told"]) (sc := defScope sKP) (by decide +kernel)) (fun _ _ _ _ _ => pg_name (i := 1) nd rfl (.inl rfl)) (fun _ _ _ _ _ => pts_nil)
          (fun _ _ _ _ _ => pe_call GR hr3 rfl DR.m DR.k DR.b .nil pass0 (pa_cons (pv 1) pa_nil))) pa_nil))))))) pss_never pss_nil)
      (pss_cons (ps_set (i := 2) nd rfl (.inl rfl) (pe_lst pa_nil))
      (pss_cons (ps_for PassesOwn.never rfl (pi_tup (pv 0)) (pg_name (i := 1) nd rfl (.inl rfl))
        (pss_cons (ps_set (i := 3) nd rfl (.inl rfl) (pe_call GU hr rfl DU.m DU.k DU.b .nil pass0 (pa_cons (pv 1) pa_nil)))
        (pss_cons (ps_if (pt_cmpR (op_eqN hu) (pv 3) (pe_tup pa_nil) (nomark _)) (pss_one ps_break) pss_nil)
        (pss_one (ps_expr (pe_bm PySem.F.plainAttrs_list PySem.F.slot_list_extend PySem.F.type_list_extend mt_extT (pv 2) (pa_cons (pv 3) pa_nil)))))))
      (pss_one (ps_ret (pv 2))))), ?_⟩
    refine ⟨_, rfl, (by show 2 ≤ sizeLine; decide), fun tp htp => ?_⟩
    have s1 := sN (o := .tup [.ty "list", .ty "tuple"]) htp
    refine ⟨.ref b, tp, [.ty "list", .ty "tuple"], .type "tuple", [.type "list", .type "tuple"], true, rfl, upd_same, .cons (.ty _) (.cons (.ty _) .nil), .base (.tup (s1 _ _ hb)), kit_tup, _, rfl, iteF ?_⟩
    refine ⟨_, rfl, b, rfl, ⟨_, SqT.of (s1 _ _ hb)⟩, fun D hD => lc_tup (K := K) (a := b) (xs := us) (fun i H' => H' D = some (.lst ((List.replicate i true).map V.bl)) ∧ Same (upd H tp (.tup [.ty "list", .ty "tuple"])) H') ?_ ?_ ?_ ?_⟩
    · exact ⟨upd_same, sN hD⟩
    · rintro i H' hi ⟨_, s2⟩
      exact SqT.of (s2 _ _ (s1 _ _ hb))
    · rintro i x H' hx ⟨eD, s2⟩
      have hi := (List.getElem?_eq_some_iff.mp hx).1
      have hbs : bss[i]? = some (bss[i]'(by rw [← rv.1]; exact hi)) := List.getElem?_eq_getElem _
      obtain ⟨q, rfl, hq⟩ := rv.2 i x _ hx hbs
      have hq2 := hq.same (sT s1 s2)
      refine ⟨rfl, _, rfl, .ref q, rfl, .inl ⟨q, _, rfl, hq2.at_, by rw [List.length_map]; exact hq2.few, sc_ints _, fun H3 s3 => ?_⟩⟩
      rw [all_isB hq2.b]
      refine ⟨_, s3 _ _ eD, ?_, ?_, sNew (sT s2 s3) hD⟩
      · rw [List.length_map, List.length_replicate]
        have := rv.1
        exact size_ok (by omega)
      · rw [upd_same, List.replicate_succ', List.map_append]
        rfl
    · rintro H2 ⟨eD, s2⟩
      refine ⟨D, _, rfl, SqL.of eD, ?_⟩
      rw [rep_true]
      refine ⟨_, rfl, iteF ?_⟩
      have s02 := sT s1 s2
      refine ⟨Nat.zero_le _, fun l hl => ?_⟩
      have s03 := sT s02 (sN (o := .lst []) hl)
      have nl := sNo s02 hl
      refine ⟨_, rfl, b, rfl, ⟨_, SqT.of (s03 _ _ hb)⟩, for_tup (K := K) (a := b) (xs := us) (fun i σ H' => ∃ (ws : List V) (ts : List QR.T) (x1 x3 : Option V), σ = [some (.ref b), x1, some (.ref l), x3] ∧ H' l = some (.lst ws) ∧ Same H H' ∧ KeptV H' ws ts ∧ keptT bss = ts ++ keptT (bss.drop i) ∧ ws.length ≤ i) ?_ ?_ ?_ ?_⟩
      · exact ⟨[], [], _, _, rfl, upd_same, s03, ⟨rfl, fun i v t hv => by simp at hv⟩, rfl, Nat.le_refl _⟩
      · rintro i σ H' hi ⟨ws, ts, x1, x3, rfl, e, s, _⟩
        exact SqT.of (s _ _ hb)
      · rintro i x σ H' hx ⟨ws, ts, x1, x3, rfl, e, s, kv, ek, lw⟩
        have hi := (List.getElem?_eq_some_iff.mp hx).1
        have hbs : bss[i]? = some (bss[i]'(by rw [← rv.1]; exact hi)) := List.getElem?_eq_getElem _
        obtain ⟨q, rfl, hq⟩ := rv.2 i x _ hx hbs
        have hq2 := hq.same s
        refine ⟨_, rfl, .ref q, unsT (bss[i]'(by rw [← rv.1]; exact hi)), rfl, .inl ⟨q, _, rfl, hq2, rfl⟩, fun u H3 s3 ru => ?_⟩
        have few2 := rv.1
        rcases uns_cases hq.b with eu | ⟨t, eu, ok⟩
        · rw [eu] at ru
          obtain ⟨ua, us', rfl, hua, lu, _⟩ : ∃ a xs, u = .ref a ∧ H3 a = some (.tup xs) ∧ xs.length = ([] : List QR.T).length ∧ _ := ru
          obtain rfl : us' = [] := List.eq_nil_of_length_eq_zero lu
          refine ⟨_, rfl, Nat.zero_le _, fun e0 he0 => ?_⟩
          have s4 := sN (o := .tup []) he0
          refine ⟨ua, e0, rfl, rfl, upd_same, .inl ⟨s4 _ _ hua, _, rfl, iteT ?_⟩⟩
          have s34 := sT s3 s4
          refine ⟨_, rfl, k l ws _ (sT s s34) (s34 _ _ e) ?_⟩
          rw [ek, kept_stop hbs eu, List.append_nil]
          exact kv.tk (.of s34)
        · rw [eu] at ru
          obtain ⟨ua, us', rfl, hua, lu, _, rr⟩ : ∃ a xs, u = .ref a ∧ H3 a = some (.tup xs) ∧ xs.length = [t].length ∧ xs.length ≤ 9000 ∧ ∀ (i : Nat) (x : V) (t' : QR.T), xs[i]? = some x → [t][i]? = some t' → Rep H3 21 t' x := ru
          obtain ⟨v0, rfl⟩ := List.length_eq_one_iff.mp lu
          have r0 := rr 0 v0 t rfl rfl
          refine ⟨_, rfl, Nat.zero_le _, fun e0 he0 => ?_⟩
          have s4 := sN (o := .tup []) he0
          refine ⟨ua, e0, rfl, rfl, upd_same, .inr ⟨21, t, v0, s4 _ _ hua, r0.same s4, (ok.up 1).1, by decide, _, rfl, iteF ?_⟩⟩
          have s34 := sT s3 s4
          have e4 := s34 _ _ e
          refine ⟨_, rfl, .inl ⟨rfl, _, SqL.of e4⟩, _, rfl, l, ua, ws, [v0], rfl, rfl, e4, s4 _ _ hua, Nat.le_of_lt (size_ok (by show _ + 1 ≤ _; omega)), ?_⟩
          have tk : Tk (upd H3 e0 (.tup [])) (upd (upd H3 e0 (.tup [])) l (.lst (ws ++ [v0]))) := fun c ys e' => by
            rw [upd_ne (ne_of e' e4 (fun z => by cases z))]
            exact e'
          refine ⟨ws ++ [v0], ts ++ [t], _, _, rfl, upd_same, sNew (sT s s34) nl, ((kv.tk (.of s34)).tk tk).snoc ((r0.same s4).tk tk), by rw [ek, kept_go hbs eu, List.append_assoc]; rfl, by rw [List.length_append]; show _ + 1 ≤ _; omega⟩
      · rintro σ H' ⟨ws, ts, x1, x3, rfl, e, s, kv, ek, lw⟩
        rw [rv.1, List.drop_length] at ek
        refine ⟨_, rfl, k l ws _ s e ?_⟩
        rw [ek]
        show KeptV H' ws (ts ++ [])
        rw [List.append_nil]
        exact kv
end
end Q

namespace Q
open PySem L2 QR
def spPR : Sp := fun vs H Q _ => ∃ (b : Addr) (us : List V) (bss : List (List Int)), vs = [.ref b] ∧ H b = some (.lst us) ∧ RowsV H us bss ∧ bss.length ≤ 200 ∧ ∀ H', Same H H' → Q (.bl true) H'
theorem kept_len : ∀ bss : List (List Int), (keptT bss).length ≤ bss.length
  | [] => Nat.le_refl _
  | r :: rs => by
    unfold keptT
    split
    · exact Nat.succ_le_succ (kept_len rs)
    · exact Nat.zero_le _
theorem KeptV.rep {H : Hp} {ws : List V} {ts : List QR.T} {z : Addr} (h : KeptV H ws ts) (hz : H z = some (.tup ws)) (few : ws.length ≤ 9000) : Rep H 22 (.tup ts) (.ref z) := ⟨z, ws, rfl, hz, h.1, few, h.2⟩
section
variable {P : Program} {w : World} {K : PySem.W.Frag} {mg : Str → Option Value} {base : Heap}
theorem scLKt : FnScope ["blocks", "found", "row", "told"] ["blocks"] (defScope sLKt) := ⟨rfl, rfl, rfl, by decide +kernel, rfl, by decide +kernel, by decide +kernel⟩
theorem ok_lkt {f fO : Addr} {fd dO : FuncData} (D : Df K mg "_law_kept" sLKt ["blocks"] f fd) (DO : Df K mg "_law_opened" sOpen ["row"] fO dO) (GO : FnOk P w K mg base CX0 25 fO dO ["row"] spOpen) : FnOk P w K mg base CX0 26 f fd ["blocks"] spLKt := by
  refine D.F.ok scLKt (fun vs H Q E h => ?_) (fun cdv A outer s H vs Q E hr h => ?_)
  · obtain ⟨b, us, bss, rfl, _⟩ := h
    rfl
  · obtain ⟨b, us, bss, rfl, hb, rv, few, k⟩ := h
    have nd := scLKt.nd
    have hu := hr.units
    refine ⟨_, pss_cons (ps_set (i := 1) nd rfl (.inl rfl) (pe_lst pa_nil))
      (pss_cons (ps_for PassesOwn.never rfl (pi_list (pv 0)) (pg_name (i := 2) nd rfl (.inl rfl))
        (pss_cons (ps_set (i := 3) nd rfl (.inl rfl) (pe_call GO hr rfl DO.m DO.k DO.b .nil pass0 (pa_cons (pv 2) pa_nil)))
        (pss_cons (ps_if (pt_cmpR (op_eqN hu) (pv 3) (pe_tup pa_nil) (nomark _)) (pss_one (ps_ret (pv 1))) pss_nil)
        (pss_one (ps_expr (pe_bm PySem.F.plainAttrs_list PySem.F.slot_list_append PySem.F.type_list_append mt_append (pv 1) (pa_cons (pe_ix ix_tup (pv 3) pe_int (fun _ _ => rfl)) pa_nil)))))))
      (pss_one (ps_ret (pv 1)))), ?_⟩
    refine ⟨Nat.zero_le _, fun l hl => ?_⟩
    have s03 := sN (o := .lst []) hl
    refine ⟨_, rfl, b, rfl, ⟨_, SqL.of (s03 _ _ hb)⟩, for_list (K := K) (a := b) (xs := us) (fun i σ H' => ∃ (ws : List V) (ts : List QR.T) (x1 x3 : Option V), σ = [some (.ref b), some (.ref l), x1, x3] ∧ H' l = some (.lst ws) ∧ Same H H' ∧ KeptV H' ws ts ∧ keptT bss = ts ++ keptT (bss.drop i) ∧ ws.length ≤ i) ?_ ?_ ?_ ?_⟩
    · exact ⟨[], [], _, _, rfl, upd_same, s03, ⟨rfl, fun i v t hv => by simp at hv⟩, rfl, Nat.le_refl _⟩
    · rintro i σ H' hi ⟨ws, ts, x1, x3, rfl, e, s, _⟩
      exact SqL.of (s _ _ hb)
    · rintro i x σ H' hx ⟨ws, ts, x1, x3, rfl, e, s, kv, ek, lw⟩
      have hi := (List.getElem?_eq_some_iff.mp hx).1
      have hbs : bss[i]? = some (bss[i]'(by rw [← rv.1]; exact hi)) := List.getElem?_eq_getElem _
      obtain ⟨q, rfl, hq⟩ := rv.2 i x _ hx hbs
      have hq2 := hq.same s
      refine ⟨_, rfl, q, _, rfl, hq2, fun u H3 s3 ru => ?_⟩
      have few2 := rv.1
      rcases uns_cases hq.b with eu | ⟨t, eu, ok⟩
      · rw [eu] at ru
        obtain ⟨ua, us', rfl, hua, lu, _⟩ : ∃ a xs, u = .ref a ∧ H3 a = some (.tup xs) ∧ xs.length = ([] : List QR.T).length ∧ _ := ru
        obtain rfl : us' = [] := List.eq_nil_of_length_eq_zero lu
        refine ⟨_, rfl, Nat.zero_le _, fun e0 he0 => ?_⟩
        have s4 := sN (o := .tup []) he0
        refine ⟨ua, e0, rfl, rfl, upd_same, .inl ⟨s4 _ _ hua, _, rfl, iteT ?_⟩⟩
        have s34 := sT s3 s4
        refine ⟨_, rfl, k l ws _ (sT s s34) (s34 _ _ e) ?_⟩
        rw [ek, kept_stop hbs eu, List.append_nil]
        exact kv.tk (.of s34)
      · rw [eu] at ru
        obtain ⟨ua, us', rfl, hua, lu, _, rr⟩ : ∃ a xs, u = .ref a ∧ H3 a = some (.tup xs) ∧ xs.length = [t].length ∧ xs.length ≤ 9000 ∧ ∀ (i : Nat) (x : V) (t' : QR.T), xs[i]? = some x → [t][i]? = some t' → Rep H3 21 t' x := ru
        obtain ⟨v0, rfl⟩ := List.length_eq_one_iff.mp lu
        have r0 := rr 0 v0 t rfl rfl
        refine ⟨_, rfl, Nat.zero_le _, fun e0 he0 => ?_⟩
        have s4 := sN (o := .tup []) he0
        refine ⟨ua, e0, rfl, rfl, upd_same, .inr ⟨21, t, v0, s4 _ _ hua, r0.same s4, (ok.up 1).1, by decide, _, rfl, iteF ?_⟩⟩
        have s34 := sT s3 s4
        have e4 := s34 _ _ e
        refine ⟨_, rfl, .inl ⟨rfl, _, SqL.of e4⟩, _, rfl, ua, _, 0, v0, rfl, rfl, SqT.of (s4 _ _ hua), atI_nat (j := 0) rfl, l, _, _, rfl, rfl, e4, size_ok (by omega), ?_⟩
        have tk : Tk (upd H3 e0 (.tup [])) (upd (upd H3 e0 (.tup [])) l (.lst (ws ++ [v0]))) := fun c ys e' => by
          rw [upd_ne (ne_of e' e4 (fun z => by cases z))]
          exact e'
        refine ⟨ws ++ [v0], ts ++ [t], _, _, rfl, upd_same, sNew (sT s s34) hl, ((kv.tk (.of s34)).tk tk).snoc ((r0.same s4).tk tk), by rw [ek, kept_go hbs eu, List.append_assoc]; rfl, by rw [List.length_append]; show _ + 1 ≤ _; omega⟩
    · rintro σ H' ⟨ws, ts, x1, x3, rfl, e, s, kv, ek, lw⟩
      rw [rv.1, List.drop_length] at ek
      refine ⟨_, rfl, k l ws _ s e ?_⟩
      rw [ek]
      show KeptV H' ws (ts ++ [])
      rw [List.append_nil]
      exact kv
theorem scPR : FnScope ["blocks", "due", "told"] ["blocks"] (defScope sPR) := ⟨rfl, rfl, rfl, by decide +kernel, rfl, by decide +kernel, by decide +kernel⟩
theorem ok_pr {f fK fL fS : Addr} {fd dK dL dS : FuncData} (D : Df K mg "_law_parcels_right" sPR ["blocks"] f fd) (B : Bts mg) (DK : Df K mg "kept_parcels" sKP ["blocks"] fK dK) (GK1 : FnOk P w K mg base CX0 48 fK dK ["blocks"] (spKP false)) (GK2 : FnOk P w K mg base CX0 48 fK dK ["blocks"] (spKP true)) (DL : Df K mg "_law_kept" sLKt ["blocks"] fL dL) (GL : FnOk P w K mg base CX0 26 fL dL ["blocks"] spLKt) (DS : Df K mg "_law_same" sSame ["one", "other"] fS dS) : FnOk P w K mg base CX0 49 f fd ["blocks"] spPR := by
  have GS : FnOk P w K mg base CX0 23 fS dS ["one", "other"] (spSame 22) := ok_same DS B 22
  refine D.F.ok scPR (fun vs H Q E h => ?_) (fun cdv A outer s H vs Q E hr h => ?_)
  · obtain ⟨b, us, bss, rfl, _⟩ := h
    rfl
  · obtain ⟨b, us, bss, rfl, hb, rv, few, k⟩ := h
    have nd := scPR.nd
    have hr23 : Room 23 _ := hr.mono (by decide)
    have hr26 : Room 26 _ := hr.mono (by decide)
    refine ⟨_, pss_cons (ps_set (i := 1) nd rfl (.inl rfl) (pe_call GL hr26 rfl DL.m DL.k DL.b .nil pass0 (pa_cons (pv 0) pa_nil)))
      (pss_cons (ps_for PassesOwn.never rfl (pi_list (pe_lst (pa_cons (pe_call GK1 hr rfl DK.m DK.k DK.b .nil pass0 (pa_cons (pv 0) pa_nil)) (pa_cons (pe_call GK2 hr rfl DK.m DK.k DK.b .nil pass0 (pa_cons (pe_callTy call_tuple_of (by rfl) B.tuple PyProof.Rows.boot_tuple (pa_cons (pv 0) pa_nil)) pa_nil)) pa_nil)))) (pg_name (i := 2) nd rfl (.inl rfl))
        (pss_one (ps_if (PW.pt (pw_or (pt_not (pt_val (pe_callB call_isi (by rfl) B.isinstance PyProof.Rows.boot_isinstance (pa_cons (pv 2) (pa_cons (pe_bltn (v := .ty "list") rfl B.list PyProof.Rows.boot_list rfl) pa_nil)))))
          (pw_or1 (pt_not (pt_val (pe_call GS hr23 rfl DS.m DS.k DS.b .nil pass0 (pa_cons (pe_callTy call_tuple_of (by rfl) B.tuple PyProof.Rows.boot_tuple (pa_cons (pv 2) pa_nil)) (pa_cons (pe_callTy call_tuple_of (by rfl) B.tuple PyProof.Rows.boot_tuple (pa_cons (pv 1) pa_nil)) pa_nil)))))))) pss_never pss_nil)))
      (pss_one (ps_ret pe_bl))), ?_⟩
    have kl := kept_len bss
    refine ⟨_, rfl, b, us, bss, rfl, hb, rv, few, fun z ws H1 s1 hz kv => ?_⟩
    refine ⟨_, rfl, b, us, bss, rfl, s1 _ _ hb, rv.tk (.of s1), few, fun z1 w1 H2 s2 hz1 kv1 => ?_⟩
    have s02 := sT s1 s2
    refine ⟨_, rfl, b, _, rfl, .inl ⟨SqL.of (s02 _ _ hb), fun tq htq => ?_⟩⟩
    have s3 := sN (o := .tup us) htq
    have s03 := sT s02 s3
    refine ⟨tq, us, bss, rfl, upd_same, rv.tk (.of s03), few, fun z2 w2 H4 s4 hz2 kv2 => ?_⟩
    have s24 := sT s3 s4
    refine ⟨(by show 2 ≤ sizeLine; decide), fun lq hlq => ?_⟩
    have s5 := sN (o := .lst [.ref z1, .ref z2]) hlq
    have e5 : (upd H4 lq (.lst [.ref z1, .ref z2])) lq = some (.lst [.ref z1, .ref z2]) := upd_same
    have S5 := sT s02 (sT s24 s5)
    have all : ∀ x ∈ ([.ref z1, .ref z2] : List V), ∃ (y : Addr) (wy : List V), x = .ref y ∧ (upd H4 lq (.lst [.ref z1, .ref z2])) y = some (.lst wy) ∧ KeptV (upd H4 lq (.lst [.ref z1, .ref z2])) wy (keptT bss) := by
      intro x hx
      simp only [List.mem_cons, List.not_mem_nil, or_false] at hx
      rcases hx with rfl | rfl
      · exact ⟨z1, w1, rfl, (sT s24 s5) _ _ hz1, kv1.tk (.of (sT s24 s5))⟩
      · exact ⟨z2, w2, rfl, s5 _ _ hz2, kv2.tk (.of s5)⟩
    have hzD := (sT s2 (sT s24 s5)) _ _ hz
    have kvD := kv.tk (.of (sT s2 (sT s24 s5)))
    refine ⟨lq, rfl, ⟨_, SqL.of e5⟩, for_list (K := K) (a := lq) (xs := [.ref z1, .ref z2]) (fun i σ H' => ∃ x2, σ = [some (.ref b), some (.ref z), x2] ∧ Same (upd H4 lq (.lst [.ref z1, .ref z2])) H') ?_ ?_ ?_ ?_⟩
    · exact ⟨_, rfl, sR⟩
    · rintro i σ H' hi ⟨x2, rfl, s⟩
      exact SqL.of (s _ _ e5)
    · rintro i x σ H' hx ⟨x2, rfl, s⟩
      obtain ⟨y, wy, rfl, hy, ky⟩ := all x (List.mem_of_getElem? hx)
      have hy' := s _ _ hy
      refine ⟨_, rfl, .ref y, .ty "list", .type "list", .type "list", true, rfl, .ty _, .base (.lst hy'), kit_ty (by decide +kernel), _, rfl, iteF ?_⟩
      refine ⟨_, rfl, y, _, rfl, .inl ⟨SqL.of hy', fun t1 ht1 => ?_⟩⟩
      have a1 := sN (o := .tup wy) ht1
      refine ⟨_, rfl, z, _, rfl, .inl ⟨SqL.of (a1 _ _ (s _ _ hzD)), fun t2 ht2 => ?_⟩⟩
      have a2 := sN (o := .tup ws) ht2
      refine ⟨.tup (keptT bss), .ref t1, .ref t2, rfl, ((ky.tk (.of (sT s (sT a1 a2)))).rep (a2 _ _ upd_same) (by rw [ky.1]; omega)), ((kvD.tk (.of (sT s (sT a1 a2)))).rep upd_same (by rw [kvD.1]; omega)), fun H6 s6 => ⟨_, rfl, iteF ?_⟩⟩
      exact ⟨_, rfl, sT s (sT a1 (sT a2 s6))⟩
    · rintro σ H' ⟨x2, rfl, s⟩
      exact k H' (sT S5 s)
end
end Q

namespace Q
open PySem L2 QR
def spLBk : Sp := fun vs H Q _ => ∃ (p l : Addr), vs = [.ref p] ∧ PoolAt H p l ∧ ∀ q bs H', PoolAt H' p l → Kp p l H H' → RowAt H' q bs → Q (.ref q) H'
section
variable {P : Program} {w : World} {K : PySem.W.Frag} {mg : Str → Option Value} {base : Heap}
theorem scLBk : FnScope ["pool", "kind", "row", "at"] ["pool"] (defScope sLBk) := ⟨rfl, rfl, rfl, by decide +kernel, rfl, by decide +kernel, by decide +kernel⟩
theorem ok_lbk {f fD fN fP fB fW fS fM : Addr} {fd dD dN dP dB dW dS dM : FuncData} (D : Df K mg "_law_block" sLBk ["pool"] f fd) (B : Bts mg) (DD : Df K mg "_law_draw" sDraw ["pool", "many"] fD dD) (DN : Df K mg "_law_number" sLNum ["pool"] fN dN) (DP : Df K mg "_law_parcel" sLPar ["pool", "deep"] fP dP) (DB : Df K mg "_law_bytes" sLB ["parcel"] fB dB) (DW : Df K mg "_law_whole" sLW ["number"] fW dW)
    (DS : Df K mg "_law_sealed" sLSl ["row"] fS dS) (DM : Df K mg "_law_mark" sLMk ["row"] fM dM) : FnOk P w K mg base CX0 6 f fd ["pool"] spLBk := by
  have GD : FnOk P w K mg base CX0 1 fD dD ["pool", "many"] spDraw := ok_draw DD B
  have GP : FnOk P w K mg base CX0 5 fP dP ["pool", "deep"] (spLPar 2) := ok_lpar DP B DD DN 2
  have GB : FnOk P w K mg base CX0 4 fB dB ["parcel"] (spLB 2) := ok_lb DB B DW 2
  have GS : FnOk P w K mg base CX0 2 fS dS ["row"] spLSl := ok_lsl DS B DM
  refine D.F.ok scLBk (fun vs H Q E h => ?_) (fun cdv A outer s H vs Q E hr h => ?_)
  · obtain ⟨p, l, rfl, _⟩ := h
    rfl
  · obtain ⟨p, l, rfl, g0, k⟩ := h
    have nd := scLBk.nd
    have hr1 : Room 1 _ := hr.mono (by decide)
    have hr2 : Room 2 _ := hr.mono (by decide)
    have hr4 : Room 4 _ := hr.mono (by decide)
    refine ⟨_, pss_cons (ps_set (i := 1) nd rfl (.inl rfl) (pe_call GD hr1 rfl DD.m DD.k DD.b .nil pass0 (pa_cons (pv 0) (pa_cons pe_int pa_nil))))
      (pss_cons (ps_set (i := 2) nd rfl (.inl rfl) (pe_call GS hr2 rfl DS.m DS.k DS.b .nil pass0 (pa_cons (pe_callTy call_tuple_of (by rfl) B.tuple PyProof.Rows.boot_tuple (pa_cons (pe_call GB hr4 rfl DB.m DB.k DB.b .nil pass0 (pa_cons (pe_call GP hr rfl DP.m DP.k DP.b .nil pass0 (pa_cons (pv 0) (pa_cons pe_int pa_nil))) pa_nil)) pa_nil)) pa_nil)))
      (pss_cons (ps_if (pt_cmpR op_eq (pv 1) pe_int (nomark _)) (pss_one (ps_ret (pe_slice sl_X (pv 2) po_none (po_some (pe_call GD hr1 rfl DD.m DD.k DD.b .nil pass0 (pa_cons (pv 0) (pa_cons (pe_op op_add (pe_callB call_len_seq (by rfl) B.len PySem.boot_len (pa_cons (pv 2) pa_nil)) pe_int) pa_nil))))))) pss_nil)
      (pss_one (ps_ret (pe_ifExp (pt_cmpR op_eq (pv 1) pe_int (nomark _)) (pe_callTy call_tuple_of (by rfl) B.tuple PyProof.Rows.boot_tuple (pa_cons (pe_lc (own := [("at", 3)]) (g := gName 3) (tt := tYes) rfl nd (pi_range1 rfl B.range (pa_cons (pe_call GD hr1 rfl DD.m DD.k DD.b .nil pass0 (pa_cons (pv 0) (pa_cons pe_int pa_nil))) pa_nil)) (blkOk_by (N := ["pool", "kind", "row", "at"]) (sc := defScope sLBk) (by decide +kernel)) (fun _ _ _ _ _ => pg_name (i := 3) nd rfl (.inl rfl)) (fun _ _ _ _ _ => pts_nil)
        (fun _ _ _ _ _ => pe_call GD hr1 rfl DD.m DD.k DD.b .nil pass0 (pa_cons (pv 0) (pa_cons pe_int pa_nil)))) pa_nil)) (pv 2)))))), ?_⟩
    refine ⟨_, rfl, p, l, 6, rfl, g0, by decide, by decide, fun kd H1 _ _ g1 k1 => ?_⟩
    refine ⟨_, rfl, p, l, rfl, g1, fun t v H2 g2 k2 rp ok bd => ?_⟩
    have bd : (enc 2 t).length ≤ 630 := bd
    refine ⟨t, v, rfl, rp, ok, by omega, fun z0 H3 s3 hz0 => ?_⟩
    refine ⟨z0, _, rfl, .inl ⟨SqL.of hz0, fun r hr0 => ?_⟩⟩
    have s4 := sT s3 (sN (o := .tup ((enc 2 t).map V.int)) hr0)
    refine ⟨r, _, rfl, upd_same, by omega, fun z H5 s5 hz => ?_⟩
    have hz5 : RowAt H5 z (enc 2 t ++ sealL (enc 2 t)) := ⟨hz, fun b hb => (List.mem_append.mp hb).elim (enc_b ok b) (sealL_b b), by rw [List.length_append]; show _ + 4 ≤ _; omega⟩
    have l5 : (enc 2 t ++ sealL (enc 2 t)).length ≤ 634 := by rw [List.length_append]; show _ + 4 ≤ _; omega
    have g5 := g2.same (sT s4 s5)
    have k05 : Kp p l H H5 := (k1.tr k2).st (sT s4 s5)
    clear k1 k2 s4 s5 rp g2 g1 g0
    revert hz5 l5
    generalize enc 2 t ++ sealL (enc 2 t) = X
    intro hz5 l5
    refine ⟨_, rfl, rfl, _, rfl, ite2 (fun _ => ?_) (fun _ => ?_)⟩
    · refine ⟨_, rfl, _, rfl, _, rfl, z, _, rfl, .inr (SqT.of hz5.at_), _, _, rfl, rfl, p, l, _, rfl, g5, by rw [List.length_map]; omega, by rw [List.length_map]; omega, fun d H6 d0 d1 g6 k6 => ?_⟩
      have hz6 := hz5.tk (g5.tk k6)
      refine ⟨_, rfl, z, _, rfl, hz6.at_, fun y H7 s7 hy => ?_⟩
      obtain ⟨cs, e1, e2, e3⟩ := cut_ints X none (some d)
      rw [e1] at hy
      have := hz6.few
      exact k y cs H7 (g6.same s7) ((k05.tr k6).st s7) ⟨hy, fun b hb => hz6.b b (e2 b hb), by omega⟩
    refine ⟨_, rfl, rfl, _, rfl, ite2 (fun _ => ?_) (fun _ => ?_)⟩
    · refine ⟨_, rfl, p, l, 7, rfl, g5, by decide, by decide, fun tn H6 t0 t1 g6 k6 => ?_⟩
      refine ⟨tn, rfl, by omega, by omega, fun D hD => ?_⟩
      obtain ⟨nD1, nD2⟩ := g6.none hD
      have k06 := k05.tr k6
      refine lc_range (lo := 0) (n := tn.toNat) (fun i H' => ∃ cs : List Int, H' D = some (.lst (cs.map V.int)) ∧ cs.length = i ∧ (∀ b ∈ cs, 0 ≤ b ∧ b < 256) ∧ PoolAt H' p l ∧ Kp p l H H') ?_ ?_ ?_
      · exact ⟨[], upd_same, rfl, fun b hb => by simp at hb, g6.same (sN hD), k06.st (sN hD)⟩
      · rintro i H' hi ⟨cs, eD, lc, hb, g, kk⟩
        refine ⟨rfl, _, rfl, p, l, 256, rfl, g, by decide, by decide, fun d H8 d0 d1 g8 k8 => ?_⟩
        have eD8 := k8 _ _ eD nD1 nD2
        refine ⟨_, eD8, by rw [List.length_map, lc]; exact size_ok (by omega), cs ++ [d], by rw [upd_same, List.map_append]; rfl, by rw [List.length_append, lc]; rfl, fun b hb' => ?_, g8.upd nD1 nD2, fun b o e n1 n2 => ?_⟩
        · rcases List.mem_append.mp hb' with hb' | hb'
          · exact hb b hb'
          · rw [List.mem_singleton.mp hb']
            exact ⟨d0, d1⟩
        · have h1 := k06 b o e n1 n2
          rw [upd_ne (ne_of_none h1 hD)]
          exact k8 b o (kk b o e n1 n2) n1 n2
      · rintro H' ⟨cs, eD, lc, hb, g, kk⟩
        refine ⟨D, _, rfl, .inl ⟨SqL.of eD, fun y hy => ?_⟩⟩
        exact k y cs _ (g.same (sN hy)) (kk.st (sN hy)) ⟨upd_same, hb, by omega⟩
    · exact ⟨_, rfl, k z X H5 g5 k05 hz5⟩
end
end Q

namespace Q
open PySem L2 QR
-- two lists of rows, != 
theorem dp_rows {K : PySem.W.Frag} {H : Hp} : ∀ {vs : List V} {bss : List (List Int)}, RowsV H vs bss → DpAll K H vs (bss.map fun bs => PyData.tuple (bs.map PyData.int))
  | [], [], _ => .nil
  | [], _ :: _, h => by simp [RowsV] at h
  | _ :: _, [], h => by simp [RowsV] at h
  | v :: vs, bs :: bss, h => by
    obtain ⟨q, rfl, r⟩ := h.2 0 v bs rfl rfl
    exact .cons (.tup (SqT.of r.at_) (dp_ints bs)) (dp_rows ⟨by simpa using h.1, fun i x cs hx hc => h.2 (i + 1) x cs hx hc⟩)
theorem eqv_rows : ∀ bss : List (List Int), PyData.eqvAll (bss.map fun bs => PyData.tuple (bs.map PyData.int)) (bss.map fun bs => PyData.tuple (bs.map PyData.int)) = true
  | [] => by simp [PyData.eqvAll]
  | bs :: bss => by
    have ih := eqv_rows bss
    simp only [List.map_cons, PyData.eqvAll, PyData.eqv, eqv_ints, ih]
    rfl
theorem lay_rows : ∀ bss : List (List Int), PyData.canLayAll0 (bss.map fun bs => PyData.tuple (bs.map PyData.int)) = true
  | [] => by simp [PyData.canLayAll0]
  | bs :: bss => by
    have ih := lay_rows bss
    simp only [List.map_cons, PyData.canLayAll0, PyData.canLay0, lay_ints, ih, Bool.and_self]
theorem depth_rows : ∀ bss : List (List Int), PyData.depthAll (bss.map fun bs => PyData.tuple (bs.map PyData.int)) ≤ 1
  | [] => by simp [PyData.depthAll]
  | bs :: bss => by
    have ih := depth_rows bss
    simp only [List.map_cons, PyData.depthAll, PyData.depth, depth_ints]
    omega
theorem shaped_rows (bss : List (List Int)) : SeqAt.shaped (.list (bss.map fun bs => PyData.tuple (bs.map PyData.int))) = true := by
  unfold SeqAt.shaped
  have h := depth_rows bss
  refine Bool.and_eq_true_iff.mpr ⟨?_, decide_eq_true ?_⟩
  · simp only [PyData.canLay0, lay_rows]
  · simp only [PyData.depth]
    omega
/-- blocks != blocks -/
theorem op_neR {X : Cx} (hu : X.A.units + 64 < cLine) : OpR X (compareOp .NotEq) (fun x y H Q => ∃ (a b : Addr) (us vs : List V) (bss : List (List Int)), x = .ref a ∧ y = .ref b ∧ H a = some (.lst us) ∧ H b = some (.lst vs) ∧ RowsV H us bss ∧ RowsV H vs bss ∧ Q (.bl false) H) := by
  intro pins s σ H x y v u Q I rx ry h
  obtain ⟨a, b, us, vs, bss, rfl, rfl, ha, hb, r1, r2, k⟩ := h
  refine op_neD hu pins s σ H _ _ _ u Q I rx ry ⟨_, _, .lst (SqL.of ha) (dp_rows r1), .lst (SqL.of hb) (dp_rows r2), shaped_rows bss, shaped_rows bss, ?_⟩
  simp only [PyData.eqv, eqv_rows]
  exact k
/-- a disk and the law's own list of the same blocks, beside the pool -/
structure Led (CD : Addr) (H : Hp) (p l x dx ra bl : Addr) (bss : List (List Int)) (m : Nat) : Prop where
  g : PoolAt H p l
  d : DiskX CD H x dx ra bss m
  b : RowsAt H bl bss
  n1 : ra ≠ bl
  n2 : ra ≠ p
  n3 : ra ≠ l
  n4 : bl ≠ p
  n5 : bl ≠ l
theorem Led.same {CD : Addr} {H H' : Hp} {p l x dx ra bl : Addr} {bss : List (List Int)} {m : Nat} (h : Led CD H p l x dx ra bl bss m) (s : Same H H') : Led CD H' p l x dx ra bl bss m := ⟨h.g.same s, h.d.same s, h.b.same s, h.n1, h.n2, h.n3, h.n4, h.n5⟩
/-- all stands but these five -/
def B5 (p l x ra bl : Addr) (H H' : Hp) : Prop := ∀ c o, H c = some o → c ≠ p → c ≠ l → c ≠ x → c ≠ ra → c ≠ bl → H' c = some o
def spLed (CD : Addr) : Sp := fun vs H Q _ => ∃ (p l x dx ra bl : Addr) (bss : List (List Int)) (m n : Nat), vs = [.ref p, .ref x, .ref bl, .int (m : Int), .int (n : Int)] ∧ Led CD H p l x dx ra bl bss m ∧ bss.length + n ≤ 200 ∧
  ∀ ra' bss' m' H', Led CD H' p l x dx ra' bl bss' m' → bss'.length ≤ bss.length + n → (ra' = ra ∨ H ra' = none) → B5 p l x ra bl H H' → Q (.int (m' : Int)) H'
theorem B5.rf {p l x ra bl : Addr} {H : Hp} : B5 p l x ra bl H H := fun _ _ e _ _ _ _ _ => e
/-- one step more; what it may change is the disk's list as it is then -/
theorem B5.step {p l x ra ra1 bl : Addr} {H H1 H2 : Hp} (b : B5 p l x ra bl H H1) (n : ra1 = ra ∨ H ra1 = none) (g : B5 p l x ra1 bl H1 H2) : B5 p l x ra bl H H2 := fun c o e n1 n2 n3 n4 n5 => by
  refine g c o (b c o e n1 n2 n3 n4 n5) n1 n2 n3 ?_ n5
  rcases n with rfl | n
  · exact n4
  · exact ne_of_none e n
theorem B5.kp {p l x ra bl : Addr} {H H1 : Hp} (k : Kp p l H H1) : B5 p l x ra bl H H1 := fun c o e n1 n2 _ _ _ => k c o e n1 n2
theorem B5.same {p l x ra bl : Addr} {H H1 : Hp} (s : Same H H1) : B5 p l x ra bl H H1 := fun c o e _ _ _ _ _ => s c o e
theorem B5.bu {p l x ra bl : Addr} {H H1 : Hp} (k : Bu x H H1) : B5 p l x ra bl H H1 := fun c o e _ _ n _ _ => k c o e n
theorem B5.bra {p l x ra bl : Addr} {H H1 : Hp} (k : Bu ra H H1) : B5 p l x ra bl H H1 := fun c o e _ _ _ n _ => k c o e n
theorem B5.bbl {p l x ra bl : Addr} {H H1 : Hp} (k : Bu bl H H1) : B5 p l x ra bl H H1 := fun c o e _ _ _ _ n => k c o e n
theorem B5.b2 {p l x ra bl : Addr} {H H1 : Hp} (k : B2 x ra H H1) : B5 p l x ra bl H H1 := fun c o e _ _ n m _ => k c o e n m
theorem B5.tr {p l x ra bl : Addr} {H H1 H2 : Hp} (b : B5 p l x ra bl H H1) (g : B5 p l x ra bl H1 H2) : B5 p l x ra bl H H2 := b.step (.inl rfl) g
theorem Led.nx {CD : Addr} {H : Hp} {p l x dx ra bl : Addr} {bss : List (List Int)} {m : Nat} (h : Led CD H p l x dx ra bl bss m) : x ≠ p ∧ x ≠ l ∧ x ≠ bl := by
  obtain ⟨seed, cnt, cs, g⟩ := h.g
  obtain ⟨vs, hv, _⟩ := h.b
  refine ⟨fun e => ?_, fun e => ?_, fun e => ?_⟩
  · have := g.at_
    rw [← e, h.d.at_] at this
    cases this
  · have := g.lst
    rw [← e, h.d.at_] at this
    cases this
  · rw [← e, h.d.at_] at hv
    cases hv
/-- the pool is drawn from -/
theorem Led.kp {CD : Addr} {H H' : Hp} {p l x dx ra bl : Addr} {bss : List (List Int)} {m : Nat} (h : Led CD H p l x dx ra bl bss m) (g : PoolAt H' p l) (k : Kp p l H H') : Led CD H' p l x dx ra bl bss m := by
  have tk := h.g.tk k
  obtain ⟨n1, n2, _⟩ := h.nx
  obtain ⟨vs, hv, rv⟩ := h.d.rows
  obtain ⟨us, hu, ru⟩ := h.b
  exact ⟨g, ⟨k _ _ h.d.at_ n1 n2, ⟨vs, k _ _ hv h.n2 h.n3, rv.tk tk⟩, h.d.le, h.d.few⟩, ⟨us, k _ _ hu h.n4 h.n5, ru.tk tk⟩, h.n1, h.n2, h.n3, h.n4, h.n5⟩
/-- the disk's list has been written, then the law's own -/
theorem Led.wr {CD : Addr} {H H3 : Hp} {p l x dx ra bl : Addr} {bss cs : List (List Int)} {m k : Nat} {us ws : List V} (h : Led CD H p l x dx ra bl bss m) (u : Bu ra H H3) (d : DiskX CD H3 x dx ra cs k) (hu : H bl = some (.lst us)) (r : RowsV H ws cs) :
    Led CD (upd H3 bl (.lst ws)) p l x dx ra bl cs k ∧ B5 p l x ra bl H (upd H3 bl (.lst ws)) := by
  obtain ⟨nx1, nx2, nx3⟩ := h.nx
  obtain ⟨seed, cnt, ns, g⟩ := h.g
  obtain ⟨vs, hv, rv⟩ := h.d.rows
  have hu3 := u _ _ hu h.n1.symm
  have tk1 : Tk H H3 := Tk.bu u hv
  have tk2 : Tk H3 (upd H3 bl (.lst ws)) := fun c ys e => by
    rw [upd_ne (ne_of e hu3 (fun z => by cases z))]
    exact e
  obtain ⟨v3, hv3, r3⟩ := d.rows
  refine ⟨⟨⟨seed, cnt, ns, by rw [upd_ne h.n4.symm]; exact u _ _ g.at_ h.n2.symm, by rw [upd_ne h.n5.symm]; exact u _ _ g.lst h.n3.symm, g.ne, g.s0, g.s1⟩, ⟨by rw [upd_ne nx3]; exact d.at_, ⟨v3, by rw [upd_ne h.n1]; exact hv3, r3.tk tk2⟩, d.le, d.few⟩, ⟨ws, upd_same, (r.tk tk1).tk tk2⟩, h.n1, h.n2, h.n3, h.n4, h.n5⟩, fun c o e n1 n2 n3 n4 n5 => ?_⟩
  rw [upd_ne n5]
  exact u c o e n4
end Q

namespace Q
open PySem L2 QR
theorem log_nat {p : Nat} (h : p ≤ 9000) : ((p : Int)).natAbs.log2 < 1920 := by
  have e : ((p : Int)).natAbs = p := rfl
  rw [e]
  refine Nat.lt_of_le_of_lt ?_ (show 14 < 1920 by decide)
  rcases Nat.eq_zero_or_pos p with z | z
  · rw [z]
    decide
  · have : p.log2 < 15 := (Nat.log2_lt (by omega)).mpr (Nat.lt_of_le_of_lt h (by decide))
    omega
/-- the disk has been changed, then the law's own list -/
theorem Led.wg {CD : Addr} {H H3 H5 : Hp} {p l x dx ra rb bl : Addr} {bss cs : List (List Int)} {m k : Nat} {us ws : List V} (h : Led CD H p l x dx ra bl bss m) (u : B2 x ra H H3) (s : Same H3 H5) (d : DiskX CD H3 x dx rb cs k) (nb : rb = ra ∨ H rb = none) (hu : H bl = some (.lst us)) (r : RowsV H5 ws cs) :
    Led CD (upd H5 bl (.lst ws)) p l x dx rb bl cs k ∧ B5 p l x ra bl H (upd H5 bl (.lst ws)) := by
  obtain ⟨nx1, nx2, nx3⟩ := h.nx
  obtain ⟨seed, cnt, ns, g⟩ := h.g
  have hu5 := s _ _ (u _ _ hu nx3.symm h.n1.symm)
  have tk2 : Tk H5 (upd H5 bl (.lst ws)) := fun c ys e => by
    rw [upd_ne (ne_of e hu5 (fun z => by cases z))]
    exact e
  have d5 := d.same s
  obtain ⟨v3, hv3, r3⟩ := d5.rows
  have m1 : rb ≠ bl := nb.elim (fun e => by rw [e]; exact h.n1) fun n => (ne_of_none hu n).symm
  have m2 : rb ≠ p := nb.elim (fun e => by rw [e]; exact h.n2) fun n => (ne_of_none g.at_ n).symm
  have m3 : rb ≠ l := nb.elim (fun e => by rw [e]; exact h.n3) fun n => (ne_of_none g.lst n).symm
  refine ⟨⟨⟨seed, cnt, ns, by rw [upd_ne h.n4.symm]; exact s _ _ (u _ _ g.at_ nx1.symm h.n2.symm), by rw [upd_ne h.n5.symm]; exact s _ _ (u _ _ g.lst nx2.symm h.n3.symm), g.ne, g.s0, g.s1⟩, ⟨by rw [upd_ne nx3]; exact d5.at_, ⟨v3, by rw [upd_ne m1]; exact hv3, r3.tk tk2⟩, d.le, d.few⟩, ⟨ws, upd_same, r.tk tk2⟩, m1, m2, m3, h.n4, h.n5⟩, fun c o e n1 n2 n3 n4 n5 => ?_⟩
  rw [upd_ne n5]
  exact s _ _ (u c o e n3 n4)
/-- the disk alone -/
theorem Led.wx {CD : Addr} {H H3 : Hp} {p l x dx ra bl : Addr} {bss : List (List Int)} {m k : Nat} (h : Led CD H p l x dx ra bl bss m) (u : Bu x H H3) (d : DiskX CD H3 x dx ra bss k) : Led CD H3 p l x dx ra bl bss k := by
  obtain ⟨nx1, nx2, nx3⟩ := h.nx
  obtain ⟨seed, cnt, ns, g⟩ := h.g
  obtain ⟨us, hu, r⟩ := h.b
  have tk : Tk H H3 := fun c ys e => u c _ e (ne_of e h.d.at_ (fun z => by cases z))
  exact ⟨⟨seed, cnt, ns, u _ _ g.at_ nx1.symm, u _ _ g.lst nx2.symm, g.ne, g.s0, g.s1⟩, d, ⟨us, u _ _ hu nx3.symm, r.tk tk⟩, h.n1, h.n2, h.n3, h.n4, h.n5⟩
abbrev sLed : Stmt := top 59
section
variable {P : Program} {w : World} {K : PySem.W.Frag} {mg : Str → Option Value} {base : Heap}
theorem scLed : FnScope ["pool", "disk", "blocks", "synced", "many", "turn", "kind", "row", "kept", "number", "length"] ["pool", "disk", "blocks", "synced", "many"] (defScope sLed) := ⟨rfl, rfl, rfl, by decide +kernel, rfl, by decide +kernel, by decide +kernel⟩
theorem ok_led {CD f fD fI fB fR fC fN fP : Addr} {fd dD dI dB dR dC dN dP : FuncData} (D : Df K mg "_law_led" sLed ["pool", "disk", "blocks", "synced", "many"] f fd) (B : Bts mg) (T : DTxt K mg CD) (M : DDefs K CD) (DD : Df K mg "_law_draw" sDraw ["pool", "many"] fD dD) (DI : Df K mg "_law_is" sIs ["told", "due"] fI dI) (DBk : Df K mg "_law_block" sLBk ["pool"] fB dB) (GBk : FnOk P w K mg base CX0 6 fB dB ["pool"] spLBk)
    (DR : Df K mg "is_row" sIsRow ["thing"] fR dR) (GR : FnOk P w K mg base CX0 3 fR dR ["thing"] (spIsRow K)) (DC : Df K mg "is_cut" sCut ["waiting", "thing"] fC dC) (DN : Df K mg "is_number_below" sNum ["limit", "thing"] fN dN) (DP : Df K mg "is_plain_int" sPlain ["thing"] fP dP) : FnOk P w K mg base CX0 7 f fd ["pool", "disk", "blocks", "synced", "many"] (spLed CD) := by
  have GD : FnOk P w K mg base CX0 1 fD dD ["pool", "many"] spDraw := ok_draw DD B
  have GI : FnOk P w K mg base CX0 1 fI dI ["told", "due"] spIs := ok_is DI B
  have GW : FnOk P w K mg base CX0 4 M.fW M.dW ["self", "row"] (spDW CD) := ok_dw T M B DR GR
  have GSy : FnOk P w K mg base CX0 1 M.fS M.dS ["self"] (spDS CD) := ok_ds T M B
  have GC : FnOk P w K mg base CX0 4 M.fC M.dC ["self", "kept"] (spDC CD) := ok_dc T M B DC DN DP
  have GDr : FnOk P w K mg base CX0 3 M.fD M.dD ["self", "number"] (spDD CD) := ok_dd T M B DN DP
  have GB : FnOk P w K mg base CX0 1 M.fB M.dB ["self"] (spDB CD) := ok_db T M B
  have GY : FnOk P w K mg base CX0 1 M.fY M.dY ["self"] (spDY CD) := ok_dy T M
  refine D.F.ok scLed (fun vs H Q E h => ?_) (fun cdv A outer s H vs Q E hr h => ?_)
  · obtain ⟨p, l, x, dx, ra, bl, bss, m, n, rfl, _⟩ := h
    rfl
  · obtain ⟨p, l, x, dx, ra, bl, bss, m, n, rfl, L0, few, k⟩ := h
    have nd := scLed.nd
    have hu := hr.units
    have hr1 : Room 1 _ := hr.mono (by decide)
    have hr3 : Room 3 _ := hr.mono (by decide)
    have hr4 : Room 4 _ := hr.mono (by decide)
    have hr6 : Room 6 _ := hr.mono (by decide)
    refine ⟨_, (pss_cons (ps_for PassesOwn.never rfl (pi_range1 rfl B.range (pa_cons (pv 4) pa_nil)) (pg_name (i := 5) nd rfl (.inl rfl)) (pss_cons (ps_set (i := 6) nd rfl (.inl rfl) (pe_call GD hr1 rfl DD.m DD.k DD.b .nil pass0 (pa_cons (pv 0) (pa_cons pe_int pa_nil))))
        (pss_cons (ps_if (pt_cmpR op_lt (pv 6) pe_int (nomark _)) (pss_cons (ps_set (i := 7) nd rfl (.inl rfl) (pe_call GBk hr6 rfl DBk.m DBk.k DBk.b .nil pass0 (pa_cons (pv 0) pa_nil)))
        (pss_cons (ps_if (pt_not (pt_val (pe_call GI hr1 rfl DI.m DI.k DI.b .nil pass0 (pa_cons (pe_meth (pv 1) T.cl M.mW GW hr4 M.bW .nil pass0 (pa_cons (pv 7) pa_nil)) (pa_cons (pe_callB call_len_seq (by rfl) B.len PySem.boot_len (pa_cons (pv 2) pa_nil)) pa_nil))))) pss_never pss_nil)
        (pss_one (ps_expr (pe_bm PySem.F.plainAttrs_list PySem.F.slot_list_append PySem.F.type_list_append mt_append (pv 2) (pa_cons (pv 7) pa_nil)))))) (pss_one (ps_if (pt_cmpR op_eq (pv 6) pe_int (nomark _)) (pss_cons (ps_if (pt_not (pt_val (pe_call GI hr1 rfl DI.m DI.k DI.b .nil pass0 (pa_cons (pe_meth0 (pv 1) T.cl M.mS GSy hr1 M.bS .nil pass0) (pa_cons (pe_op op_sub (pe_callB call_len_seq (by rfl) B.len PySem.boot_len (pa_cons (pv 2) pa_nil)) (pv 3)) pa_nil))))) pss_never pss_nil)
        (pss_one (ps_set (i := 3) nd rfl (.inl rfl) (pe_callB call_len_seq (by rfl) B.len PySem.boot_len (pa_cons (pv 2) pa_nil))))) (pss_one (ps_if (pt_cmpR op_eq (pv 6) pe_int (nomark _)) (pss_cons (ps_set (i := 8) nd rfl (.inl rfl) (pe_callTy call_tuple_of (by rfl) B.tuple PyProof.Rows.boot_tuple (pa_cons (pe_lc (own := [("row", 7)]) (g := gName 7) (tt := tYes) rfl nd (pi_list (pe_slice sl_list (pv 2) (po_some (pv 3)) po_none)) (blkOk_by (N := ["pool", "disk", "blocks", "synced", "many", "turn", "kind", "row", "kept", "number", "length"]) (sc := defScope sLed) (by decide +kernel)) (fun _ _ _ _ _ => pg_name (i := 7) nd rfl (.inl rfl)) (fun _ _ _ _ _ => pts_nil) (fun _ _ _ _ _ => (pe_ix (r := rIxL K) ix_list (pe_lst (pa_cons (pe_callB (r := fun xs H Q => ∃ (p : Addr) (ys : List V), xs = [V.ref p] ∧ (SqL K H p ys ∨ SqT K H p ys) ∧ Q (V.int (ys.length : Int)) H) call_len_seq (by rfl) B.len PySem.boot_len (pa_cons (pv 7) pa_nil)) (pa_cons (pe_call GD hr1 rfl DD.m DD.k DD.b .nil pass0 (pa_cons (pv 0) (pa_cons (pe_op op_add (pe_callB (r := fun xs H Q => ∃ (p : Addr) (ys : List V), xs = [V.ref p] ∧ (SqL K H p ys ∨ SqT K H p ys) ∧ Q (V.int (ys.length : Int)) H) call_len_seq (by rfl) B.len PySem.boot_len (pa_cons (pv 7) pa_nil)) pe_int) pa_nil))) pa_nil))) (pe_call GD hr1 rfl DD.m DD.k DD.b .nil pass0 (pa_cons (pv 0) (pa_cons pe_int pa_nil))) (fun _ _ => rfl)))) pa_nil)))
        (pss_cons (ps_if (pt_cmp (pc_notN (pe_meth (pv 1) T.cl M.mC GC hr4 M.bC .nil pass0 (pa_cons (pv 8) pa_nil)))) pss_never pss_nil)
        (pss_cons (ps_slput (pv 2) (po_some (pv 3)) (pe_lc (own := [("row", 7), ("length", 10)]) (g := gTup K 2 (gCons (gName 7) (gCons (gName 10) gNil))) (tt := tYes) rfl nd (pi_zipM rfl B.zip (pa_cons (pe_slice sl_list (pv 2) (po_some (pv 3)) po_none) (pa_cons (pv 8) pa_nil))) (blkOk_by (N := ["pool", "disk", "blocks", "synced", "many", "turn", "kind", "row", "kept", "number", "length"]) (sc := defScope sLed) (by decide +kernel)) (fun _ _ _ _ _ => pg_tup rfl (pgs_cons (pg_name (i := 7) nd rfl (.inl rfl)) (pgs_cons (pg_name (i := 10) nd rfl (.inl rfl)) pgs_nil))) (fun _ _ _ _ _ => pts_nil) (fun _ _ _ _ _ => pe_slice sl_X (pv 7) po_none (po_some (pv 10)))))
        (pss_one (ps_set (i := 3) nd rfl (.inl rfl) (pe_callB call_len_seq (by rfl) B.len PySem.boot_len (pa_cons (pv 2) pa_nil))))))) (pss_one (ps_if (PW.pt (pw_and (pt_cmpR op_eq (pv 6) pe_int (nomark _)) (pw_and1 (pt_cmpR op_eq (pe_call GD hr1 rfl DD.m DD.k DD.b .nil pass0 (pa_cons (pv 0) (pa_cons pe_int pa_nil))) pe_int (nomark _))))) (pss_cons (ps_set (i := 9) nd rfl (.inl rfl) (pe_call GD hr1 rfl DD.m DD.k DD.b .nil pass0 (pa_cons (pv 0) (pa_cons (pe_op op_add (pe_callB call_len_seq (by rfl) B.len PySem.boot_len (pa_cons (pv 2) pa_nil)) pe_int) pa_nil))))
        (pss_cons (ps_if (pt_cmp (pc_notN (pe_meth (pv 1) T.cl M.mD GDr hr3 M.bD .nil pass0 (pa_cons (pv 9) pa_nil)))) pss_never pss_nil)
        (pss_cons (ps_slput (pv 2) (po_some (pv 9)) (pe_lst pa_nil))
        (pss_one (ps_set (i := 3) nd rfl (.inl rfl) (pe_callB (call_min2 rfl) (by rfl) B.min PyProof.Rows.boot_min (pa_cons (pv 3) (pa_cons (pv 9) pa_nil)))))))) pss_nil)))))))
        (pss_one (ps_if (PW.pt (pw_or (pt_cmpR (op_neR hu) (pe_meth0 (pv 1) T.cl M.mB GB hr1 M.bB .nil pass0) (pv 2) (nomark _)) (pw_or1 (pt_not (pt_val (pe_call GI hr1 rfl DI.m DI.k DI.b .nil pass0 (pa_cons (pe_meth0 (pv 1) T.cl M.mY GY hr1 M.bY .nil pass0) (pa_cons (pv 3) pa_nil)))))))) pss_never pss_nil)))))
        (pss_one (ps_ret (pv 3)))), ?_⟩
    refine ⟨_, rfl, n, rfl, by omega, by omega, for_range (lo := 0) (n := n) (fun i σ H' => ∃ (ra' : Addr) (bss' : List (List Int)) (m' : Nat) (x5 x6 x7 x8 x9 : Option V), σ = [some (.ref p), some (.ref x), some (.ref bl), some (.int (m' : Int)), some (.int (n : Int)), x5, x6, x7, x8, x9, none] ∧ Led CD H' p l x dx ra' bl bss' m' ∧ bss'.length ≤ bss.length + i ∧ (ra' = ra ∨ H ra' = none) ∧ B5 p l x ra bl H H') ?_ ?_ ?_⟩
    · exact ⟨ra, bss, m, none, none, none, none, none, rfl, L0, by omega, .inl rfl, .rf⟩
    · rintro i σ H0 hi ⟨ra1, b1, m1, x5, x6, x7, x8, x9, rfl, L1, l1, n1, B1⟩
      refine ⟨_, rfl, p, l, 8, rfl, L1.g, by decide, by decide, fun kd H1 _ _ g1 k1 => ?_⟩
      have L1' := L1.kp g1 k1
      have B1' := B1.step n1 (.kp k1)
      clear L1 B1 k1 g1
      refine ⟨_, rfl, _, _, rfl, rfl, _, rfl, ite2 (fun _ => ?_) (fun _ => ?_)⟩
      · refine ⟨_, rfl, p, l, rfl, L1'.g, fun q bs H2 g2 k2 hq => ?_⟩
        have L2 := L1'.kp g2 k2
        have B2' := B1'.step n1 (.kp k2)
        clear L1' B1' k2 g2
        obtain ⟨us, hu2, ru⟩ := L2.b
        refine ⟨_, rfl, x, dx, _, rfl, L2.d.at_, rfl, _, rfl, x, dx, ra1, q, b1, m1, bs, rfl, L2.d, by omega, hq, fun H3 u3 d3 => ?_⟩
        have hu3 := u3 _ _ hu2 L2.n1.symm
        refine ⟨_, rfl, bl, us, rfl, .inl (SqL.of hu3), (b1.length : Int), by rw [ru.1]; rfl, log_nat (by omega), _, rfl, iteF ?_⟩
        refine ⟨_, rfl, .inl ⟨rfl, _, SqL.of hu3⟩, _, rfl, bl, _, _, rfl, rfl, hu3, size_ok (by rw [ru.1]; omega), ?_⟩
        obtain ⟨L4, C4⟩ := L2.wr u3 d3 hu2 (ru.append (.one hq))
        have B4 := B2'.step n1 C4
        have l4 : (b1 ++ [bs]).length ≤ bss.length + (i + 1) := by rw [List.length_append]; show _ + 1 ≤ _; omega
        have n4 := n1
        clear L2 B2' C4 u3 d3 hu2 hu3 ru hq
        revert L4 B4 l4
        generalize (upd H3 bl (.lst (us ++ [V.ref q]))) = H4
        generalize b1 ++ [bs] = b4
        intro L4 B4 l4
        refine ⟨_, rfl, x, dx, _, rfl, L4.d.at_, rfl, x, dx, ra1, b4, m1, rfl, L4.d, fun z H5 hz s5 hr5 => ?_⟩
        obtain ⟨vz, hz5, rz⟩ := hr5
        have L5 := L4.same s5
        obtain ⟨ub, hub, rub⟩ := L5.b
        refine ⟨_, rfl, z, bl, vz, ub, b4, rfl, rfl, hz5, hub, rz, rub, _, rfl, iteF ?_⟩
        refine ⟨_, rfl, x, dx, _, rfl, L5.d.at_, rfl, x, dx, ra1, b4, m1, rfl, L5.d, _, rfl, (m1 : Int), rfl, log_nat (by have := L5.d.le; have := L5.d.few; omega), _, rfl, iteF ?_⟩
        exact ⟨ra1, b4, m1, _, _, _, _, _, rfl, L5, l4, n4, B4.step n4 (.same s5)⟩
      refine ⟨_, rfl, rfl, _, rfl, ite2 (fun _ => ?_) (fun _ => ?_)⟩
      · obtain ⟨us, hu2, ru⟩ := L1'.b
        have le1 := L1'.d.le
        have few1 := L1'.d.few
        refine ⟨_, rfl, x, dx, _, rfl, L1'.d.at_, rfl, x, dx, ra1, b1, m1, rfl, L1'.d, fun H2 u2 d2 => ?_⟩
        have L4 := L1'.wx u2 d2
        have hu3 := u2 _ _ hu2 L1'.nx.2.2.symm
        refine ⟨_, rfl, bl, us, rfl, .inl (SqL.of hu3), _, rfl, _, _, rfl, rfl, ((b1.length - m1 : Nat) : Int), ?_, log_nat (by omega), _, rfl, iteF ?_⟩
        · show [V.int (((b1.length : Nat) : Int) - (m1 : Int)), V.int (((us.length : Nat) : Int) - (m1 : Int))] = _
          rw [ru.1, show ((b1.length : Nat) : Int) - (m1 : Int) = ((b1.length - m1 : Nat) : Int) by omega]
        refine ⟨_, rfl, bl, us, rfl, .inl (SqL.of hu3), ?_⟩
        rw [ru.1]
        have B4 := B1'.step n1 (.bu u2)
        have l4 : b1.length ≤ bss.length + (i + 1) := by omega
        have n4 := n1
        clear hu3 ru hu2 u2 d2 L1' B1'
        refine ⟨_, rfl, x, dx, _, rfl, L4.d.at_, rfl, x, dx, ra1, b1, b1.length, rfl, L4.d, fun z H5 hz s5 hr5 => ?_⟩
        obtain ⟨vz, hz5, rz⟩ := hr5
        have L5 := L4.same s5
        obtain ⟨ub, hub, rub⟩ := L5.b
        refine ⟨_, rfl, z, bl, vz, ub, b1, rfl, rfl, hz5, hub, rz, rub, _, rfl, iteF ?_⟩
        refine ⟨_, rfl, x, dx, _, rfl, L5.d.at_, rfl, x, dx, ra1, b1, b1.length, rfl, L5.d, _, rfl, (b1.length : Int), rfl, log_nat (by have := L5.d.le; have := L5.d.few; omega), _, rfl, iteF ?_⟩
        exact ⟨ra1, b1, b1.length, _, _, _, _, _, rfl, L5, l4, n4, B4.step n4 (.same s5)⟩
      refine ⟨_, rfl, rfl, _, rfl, ite2 (fun _ => ?_) (fun _ => ?_)⟩
      · obtain ⟨us, hu2, ru⟩ := L1'.b
        have le1 := L1'.d.le
        have few1 := L1'.d.few
        have ld : (us.drop m1).length = b1.length - m1 := by rw [List.length_drop, ru.1]
        refine ⟨_, rfl, _, rfl, _, rfl, bl, us, rfl, SqL.of hu2, fun wl hwl => ?_⟩
        rw [cut_fromV]
        have s1 := sN (o := .lst (us.drop m1)) hwl
        obtain ⟨nw1, nw2⟩ := L1'.g.none hwl
        have L2 := L1'.same s1
        have B2' := B1'.step n1 (.same s1)
        have hw2 : (upd H1 wl (.lst (us.drop m1))) wl = some (.lst (us.drop m1)) := upd_same
        have ruW := ru.tk (.of s1)
        have ru2 := ruW.drop m1
        have hub2 := s1 _ _ hu2
        clear L1' B1'
        revert L2 B2' hw2 ru2 hub2 ruW
        generalize (upd H1 wl (.lst (us.drop m1))) = H2
        intro L2 B2' hw2 ruW ru2 hub2
        refine ⟨wl, rfl, ⟨_, SqL.of hw2⟩, fun D' hD => ?_⟩
        obtain ⟨nD1, nD2⟩ := L2.g.none hD
        refine lc_list (K := K) (a := wl) (xs := us.drop m1) (fun j H' => ∃ cs : List Int, H' D' = some (.lst (cs.map V.int)) ∧ cs.length = j ∧ j ≤ (us.drop m1).length ∧ (∀ (j : Nat) (n : Int) (bs : List Int), cs[j]? = some n → (b1.drop m1)[j]? = some bs → 0 ≤ n ∧ n ≤ (bs.length : Int)) ∧ PoolAt H' p l ∧ Kp p l H2 H') ?_ ?_ ?_ ?_
        · exact ⟨[], upd_same, rfl, Nat.zero_le _, fun j n bs hn => by simp at hn, L2.g.same (sN hD), .of (sN hD)⟩
        · rintro j H' hj ⟨_, _, _, _, _, _, kk⟩
          exact SqL.of (kk _ _ hw2 nw1 nw2)
        · rintro j v H' hv ⟨cs, eD, lc, lj, co, g, kk⟩
          have hj := (List.getElem?_eq_some_iff.mp hv).1
          have hb : (b1.drop m1)[j]? = some ((b1.drop m1)[j]'(by rw [← ru2.1]; exact hj)) := List.getElem?_eq_getElem _
          obtain ⟨q, rfl, hq⟩ := ru2.2 j v _ hv hb
          revert hb hq
          generalize ((b1.drop m1)[j]'(by rw [← ru2.1]; exact hj)) = bs
          intro hb hq
          have hq' := hq.tk (L2.g.tk kk)
          have fq := hq.few
          refine ⟨rfl, ?_⟩
          refine ⟨_, rfl, q, _, rfl, .inr (SqT.of hq'.at_), ?_⟩
          refine ⟨_, rfl, _, rfl, q, _, rfl, .inr (SqT.of hq'.at_), _, _, rfl, rfl, ?_⟩
          rw [List.length_map]
          refine ⟨p, l, _, rfl, g, by omega, by omega, fun d H3 d0 d1 g3 k3 => ?_⟩
          refine ⟨(by show 2 ≤ sizeLine; decide), fun ql hql => ?_⟩
          have g4 := g3.same (sN (o := .lst [.int (bs.length : Int), .int d]) hql)
          obtain ⟨nq1, nq2⟩ := g3.none hql
          refine ⟨_, rfl, p, l, 2, rfl, g4, by decide, by decide, fun e H5 e0 e1 g5 k5 => ?_⟩
          have hql5 := k5 _ _ (show (upd H3 ql (.lst [.int (bs.length : Int), .int d])) ql = some (.lst [.int (bs.length : Int), .int d]) from upd_same) nq1 nq2
          obtain ⟨y, hy, ay⟩ := at_in [V.int (bs.length : Int), V.int d] e0 e1
          have k35 : Kp p l H' H5 := (k3.st (sN hql)).tr k5
          have eD5 := k35 _ _ eD nD1 nD2
          have yn : ∃ n : Int, y = .int n ∧ 0 ≤ n ∧ n ≤ (bs.length : Int) := by
            simp only [List.mem_cons, List.not_mem_nil, or_false] at hy
            rcases hy with rfl | rfl
            · exact ⟨_, rfl, by omega, Int.le_refl _⟩
            · exact ⟨d, rfl, d0, by omega⟩
          obtain ⟨n, rfl, n0, n1'⟩ := yn
          refine ⟨ql, _, e, _, rfl, rfl, SqL.of hql5, ay, _, eD5, by rw [List.length_map, lc]; exact size_ok (by omega), cs ++ [n], by rw [upd_same, List.map_append]; rfl, by rw [List.length_append, lc]; rfl, hj, fun a b c hb1 hb2 => ?_, g5.upd nD1 nD2, fun b o e' m1' m2' => ?_⟩
          · by_cases c1 : a < cs.length
            · rw [List.getElem?_append_left c1] at hb1
              exact co a b c hb1 hb2
            · rw [List.getElem?_append_right (by omega)] at hb1
              have z1 : a - cs.length = 0 := by
                have := (List.getElem?_eq_some_iff.mp hb1).1
                have : a - cs.length < 1 := this
                omega
              rw [z1] at hb1
              have ea : a = j := by omega
              rw [ea, hb] at hb2
              cases hb1
              cases hb2
              exact ⟨n0, n1'⟩
          · rw [upd_ne (ne_of_none e' hD)]
            exact k35 b o (kk b o e' m1' m2') m1' m2'
        · rintro H3 ⟨cs, eD, lc, _, co, g, kk⟩
          refine ⟨D', _, rfl, .inl ⟨SqL.of eD, fun tq htq => ?_⟩⟩
          have s3 := sN (o := .tup (cs.map V.int)) htq
          have L3 := (L2.kp g kk).same s3
          have B3' := (B2'.step n1 (.kp kk)).step n1 (.same s3)
          have ht4 : (upd H3 tq (.tup (cs.map V.int))) tq = some (.tup (cs.map V.int)) := upd_same
          have hu4 := s3 _ _ (kk _ _ hub2 L2.n4 L2.n5)
          have ru4 := (ruW.tk (L2.g.tk kk)).tk (.of s3)
          clear L2 B2' hw2 ru2 hub2 eD g kk ruW
          revert L3 B3' ht4 hu4 ru4
          generalize (upd H3 tq (.tup (cs.map V.int))) = H4
          intro L3 B3' ht4 hu4 ru4
          have CO : CutOk cs (b1.drop m1) := ⟨by rw [lc, ld, List.length_drop], co⟩
          refine ⟨_, rfl, x, dx, _, rfl, L3.d.at_, rfl, _, rfl, x, dx, ra1, tq, b1, m1, cs, rfl, L3.d, ht4, CO, fun H5 c5 d5 => ?_⟩
          refine ⟨_, rfl, iteF ?_⟩
          obtain ⟨nx1, nx2, nx3⟩ := L3.nx
          have hu5 := c5 _ _ hu4 nx3.symm L3.n1.symm
          obtain ⟨vv, hvv, _⟩ := L3.d.rows
          have tk5 : Tk H4 H5 := fun c ys e => c5 c _ e (ne_of e L3.d.at_ (fun z => by cases z)) (ne_of e hvv (fun z => by cases z))
          have ht5 := tk5 _ _ ht4
          have ru5 := ru4.tk tk5
          refine ⟨_, rfl, _, rfl, _, rfl, bl, us, rfl, SqL.of hu5, fun w2 hw2 => ?_⟩
          rw [cut_fromV]
          have s6 := sN (o := .lst (us.drop m1)) hw2
          have e6 : (upd H5 w2 (.lst (us.drop m1))) w2 = some (.lst (us.drop m1)) := upd_same
          have ht6 := s6 _ _ ht5
          have ru6 := (ru5.tk (.of s6)).drop m1
          revert s6 e6 ht6 ru6
          generalize (upd H5 w2 (.lst (us.drop m1))) = H6
          intro s6 e6 ht6 ru6
          obtain ⟨cl, co'⟩ := CO
          have el : (us.drop m1).length = cs.length := by rw [ru6.1, cl]
          refine ⟨_, rfl, w2, tq, us.drop m1, _, rfl, SqL.of e6, SqT.of ht6, fun E' hE => lc_it (walk_zipM (K := K) (a := w2) (b := tq) (xs := us.drop m1) (ys := cs.map V.int) (by rw [List.length_map]; exact el)) (fun j H' => ∃ zs : List V, H' E' = some (.lst zs) ∧ zs.length = j ∧ j ≤ (us.drop m1).length ∧ (∀ (j : Nat) (v : V) (bs : List Int), zs[j]? = some v → (cutL (b1.drop m1) cs)[j]? = some bs → ∃ q, v = .ref q ∧ RowAt H' q bs) ∧ Same H6 H') ?_ ?_ ?_ ?_⟩
          · exact ⟨[], upd_same, rfl, Nat.zero_le _, fun j v bs hv => by simp at hv, sN hE⟩
          · rintro j H7 hj ⟨_, _, _, _, _, s7⟩
            exact ⟨SqL.of (s7 _ _ e6), SqT.of (s7 _ _ ht6)⟩
          · rintro j v H7 H8 hj ⟨zs, eE, lz, _, reps, s7⟩ ⟨T', x', y, rfl, hT, rfl, hx, hy⟩
            obtain ⟨n, hn, rfl⟩ := at_ints hy
            have hb : (b1.drop m1)[j]? = some ((b1.drop m1)[j]'(by rw [← ru6.1]; exact hj)) := List.getElem?_eq_getElem _
            obtain ⟨q, rfl, hq⟩ := ru6.2 j x' _ hx hb
            obtain ⟨n0, n1'⟩ := co' j n _ hn hb
            obtain ⟨n', rfl⟩ : ∃ n' : Nat, n = (n' : Int) := ⟨n.toNat, by omega⟩
            have s8 := sN (o := .tup [.ref q, .int (n' : Int)]) hT
            have hq8 := hq.same (sT s7 s8)
            refine ⟨T', _, rfl, SqT.of upd_same, rfl, _, _, rfl, _, _, rfl, rfl, rfl, ?_⟩
            refine ⟨_, rfl, _, rfl, _, rfl, q, _, rfl, hq8.at_, fun z9 H9 s9 hz9 => ?_⟩
            rw [cut_map] at hz9
            have s89 := sT s8 s9
            have eE9 := s89 _ _ eE
            have tk9 : Tk H9 (upd H9 E' (.lst (zs ++ [.ref z9]))) := fun c ys e => by
              rw [upd_ne (ne_of e eE9 (fun z => by cases z))]
              exact e
            refine ⟨zs, eE9, size_ok (by omega), zs ++ [.ref z9], upd_same, by rw [List.length_append, lz]; rfl, hj, fun a v bs hv hb' => ?_, sNew (sT s7 s89) hE⟩
            by_cases c : a < zs.length
            · rw [List.getElem?_append_left c] at hv
              obtain ⟨q', e', r'⟩ := reps a v bs hv hb'
              exact ⟨q', e', (r'.same s89).tk tk9⟩
            · rw [List.getElem?_append_right (by omega)] at hv
              have z1 : a - zs.length = 0 := by
                have := (List.getElem?_eq_some_iff.mp hv).1
                have : a - zs.length < 1 := this
                omega
              rw [z1] at hv
              cases hv
              have ej : a = j := by omega
              subst ej
              rw [cutL_at hn hb] at hb'
              cases hb'
              exact ⟨z9, rfl, RowAt.tk ⟨hz9, fun b hb => hq.b b (List.mem_of_mem_take hb), by rw [List.length_take]; have := hq.few; omega⟩ tk9⟩
          · rintro H7 ⟨zs, eE, lz, _, reps, s7⟩
            have s57 := sT s6 s7
            have hu7 := s57 _ _ hu5
            have nE : bl ≠ E' := ne_of_none (s6 _ _ hu5) hE
            have lc2 : (cutL (b1.drop m1) cs).length = b1.length - m1 := by rw [cutL_len cl, List.length_drop]
            have lq : (us.take m1 ++ zs).length = b1.length := by
              rw [List.length_append, List.length_take, lz, ld, ru.1]
              omega
            refine ⟨_, rfl, _, rfl, _, rfl, bl, E', us, zs, m1, rfl, rfl, rfl, hu7, eE, nE, by rw [ru.1]; exact le1, Nat.le_of_lt (size_ok (by rw [ru.1, lz, ld]; omega)), ?_⟩
            refine ⟨_, rfl, bl, _, rfl, .inl (SqL.of upd_same), ?_⟩
            rw [lq]
            have rr : RowsV H7 (us.take m1 ++ zs) (b1.take m1 ++ cutL (b1.drop m1) cs) := ((ru5.tk (.of s57)).take m1).append ⟨by rw [lz, ld, lc2], reps⟩
            obtain ⟨L4, C4⟩ := L3.wg c5 s57 d5 (.inl rfl) hu4 rr
            have B4 := B3'.step n1 C4
            have l4 : (b1.take m1 ++ cutL (b1.drop m1) cs).length ≤ bss.length + (i + 1) := by
              rw [List.length_append, List.length_take, lc2]
              omega
            have n4 := n1
            clear L3 B3' C4 rr reps
            revert L4 B4 l4
            generalize (upd H7 bl (.lst (us.take m1 ++ zs))) = H4
            generalize (b1.take m1 ++ cutL (b1.drop m1) cs) = b4
            intro L4 B4 l4
            refine ⟨_, rfl, x, dx, _, rfl, L4.d.at_, rfl, x, dx, ra1, b4, b1.length, rfl, L4.d, fun z H5 hz s5 hr5 => ?_⟩
            obtain ⟨vz, hz5, rz⟩ := hr5
            have L5 := L4.same s5
            obtain ⟨ub, hub, rub⟩ := L5.b
            refine ⟨_, rfl, z, bl, vz, ub, b4, rfl, rfl, hz5, hub, rz, rub, _, rfl, iteF ?_⟩
            refine ⟨_, rfl, x, dx, _, rfl, L5.d.at_, rfl, x, dx, ra1, b4, b1.length, rfl, L5.d, _, rfl, (b1.length : Int), rfl, log_nat (by have := L5.d.le; have := L5.d.few; omega), _, rfl, iteF ?_⟩
            exact ⟨ra1, b4, b1.length, _, _, _, _, _, rfl, L5, l4, n4, B4.step n4 (.same s5)⟩
      refine ⟨_, rfl, rfl, _, rfl, ite2 (fun _ => ?_) (fun _ => ?_)⟩
      · refine ⟨_, rfl, p, l, 3, rfl, L1'.g, by decide, by decide, fun t3 H2 _ _ g2 k2 => ?_⟩
        have L2 := L1'.kp g2 k2
        have B2' := B1'.step n1 (.kp k2)
        clear L1' B1' k2 g2
        refine ⟨rfl, _, rfl, ite2 (fun _ => ?_) (fun _ => ?_)⟩
        · obtain ⟨us, hu2, ru⟩ := L2.b
          have le1 := L2.d.le
          have few1 := L2.d.few
          refine ⟨_, rfl, _, rfl, bl, us, rfl, .inl (SqL.of hu2), _, _, rfl, rfl, p, l, _, rfl, L2.g, by omega, by rw [ru.1]; omega, fun d H3 d0 d1 g3 k3 => ?_⟩
          rw [ru.1] at d1
          obtain ⟨n', rfl⟩ : ∃ n' : Nat, d = (n' : Int) := ⟨d.toNat, by omega⟩
          have L3 := L2.kp g3 k3
          have B3' := B2'.step n1 (.kp k3)
          have hu3 := k3 _ _ hu2 L2.n4 L2.n5
          have ru3 := ru.tk (L2.g.tk k3)
          clear L2 B2' k3 g3 hu2
          refine ⟨_, rfl, x, dx, _, rfl, L3.d.at_, rfl, _, rfl, x, dx, ra1, b1, m1, n', rfl, L3.d, by omega, fun rb H4' hrb c4 d4 => ?_⟩
          refine ⟨_, rfl, iteF ?_⟩
          obtain ⟨nx1, nx2, nx3⟩ := L3.nx
          have hu4 := c4 _ _ hu3 nx3.symm
          refine ⟨Nat.zero_le _, fun e he => ?_⟩
          have s5 := sN (o := .lst []) he
          have hu5 := s5 _ _ hu4
          refine ⟨_, rfl, _, rfl, _, rfl, bl, e, us, [], n', rfl, rfl, rfl, hu5, upd_same, ne_of_none hu4 he, by rw [ru.1]; omega, Nat.le_of_lt (size_ok (by rw [ru.1]; show _ + 0 ≤ _; omega)), ?_⟩
          rw [List.append_nil]
          refine ⟨_, rfl, _, rfl, _, _, rfl, ?_⟩
          have em : (if (n' : Int) < (m1 : Int) then (n' : Int) else (m1 : Int)) = ((min m1 n' : Nat) : Int) := by
            by_cases c : (n' : Int) < (m1 : Int)
            · rw [if_pos c]
              omega
            · rw [if_neg c]
              omega
          rw [em]
          have tk4 : Tk H3 H4' := fun c ys e => c4 c _ e (ne_of e L3.d.at_ (fun z => by cases z))
          obtain ⟨L4, C4⟩ := L3.wg (fun c o e n m => c4 c o e n) s5 d4 (.inr hrb) hu3 (((ru3.tk tk4).tk (.of s5)).take n')
          have B4 := B3'.step n1 C4
          have l4 : (b1.take n').length ≤ bss.length + (i + 1) := by rw [List.length_take]; omega
          have n4 : rb = ra ∨ H rb = none := by
            cases eh : H rb with
            | none => exact .inr rfl
            | some o =>
              refine .inl ?_
              by_cases z1 : rb = ra
              · exact z1
              obtain ⟨seed, cnt, ns, g⟩ := L3.g
              have q1 : rb ≠ p := (ne_of_none g.at_ hrb).symm
              have q2 : rb ≠ l := (ne_of_none g.lst hrb).symm
              have q3 : rb ≠ x := (ne_of_none L3.d.at_ hrb).symm
              have q4 : rb ≠ bl := (ne_of_none hu3 hrb).symm
              have := B3' rb o eh q1 q2 q3 z1 q4
              rw [this] at hrb
              cases hrb
          clear L3 B3' C4 tk4
          revert L4 B4 l4 n4
          generalize (upd (upd H4' e (.lst [])) bl (.lst (us.take n'))) = H4
          generalize b1.take n' = b4
          generalize min m1 n' = m4
          intro L4 B4 l4 n4
          refine ⟨_, rfl, x, dx, _, rfl, L4.d.at_, rfl, x, dx, rb, b4, m4, rfl, L4.d, fun z H5 hz s5 hr5 => ?_⟩
          obtain ⟨vz, hz5, rz⟩ := hr5
          have L5 := L4.same s5
          obtain ⟨ub, hub, rub⟩ := L5.b
          refine ⟨_, rfl, z, bl, vz, ub, b4, rfl, rfl, hz5, hub, rz, rub, _, rfl, iteF ?_⟩
          refine ⟨_, rfl, x, dx, _, rfl, L5.d.at_, rfl, x, dx, rb, b4, m4, rfl, L5.d, _, rfl, (m4 : Int), rfl, log_nat (by have := L5.d.le; have := L5.d.few; omega), _, rfl, iteF ?_⟩
          exact ⟨rb, b4, m4, _, _, _, _, _, rfl, L5, l4, n4, B4.step n4 (.same s5)⟩
        · have L4 := L2
          have B4 := B2'
          have n4 := n1
          have l4 : b1.length ≤ bss.length + (i + 1) := by omega
          refine ⟨_, rfl, x, dx, _, rfl, L4.d.at_, rfl, x, dx, ra1, b1, m1, rfl, L4.d, fun z H5 hz s5 hr5 => ?_⟩
          obtain ⟨vz, hz5, rz⟩ := hr5
          have L5 := L4.same s5
          obtain ⟨ub, hub, rub⟩ := L5.b
          refine ⟨_, rfl, z, bl, vz, ub, b1, rfl, rfl, hz5, hub, rz, rub, _, rfl, iteF ?_⟩
          refine ⟨_, rfl, x, dx, _, rfl, L5.d.at_, rfl, x, dx, ra1, b1, m1, rfl, L5.d, _, rfl, (m1 : Int), rfl, log_nat (by have := L5.d.le; have := L5.d.few; omega), _, rfl, iteF ?_⟩
          exact ⟨ra1, b1, m1, _, _, _, _, _, rfl, L5, l4, n4, B4.step n4 (.same s5)⟩
      · have L4 := L1'
        have B4 := B1'
        have n4 := n1
        have l4 : b1.length ≤ bss.length + (i + 1) := by omega
        refine ⟨_, rfl, x, dx, _, rfl, L4.d.at_, rfl, x, dx, ra1, b1, m1, rfl, L4.d, fun z H5 hz s5 hr5 => ?_⟩
        obtain ⟨vz, hz5, rz⟩ := hr5
        have L5 := L4.same s5
        obtain ⟨ub, hub, rub⟩ := L5.b
        refine ⟨_, rfl, z, bl, vz, ub, b1, rfl, rfl, hz5, hub, rz, rub, _, rfl, iteF ?_⟩
        refine ⟨_, rfl, x, dx, _, rfl, L5.d.at_, rfl, x, dx, ra1, b1, m1, rfl, L5.d, _, rfl, (m1 : Int), rfl, log_nat (by have := L5.d.le; have := L5.d.few; omega), _, rfl, iteF ?_⟩
        exact ⟨ra1, b1, m1, _, _, _, _, _, rfl, L5, l4, n4, B4.step n4 (.same s5)⟩
    · rintro σ H' ⟨ra1, b1, m1, x5, x6, x7, x8, x9, rfl, L1, l1, n1, B1⟩
      exact ⟨_, rfl, k ra1 b1 m1 H' L1 l1 n1 B1⟩
end
end Q

namespace Q
open PySem L2 QR
theorem B5.tk {CD : Addr} {H H' : Hp} {p l x dx ra bl : Addr} {bss : List (List Int)} {m : Nat} (b : B5 p l x ra bl H H') (L : Led CD H p l x dx ra bl bss m) : Tk H H' := fun c ys e => by
  obtain ⟨seed, cnt, ns, g⟩ := L.g
  obtain ⟨vs, hv, _⟩ := L.d.rows
  obtain ⟨us, hu, _⟩ := L.b
  exact b c _ e (ne_of e g.at_ (fun z => by cases z)) (ne_of e g.lst (fun z => by cases z)) (ne_of e L.d.at_ (fun z => by cases z)) (ne_of e hv (fun z => by cases z)) (ne_of e hu (fun z => by cases z))
/-- the one disk is led, the other stands -/
theorem Led.oth {CD : Addr} {H H' : Hp} {p l x dx ra bl y dy rb ol : Addr} {bss cs : List (List Int)} {m k : Nat} (L : Led CD H p l x dx ra bl bss m) (M : Led CD H p l y dy rb ol cs k) (n1 : y ≠ x) (n2 : rb ≠ ra) (n3 : rb ≠ bl) (n4 : ol ≠ ra) (n5 : ol ≠ bl) (b : B5 p l x ra bl H H') (g : PoolAt H' p l) : Led CD H' p l y dy rb ol cs k := by
  have tk := b.tk L
  obtain ⟨y1, y2, y3⟩ := M.nx
  obtain ⟨vs, hv, rv⟩ := M.d.rows
  obtain ⟨us, hu, ru⟩ := M.b
  obtain ⟨va, hva, _⟩ := L.d.rows
  obtain ⟨ua, hua, _⟩ := L.b
  exact ⟨g, ⟨b _ _ M.d.at_ y1 y2 n1 (ne_of M.d.at_ hva (fun z => by cases z)) (ne_of M.d.at_ hua (fun z => by cases z)), ⟨vs, b _ _ hv M.n2 M.n3 (ne_of hv L.d.at_ (fun z => by cases z)) n2 n3, rv.tk tk⟩, M.d.le, M.d.few⟩,
    ⟨us, b _ _ hu M.n4 M.n5 (ne_of hu L.d.at_ (fun z => by cases z)) n4 n5, ru.tk tk⟩, M.n1, M.n2, M.n3, M.n4, M.n5⟩
structure PDefs (K : PySem.W.Frag) (mg : Str → Option Value) where
  f1 : Addr
  d1 : FuncData
  D1 : Df K mg "is_plain_int" sPlain ["thing"] f1 d1
  f2 : Addr
  d2 : FuncData
  D2 : Df K mg "is_number_below" sNum ["limit", "thing"] f2 d2
  f3 : Addr
  d3 : FuncData
  D3 : Df K mg "is_row" sIsRow ["thing"] f3 d3
  f4 : Addr
  d4 : FuncData
  D4 : Df K mg "is_sign" sIsSg ["number"] f4 d4
  f5 : Addr
  d5 : FuncData
  D5 : Df K mg "sign_of" sSgOf ["number"] f5 d5
  f6 : Addr
  d6 : FuncData
  D6 : Df K mg "read_whole_row" sRAll ["row"] f6 d6
  f7 : Addr
  d7 : FuncData
  D7 : Df K mg "mark_of" sMkOf ["row"] f7 d7
  f8 : Addr
  d8 : FuncData
  D8 : Df K mg "seal_of" sSeal ["row"] f8 d8
  f9 : Addr
  d9 : FuncData
  D9 : Df K mg "unsealed" sUns ["row"] f9 d9
  f10 : Addr
  d10 : FuncData
  D10 : Df K mg "is_cut" sCut ["waiting", "thing"] f10 d10
  f11 : Addr
  d11 : FuncData
  D11 : Df K mg "kept_parcels" sKP ["blocks"] f11 d11
structure LDefs (K : PySem.W.Frag) (mg : Str → Option Value) where
  f1 : Addr
  d1 : FuncData
  D1 : Df K mg "_law_pool" sPool ["script"] f1 d1
  f2 : Addr
  d2 : FuncData
  D2 : Df K mg "_law_draw" sDraw ["pool", "many"] f2 d2
  f3 : Addr
  d3 : FuncData
  D3 : Df K mg "_law_is" sIs ["told", "due"] f3 d3
  f4 : Addr
  d4 : FuncData
  D4 : Df K mg "_law_whole" sLW ["number"] f4 d4
  f5 : Addr
  d5 : FuncData
  D5 : Df K mg "_law_bytes" sLB ["parcel"] f5 d5
  f6 : Addr
  d6 : FuncData
  D6 : Df K mg "_law_number" sLNum ["pool"] f6 d6
  f7 : Addr
  d7 : FuncData
  D7 : Df K mg "_law_parcel" sLPar ["pool", "deep"] f7 d7
  f8 : Addr
  d8 : FuncData
  D8 : Df K mg "_law_same" sSame ["one", "other"] f8 d8
  f9 : Addr
  d9 : FuncData
  D9 : Df K mg "_law_sign" sLSg ["byte"] f9 d9
  f10 : Addr
  d10 : FuncData
  D10 : Df K mg "_law_read_whole" sLRW ["row", "at"] f10 d10
  f11 : Addr
  d11 : FuncData
  D11 : Df K mg "_law_read" sLR ["row", "at", "left"] f11 d11
  f12 : Addr
  d12 : FuncData
  D12 : Df K mg "_law_read_string" sLRS ["row", "begin", "many", "here"] f12 d12
  f13 : Addr
  d13 : FuncData
  D13 : Df K mg "_law_told" sTold ["row"] f13 d13
  f14 : Addr
  d14 : FuncData
  D14 : Df K mg "_law_mark" sLMk ["row"] f14 d14
  f15 : Addr
  d15 : FuncData
  D15 : Df K mg "_law_sealed" sLSl ["row"] f15 d15
  f16 : Addr
  d16 : FuncData
  D16 : Df K mg "_law_opened" sOpen ["row"] f16 d16
  f17 : Addr
  d17 : FuncData
  D17 : Df K mg "_law_kept" sLKt ["blocks"] f17 d17
  f18 : Addr
  d18 : FuncData
  D18 : Df K mg "_law_block" sLBk ["pool"] f18 d18
  f19 : Addr
  d19 : FuncData
  D19 : Df K mg "_law_led" sLed ["pool", "disk", "blocks", "synced", "many"] f19 d19
  f20 : Addr
  d20 : FuncData
  D20 : Df K mg "_law_parcels_right" sPR ["blocks"] f20 d20
section
variable {P : Program} {w : World} {K : PySem.W.Frag} {mg : Str → Option Value} {base : Heap}
theorem scLaw : FnScope ["script", "pool", "turn", "disk", "blocks", "synced", "apart", "others"] ["script"] (defScope sLaw) := ⟨rfl, rfl, rfl, by decide +kernel, rfl, by decide +kernel, by decide +kernel⟩
theorem ok_law {f CR CB fB CD : Addr} {fd dB : FuncData} (F : Fun K "law" "law" sLaw f fd) (B : Bts mg) (C : Cst mg) (BA : Bare K mg) (T : RTxt K mg CR) (M : RDefs K CR) (BT : BTxt K mg CB fB dB) (TD : DTxt K mg CD) (MD : DDefs K CD) (A : PDefs K mg) (L : LDefs K mg) : FnOk P w K mg base CX0 50 f fd ["script"] (spLaw K) := by
  have GRow : FnOk P w K mg base CX0 3 A.f3 A.d3 ["thing"] (spIsRow K) := ok_isrow A.D3 B C A.D1 A.D2
  have GA : FnOk P w K mg base (L2.CX P w) 46 A.f6 A.d6 ["row"] (spRAll CB) := ok_rall A.D6 T M B C BA BT A.D4 A.D5
  have GU : FnOk P w K mg base CX0 47 A.f9 A.d9 ["row"] (spUns K) := ok_uns A.D9 B C BT A.D3 GRow A.D8 A.D7 A.D6 GA
  have GK1 : FnOk P w K mg base CX0 48 A.f11 A.d11 ["blocks"] (spKP false) := ok_kpL A.D11 B A.D3 GRow A.D9 GU
  have GK2 : FnOk P w K mg base CX0 48 A.f11 A.d11 ["blocks"] (spKP true) := ok_kpT A.D11 B A.D3 GRow A.D9 GU
  have GP : FnOk P w K mg base CX0 1 L.f1 L.d1 ["script"] (spPool K) := ok_pool L.D1 B
  have GD : FnOk P w K mg base CX0 1 L.f2 L.d2 ["pool", "many"] spDraw := ok_draw L.D2 B
  have GT : FnOk P w K mg base CX0 24 L.f13 L.d13 ["row"] spTold := ok_told L.D13 B L.D11 L.D10 L.D12 L.D9
  have GO : FnOk P w K mg base CX0 25 L.f16 L.d16 ["row"] spOpen := ok_open L.D16 B L.D13 GT L.D15 L.D14
  have GKt : FnOk P w K mg base CX0 26 L.f17 L.d17 ["blocks"] spLKt := ok_lkt L.D17 L.D16 GO
  have GBk : FnOk P w K mg base CX0 6 L.f18 L.d18 ["pool"] spLBk := ok_lbk L.D18 B L.D2 L.D6 L.D7 L.D5 L.D4 L.D15 L.D14
  have GL : FnOk P w K mg base CX0 7 L.f19 L.d19 ["pool", "disk", "blocks", "synced", "many"] (spLed CD) := ok_led L.D19 B TD MD L.D2 L.D3 L.D18 GBk A.D3 GRow A.D10 A.D2 A.D1
  have GR : FnOk P w K mg base CX0 49 L.f20 L.d20 ["blocks"] spPR := ok_pr L.D20 B A.D11 GK1 GK2 L.D17 GKt L.D8
  have GI : FnOk P w K mg base CX0 1 MD.fI MD.dI ["self"] (spDI CD) := ok_di TD MD
  have GB : FnOk P w K mg base CX0 1 MD.fB MD.dB ["self"] (spDB CD) := ok_db TD MD B
  have GK : FnOk P w K mg base CX0 3 MD.fK MD.dK ["self"] (spDK CD) := ok_dk TD MD B
  refine F.ok scLaw (fun vs H Q E h => ?_) (fun cdv Ar outer s H vs Q E hr h => ?_)
  · obtain ⟨a, ns, rfl, _⟩ := h
    rfl
  · obtain ⟨a, ns, rfl, hS, hlen, k⟩ := h
    have nd := scLaw.nd
    have hu := hr.units
    have hr1 : Room 1 _ := hr.mono (by decide)
    have hr2 : Room 2 _ := hr.mono (by decide)
    have hr3 : Room 3 _ := hr.mono (by decide)
    have hr7 : Room 7 _ := hr.mono (by decide)
    refine ⟨_, pss_cons (ps_set (i := 1) nd rfl (.inl rfl) (pe_call GP hr1 rfl L.D1.m L.D1.k L.D1.b .nil pass0 (pa_cons (pv 0) pa_nil)))
      (pss_cons (ps_for PassesOwn.never rfl (pi_range1 rfl B.range (pa_cons pe_int pa_nil)) (pg_name (i := 2) nd rfl (.inl rfl))
        (pss_cons (ps_par (i := 3) (j := 4) rfl nd rfl rfl (by decide) rfl rfl (pa_cons (pe_make0 MD.mM GI hr2 rfl TD.mgC MD.bI .nil pass0) (pa_cons (pe_lst pa_nil) pa_nil)) rfl)
        (pss_cons (ps_set (i := 5) nd rfl (.inl rfl) (pe_call GL hr7 rfl L.D19.m L.D19.k L.D19.b .nil pass0 (pa_cons (pv 1) (pa_cons (pv 3) (pa_cons (pv 4) (pa_cons pe_int (pa_cons (pe_call GD hr1 rfl L.D2.m L.D2.k L.D2.b .nil pass0 (pa_cons (pv 1) (pa_cons pe_int pa_nil))) pa_nil)))))))
        (pss_cons (ps_if (PW.pt (pw_or (pt_cmp (pc_isN (pv 5))) (pw_or1 (pt_not (pt_val (pe_call GR hr rfl L.D20.m L.D20.k L.D20.b .nil pass0 (pa_cons (pv 4) pa_nil))))))) pss_never pss_nil)
        (pss_cons (ps_par (i := 6) (j := 7) rfl nd rfl rfl (by decide) rfl rfl (pa_cons (pe_meth0 (pv 3) TD.cl MD.mK GK hr3 MD.bK .nil pass0) (pa_cons (pe_callTy call_list_of (by rfl) B.list PyProof.Rows.boot_list (pa_cons (pv 4) pa_nil)) pa_nil)) rfl)
        (pss_cons (ps_if (PW.pt (pw_or (pt_cmp (pc_isN (pe_call GL hr7 rfl L.D19.m L.D19.k L.D19.b .nil pass0 (pa_cons (pv 1) (pa_cons (pv 6) (pa_cons (pv 7) (pa_cons (pv 5) (pa_cons (pe_call GD hr1 rfl L.D2.m L.D2.k L.D2.b .nil pass0 (pa_cons (pv 1) (pa_cons pe_int pa_nil))) pa_nil))))))))
            (pw_or1 (pt_cmpR (op_neR hu) (pe_meth0 (pv 3) TD.cl MD.mB GB hr1 MD.bB .nil pass0) (pv 4) (nomark _))))) pss_never pss_nil)
        (pss_cons (ps_if (PW.pt (pw_or (pt_cmp (pc_isN (pe_call GL hr7 rfl L.D19.m L.D19.k L.D19.b .nil pass0 (pa_cons (pv 1) (pa_cons (pv 3) (pa_cons (pv 4) (pa_cons (pv 5) (pa_cons (pe_call GD hr1 rfl L.D2.m L.D2.k L.D2.b .nil pass0 (pa_cons (pv 1) (pa_cons pe_int pa_nil))) pa_nil))))))))
            (pw_or1 (pt_cmpR (op_neR hu) (pe_meth0 (pv 6) TD.cl MD.mB GB hr1 MD.bB .nil pass0) (pv 7) (nomark _))))) pss_never pss_nil)
        (pss_cons (ps_if (PW.pt (pw_or (pt_not (pt_val (pe_call GR hr rfl L.D20.m L.D20.k L.D20.b .nil pass0 (pa_cons (pv 4) pa_nil)))) (pw_or1 (pt_not (pt_val (pe_call GR hr rfl L.D20.m L.D20.k L.D20.b .nil pass0 (pa_cons (pv 7) pa_nil))))))) pss_never pss_nil)
        (pss_cons (ps_expr (pe_bm PySem.F.plainAttrs_list PySem.F.slot_list_append PySem.F.type_list_append mt_append (pe_meth0 (pv 3) TD.cl MD.mB GB hr1 MD.bB .nil pass0) (pa_cons (pe_tup pa_nil) pa_nil)))
        (pss_one (ps_if (pt_cmpR (op_neR hu) (pe_meth0 (pv 3) TD.cl MD.mB GB hr1 MD.bB .nil pass0) (pv 4) (nomark _)) pss_never pss_nil)))))))))))
      (pss_one (ps_ret pe_bl))), ?_⟩
    refine ⟨_, rfl, a, ns, rfl, hS, hlen, fun p l H1 g1 s1 _ _ => ?_⟩
    refine ⟨2, rfl, by decide, by decide, for_range (lo := 0) (n := 2) (fun i σ H' => ∃ x2 x3 x4 x5 x6 x7, σ = [some (.ref a), some (.ref p), x2, x3, x4, x5, x6, x7] ∧ PoolAt H' p l) ?_ ?_ ?_⟩
    · exact ⟨none, none, none, none, none, none, rfl, g1⟩
    · rintro i σ H0 hi ⟨x2, x3, x4, x5, x6, x7, rfl, g0⟩
      clear g1 s1 H1
      refine fun x dx nx ndx nxd => ?_
      have s0 : Same H0 (upd (upd H0 dx (.own x)) x (.ins CD dx [])) := sNew (sNew sR ndx) nx
      refine ⟨x, dx, rfl, upd_same, fun ra H1 hra nrx b1 d1 => ⟨rfl, ?_⟩⟩
      have s1 : Same H0 H1 := fun b o e => b1 b o (s0 b o e) (ne_of_none e nx)
      obtain ⟨nr1, nr2⟩ := (g0.same s0).none hra
      have g1 := g0.same s1
      refine ⟨Nat.zero_le _, fun bl hbl => ⟨_, _, rfl, ?_⟩⟩
      obtain ⟨nb1, nb2⟩ := g1.none hbl
      obtain ⟨v1, hv1, _⟩ := d1.rows
      have s2 := sN (o := .lst []) hbl
      have L2 : Led CD (upd H1 bl (.lst [])) p l x dx ra bl [] 0 := ⟨g1.same s2, d1.same s2, ⟨[], upd_same, .nil⟩, ne_of_none hv1 hbl, nr1, nr2, nb1, nb2⟩
      revert L2
      generalize (upd H1 bl (.lst [])) = H2
      intro L2
      clear g1 s1 s0 s2 hv1 d1 b1 hbl hra g0 nx ndx nxd
      refine ⟨_, rfl, _, rfl, _, rfl, _, rfl, p, l, 16, rfl, L2.g, by decide, by decide, fun d H3 d0 d1 g3 k3 => ?_⟩
      obtain ⟨n, rfl⟩ : ∃ n' : Nat, d = (n' : Int) := ⟨d.toNat, by omega⟩
      have L3 := L2.kp g3 k3
      refine ⟨p, l, x, dx, ra, bl, [], 0, n, rfl, L3, by show 0 + n ≤ 200; omega, fun r1 c1 m1 H4 L4 l4 n4 B4 => ?_⟩
      have l4 : c1.length ≤ 15 := Nat.le_trans l4 (by show 0 + n ≤ 15; omega)
      clear L3 L2 B4 n4 g3 k3
      obtain ⟨us, hu4, ru4⟩ := L4.b
      refine ⟨_, rfl, _, rfl, iteF ?_⟩
      refine ⟨_, rfl, bl, us, c1, rfl, hu4, ru4, by omega, fun H5 s5 => ⟨_, rfl, iteF ?_⟩⟩
      have L5 := L4.same s5
      clear L4
      refine ⟨_, rfl, x, dx, _, rfl, L5.d.at_, rfl, x, dx, r1, c1, m1, rfl, L5.d, fun y dy rb H6 hy hrb s6 d6 => ?_⟩
      refine ⟨_, rfl, bl, us, rfl, .inl (SqL.of (s6 _ _ (s5 _ _ hu4))), fun ol hol => ⟨_, _, rfl, ?_⟩⟩
      have s7 := sN (o := .lst us) hol
      have L6 := L5.same s6
      have g6 := L6.g
      obtain ⟨no1, no2⟩ := g6.none hol
      obtain ⟨nb1', nb2'⟩ := L5.g.none hrb
      obtain ⟨vb, hvb, _⟩ := d6.rows
      obtain ⟨vr, hvr, _⟩ := L6.d.rows
      obtain ⟨vr5, hvr5, _⟩ := L5.d.rows
      obtain ⟨vl, hvl, _⟩ := L6.b
      have M7 : Led CD (upd H6 ol (.lst us)) p l y dy rb ol c1 m1 := ⟨g6.same s7, d6.same s7, ⟨us, upd_same, ru4.tk (.of (sT s5 (sT s6 s7)))⟩, ne_of_none hvb hol, nb1', nb2', no1, no2⟩
      have L7 := L6.same s7
      have nyx : x ≠ y := ne_of_none L5.d.at_ hy
      have nrr : r1 ≠ rb := ne_of_none hvr5 hrb
      have nro : r1 ≠ ol := ne_of_none hvr hol
      have nbr : bl ≠ rb := ne_of_none (s5 _ _ hu4) hrb
      have nbo : bl ≠ ol := ne_of_none (s6 _ _ (s5 _ _ hu4)) hol
      clear L6 L5 g6 hvb hvr hvl hvr5 hy hrb hol s7 s6 s5 hu4 ru4 d6
      revert M7 L7
      generalize (upd H6 ol (.lst us)) = H7
      intro M7 L7
      refine ⟨_, rfl, _, rfl, _, rfl, _, rfl, _, rfl, p, l, 9, rfl, L7.g, by decide, by decide, fun d H8 d0' d1' g8 k8 => ?_⟩
      obtain ⟨n', rfl⟩ : ∃ n' : Nat, d = (n' : Int) := ⟨d.toNat, by omega⟩
      have L8 := L7.kp g8 k8
      have M8 := M7.kp g8 k8
      clear L7 M7 g8 k8
      refine ⟨p, l, y, dy, rb, ol, c1, m1, n', rfl, M8, by omega, fun r2 c2 m2 H9 M9 l9 n9 B9 => ?_⟩
      have L9 := M8.oth L8 nyx nrr nro nbr nbo B9 M9.g
      have l9 : c2.length ≤ 23 := by omega
      obtain ⟨ua, hua, rua⟩ := L8.b
      obtain ⟨va, hva, rva⟩ := L8.d.rows
      have nr2' : r1 ≠ r2 := n9.elim (fun e => by rw [e]; exact nrr) fun n => ne_of_none hva n
      have nb2'' : bl ≠ r2 := n9.elim (fun e => by rw [e]; exact nbr) fun n => ne_of_none hua n
      clear L8 M8 B9 n9 hva hua rua rva
      refine ⟨_, rfl, iteF ?_⟩
      refine ⟨_, rfl, x, dx, _, rfl, L9.d.at_, rfl, x, dx, r1, c1, m1, rfl, L9.d, fun z H10 hz s10 hr10 => ?_⟩
      obtain ⟨vz, hz10, rz⟩ := hr10
      have L10 := L9.same s10
      have M10 := M9.same s10
      clear L9 M9
      obtain ⟨ub, hub, rub⟩ := L10.b
      refine ⟨_, rfl, z, bl, vz, ub, c1, rfl, rfl, hz10, hub, rz, rub, _, rfl, iteF ?_⟩
      clear hub rub hz10 rz hz s10
      refine ⟨_, rfl, _, rfl, _, rfl, _, rfl, _, rfl, p, l, 9, rfl, L10.g, by decide, by decide, fun d H11 d0'' d1'' g11 k11 => ?_⟩
      obtain ⟨n'', rfl⟩ : ∃ n' : Nat, d = (n' : Int) := ⟨d.toNat, by omega⟩
      have L11 := L10.kp g11 k11
      have M11 := M10.kp g11 k11
      clear L10 M10 g11 k11
      refine ⟨p, l, x, dx, r1, bl, c1, m1, n'', rfl, L11, by omega, fun r3 c3 m3 H12 L12 l12 n12 B12 => ?_⟩
      have M12 := L11.oth M11 nyx.symm nr2'.symm nb2''.symm nro.symm nbo.symm B12 L12.g
      have l12 : c3.length ≤ 23 := by omega
      clear L11 M11 B12 n12
      refine ⟨_, rfl, iteF ?_⟩
      refine ⟨_, rfl, y, dy, _, rfl, M12.d.at_, rfl, y, dy, r2, c2, m2, rfl, M12.d, fun z H13 hz s13 hr13 => ?_⟩
      obtain ⟨vz, hz13, rz⟩ := hr13
      have L13 := L12.same s13
      have M13 := M12.same s13
      clear L12 M12
      obtain ⟨ub, hub, rub⟩ := M13.b
      refine ⟨_, rfl, z, ol, vz, ub, c2, rfl, rfl, hz13, hub, rz, rub, _, rfl, iteF ?_⟩
      clear hz13 rz hz s13
      obtain ⟨uc, huc, ruc⟩ := L13.b
      refine ⟨_, rfl, bl, uc, c3, rfl, huc, ruc, by omega, fun H14 s14 => ⟨_, rfl, iteF ?_⟩⟩
      refine ⟨_, rfl, ol, ub, c2, rfl, s14 _ _ hub, rub.tk (.of s14), by omega, fun H15 s15 => ⟨_, rfl, iteF ?_⟩⟩
      have L15 := (L13.same s14).same s15
      clear L13 M13 hub rub huc ruc s14 s15
      refine ⟨_, rfl, x, dx, _, rfl, L15.d.at_, rfl, x, dx, r3, c3, m3, rfl, L15.d, fun z H16 hz s16 hr16 => ?_⟩
      obtain ⟨vz, hz16, rz⟩ := hr16
      refine ⟨.inl ⟨rfl, _, SqL.of hz16⟩, Nat.zero_le _, fun e he => ?_⟩
      have s17 := sN (o := .tup []) he
      refine ⟨z, _, _, rfl, rfl, s17 _ _ hz16, size_ok (by rw [rz.1]; omega), ?_⟩
      have L18 := L15.same (sNew (o := .lst (vz ++ [.ref e])) (sT s16 s17) hz)
      revert L18
      generalize (upd (upd H16 e (.tup [])) z (.lst (vz ++ [.ref e]))) = H18
      intro L18
      refine ⟨_, rfl, x, dx, _, rfl, L18.d.at_, rfl, x, dx, r3, c3, m3, rfl, L18.d, fun z H19 hz s19 hr19 => ?_⟩
      obtain ⟨vz, hz19, rz⟩ := hr19
      have L19 := L18.same s19
      obtain ⟨ub, hub, rub⟩ := L19.b
      refine ⟨_, rfl, z, bl, vz, ub, c3, rfl, rfl, hz19, hub, rz, rub, _, rfl, iteF ?_⟩
      exact ⟨_, _, _, _, _, _, rfl, L19.g⟩
    · rintro σ H' ⟨x2, x3, x4, x5, x6, x7, rfl, g⟩
      exact k H'
end
end Q

namespace Q
open PySem L2 QR
theorem exm_me {K : PySem.W.Frag} {S : Addr} (h1 : PySem.W.subIn K (.ref S) (.type "BaseException") = some true) (h2 : PySem.W.isClsIn K S = true) (h3 : PySem.W.typeIn K (.ref S) = some (.type "type")) (h4 : PySem.W.subIn K (.ref S) (.ref S) = some true) : PySem.W.exmOne K (.ref S) (.ref S) = some true := by
  have u1 : (PySem.W.subIn K (.ref S) (.type "BaseException") == some true) = true := by rw [h1] <;> rfl
  have u2 : ((PySem.W.clsIn K S).isSome && PySem.W.typeIn K (.ref S) == some (.type "type")) = true := by
    have z : (PySem.W.clsIn K S).isSome = true := h2
    rw [z, h3] <;> rfl
  show (if (PySem.W.subIn K (.ref S) (.type "BaseException") == some true) = true then (if ((PySem.W.clsIn K S).isSome && PySem.W.typeIn K (.ref S) == some (.type "type")) = true then PySem.W.subIn K (.ref S) (.ref S) else none) else none) = some true
  rw [if_pos u1, if_pos u2, h4]

theorem all_mk {l : PySem.W.OpenLaw} {w : World} {K : PySem.W.Frag} {h : Heap} {mg : Str → Option Value} {fa : Addr} (X : K.In h) (G : h.Ns mainGlobals mg) (hfa : mg "law" = some (.ref fa))
    {tc_BYTES : Tok}
    {tc_MOST_DEEP : Tok}
    {tc_MOST_SIGNS : Tok}
    {tc_FROM_0_ON : Tok}
    {tc_BELOW_0 : Tok}
    {tc_STRING : Tok}
    {tc_TUPLE : Tok}
    {tc_FIRST_SIGN : Tok}
    {tc_NO_SIGN : Tok}
    {tc_LAST_SIGN : Tok}
    {tc_MARK_FACTOR : Tok}
    {tc_MARKS : Tok}
    {tc_SEALS : Tok}
    {tc_SEAL_LENGTH : Tok}
    {CR : Addr} {tsb tsa : Tok} {aBA : Addr} {itBA : Array Value} {nuBA : Nat} {slBA : Array (Option Value)}
    {CB fB : Addr} {nmB qB : Str} {NB : Addr} {bsB bmB : List Value} {snB : List Str} {subB : List Value} {abB : Bool} {colB : Option Bool} {ddB : Option Addr} {k0B k1B k2B k3B k5B : Option Value} {ocB : Value} {odB anB : Option Addr} {slB : Array (Option Value)} {kVB dcB pmB cdB ctB : Value}
    {fmI : Addr} {ocmI kVmI dcmI pmmI cdmI ctmI : Value} {odmI anmI : Option Addr} {slmI : Array (Option Value)}
    {fmD : Addr} {ocmD kVmD dcmD pmmD cdmD ctmD : Value} {odmD anmD : Option Addr} {slmD : Array (Option Value)}
    {fmW : Addr} {ocmW kVmW dcmW pmmW cdmW ctmW : Value} {odmW anmW : Option Addr} {slmW : Array (Option Value)}
    {fmS : Addr} {ocmS kVmS dcmS pmmS cdmS ctmS : Value} {odmS anmS : Option Addr} {slmS : Array (Option Value)}
    {fmT : Addr} {ocmT kVmT dcmT pmmT cdmT ctmT : Value} {odmT anmT : Option Addr} {slmT : Array (Option Value)}
    {fmP : Addr} {ocmP kVmP dcmP pmmP cdmP ctmP : Value} {odmP anmP : Option Addr} {slmP : Array (Option Value)}
    {CD : Addr}
    {fdI : Addr} {ocdI kVdI dcdI pmdI cddI ctdI : Value} {oddI andI : Option Addr} {sldI : Array (Option Value)}
    {fdW : Addr} {ocdW kVdW dcdW pmdW cddW ctdW : Value} {oddW andW : Option Addr} {sldW : Array (Option Value)}
    {fdS : Addr} {ocdS kVdS dcdS pmdS cddS ctdS : Value} {oddS andS : Option Addr} {sldS : Array (Option Value)}
    {fdB : Addr} {ocdB kVdB dcdB pmdB cddB ctdB : Value} {oddB andB : Option Addr} {sldB : Array (Option Value)}
    {fdY : Addr} {ocdY kVdY dcdY pmdY cddY ctdY : Value} {oddY andY : Option Addr} {sldY : Array (Option Value)}
    {fdC : Addr} {ocdC kVdC dcdC pmdC cddC ctdC : Value} {oddC andC : Option Addr} {sldC : Array (Option Value)}
    {fdD : Addr} {ocdD kVdD dcdD pmdD cddD ctdD : Value} {oddD andD : Option Addr} {sldD : Array (Option Value)}
    {fdK : Addr} {ocdK kVdK dcdK pmdK cddK ctdK : Value} {oddK andK : Option Addr} {sldK : Array (Option Value)}
    {f0 : Addr} {od0 an0 : Option Addr} {sl0 : Array (Option Value)} {oc0 kV0 dc0 pm0 cd0 ct0 : Value}
    {f1 : Addr} {od1 an1 : Option Addr} {sl1 : Array (Option Value)} {oc1 kV1 dc1 pm1 cd1 ct1 : Value}
    {f2 : Addr} {od2 an2 : Option Addr} {sl2 : Array (Option Value)} {oc2 kV2 dc2 pm2 cd2 ct2 : Value}
    {f3 : Addr} {od3 an3 : Option Addr} {sl3 : Array (Option Value)} {oc3 kV3 dc3 pm3 cd3 ct3 : Value}
    {f4 : Addr} {od4 an4 : Option Addr} {sl4 : Array (Option Value)} {oc4 kV4 dc4 pm4 cd4 ct4 : Value}
    {f5 : Addr} {od5 an5 : Option Addr} {sl5 : Array (Option Value)} {oc5 kV5 dc5 pm5 cd5 ct5 : Value}
    {f6 : Addr} {od6 an6 : Option Addr} {sl6 : Array (Option Value)} {oc6 kV6 dc6 pm6 cd6 ct6 : Value}
    {f7 : Addr} {od7 an7 : Option Addr} {sl7 : Array (Option Value)} {oc7 kV7 dc7 pm7 cd7 ct7 : Value}
    {f8 : Addr} {od8 an8 : Option Addr} {sl8 : Array (Option Value)} {oc8 kV8 dc8 pm8 cd8 ct8 : Value}
    {f9 : Addr} {od9 an9 : Option Addr} {sl9 : Array (Option Value)} {oc9 kV9 dc9 pm9 cd9 ct9 : Value}
    {f10 : Addr} {od10 an10 : Option Addr} {sl10 : Array (Option Value)} {oc10 kV10 dc10 pm10 cd10 ct10 : Value}
    {f11 : Addr} {od11 an11 : Option Addr} {sl11 : Array (Option Value)} {oc11 kV11 dc11 pm11 cd11 ct11 : Value}
    {f12 : Addr} {od12 an12 : Option Addr} {sl12 : Array (Option Value)} {oc12 kV12 dc12 pm12 cd12 ct12 : Value}
    {f13 : Addr} {od13 an13 : Option Addr} {sl13 : Array (Option Value)} {oc13 kV13 dc13 pm13 cd13 ct13 : Value}
    {f14 : Addr} {od14 an14 : Option Addr} {sl14 : Array (Option Value)} {oc14 kV14 dc14 pm14 cd14 ct14 : Value}
    {f15 : Addr} {od15 an15 : Option Addr} {sl15 : Array (Option Value)} {oc15 kV15 dc15 pm15 cd15 ct15 : Value}
    {f16 : Addr} {od16 an16 : Option Addr} {sl16 : Array (Option Value)} {oc16 kV16 dc16 pm16 cd16 ct16 : Value}
    {f17 : Addr} {od17 an17 : Option Addr} {sl17 : Array (Option Value)} {oc17 kV17 dc17 pm17 cd17 ct17 : Value}
    {f18 : Addr} {od18 an18 : Option Addr} {sl18 : Array (Option Value)} {oc18 kV18 dc18 pm18 cd18 ct18 : Value}
    {f19 : Addr} {od19 an19 : Option Addr} {sl19 : Array (Option Value)} {oc19 kV19 dc19 pm19 cd19 ct19 : Value}
    {f20 : Addr} {od20 an20 : Option Addr} {sl20 : Array (Option Value)} {oc20 kV20 dc20 pm20 cd20 ct20 : Value}
    {f21 : Addr} {od21 an21 : Option Addr} {sl21 : Array (Option Value)} {oc21 kV21 dc21 pm21 cd21 ct21 : Value}
    {f22 : Addr} {od22 an22 : Option Addr} {sl22 : Array (Option Value)} {oc22 kV22 dc22 pm22 cd22 ct22 : Value}
    {f23 : Addr} {od23 an23 : Option Addr} {sl23 : Array (Option Value)} {oc23 kV23 dc23 pm23 cd23 ct23 : Value}
    {f24 : Addr} {od24 an24 : Option Addr} {sl24 : Array (Option Value)} {oc24 kV24 dc24 pm24 cd24 ct24 : Value}
    {f25 : Addr} {od25 an25 : Option Addr} {sl25 : Array (Option Value)} {oc25 kV25 dc25 pm25 cd25 ct25 : Value}
    {f26 : Addr} {od26 an26 : Option Addr} {sl26 : Array (Option Value)} {oc26 kV26 dc26 pm26 cd26 ct26 : Value}
    {f27 : Addr} {od27 an27 : Option Addr} {sl27 : Array (Option Value)} {oc27 kV27 dc27 pm27 cd27 ct27 : Value}
    {f28 : Addr} {od28 an28 : Option Addr} {sl28 : Array (Option Value)} {oc28 kV28 dc28 pm28 cd28 ct28 : Value}
    {f29 : Addr} {od29 an29 : Option Addr} {sl29 : Array (Option Value)} {oc29 kV29 dc29 pm29 cd29 ct29 : Value}
    {f30 : Addr} {od30 an30 : Option Addr} {sl30 : Array (Option Value)} {oc30 kV30 dc30 pm30 cd30 ct30 : Value}
    {f31 : Addr} {od31 an31 : Option Addr} {sl31 : Array (Option Value)} {oc31 kV31 dc31 pm31 cd31 ct31 : Value}
    (a0 : PySem.W.nsIn K mainGlobals "is_plain_int" = some (some (.ref f0)))
    (l0 : K.lookup f0 = some ⟨oc0, od0, .func (PySem.W.fnOf "is_plain_int" "is_plain_int" (defArgs sPlain) (defBody sPlain) (defScope sPlain) .none kV0 dc0 pm0 an0 cd0 ct0), sl0⟩)
    (c0 : PySem.W.codeIn K cd0 "is_plain_int" = true)
    (k0 : PySem.W.keepIn K (.ref f0) = true)
    (a1 : PySem.W.nsIn K mainGlobals "is_number_below" = some (some (.ref f1)))
    (l1 : K.lookup f1 = some ⟨oc1, od1, .func (PySem.W.fnOf "is_number_below" "is_number_below" (defArgs sNum) (defBody sNum) (defScope sNum) .none kV1 dc1 pm1 an1 cd1 ct1), sl1⟩)
    (c1 : PySem.W.codeIn K cd1 "is_number_below" = true)
    (k1 : PySem.W.keepIn K (.ref f1) = true)
    (a2 : PySem.W.nsIn K mainGlobals "is_row" = some (some (.ref f2)))
    (l2 : K.lookup f2 = some ⟨oc2, od2, .func (PySem.W.fnOf "is_row" "is_row" (defArgs sIsRow) (defBody sIsRow) (defScope sIsRow) .none kV2 dc2 pm2 an2 cd2 ct2), sl2⟩)
    (c2 : PySem.W.codeIn K cd2 "is_row" = true)
    (k2 : PySem.W.keepIn K (.ref f2) = true)
    (a3 : PySem.W.nsIn K mainGlobals "is_sign" = some (some (.ref f3)))
    (l3 : K.lookup f3 = some ⟨oc3, od3, .func (PySem.W.fnOf "is_sign" "is_sign" (defArgs sIsSg) (defBody sIsSg) (defScope sIsSg) .none kV3 dc3 pm3 an3 cd3 ct3), sl3⟩)
    (c3 : PySem.W.codeIn K cd3 "is_sign" = true)
    (k3 : PySem.W.keepIn K (.ref f3) = true)
    (a4 : PySem.W.nsIn K mainGlobals "sign_of" = some (some (.ref f4)))
    (l4 : K.lookup f4 = some ⟨oc4, od4, .func (PySem.W.fnOf "sign_of" "sign_of" (defArgs sSgOf) (defBody sSgOf) (defScope sSgOf) .none kV4 dc4 pm4 an4 cd4 ct4), sl4⟩)
    (c4 : PySem.W.codeIn K cd4 "sign_of" = true)
    (k4 : PySem.W.keepIn K (.ref f4) = true)
    (a5 : PySem.W.nsIn K mainGlobals "read_whole_row" = some (some (.ref f5)))
    (l5 : K.lookup f5 = some ⟨oc5, od5, .func (PySem.W.fnOf "read_whole_row" "read_whole_row" (defArgs sRAll) (defBody sRAll) (defScope sRAll) .none kV5 dc5 pm5 an5 cd5 ct5), sl5⟩)
    (c5 : PySem.W.codeIn K cd5 "read_whole_row" = true)
    (k5 : PySem.W.keepIn K (.ref f5) = true)
    (a6 : PySem.W.nsIn K mainGlobals "mark_of" = some (some (.ref f6)))
    (l6 : K.lookup f6 = some ⟨oc6, od6, .func (PySem.W.fnOf "mark_of" "mark_of" (defArgs sMkOf) (defBody sMkOf) (defScope sMkOf) .none kV6 dc6 pm6 an6 cd6 ct6), sl6⟩)
    (c6 : PySem.W.codeIn K cd6 "mark_of" = true)
    (k6 : PySem.W.keepIn K (.ref f6) = true)
    (a7 : PySem.W.nsIn K mainGlobals "seal_of" = some (some (.ref f7)))
    (l7 : K.lookup f7 = some ⟨oc7, od7, .func (PySem.W.fnOf "seal_of" "seal_of" (defArgs sSeal) (defBody sSeal) (defScope sSeal) .none kV7 dc7 pm7 an7 cd7 ct7), sl7⟩)
    (c7 : PySem.W.codeIn K cd7 "seal_of" = true)
    (k7 : PySem.W.keepIn K (.ref f7) = true)
    (a8 : PySem.W.nsIn K mainGlobals "unsealed" = some (some (.ref f8)))
    (l8 : K.lookup f8 = some ⟨oc8, od8, .func (PySem.W.fnOf "unsealed" "unsealed" (defArgs sUns) (defBody sUns) (defScope sUns) .none kV8 dc8 pm8 an8 cd8 ct8), sl8⟩)
    (c8 : PySem.W.codeIn K cd8 "unsealed" = true)
    (k8 : PySem.W.keepIn K (.ref f8) = true)
    (a9 : PySem.W.nsIn K mainGlobals "is_cut" = some (some (.ref f9)))
    (l9 : K.lookup f9 = some ⟨oc9, od9, .func (PySem.W.fnOf "is_cut" "is_cut" (defArgs sCut) (defBody sCut) (defScope sCut) .none kV9 dc9 pm9 an9 cd9 ct9), sl9⟩)
    (c9 : PySem.W.codeIn K cd9 "is_cut" = true)
    (k9 : PySem.W.keepIn K (.ref f9) = true)
    (a10 : PySem.W.nsIn K mainGlobals "kept_parcels" = some (some (.ref f10)))
    (l10 : K.lookup f10 = some ⟨oc10, od10, .func (PySem.W.fnOf "kept_parcels" "kept_parcels" (defArgs sKP) (defBody sKP) (defScope sKP) .none kV10 dc10 pm10 an10 cd10 ct10), sl10⟩)
    (c10 : PySem.W.codeIn K cd10 "kept_parcels" = true)
    (k10 : PySem.W.keepIn K (.ref f10) = true)
    (a11 : PySem.W.nsIn K mainGlobals "_law_pool" = some (some (.ref f11)))
    (l11 : K.lookup f11 = some ⟨oc11, od11, .func (PySem.W.fnOf "_law_pool" "_law_pool" (defArgs sPool) (defBody sPool) (defScope sPool) .none kV11 dc11 pm11 an11 cd11 ct11), sl11⟩)
    (c11 : PySem.W.codeIn K cd11 "_law_pool" = true)
    (k11 : PySem.W.keepIn K (.ref f11) = true)
    (a12 : PySem.W.nsIn K mainGlobals "_law_draw" = some (some (.ref f12)))
    (l12 : K.lookup f12 = some ⟨oc12, od12, .func (PySem.W.fnOf "_law_draw" "_law_draw" (defArgs sDraw) (defBody sDraw) (defScope sDraw) .none kV12 dc12 pm12 an12 cd12 ct12), sl12⟩)
    (c12 : PySem.W.codeIn K cd12 "_law_draw" = true)
    (k12 : PySem.W.keepIn K (.ref f12) = true)
    (a13 : PySem.W.nsIn K mainGlobals "_law_is" = some (some (.ref f13)))
    (l13 : K.lookup f13 = some ⟨oc13, od13, .func (PySem.W.fnOf "_law_is" "_law_is" (defArgs sIs) (defBody sIs) (defScope sIs) .none kV13 dc13 pm13 an13 cd13 ct13), sl13⟩)
    (c13 : PySem.W.codeIn K cd13 "_law_is" = true)
    (k13 : PySem.W.keepIn K (.ref f13) = true)
    (a14 : PySem.W.nsIn K mainGlobals "_law_whole" = some (some (.ref f14)))
    (l14 : K.lookup f14 = some ⟨oc14, od14, .func (PySem.W.fnOf "_law_whole" "_law_whole" (defArgs sLW) (defBody sLW) (defScope sLW) .none kV14 dc14 pm14 an14 cd14 ct14), sl14⟩)
    (c14 : PySem.W.codeIn K cd14 "_law_whole" = true)
    (k14 : PySem.W.keepIn K (.ref f14) = true)
    (a15 : PySem.W.nsIn K mainGlobals "_law_bytes" = some (some (.ref f15)))
    (l15 : K.lookup f15 = some ⟨oc15, od15, .func (PySem.W.fnOf "_law_bytes" "_law_bytes" (defArgs sLB) (defBody sLB) (defScope sLB) .none kV15 dc15 pm15 an15 cd15 ct15), sl15⟩)
    (c15 : PySem.W.codeIn K cd15 "_law_bytes" = true)
    (k15 : PySem.W.keepIn K (.ref f15) = true)
    (a16 : PySem.W.nsIn K mainGlobals "_law_number" = some (some (.ref f16)))
    (l16 : K.lookup f16 = some ⟨oc16, od16, .func (PySem.W.fnOf "_law_number" "_law_number" (defArgs sLNum) (defBody sLNum) (defScope sLNum) .none kV16 dc16 pm16 an16 cd16 ct16), sl16⟩)
    (c16 : PySem.W.codeIn K cd16 "_law_number" = true)
    (k16 : PySem.W.keepIn K (.ref f16) = true)
    (a17 : PySem.W.nsIn K mainGlobals "_law_parcel" = some (some (.ref f17)))
    (l17 : K.lookup f17 = some ⟨oc17, od17, .func (PySem.W.fnOf "_law_parcel" "_law_parcel" (defArgs sLPar) (defBody sLPar) (defScope sLPar) .none kV17 dc17 pm17 an17 cd17 ct17), sl17⟩)
    (c17 : PySem.W.codeIn K cd17 "_law_parcel" = true)
    (k17 : PySem.W.keepIn K (.ref f17) = true)
    (a18 : PySem.W.nsIn K mainGlobals "_law_same" = some (some (.ref f18)))
    (l18 : K.lookup f18 = some ⟨oc18, od18, .func (PySem.W.fnOf "_law_same" "_law_same" (defArgs sSame) (defBody sSame) (defScope sSame) .none kV18 dc18 pm18 an18 cd18 ct18), sl18⟩)
    (c18 : PySem.W.codeIn K cd18 "_law_same" = true)
    (k18 : PySem.W.keepIn K (.ref f18) = true)
    (a19 : PySem.W.nsIn K mainGlobals "_law_sign" = some (some (.ref f19)))
    (l19 : K.lookup f19 = some ⟨oc19, od19, .func (PySem.W.fnOf "_law_sign" "_law_sign" (defArgs sLSg) (defBody sLSg) (defScope sLSg) .none kV19 dc19 pm19 an19 cd19 ct19), sl19⟩)
    (c19 : PySem.W.codeIn K cd19 "_law_sign" = true)
    (k19 : PySem.W.keepIn K (.ref f19) = true)
    (a20 : PySem.W.nsIn K mainGlobals "_law_read_whole" = some (some (.ref f20)))
    (l20 : K.lookup f20 = some ⟨oc20, od20, .func (PySem.W.fnOf "_law_read_whole" "_law_read_whole" (defArgs sLRW) (defBody sLRW) (defScope sLRW) .none kV20 dc20 pm20 an20 cd20 ct20), sl20⟩)
    (c20 : PySem.W.codeIn K cd20 "_law_read_whole" = true)
    (k20 : PySem.W.keepIn K (.ref f20) = true)
    (a21 : PySem.W.nsIn K mainGlobals "_law_read" = some (some (.ref f21)))
    (l21 : K.lookup f21 = some ⟨oc21, od21, .func (PySem.W.fnOf "_law_read" "_law_read" (defArgs sLR) (defBody sLR) (defScope sLR) .none kV21 dc21 pm21 an21 cd21 ct21), sl21⟩)
    (c21 : PySem.W.codeIn K cd21 "_law_read" = true)
    (k21 : PySem.W.keepIn K (.ref f21) = true)
    (a22 : PySem.W.nsIn K mainGlobals "_law_read_string" = some (some (.ref f22)))
    (l22 : K.lookup f22 = some ⟨oc22, od22, .func (PySem.W.fnOf "_law_read_string" "_law_read_string" (defArgs sLRS) (defBody sLRS) (defScope sLRS) .none kV22 dc22 pm22 an22 cd22 ct22), sl22⟩)
    (c22 : PySem.W.codeIn K cd22 "_law_read_string" = true)
    (k22 : PySem.W.keepIn K (.ref f22) = true)
    (a23 : PySem.W.nsIn K mainGlobals "_law_told" = some (some (.ref f23)))
    (l23 : K.lookup f23 = some ⟨oc23, od23, .func (PySem.W.fnOf "_law_told" "_law_told" (defArgs sTold) (defBody sTold) (defScope sTold) .none kV23 dc23 pm23 an23 cd23 ct23), sl23⟩)
    (c23 : PySem.W.codeIn K cd23 "_law_told" = true)
    (k23 : PySem.W.keepIn K (.ref f23) = true)
    (a24 : PySem.W.nsIn K mainGlobals "_law_mark" = some (some (.ref f24)))
    (l24 : K.lookup f24 = some ⟨oc24, od24, .func (PySem.W.fnOf "_law_mark" "_law_mark" (defArgs sLMk) (defBody sLMk) (defScope sLMk) .none kV24 dc24 pm24 an24 cd24 ct24), sl24⟩)
    (c24 : PySem.W.codeIn K cd24 "_law_mark" = true)
    (k24 : PySem.W.keepIn K (.ref f24) = true)
    (a25 : PySem.W.nsIn K mainGlobals "_law_sealed" = some (some (.ref f25)))
    (l25 : K.lookup f25 = some ⟨oc25, od25, .func (PySem.W.fnOf "_law_sealed" "_law_sealed" (defArgs sLSl) (defBody sLSl) (defScope sLSl) .none kV25 dc25 pm25 an25 cd25 ct25), sl25⟩)
    (c25 : PySem.W.codeIn K cd25 "_law_sealed" = true)
    (k25 : PySem.W.keepIn K (.ref f25) = true)
    (a26 : PySem.W.nsIn K mainGlobals "_law_opened" = some (some (.ref f26)))
    (l26 : K.lookup f26 = some ⟨oc26, od26, .func (PySem.W.fnOf "_law_opened" "_law_opened" (defArgs sOpen) (defBody sOpen) (defScope sOpen) .none kV26 dc26 pm26 an26 cd26 ct26), sl26⟩)
    (c26 : PySem.W.codeIn K cd26 "_law_opened" = true)
    (k26 : PySem.W.keepIn K (.ref f26) = true)
    (a27 : PySem.W.nsIn K mainGlobals "_law_kept" = some (some (.ref f27)))
    (l27 : K.lookup f27 = some ⟨oc27, od27, .func (PySem.W.fnOf "_law_kept" "_law_kept" (defArgs sLKt) (defBody sLKt) (defScope sLKt) .none kV27 dc27 pm27 an27 cd27 ct27), sl27⟩)
    (c27 : PySem.W.codeIn K cd27 "_law_kept" = true)
    (k27 : PySem.W.keepIn K (.ref f27) = true)
    (a28 : PySem.W.nsIn K mainGlobals "_law_block" = some (some (.ref f28)))
    (l28 : K.lookup f28 = some ⟨oc28, od28, .func (PySem.W.fnOf "_law_block" "_law_block" (defArgs sLBk) (defBody sLBk) (defScope sLBk) .none kV28 dc28 pm28 an28 cd28 ct28), sl28⟩)
    (c28 : PySem.W.codeIn K cd28 "_law_block" = true)
    (k28 : PySem.W.keepIn K (.ref f28) = true)
    (a29 : PySem.W.nsIn K mainGlobals "_law_led" = some (some (.ref f29)))
    (l29 : K.lookup f29 = some ⟨oc29, od29, .func (PySem.W.fnOf "_law_led" "_law_led" (defArgs sLed) (defBody sLed) (defScope sLed) .none kV29 dc29 pm29 an29 cd29 ct29), sl29⟩)
    (c29 : PySem.W.codeIn K cd29 "_law_led" = true)
    (k29 : PySem.W.keepIn K (.ref f29) = true)
    (a30 : PySem.W.nsIn K mainGlobals "_law_parcels_right" = some (some (.ref f30)))
    (l30 : K.lookup f30 = some ⟨oc30, od30, .func (PySem.W.fnOf "_law_parcels_right" "_law_parcels_right" (defArgs sPR) (defBody sPR) (defScope sPR) .none kV30 dc30 pm30 an30 cd30 ct30), sl30⟩)
    (c30 : PySem.W.codeIn K cd30 "_law_parcels_right" = true)
    (k30 : PySem.W.keepIn K (.ref f30) = true)
    (a31 : PySem.W.nsIn K mainGlobals "law" = some (some (.ref f31)))
    (l31 : K.lookup f31 = some ⟨oc31, od31, .func (PySem.W.fnOf "law" "law" (defArgs sLaw) (defBody sLaw) (defScope sLaw) .none kV31 dc31 pm31 an31 cd31 ct31), sl31⟩)
    (c31 : PySem.W.codeIn K cd31 "law" = true)
    (k31 : PySem.W.keepIn K (.ref f31) = true)
    (r_aC : PySem.W.nsIn K mainGlobals "RowReader" = some (some (.ref CR)))
    (r_pg : PySem.W.plainGet K CR Str.empty = true)
    (r_hd : PySem.W.hasDictIn K CR = true)
    (r_po : PySem.W.plainOver K CR = true)
    (r_sa : PySem.W.findIn K (.ref CR) "__setattr__" = some (some (.builtin "object.__setattr__")))
    (r_mk : PySem.W.makesIn K CR = true)
    (r_kc : PySem.W.keepIn K (.ref CR) = true)
    (r_n0 : PySem.W.findIn K (.ref CR) "row" = some none)
    (r_n1 : PySem.W.findIn K (.ref CR) "at" = some none)
    (mIf : PySem.W.findIn K (.ref CR) "__init__" = some (some (.ref fmI)))
    (mIi : PySem.W.isFn K (.ref fmI) = true)
    (mIl : K.lookup fmI = some ⟨ocmI, odmI, .func (PySem.W.fnOf "__init__" "RowReader.__init__" (defArgs sRInit) (defBody sRInit) (defScope sRInit) .none kVmI dcmI pmmI anmI cdmI ctmI), slmI⟩)
    (mIc : PySem.W.codeIn K cdmI "RowReader.__init__" = true)
    (mIk : PySem.W.keepIn K (.ref fmI) = true)
    (mDf : PySem.W.findIn K (.ref CR) "due_byte" = some (some (.ref fmD)))
    (mDi : PySem.W.isFn K (.ref fmD) = true)
    (mDl : K.lookup fmD = some ⟨ocmD, odmD, .func (PySem.W.fnOf "due_byte" "RowReader.due_byte" (defArgs sDue) (defBody sDue) (defScope sDue) .none kVmD dcmD pmmD anmD cdmD ctmD), slmD⟩)
    (mDc : PySem.W.codeIn K cdmD "RowReader.due_byte" = true)
    (mDk : PySem.W.keepIn K (.ref fmD) = true)
    (mWf : PySem.W.findIn K (.ref CR) "read_whole" = some (some (.ref fmW)))
    (mWi : PySem.W.isFn K (.ref fmW) = true)
    (mWl : K.lookup fmW = some ⟨ocmW, odmW, .func (PySem.W.fnOf "read_whole" "RowReader.read_whole" (defArgs sRW) (defBody sRW) (defScope sRW) .none kVmW dcmW pmmW anmW cdmW ctmW), slmW⟩)
    (mWc : PySem.W.codeIn K cdmW "RowReader.read_whole" = true)
    (mWk : PySem.W.keepIn K (.ref fmW) = true)
    (mSf : PySem.W.findIn K (.ref CR) "read_string" = some (some (.ref fmS)))
    (mSi : PySem.W.isFn K (.ref fmS) = true)
    (mSl : K.lookup fmS = some ⟨ocmS, odmS, .func (PySem.W.fnOf "read_string" "RowReader.read_string" (defArgs sRS) (defBody sRS) (defScope sRS) .none kVmS dcmS pmmS anmS cdmS ctmS), slmS⟩)
    (mSc : PySem.W.codeIn K cdmS "RowReader.read_string" = true)
    (mSk : PySem.W.keepIn K (.ref fmS) = true)
    (mTf : PySem.W.findIn K (.ref CR) "read_tuple" = some (some (.ref fmT)))
    (mTi : PySem.W.isFn K (.ref fmT) = true)
    (mTl : K.lookup fmT = some ⟨ocmT, odmT, .func (PySem.W.fnOf "read_tuple" "RowReader.read_tuple" (defArgs sRT) (defBody sRT) (defScope sRT) .none kVmT dcmT pmmT anmT cdmT ctmT), slmT⟩)
    (mTc : PySem.W.codeIn K cdmT "RowReader.read_tuple" = true)
    (mTk : PySem.W.keepIn K (.ref fmT) = true)
    (mPf : PySem.W.findIn K (.ref CR) "read_parcel" = some (some (.ref fmP)))
    (mPi : PySem.W.isFn K (.ref fmP) = true)
    (mPl : K.lookup fmP = some ⟨ocmP, odmP, .func (PySem.W.fnOf "read_parcel" "RowReader.read_parcel" (defArgs sRP) (defBody sRP) (defScope sRP) .none kVmP dcmP pmmP anmP cdmP ctmP), slmP⟩)
    (mPc : PySem.W.codeIn K cdmP "RowReader.read_parcel" = true)
    (mPk : PySem.W.keepIn K (.ref fmP) = true)
    (sSB : PySem.W.nsIn K mainGlobals "SIGNS_BELOW" = some (some (.str (PySem.Str.ofString " !\"#$") tsb)))
    (sSA : PySem.W.nsIn K mainGlobals "SIGNS_ABOVE" = some (some (.str (PySem.Str.ofString "&'()*+,-./0123456789:;<=>?@ABCDEFGHIJKLMNOPQRSTUVWXYZ[\\]^_`abcdefghijklmnopqrstuvwxyz{|}~") tsa)))
    (bBA : PySem.W.nsIn K mainGlobals "BARE" = some (some (.ref aBA)))
    (lBA : K.lookup aBA = some ⟨.type "tuple", none, .seq itBA nuBA, slBA⟩)
    (zBA : itBA.size ≤ 64)
    (vBA : Vals [V.non, .bl false, .bl true] itBA.toList)
    (wN : PySem.W.nsIn K mainGlobals "BadRow" = some (some (.ref CB)))
    (wl : K.lookup CB = some (PySem.excClassObj nmB qB CB NB bsB bmB true snB subB abB colB ddB k0B k1B k2B k3B k5B "ValueError.__new__"))
    (wbm : PySem.HandSPX.refsVE bmB = true)
    (wi : PySem.W.findIn K (.ref CB) "__init__" = some (some (.ref fB)))
    (wt : PySem.W.typeIn K (.ref fB) = some (.type "function"))
    (wk : PySem.W.keepIn K (.ref CB) = true)
    (wb : PySem.W.subIn K (.ref CB) (.type "BaseException") = some true)
    (wy : PySem.W.typeIn K (.ref CB) = some (.type "type"))
    (ws : PySem.W.subIn K (.ref CB) (.ref CB) = some true)
    (wz : PySem.W.isClsIn K CB = true)
    (wsa : PySem.W.findIn K (.ref CB) "__setattr__" = some (some (.builtin "object.__setattr__")))
    (wp : PySem.W.findIn K (.ref CB) "place" = some none)
    (wga : PySem.W.findIn K (.ref CB) "__getattribute__" = some (some (.builtin "BaseException.__getattribute__")))
    (wgg : PySem.W.findIn K (.ref CB) "__getattr__" = some none)
    (whd : PySem.W.hasDictIn K CB = true)
    (wf : K.lookup fB = some ⟨ocB, odB, .func (PySem.W.fnOf "__init__" "BadRow.__init__" (defArgs sPlace) (defBody sPlace) (defScope sPlace) .none kVB dcB pmB anB cdB ctB), slB⟩)
    (wc : PySem.W.codeIn K cdB "BadRow.__init__" = true)
    (wkf : PySem.W.keepIn K (.ref fB) = true)
    (d_aC : PySem.W.nsIn K mainGlobals "Disk" = some (some (.ref CD)))
    (d_pg : PySem.W.plainGet K CD Str.empty = true)
    (d_hd : PySem.W.hasDictIn K CD = true)
    (d_po : PySem.W.plainOver K CD = true)
    (d_sa : PySem.W.findIn K (.ref CD) "__setattr__" = some (some (.builtin "object.__setattr__")))
    (d_mk : PySem.W.makesIn K CD = true)
    (d_kc : PySem.W.keepIn K (.ref CD) = true)
    (d_n0 : PySem.W.findIn K (.ref CD) "_rows" = some none)
    (d_n1 : PySem.W.findIn K (.ref CD) "_many_synced" = some none)
    (dIf : PySem.W.findIn K (.ref CD) "__init__" = some (some (.ref fdI)))
    (dIi : PySem.W.isFn K (.ref fdI) = true)
    (dIl : K.lookup fdI = some ⟨ocdI, oddI, .func (PySem.W.fnOf "__init__" "Disk.__init__" (defArgs sDI) (defBody sDI) (defScope sDI) .none kVdI dcdI pmdI andI cddI ctdI), sldI⟩)
    (dIc : PySem.W.codeIn K cddI "Disk.__init__" = true)
    (dIk : PySem.W.keepIn K (.ref fdI) = true)
    (dWf : PySem.W.findIn K (.ref CD) "write" = some (some (.ref fdW)))
    (dWi : PySem.W.isFn K (.ref fdW) = true)
    (dWl : K.lookup fdW = some ⟨ocdW, oddW, .func (PySem.W.fnOf "write" "Disk.write" (defArgs sDW) (defBody sDW) (defScope sDW) .none kVdW dcdW pmdW andW cddW ctdW), sldW⟩)
    (dWc : PySem.W.codeIn K cddW "Disk.write" = true)
    (dWk : PySem.W.keepIn K (.ref fdW) = true)
    (dSf : PySem.W.findIn K (.ref CD) "sync" = some (some (.ref fdS)))
    (dSi : PySem.W.isFn K (.ref fdS) = true)
    (dSl : K.lookup fdS = some ⟨ocdS, oddS, .func (PySem.W.fnOf "sync" "Disk.sync" (defArgs sDS) (defBody sDS) (defScope sDS) .none kVdS dcdS pmdS andS cddS ctdS), sldS⟩)
    (dSc : PySem.W.codeIn K cddS "Disk.sync" = true)
    (dSk : PySem.W.keepIn K (.ref fdS) = true)
    (dBf : PySem.W.findIn K (.ref CD) "blocks" = some (some (.ref fdB)))
    (dBi : PySem.W.isFn K (.ref fdB) = true)
    (dBl : K.lookup fdB = some ⟨ocdB, oddB, .func (PySem.W.fnOf "blocks" "Disk.blocks" (defArgs sDB) (defBody sDB) (defScope sDB) .none kVdB dcdB pmdB andB cddB ctdB), sldB⟩)
    (dBc : PySem.W.codeIn K cddB "Disk.blocks" = true)
    (dBk : PySem.W.keepIn K (.ref fdB) = true)
    (dYf : PySem.W.findIn K (.ref CD) "synced" = some (some (.ref fdY)))
    (dYi : PySem.W.isFn K (.ref fdY) = true)
    (dYl : K.lookup fdY = some ⟨ocdY, oddY, .func (PySem.W.fnOf "synced" "Disk.synced" (defArgs sDY) (defBody sDY) (defScope sDY) .none kVdY dcdY pmdY andY cddY ctdY), sldY⟩)
    (dYc : PySem.W.codeIn K cddY "Disk.synced" = true)
    (dYk : PySem.W.keepIn K (.ref fdY) = true)
    (dCf : PySem.W.findIn K (.ref CD) "cut" = some (some (.ref fdC)))
    (dCi : PySem.W.isFn K (.ref fdC) = true)
    (dCl : K.lookup fdC = some ⟨ocdC, oddC, .func (PySem.W.fnOf "cut" "Disk.cut" (defArgs sDC) (defBody sDC) (defScope sDC) .none kVdC dcdC pmdC andC cddC ctdC), sldC⟩)
    (dCc : PySem.W.codeIn K cddC "Disk.cut" = true)
    (dCk : PySem.W.keepIn K (.ref fdC) = true)
    (dDf : PySem.W.findIn K (.ref CD) "drop" = some (some (.ref fdD)))
    (dDi : PySem.W.isFn K (.ref fdD) = true)
    (dDl : K.lookup fdD = some ⟨ocdD, oddD, .func (PySem.W.fnOf "drop" "Disk.drop" (defArgs sDD) (defBody sDD) (defScope sDD) .none kVdD dcdD pmdD andD cddD ctdD), sldD⟩)
    (dDc : PySem.W.codeIn K cddD "Disk.drop" = true)
    (dDk : PySem.W.keepIn K (.ref fdD) = true)
    (dKf : PySem.W.findIn K (.ref CD) "copy" = some (some (.ref fdK)))
    (dKi : PySem.W.isFn K (.ref fdK) = true)
    (dKl : K.lookup fdK = some ⟨ocdK, oddK, .func (PySem.W.fnOf "copy" "Disk.copy" (defArgs sDK) (defBody sDK) (defScope sDK) .none kVdK dcdK pmdK andK cddK ctdK), sldK⟩)
    (dKc : PySem.W.codeIn K cddK "Disk.copy" = true)
    (dKk : PySem.W.keepIn K (.ref fdK) = true)
    (cc_BYTES : PySem.W.nsIn K mainGlobals "BYTES" = some (some (.int 256 tc_BYTES)))
    (cc_MOST_DEEP : PySem.W.nsIn K mainGlobals "MOST_DEEP" = some (some (.int 20 tc_MOST_DEEP)))
    (cc_MOST_SIGNS : PySem.W.nsIn K mainGlobals "MOST_SIGNS" = some (some (.int 20 tc_MOST_SIGNS)))
    (cc_FROM_0_ON : PySem.W.nsIn K mainGlobals "FROM_0_ON" = some (some (.int 3 tc_FROM_0_ON)))
    (cc_BELOW_0 : PySem.W.nsIn K mainGlobals "BELOW_0" = some (some (.int 4 tc_BELOW_0)))
    (cc_STRING : PySem.W.nsIn K mainGlobals "STRING" = some (some (.int 5 tc_STRING)))
    (cc_TUPLE : PySem.W.nsIn K mainGlobals "TUPLE" = some (some (.int 6 tc_TUPLE)))
    (cc_FIRST_SIGN : PySem.W.nsIn K mainGlobals "FIRST_SIGN" = some (some (.int 32 tc_FIRST_SIGN)))
    (cc_NO_SIGN : PySem.W.nsIn K mainGlobals "NO_SIGN" = some (some (.int 37 tc_NO_SIGN)))
    (cc_LAST_SIGN : PySem.W.nsIn K mainGlobals "LAST_SIGN" = some (some (.int 126 tc_LAST_SIGN)))
    (cc_MARK_FACTOR : PySem.W.nsIn K mainGlobals "MARK_FACTOR" = some (some (.int 1000003 tc_MARK_FACTOR)))
    (cc_MARKS : PySem.W.nsIn K mainGlobals "MARKS" = some (some (.int 2305843009213693951 tc_MARKS)))
    (cc_SEALS : PySem.W.nsIn K mainGlobals "SEALS" = some (some (.int 4294967296 tc_SEALS)))
    (cc_SEAL_LENGTH : PySem.W.nsIn K mainGlobals "SEAL_LENGTH" = some (some (.int 4 tc_SEAL_LENGTH)))
    (z_len : PySem.W.nsIn K mainGlobals "len" = some none)
    (z_int : PySem.W.nsIn K mainGlobals "int" = some none)
    (z_list : PySem.W.nsIn K mainGlobals "list" = some none)
    (z_range : PySem.W.nsIn K mainGlobals "range" = some none)
    (z_min : PySem.W.nsIn K mainGlobals "min" = some none)
    (z_tuple : PySem.W.nsIn K mainGlobals "tuple" = some none)
    (z_isinstance : PySem.W.nsIn K mainGlobals "isinstance" = some none)
    (z_bool : PySem.W.nsIn K mainGlobals "bool" = some none)
    (z_str : PySem.W.nsIn K mainGlobals "str" = some none)
    (z_repr : PySem.W.nsIn K mainGlobals "repr" = some none)
    (z_sum : PySem.W.nsIn K mainGlobals "sum" = some none)
    (z_abs : PySem.W.nsIn K mainGlobals "abs" = some none)
    (z_ord : PySem.W.nsIn K mainGlobals "ord" = some none)
    (z_reversed : PySem.W.nsIn K mainGlobals "reversed" = some none)
    (z_all : PySem.W.nsIn K mainGlobals "all" = some none)
    (z_zip : PySem.W.nsIn K mainGlobals "zip" = some none)
    : ∃ fd : FuncData, (∀ (s : Shared) (v : Value), BindsTo s fd ⟨[v], []⟩ [("script", v)]) ∧ ∀ base : Heap, K.In base → base.Ns mainGlobals mg → FnOk l.prog w K mg base CX0 50 fa fd ["script"] (spLaw K) := by
  have e := hfa.symm.trans (PySem.W.mg_of X G a31)
  cases e
  have B : Bts mg := ⟨PySem.W.mg_none_of X G z_len, PySem.W.mg_none_of X G z_int, PySem.W.mg_none_of X G z_list, PySem.W.mg_none_of X G z_range, PySem.W.mg_none_of X G z_min, PySem.W.mg_none_of X G z_tuple, PySem.W.mg_none_of X G z_isinstance, PySem.W.mg_none_of X G z_bool, PySem.W.mg_none_of X G z_str, PySem.W.mg_none_of X G z_repr, PySem.W.mg_none_of X G z_sum, PySem.W.mg_none_of X G z_abs, PySem.W.mg_none_of X G z_ord, PySem.W.mg_none_of X G z_reversed, PySem.W.mg_none_of X G z_all, PySem.W.mg_none_of X G z_zip⟩
  have F0 := fun_mk (st := sPlain) l0 c0 k0
  have D_is_plain_int : Df K mg "is_plain_int" sPlain ["thing"] f0 _ := ⟨F0, PySem.W.mg_of X G a0, F0.binds (ps := ["thing"]) fun _ _ _ _ _ _ us hl => match us, hl with | [_], _ => rfl⟩
  have F1 := fun_mk (st := sNum) l1 c1 k1
  have D_is_number_below : Df K mg "is_number_below" sNum ["limit", "thing"] f1 _ := ⟨F1, PySem.W.mg_of X G a1, F1.binds (ps := ["limit", "thing"]) fun _ _ _ _ _ _ us hl => match us, hl with | [_, _], _ => rfl⟩
  have F2 := fun_mk (st := sIsRow) l2 c2 k2
  have D_is_row : Df K mg "is_row" sIsRow ["thing"] f2 _ := ⟨F2, PySem.W.mg_of X G a2, F2.binds (ps := ["thing"]) fun _ _ _ _ _ _ us hl => match us, hl with | [_], _ => rfl⟩
  have F3 := fun_mk (st := sIsSg) l3 c3 k3
  have D_is_sign : Df K mg "is_sign" sIsSg ["number"] f3 _ := ⟨F3, PySem.W.mg_of X G a3, F3.binds (ps := ["number"]) fun _ _ _ _ _ _ us hl => match us, hl with | [_], _ => rfl⟩
  have F4 := fun_mk (st := sSgOf) l4 c4 k4
  have D_sign_of : Df K mg "sign_of" sSgOf ["number"] f4 _ := ⟨F4, PySem.W.mg_of X G a4, F4.binds (ps := ["number"]) fun _ _ _ _ _ _ us hl => match us, hl with | [_], _ => rfl⟩
  have F5 := fun_mk (st := sRAll) l5 c5 k5
  have D_read_whole_row : Df K mg "read_whole_row" sRAll ["row"] f5 _ := ⟨F5, PySem.W.mg_of X G a5, F5.binds (ps := ["row"]) fun _ _ _ _ _ _ us hl => match us, hl with | [_], _ => rfl⟩
  have F6 := fun_mk (st := sMkOf) l6 c6 k6
  have D_mark_of : Df K mg "mark_of" sMkOf ["row"] f6 _ := ⟨F6, PySem.W.mg_of X G a6, F6.binds (ps := ["row"]) fun _ _ _ _ _ _ us hl => match us, hl with | [_], _ => rfl⟩
  have F7 := fun_mk (st := sSeal) l7 c7 k7
  have D_seal_of : Df K mg "seal_of" sSeal ["row"] f7 _ := ⟨F7, PySem.W.mg_of X G a7, F7.binds (ps := ["row"]) fun _ _ _ _ _ _ us hl => match us, hl with | [_], _ => rfl⟩
  have F8 := fun_mk (st := sUns) l8 c8 k8
  have D_unsealed : Df K mg "unsealed" sUns ["row"] f8 _ := ⟨F8, PySem.W.mg_of X G a8, F8.binds (ps := ["row"]) fun _ _ _ _ _ _ us hl => match us, hl with | [_], _ => rfl⟩
  have F9 := fun_mk (st := sCut) l9 c9 k9
  have D_is_cut : Df K mg "is_cut" sCut ["waiting", "thing"] f9 _ := ⟨F9, PySem.W.mg_of X G a9, F9.binds (ps := ["waiting", "thing"]) fun _ _ _ _ _ _ us hl => match us, hl with | [_, _], _ => rfl⟩
  have F10 := fun_mk (st := sKP) l10 c10 k10
  have D_kept_parcels : Df K mg "kept_parcels" sKP ["blocks"] f10 _ := ⟨F10, PySem.W.mg_of X G a10, F10.binds (ps := ["blocks"]) fun _ _ _ _ _ _ us hl => match us, hl with | [_], _ => rfl⟩
  have F11 := fun_mk (st := sPool) l11 c11 k11
  have D__law_pool : Df K mg "_law_pool" sPool ["script"] f11 _ := ⟨F11, PySem.W.mg_of X G a11, F11.binds (ps := ["script"]) fun _ _ _ _ _ _ us hl => match us, hl with | [_], _ => rfl⟩
  have F12 := fun_mk (st := sDraw) l12 c12 k12
  have D__law_draw : Df K mg "_law_draw" sDraw ["pool", "many"] f12 _ := ⟨F12, PySem.W.mg_of X G a12, F12.binds (ps := ["pool", "many"]) fun _ _ _ _ _ _ us hl => match us, hl with | [_, _], _ => rfl⟩
  have F13 := fun_mk (st := sIs) l13 c13 k13
  have D__law_is : Df K mg "_law_is" sIs ["told", "due"] f13 _ := ⟨F13, PySem.W.mg_of X G a13, F13.binds (ps := ["told", "due"]) fun _ _ _ _ _ _ us hl => match us, hl with | [_, _], _ => rfl⟩
  have F14 := fun_mk (st := sLW) l14 c14 k14
  have D__law_whole : Df K mg "_law_whole" sLW ["number"] f14 _ := ⟨F14, PySem.W.mg_of X G a14, F14.binds (ps := ["number"]) fun _ _ _ _ _ _ us hl => match us, hl with | [_], _ => rfl⟩
  have F15 := fun_mk (st := sLB) l15 c15 k15
  have D__law_bytes : Df K mg "_law_bytes" sLB ["parcel"] f15 _ := ⟨F15, PySem.W.mg_of X G a15, F15.binds (ps := ["parcel"]) fun _ _ _ _ _ _ us hl => match us, hl with | [_], _ => rfl⟩
  have F16 := fun_mk (st := sLNum) l16 c16 k16
  have D__law_number : Df K mg "_law_number" sLNum ["pool"] f16 _ := ⟨F16, PySem.W.mg_of X G a16, F16.binds (ps := ["pool"]) fun _ _ _ _ _ _ us hl => match us, hl with | [_], _ => rfl⟩
  have F17 := fun_mk (st := sLPar) l17 c17 k17
  have D__law_parcel : Df K mg "_law_parcel" sLPar ["pool", "deep"] f17 _ := ⟨F17, PySem.W.mg_of X G a17, F17.binds (ps := ["pool", "deep"]) fun _ _ _ _ _ _ us hl => match us, hl with | [_, _], _ => rfl⟩
  have F18 := fun_mk (st := sSame) l18 c18 k18
  have D__law_same : Df K mg "_law_same" sSame ["one", "other"] f18 _ := ⟨F18, PySem.W.mg_of X G a18, F18.binds (ps := ["one", "other"]) fun _ _ _ _ _ _ us hl => match us, hl with | [_, _], _ => rfl⟩
  have F19 := fun_mk (st := sLSg) l19 c19 k19
  have D__law_sign : Df K mg "_law_sign" sLSg ["byte"] f19 _ := ⟨F19, PySem.W.mg_of X G a19, F19.binds (ps := ["byte"]) fun _ _ _ _ _ _ us hl => match us, hl with | [_], _ => rfl⟩
  have F20 := fun_mk (st := sLRW) l20 c20 k20
  have D__law_read_whole : Df K mg "_law_read_whole" sLRW ["row", "at"] f20 _ := ⟨F20, PySem.W.mg_of X G a20, F20.binds (ps := ["row", "at"]) fun _ _ _ _ _ _ us hl => match us, hl with | [_, _], _ => rfl⟩
  have F21 := fun_mk (st := sLR) l21 c21 k21
  have D__law_read : Df K mg "_law_read" sLR ["row", "at", "left"] f21 _ := ⟨F21, PySem.W.mg_of X G a21, F21.binds (ps := ["row", "at", "left"]) fun _ _ _ _ _ _ us hl => match us, hl with | [_, _, _], _ => rfl⟩
  have F22 := fun_mk (st := sLRS) l22 c22 k22
  have D__law_read_string : Df K mg "_law_read_string" sLRS ["row", "begin", "many", "here"] f22 _ := ⟨F22, PySem.W.mg_of X G a22, F22.binds (ps := ["row", "begin", "many", "here"]) fun _ _ _ _ _ _ us hl => match us, hl with | [_, _, _, _], _ => rfl⟩
  have F23 := fun_mk (st := sTold) l23 c23 k23
  have D__law_told : Df K mg "_law_told" sTold ["row"] f23 _ := ⟨F23, PySem.W.mg_of X G a23, F23.binds (ps := ["row"]) fun _ _ _ _ _ _ us hl => match us, hl with | [_], _ => rfl⟩
  have F24 := fun_mk (st := sLMk) l24 c24 k24
  have D__law_mark : Df K mg "_law_mark" sLMk ["row"] f24 _ := ⟨F24, PySem.W.mg_of X G a24, F24.binds (ps := ["row"]) fun _ _ _ _ _ _ us hl => match us, hl with | [_], _ => rfl⟩
  have F25 := fun_mk (st := sLSl) l25 c25 k25
  have D__law_sealed : Df K mg "_law_sealed" sLSl ["row"] f25 _ := ⟨F25, PySem.W.mg_of X G a25, F25.binds (ps := ["row"]) fun _ _ _ _ _ _ us hl => match us, hl with | [_], _ => rfl⟩
  have F26 := fun_mk (st := sOpen) l26 c26 k26
  have D__law_opened : Df K mg "_law_opened" sOpen ["row"] f26 _ := ⟨F26, PySem.W.mg_of X G a26, F26.binds (ps := ["row"]) fun _ _ _ _ _ _ us hl => match us, hl with | [_], _ => rfl⟩
  have F27 := fun_mk (st := sLKt) l27 c27 k27
  have D__law_kept : Df K mg "_law_kept" sLKt ["blocks"] f27 _ := ⟨F27, PySem.W.mg_of X G a27, F27.binds (ps := ["blocks"]) fun _ _ _ _ _ _ us hl => match us, hl with | [_], _ => rfl⟩
  have F28 := fun_mk (st := sLBk) l28 c28 k28
  have D__law_block : Df K mg "_law_block" sLBk ["pool"] f28 _ := ⟨F28, PySem.W.mg_of X G a28, F28.binds (ps := ["pool"]) fun _ _ _ _ _ _ us hl => match us, hl with | [_], _ => rfl⟩
  have F29 := fun_mk (st := sLed) l29 c29 k29
  have D__law_led : Df K mg "_law_led" sLed ["pool", "disk", "blocks", "synced", "many"] f29 _ := ⟨F29, PySem.W.mg_of X G a29, F29.binds (ps := ["pool", "disk", "blocks", "synced", "many"]) fun _ _ _ _ _ _ us hl => match us, hl with | [_, _, _, _, _], _ => rfl⟩
  have F30 := fun_mk (st := sPR) l30 c30 k30
  have D__law_parcels_right : Df K mg "_law_parcels_right" sPR ["blocks"] f30 _ := ⟨F30, PySem.W.mg_of X G a30, F30.binds (ps := ["blocks"]) fun _ _ _ _ _ _ us hl => match us, hl with | [_], _ => rfl⟩
  have A : PDefs K mg := ⟨_, _, D_is_plain_int, _, _, D_is_number_below, _, _, D_is_row, _, _, D_is_sign, _, _, D_sign_of, _, _, D_read_whole_row, _, _, D_mark_of, _, _, D_seal_of, _, _, D_unsealed, _, _, D_is_cut, _, _, D_kept_parcels⟩
  have L : LDefs K mg := ⟨_, _, D__law_pool, _, _, D__law_draw, _, _, D__law_is, _, _, D__law_whole, _, _, D__law_bytes, _, _, D__law_number, _, _, D__law_parcel, _, _, D__law_same, _, _, D__law_sign, _, _, D__law_read_whole, _, _, D__law_read, _, _, D__law_read_string, _, _, D__law_told, _, _, D__law_mark, _, _, D__law_sealed, _, _, D__law_opened, _, _, D__law_kept, _, _, D__law_block, _, _, D__law_led, _, _, D__law_parcels_right⟩
  have T : RTxt K mg CR := ⟨⟨r_pg, r_hd, r_po, r_sa⟩, r_n0, r_n1, PySem.W.mg_of X G r_aC⟩
  have FmI := fun_mk (st := sRInit) mIl mIc mIk
  have bmI := FmI.binds (ps := ["self", "row"]) fun _ _ _ _ _ _ us hl => match us, hl with | [_, _], _ => rfl
  have FmD := fun_mk (st := sDue) mDl mDc mDk
  have bmD := FmD.binds (ps := ["self"]) fun _ _ _ _ _ _ us hl => match us, hl with | [_], _ => rfl
  have FmW := fun_mk (st := sRW) mWl mWc mWk
  have bmW := FmW.binds (ps := ["self"]) fun _ _ _ _ _ _ us hl => match us, hl with | [_], _ => rfl
  have FmS := fun_mk (st := sRS) mSl mSc mSk
  have bmS := FmS.binds (ps := ["self"]) fun _ _ _ _ _ _ us hl => match us, hl with | [_], _ => rfl
  have FmT := fun_mk (st := sRT) mTl mTc mTk
  have bmT := FmT.binds (ps := ["self", "deep"]) fun _ _ _ _ _ _ us hl => match us, hl with | [_, _], _ => rfl
  have FmP := fun_mk (st := sRP) mPl mPc mPk
  have bmP := FmP.binds (ps := ["self", "deep"]) fun _ _ _ _ _ _ us hl => match us, hl with | [_, _], _ => rfl
  have M : RDefs K CR := ⟨_, _, FmI, bmI, ⟨r_mk, mIf, mIi, r_kc⟩, _, _, FmD, bmD, ⟨mDf, mDi, mDk⟩, _, _, FmW, bmW, ⟨mWf, mWi, mWk⟩, _, _, FmS, bmS, ⟨mSf, mSi, mSk⟩, _, _, FmT, bmT, ⟨mTf, mTi, mTk⟩, _, _, FmP, bmP, ⟨mPf, mPi, mPk⟩⟩
  have C : Cst mg := ⟨⟨_, PySem.W.mg_of X G cc_BYTES⟩, ⟨_, PySem.W.mg_of X G cc_MOST_DEEP⟩, ⟨_, PySem.W.mg_of X G cc_MOST_SIGNS⟩, ⟨_, PySem.W.mg_of X G cc_FROM_0_ON⟩, ⟨_, PySem.W.mg_of X G cc_BELOW_0⟩, ⟨_, PySem.W.mg_of X G cc_STRING⟩, ⟨_, PySem.W.mg_of X G cc_TUPLE⟩, ⟨_, PySem.W.mg_of X G cc_FIRST_SIGN⟩, ⟨_, PySem.W.mg_of X G cc_NO_SIGN⟩, ⟨_, PySem.W.mg_of X G cc_LAST_SIGN⟩, ⟨_, PySem.W.mg_of X G cc_MARK_FACTOR⟩, ⟨_, PySem.W.mg_of X G cc_MARKS⟩, ⟨_, PySem.W.mg_of X G cc_SEALS⟩, ⟨_, PySem.W.mg_of X G cc_SEAL_LENGTH⟩, ⟨_, PySem.W.mg_of X G sSB⟩, ⟨_, PySem.W.mg_of X G sSA⟩⟩
  have BA : Bare K mg := ⟨aBA, PySem.W.mg_of X G bBA, ⟨_, itBA, nuBA, lBA, rfl, rfl, Nat.le_trans zBA (by decide), vBA⟩, _, lBA, rfl, rfl⟩
  have FB0 := fun_mk (st := sPlace) wf wc wkf
  have BT : BTxt K mg CB fB _ := ⟨⟨⟨nmB, qB, NB, bsB, bmB, snB, subB, abB, colB, ddB, k0B, k1B, k2B, k3B, k5B, wl, wbm⟩, wsa, wb, wy, wk⟩, wi, wt, FB0, FB0.binds (ps := ["self", "place"]) (fun _ _ _ _ _ _ us hl => match us, hl with | [_, _], _ => rfl), wp, PySem.W.mg_of X G wN, exm_me wb wz wy ws, ⟨wga, wgg, wb, whd⟩⟩
  have TD : DTxt K mg CD := ⟨⟨d_pg, d_hd, d_po, d_sa⟩, d_n0, d_n1, PySem.W.mg_of X G d_aC⟩
  have FdI := fun_mk (st := sDI) dIl dIc dIk
  have bdI := FdI.binds (ps := ["self"]) fun _ _ _ _ _ _ us hl => match us, hl with | [_], _ => rfl
  have FdW := fun_mk (st := sDW) dWl dWc dWk
  have bdW := FdW.binds (ps := ["self", "row"]) fun _ _ _ _ _ _ us hl => match us, hl with | [_, _], _ => rfl
  have FdS := fun_mk (st := sDS) dSl dSc dSk
  have bdS := FdS.binds (ps := ["self"]) fun _ _ _ _ _ _ us hl => match us, hl with | [_], _ => rfl
  have FdB := fun_mk (st := sDB) dBl dBc dBk
  have bdB := FdB.binds (ps := ["self"]) fun _ _ _ _ _ _ us hl => match us, hl with | [_], _ => rfl
  have FdY := fun_mk (st := sDY) dYl dYc dYk
  have bdY := FdY.binds (ps := ["self"]) fun _ _ _ _ _ _ us hl => match us, hl with | [_], _ => rfl
  have FdC := fun_mk (st := sDC) dCl dCc dCk
  have bdC := FdC.binds (ps := ["self", "kept"]) fun _ _ _ _ _ _ us hl => match us, hl with | [_, _], _ => rfl
  have FdD := fun_mk (st := sDD) dDl dDc dDk
  have bdD := FdD.binds (ps := ["self", "number"]) fun _ _ _ _ _ _ us hl => match us, hl with | [_, _], _ => rfl
  have FdK := fun_mk (st := sDK) dKl dKc dKk
  have bdK := FdK.binds (ps := ["self"]) fun _ _ _ _ _ _ us hl => match us, hl with | [_], _ => rfl
  have MD : DDefs K CD := ⟨_, _, FdI, bdI, ⟨d_mk, dIf, dIi, d_kc⟩, _, _, FdW, bdW, ⟨dWf, dWi, dWk⟩, _, _, FdS, bdS, ⟨dSf, dSi, dSk⟩, _, _, FdB, bdB, ⟨dBf, dBi, dBk⟩, _, _, FdY, bdY, ⟨dYf, dYi, dYk⟩, _, _, FdC, bdC, ⟨dCf, dCi, dCk⟩, _, _, FdD, bdD, ⟨dDf, dDi, dDk⟩, _, _, FdK, bdK, ⟨dKf, dKi, dKk⟩⟩
  exact ⟨PySem.W.fnOf "law" "law" (defArgs sLaw) (defBody sLaw) (defScope sLaw) .none kV31 dc31 pm31 an31 cd31 ct31, fun s v => .of_eq rfl, fun base _ _ =>
    ok_law (fun_mk (st := sLaw) l31 c31 k31) B C BA T M BT TD MD A L⟩
theorem walk {l : PySem.W.OpenLaw} {q : Program} {loose : List Str} {XP : (Str → Option Value) → Heap → Prop} {YP : World → Heap → Prop} {d : DefRec} {K : Params → PySem.W.Frag} (hn : l.most = some 63) (hdf : d.params.defaults = [])
    (hY : ∀ (w : World) (h : Heap), YP w h → (K w.params).In h)
    (F : ∀ (w : World) (mg : Str → Option Value) (fa : Addr) (h : Heap), (K w.params).In h → h.Ns mainGlobals mg → mg d.name = some (.ref fa) →
      ∃ fd : FuncData, (∀ (s : Shared) (u : Value), BindsTo s fd ⟨[u], []⟩ [("script", u)]) ∧ ∀ base : Heap, (K w.params).In base → base.Ns mainGlobals mg → FnOk l.prog w (K w.params) mg base CX0 50 fa fd ["script"] (spLaw (K w.params))) :
    PySem.W.WalkO q loose XP YP l.row.toRowW d [] (fun f vs => PySem.call f vs) :=
  L2.walk_of (n := 63) (k := 50) (x := "script") (CX := fun _ => CX0) (sp := fun w => spLaw (K w.params)) hn (by decide) hdf ⟨rfl, by decide, by decide⟩ hY F (fun _ _ a ns hl _ hS => ⟨a, ns, rfl, hS, hl, fun _ => rfl⟩) fun _ _ _ _ _ z => z
end Q
open PySem PySem.W PyProof.Rows in
set_option maxRecDepth 100000 in
set_option maxHeartbeats 0 in
theorem PySem.Challenge.cw_sameround_k35_whole_disks_and_kept_parce_holds : PySem.Challenge.rw_sameround_k35_whole_disks_and_kept_parce.Holds := by
  w_on; o_law; k_head; (case hw => w_witness2)
  k_fill
  refine Q.walk (l := PySem.Challenge.rw_sameround_k35_whole_disks_and_kept_parce) rfl rfl (fun w h Y => PySem.W.kIn_of Y) ?F
  case F =>
    intro w mg fa h KX G hmg
    refine' Q.all_mk KX G hmg ?a0 ?l0 ?c0 ?k0 ?a1 ?l1 ?c1 ?k1 ?a2 ?l2 ?c2 ?k2 ?a3 ?l3 ?c3 ?k3 ?a4 ?l4 ?c4 ?k4 ?a5 ?l5 ?c5 ?k5 ?a6 ?l6 ?c6 ?k6 ?a7 ?l7 ?c7 ?k7 ?a8 ?l8 ?c8 ?k8 ?a9 ?l9 ?c9 ?k9 ?a10 ?l10 ?c10 ?k10 ?a11 ?l11 ?c11 ?k11 ?a12 ?l12 ?c12 ?k12 ?a13 ?l13 ?c13 ?k13 ?a14 ?l14 ?c14 ?k14 ?a15 ?l15 ?c15 ?k15 ?a16 ?l16 ?c16 ?k16 ?a17 ?l17 ?c17 ?k17 ?a18 ?l18 ?c18 ?k18 ?a19 ?l19 ?c19 ?k19 ?a20 ?l20 ?c20 ?k20 ?a21 ?l21 ?c21 ?k21 ?a22 ?l22 ?c22 ?k22 ?a23 ?l23 ?c23 ?k23 ?a24 ?l24 ?c24 ?k24 ?a25 ?l25 ?c25 ?k25 ?a26 ?l26 ?c26 ?k26 ?a27 ?l27 ?c27 ?k27 ?a28 ?l28 ?c28 ?k28 ?a29 ?l29 ?c29 ?k29 ?a30 ?l30 ?c30 ?k30 ?a31 ?l31 ?c31 ?k31 ?r_aC ?r_pg ?r_hd ?r_po ?r_sa ?r_mk ?r_kc ?r_n0 ?r_n1 ?mIf ?mIi ?mIl ?mIc ?mIk ?mDf ?mDi ?mDl ?mDc ?mDk ?mWf ?mWi ?mWl ?mWc ?mWk ?mSf ?mSi ?mSl ?mSc ?mSk ?mTf ?mTi ?mTl ?mTc ?mTk ?mPf ?mPi ?mPl ?mPc ?mPk ?sSB ?sSA ?bBA ?lBA ?zBA ?vBA ?wN ?wl ?wbm ?wi ?wt ?wk ?wb ?wy ?ws ?wz ?wsa ?wp ?wga ?wgg ?whd ?wf ?wc ?wkf ?d_aC ?d_pg ?d_hd ?d_po ?d_sa ?d_mk ?d_kc ?d_n0 ?d_n1 ?dIf ?dIi ?dIl ?dIc ?dIk ?dWf ?dWi ?dWl ?dWc ?dWk ?dSf ?dSi ?dSl ?dSc ?dSk ?dBf ?dBi ?dBl ?dBc ?dBk ?dYf ?dYi ?dYl ?dYc ?dYk ?dCf ?dCi ?dCl ?dCc ?dCk ?dDf ?dDi ?dDl ?dDc ?dDk ?dKf ?dKi ?dKl ?dKc ?dKk ?cc_BYTES ?cc_MOST_DEEP ?cc_MOST_SIGNS ?cc_FROM_0_ON ?cc_BELOW_0 ?cc_STRING ?cc_TUPLE ?cc_FIRST_SIGN ?cc_NO_SIGN ?cc_LAST_SIGN ?cc_MARK_FACTOR ?cc_MARKS ?cc_SEALS ?cc_SEAL_LENGTH ?z_len ?z_int ?z_list ?z_range ?z_min ?z_tuple ?z_isinstance ?z_bool ?z_str ?z_repr ?z_sum ?z_abs ?z_ord ?z_reversed ?z_all ?z_zip
    (case a0 => k_is)
    (case l0 => k_is)
    (case c0 => k_is)
    (case k0 => k_is)
    (case a1 => k_is)
    (case l1 => k_is)
    (case c1 => k_is)
    (case k1 => k_is)
    (case a2 => k_is)
    (case l2 => k_is)
    (case c2 => k_is)
    (case k2 => k_is)
    (case a3 => k_is)
    (case l3 => k_is)
    (case c3 => k_is)
    (case k3 => k_is)
    (case a4 => k_is)
    (case l4 => k_is)
    (case c4 => k_is)
    (case k4 => k_is)
    (case a5 => k_is)
    (case l5 => k_is)
    (case c5 => k_is)
    (case k5 => k_is)
    (case a6 => k_is)
    (case l6 => k_is)
    (case c6 => k_is)
    (case k6 => k_is)
    (case a7 => k_is)
    (case l7 => k_is)
    (case c7 => k_is)
    (case k7 => k_is)
    (case a8 => k_is)
    (case l8 => k_is)
    (case c8 => k_is)
    (case k8 => k_is)
    (case a9 => k_is)
    (case l9 => k_is)
    (case c9 => k_is)
    (case k9 => k_is)
    (case a10 => k_is)
    (case l10 => k_is)
    (case c10 => k_is)
    (case k10 => k_is)
    (case a11 => k_is)
    (case l11 => k_is)
    (case c11 => k_is)
    (case k11 => k_is)
    (case a12 => k_is)
    (case l12 => k_is)
    (case c12 => k_is)
    (case k12 => k_is)
    (case a13 => k_is)
    (case l13 => k_is)
    (case c13 => k_is)
    (case k13 => k_is)
    (case a14 => k_is)
    (case l14 => k_is)
    (case c14 => k_is)
    (case k14 => k_is)
    (case a15 => k_is)
    (case l15 => k_is)
    (case c15 => k_is)
    (case k15 => k_is)
    (case a16 => k_is)
    (case l16 => k_is)
    (case c16 => k_is)
    (case k16 => k_is)
    (case a17 => k_is)
    (case l17 => k_is)
    (case c17 => k_is)
    (case k17 => k_is)
    (case a18 => k_is)
    (case l18 => k_is)
    (case c18 => k_is)
    (case k18 => k_is)
    (case a19 => k_is)
    (case l19 => k_is)
    (case c19 => k_is)
    (case k19 => k_is)
    (case a20 => k_is)
    (case l20 => k_is)
    (case c20 => k_is)
    (case k20 => k_is)
    (case a21 => k_is)
    (case l21 => k_is)
    (case c21 => k_is)
    (case k21 => k_is)
    (case a22 => k_is)
    (case l22 => k_is)
    (case c22 => k_is)
    (case k22 => k_is)
    (case a23 => k_is)
    (case l23 => k_is)
    (case c23 => k_is)
    (case k23 => k_is)
    (case a24 => k_is)
    (case l24 => k_is)
    (case c24 => k_is)
    (case k24 => k_is)
    (case a25 => k_is)
    (case l25 => k_is)
    (case c25 => k_is)
    (case k25 => k_is)
    (case a26 => k_is)
    (case l26 => k_is)
    (case c26 => k_is)
    (case k26 => k_is)
    (case a27 => k_is)
    (case l27 => k_is)
    (case c27 => k_is)
    (case k27 => k_is)
    (case a28 => k_is)
    (case l28 => k_is)
    (case c28 => k_is)
    (case k28 => k_is)
    (case a29 => k_is)
    (case l29 => k_is)
    (case c29 => k_is)
    (case k29 => k_is)
    (case a30 => k_is)
    (case l30 => k_is)
    (case c30 => k_is)
    (case k30 => k_is)
    (case a31 => k_is)
    (case l31 => k_is)
    (case c31 => k_is)
    (case k31 => k_is)
    (case r_aC => k_is)
    (case r_pg => k_is)
    (case r_hd => k_is)
    (case r_po => k_is)
    (case r_sa => k_is)
    (case r_mk => k_is)
    (case r_kc => k_is)
    (case r_n0 => k_is)
    (case r_n1 => k_is)
    (case mIf => k_is)
    (case mIi => k_is)
    (case mIl => k_is)
    (case mIc => k_is)
    (case mIk => k_is)
    (case mDf => k_is)
    (case mDi => k_is)
    (case mDl => k_is)
    (case mDc => k_is)
    (case mDk => k_is)
    (case mWf => k_is)
    (case mWi => k_is)
    (case mWl => k_is)
    (case mWc => k_is)
    (case mWk => k_is)
    (case mSf => k_is)
    (case mSi => k_is)
    (case mSl => k_is)
    (case mSc => k_is)
    (case mSk => k_is)
    (case mTf => k_is)
    (case mTi => k_is)
    (case mTl => k_is)
    (case mTc => k_is)
    (case mTk => k_is)
    (case mPf => k_is)
    (case mPi => k_is)
    (case mPl => k_is)
    (case mPc => k_is)
    (case mPk => k_is)
    (case sSB => k_is)
    (case sSA => k_is)
    (case bBA => k_is)
    (case lBA => k_is)
    (case zBA => decide)
    (case vBA => (repeat (first | exact .nil | refine .cons rfl ?_)))
    (case wN => k_is)
    (case wl => k_is)
    (case wbm => decide +kernel)
    (case wi => k_is)
    (case wt => k_is)
    (case wk => k_is)
    (case wb => k_is)
    (case wy => k_is)
    (case ws => k_is)
    (case wz => k_is)
    (case wsa => k_is)
    (case wp => k_is)
    (case wga => k_is)
    (case wgg => k_is)
    (case whd => k_is)
    (case wf => k_is)
    (case wc => k_is)
    (case wkf => k_is)
    (case d_aC => k_is)
    (case d_pg => k_is)
    (case d_hd => k_is)
    (case d_po => k_is)
    (case d_sa => k_is)
    (case d_mk => k_is)
    (case d_kc => k_is)
    (case d_n0 => k_is)
    (case d_n1 => k_is)
    (case dIf => k_is)
    (case dIi => k_is)
    (case dIl => k_is)
    (case dIc => k_is)
    (case dIk => k_is)
    (case dWf => k_is)
    (case dWi => k_is)
    (case dWl => k_is)
    (case dWc => k_is)
    (case dWk => k_is)
    (case dSf => k_is)
    (case dSi => k_is)
    (case dSl => k_is)
    (case dSc => k_is)
    (case dSk => k_is)
    (case dBf => k_is)
    (case dBi => k_is)
    (case dBl => k_is)
    (case dBc => k_is)
    (case dBk => k_is)
    (case dYf => k_is)
    (case dYi => k_is)
    (case dYl => k_is)
    (case dYc => k_is)
    (case dYk => k_is)
    (case dCf => k_is)
    (case dCi => k_is)
    (case dCl => k_is)
    (case dCc => k_is)
    (case dCk => k_is)
    (case dDf => k_is)
    (case dDi => k_is)
    (case dDl => k_is)
    (case dDc => k_is)
    (case dDk => k_is)
    (case dKf => k_is)
    (case dKi => k_is)
    (case dKl => k_is)
    (case dKc => k_is)
    (case dKk => k_is)
    (case cc_BYTES => k_is)
    (case cc_MOST_DEEP => k_is)
    (case cc_MOST_SIGNS => k_is)
    (case cc_FROM_0_ON => k_is)
    (case cc_BELOW_0 => k_is)
    (case cc_STRING => k_is)
    (case cc_TUPLE => k_is)
    (case cc_FIRST_SIGN => k_is)
    (case cc_NO_SIGN => k_is)
    (case cc_LAST_SIGN => k_is)
    (case cc_MARK_FACTOR => k_is)
    (case cc_MARKS => k_is)
    (case cc_SEALS => k_is)
    (case cc_SEAL_LENGTH => k_is)
    (case z_len => k_is)
    (case z_int => k_is)
    (case z_list => k_is)
    (case z_range => k_is)
    (case z_min => k_is)
    (case z_tuple => k_is)
    (case z_isinstance => k_is)
    (case z_bool => k_is)
    (case z_str => k_is)
    (case z_repr => k_is)
    (case z_sum => k_is)
    (case z_abs => k_is)
    (case z_ord => k_is)
    (case z_reversed => k_is)
    (case z_all => k_is)
    (case z_zip => k_is)

