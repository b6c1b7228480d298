import PyProof.Rows.All
import Wide.All
import OpenK.AllK
import Wide.FinOn
import HandS.ForMost
import HandS.ForExc
import HandS.Codes
import HandS.TupSets
import HandS.TupLe
import HandS.TupAny
import HandS.IsInst
import HandS.Wide
import HandS.ExcInit
import HandS.ExcField
import HandS.Zip
import HandS.Walk
import HandS.Rev
import HandS.RaiseMore
import HandS.Style
import HandS.Strs
import HandS.TryOnly
import HandS.CallSlots
import KE.KExcSuper
import KE.RegKSuper
import HandS.TupMul
import HandS.ExcIs
import KE.KIsAll
import KE.KExcIs
import PySem.Challenge.RW_sameround_k33_whole_rows_there_and_back
set_option Elab.async false
set_option linter.all false
set_option maxRecDepth 100000
set_option maxHeartbeats 8000000
namespace QR
/-- parcels, written and read: the mathematics alone -/
inductive T where
  | non
  | bl (b : Bool)
  | int (i : Int)
  | str (z : List Nat)
  | tup (l : List T)
inductive R where
  | ok (t : T) (h : Nat)
  | no (p : Nat)
def isSg (b : Int) : Bool := decide (32 ≤ b) && decide (b ≤ 126) && !decide (b = 37)
def vlq (n : Nat) : List Int := if n < 128 then [(n : Int)] else ((128 + n % 128 : Nat) : Int) :: vlq (n / 128)
termination_by n
decreasing_by omega
theorem vlq_lt {n : Nat} (h : n < 128) : vlq n = [(n : Int)] := by rw [vlq, if_pos h]
theorem vlq_ge {n : Nat} (h : ¬ n < 128) : vlq n = ((128 + n % 128 : Nat) : Int) :: vlq (n / 128) := by rw [vlq, if_neg h]
def encA : T → List Int
  | .non => [0]
  | .bl b => [if b = true then 2 else 1]
  | .int i => if 0 ≤ i then 3 :: vlq i.toNat else 4 :: vlq (-1 - i).toNat
  | .str z => 5 :: (vlq z.length ++ z.map fun c : Nat => (c : Int))
  | .tup _ => []
def enc : Nat → T → List Int
  | 0, t => encA t
  | d + 1, t => match t with
    | .tup l => 6 :: (vlq l.length ++ (l.map (enc d)).flatten)
    | t => encA t
def okA : T → Prop
  | .str z => 1 ≤ z.length ∧ z.length ≤ 20 ∧ ∀ c ∈ z, isSg (c : Int) = true
  | .tup _ => False
  | _ => True
def OkT : Nat → T → Prop
  | 0, t => okA t
  | d + 1, t => match t with
    | .tup l => ∀ t ∈ l, OkT d t
    | t => okA t
theorem OkT.more {d : Nat} : ∀ {t : T}, OkT d t → OkT (d + 1) t := by
  induction d with
  | zero => intro t h; cases t <;> first | exact h | exact h.elim
  | succ d ih => intro t h; cases t with
    | tup l => exact fun t ht => ih (h t ht)
    | _ => exact h
theorem OkT.enc {d : Nat} : ∀ {t : T}, OkT d t → enc (d + 1) t = enc d t := by
  induction d with
  | zero => intro t h; cases t <;> first | rfl | exact h.elim
  | succ d ih => intro t h; cases t with
    | tup l =>
      show 6 :: (vlq l.length ++ (l.map (QR.enc (d + 1))).flatten) = 6 :: (vlq l.length ++ (l.map (QR.enc d)).flatten)
      rw [List.map_congr_left fun t ht => ih (h t ht)]
    | _ => rfl
theorem OkT.up {d : Nat} {t : T} (h : OkT d t) : ∀ k, OkT (d + k) t ∧ QR.enc (d + k) t = QR.enc d t
  | 0 => ⟨h, rfl⟩
  | k + 1 => by
    obtain ⟨h1, h2⟩ := h.up k
    exact ⟨h1.more, h1.enc.trans h2⟩
/-! ### whole numbers -/
def scan : List Int → Nat
  | [] => 0
  | b :: l => if 128 ≤ b then scan l + 1 else 0
def val (l : List Int) : Int := l.foldr (fun b n => n * 128 + b % 128) 0
theorem val_cons (b : Int) (l : List Int) : val (b :: l) = val l * 128 + b % 128 := rfl
theorem val_nn : ∀ l, 0 ≤ val l
  | [] => Int.le_refl _
  | b :: l => by
    rw [val_cons]
    have := val_nn l
    have := Int.emod_nonneg b (show (128 : Int) ≠ 0 by decide)
    omega
theorem scan_le : ∀ l, scan l ≤ l.length
  | [] => Nat.le_refl _
  | b :: l => by
    unfold scan
    have := scan_le l
    split
    · rw [List.length_cons]; omega
    · exact Nat.zero_le _
theorem scan_big : ∀ {l : List Int} {i : Nat}, i < scan l → ∃ b, l[i]? = some b ∧ 128 ≤ b
  | [], i, h => absurd h (by simp [scan])
  | b :: l, i, h => by
    unfold scan at h
    split at h
    · rename_i c
      cases i with
      | zero => exact ⟨b, rfl, c⟩
      | succ i => exact scan_big (l := l) (by omega)
    · omega
theorem scan_at : ∀ {l : List Int} {b : Int}, l[scan l]? = some b → b < 128
  | [], b, h => by simp [scan] at h
  | a :: l, b, h => by
    unfold scan at h
    split at h
    · exact scan_at (l := l) (by simpa using h)
    · rename_i c
      have : a = b := by simpa using h
      omega
/-- what is the first small one -/
theorem scan_is : ∀ {l : List Int} {i : Nat}, i ≤ l.length → (∀ k, k < i → ∃ b, l[k]? = some b ∧ 128 ≤ b) → (∀ b, l[i]? = some b → b < 128) → scan l = i
  | [], i, h, _, _ => by
    have : i = 0 := by simpa using h
    rw [this]; rfl
  | b :: l, 0, _, _, h => by
    have := h b rfl
    unfold scan
    rw [if_neg (by omega)]
  | b :: l, i + 1, hl, hb, h => by
    obtain ⟨b', e, c⟩ := hb 0 (by omega)
    have e : b = b' := by simpa using e
    unfold scan
    rw [if_pos (by omega), scan_is (l := l) (i := i) (by simpa using hl) (fun k hk => hb (k + 1) (by omega)) (fun b hb' => h b hb')]
/-- a whole number from place a on: its value, and the place behind it -/
def rdW (r : List Int) (a : Nat) : Option (Int × Nat) :=
  match r[a + scan (r.drop a)]? with
  | none => none
  | some b => if b = 0 ∧ 0 < scan (r.drop a) then none else some (val ((r.drop a).take (scan (r.drop a) + 1)), a + scan (r.drop a) + 1)
theorem rdW_nn {r : List Int} {a h : Nat} {n : Int} (e : rdW r a = some (n, h)) : 0 ≤ n ∧ a < h ∧ h ≤ r.length := by
  unfold rdW at e
  split at e
  · cases e
  · rename_i b hb
    have := (List.getElem?_eq_some_iff.mp hb).1
    split at e
    · cases e
    · cases e
      exact ⟨val_nn _, by omega, by omega⟩
theorem vlq_len (n : Nat) : 0 < (vlq n).length := by
  rw [vlq]
  split <;> simp
theorem vlq_fact : ∀ (n : Nat) (post : List Int), scan (vlq n ++ post) + 1 = (vlq n).length ∧ (∃ b, (vlq n ++ post)[scan (vlq n ++ post)]? = some b ∧ (b = 0 → n = 0)) ∧ val (vlq n) = (n : Int) := by
  intro n
  induction n using Nat.strongRecOn with
  | _ n ih =>
    intro post
    by_cases c : n < 128
    · rw [vlq_lt c]
      have e : scan ([(n : Int)] ++ post) = 0 := by
        show scan ((n : Int) :: post) = 0
        unfold scan
        rw [if_neg (by omega)]
      refine ⟨by rw [e]; rfl, ⟨n, by rw [e]; rfl, fun z => by omega⟩, ?_⟩
      show (0 : Int) * 128 + (n : Int) % 128 = n
      omega
    · obtain ⟨h1, ⟨b, h2, h3⟩, h4⟩ := ih (n / 128) (by omega) post
      rw [vlq_ge c]
      have e : scan (((128 + n % 128 : Nat) : Int) :: vlq (n / 128) ++ post) = scan (vlq (n / 128) ++ post) + 1 := by
        show scan (((128 + n % 128 : Nat) : Int) :: (vlq (n / 128) ++ post)) = _
        rw [scan, if_pos (by omega)]
      refine ⟨by rw [e, h1]; rfl, ⟨b, by rw [e]; exact h2, fun z => by have := h3 z; omega⟩, ?_⟩
      rw [val_cons, h4]
      omega
theorem rdW_vlq (pre post : List Int) (n : Nat) : rdW (pre ++ (vlq n ++ post)) pre.length = some ((n : Int), pre.length + (vlq n).length) := by
  obtain ⟨h1, ⟨b, h2, h3⟩, h4⟩ := vlq_fact n post
  have ed : (pre ++ (vlq n ++ post)).drop pre.length = vlq n ++ post := List.drop_left
  unfold rdW
  rw [ed, List.getElem?_append_right (by omega), Nat.add_sub_cancel_left, h2]
  show (if b = 0 ∧ 0 < scan (vlq n ++ post) then none else some (val ((vlq n ++ post).take (scan (vlq n ++ post) + 1)), pre.length + scan (vlq n ++ post) + 1)) = _
  rw [h1, if_neg]
  · rw [List.take_left, h4]
    rw [Nat.add_assoc, h1]
  · rintro ⟨z, y⟩
    have := h3 z
    subst this
    have : (vlq 0).length = 1 := by rw [vlq_lt (by decide)]; rfl
    omega
/-! ### signs, tuples, parcels -/
def rdS (r : List Int) : Nat → Nat → List Nat → R
  | 0, h, acc => .ok (.str acc) h
  | m + 1, h, acc => match r[h]? with
    | none => .no h
    | some b => if isSg b = true then rdS r m (h + 1) (acc ++ [b.toNat]) else .no h
def rdL (f : Nat → R) : Nat → Nat → Nat → List T → R
  | _, 0, h, acc => .ok (.tup acc) h
  | 0, _ + 1, h, _ => .no h
  | k + 1, m + 1, h, acc => match f h with
    | .no p => .no p
    | .ok t h' => rdL f k m h' (acc ++ [t])
def rdB (r : List Int) (g : Nat → Nat → R) (s : Int) (a : Nat) : R := match rdW r (a + 1) with
  | none => .no (a + 1)
  | some (n, h) => if s = 3 then .ok (.int n) h else if s = 4 then .ok (.int (-1 - n)) h else if s = 5 then (if 1 ≤ n ∧ n ≤ 20 then rdS r n.toNat h [] else .no (a + 1)) else g n.toNat h
def rdG (r : List Int) (g : Nat → Nat → R) (z : Bool) (a : Nat) : R := match r[a]? with
  | none => .no a
  | some s => if 6 < s ∨ (s = 6 ∧ z = true) then .no a else if s = 0 then .ok .non (a + 1) else if s = 1 then .ok (.bl false) (a + 1) else if s = 2 then .ok (.bl true) (a + 1) else rdB r g s a
def rdP (r : List Int) : Nat → Nat → R
  | 0 => rdG r (fun _ h => .no h) true
  | d + 1 => rdG r (fun n h => rdL (rdP r d) (r.length + 1) n h []) false
def Fwd (r : List Int) (a : Nat) (x : R) : Prop := ∀ t h, x = .ok t h → a < h ∧ h ≤ r.length
theorem rdS_fwd {r : List Int} : ∀ (m h : Nat) (acc : List Nat) {a : Nat}, a < h → h ≤ r.length → Fwd r a (rdS r m h acc)
  | 0, h, acc, a, h1, h2 => fun t h' e => by cases e; exact ⟨h1, h2⟩
  | m + 1, h, acc, a, h1, h2 => by
    unfold rdS
    split
    · exact fun t h' e => by cases e
    · rename_i b hb
      have := (List.getElem?_eq_some_iff.mp hb).1
      split
      · exact rdS_fwd m (h + 1) _ (by omega) (by omega)
      · exact fun t h' e => by cases e
theorem rdL_fwd {r : List Int} {f : Nat → R} (hf : ∀ a, Fwd r a (f a)) : ∀ (k m h : Nat) (acc : List T) {a : Nat}, a < h → h ≤ r.length → Fwd r a (rdL f k m h acc)
  | k, 0, h, acc, a, h1, h2 => fun t h' e => by
    have e : R.ok (.tup acc) h = .ok t h' := by cases k <;> exact e
    cases e; exact ⟨h1, h2⟩
  | 0, m + 1, h, acc, a, h1, h2 => fun t h' e => by cases e
  | k + 1, m + 1, h, acc, a, h1, h2 => by
    unfold rdL
    split
    · exact fun t h' e => by cases e
    · rename_i t h' e
      obtain ⟨z1, z2⟩ := hf h t h' e
      exact rdL_fwd hf k m h' _ (by omega) z2
theorem rdG_fwd {r : List Int} {g : Nat → Nat → R} {z : Bool} {a : Nat} (hg : ∀ n h, a < h → h ≤ r.length → Fwd r a (g n h)) : Fwd r a (rdG r g z a) := by
  unfold rdG
  split
  · exact fun t h e => by cases e
  · rename_i s hs
    have hl := (List.getElem?_eq_some_iff.mp hs).1
    have one : ∀ {t' : T}, Fwd r a (.ok t' (a + 1)) := fun {t'} t h e => by cases e; exact ⟨by omega, by omega⟩
    split
    · exact fun t h e => by cases e
    split
    · exact one
    split
    · exact one
    split
    · exact one
    unfold rdB
    split
    · exact fun t h e => by cases e
    · rename_i n h hw
      obtain ⟨w1, w2, w3⟩ := rdW_nn hw
      have two : ∀ {t' : T}, Fwd r a (.ok t' h) := fun {t'} t h e => by cases e; exact ⟨by omega, w3⟩
      split
      · exact two
      split
      · exact two
      split
      · split
        · exact rdS_fwd _ _ _ (by omega) w3
        · exact fun t h e => by cases e
      · exact hg _ _ (by omega) w3
theorem rdP_fwd {r : List Int} : ∀ (d a : Nat), Fwd r a (rdP r d a)
  | 0, a => rdG_fwd fun n h _ _ t h' e => by cases e
  | d + 1, a => rdG_fwd fun n h h1 h2 => rdL_fwd (rdP_fwd d) _ _ _ _ h1 h2
/-! ### there and back -/
theorem at_pre {pre post : List Int} {b : Int} : (pre ++ b :: post)[pre.length]? = some b := by
  rw [List.getElem?_append_right (Nat.le_refl _), Nat.sub_self]
  rfl
theorem at_pre2 {pre l post : List Int} {b : Int} : (pre ++ (b :: l ++ post))[pre.length]? = some b := at_pre
theorem rdS_enc {pre post : List Int} : ∀ (z : List Nat) (pre : List Int) (acc : List Nat), (∀ c ∈ z, isSg (c : Int) = true) →
    rdS (pre ++ ((z.map fun c : Nat => (c : Int)) ++ post)) z.length pre.length acc = .ok (.str (acc ++ z)) (pre.length + z.length)
  | [], pre, acc, _ => by
    show R.ok (.str acc) pre.length = _
    rw [List.append_nil]
    rfl
  | c :: z, pre, acc, h => by
    have ih := rdS_enc (post := post) (pre := pre) z (pre ++ [(c : Int)]) (acc ++ [c]) (fun x hx => h x (List.mem_cons_of_mem _ hx))
    show rdS (pre ++ ((c : Int) :: ((z.map fun c : Nat => (c : Int)) ++ post))) (z.length + 1) pre.length acc = _
    unfold rdS
    rw [at_pre]
    show (if isSg (c : Int) = true then _ else _) = _
    rw [if_pos (h c List.mem_cons_self), Int.toNat_natCast]
    rw [List.append_assoc, List.length_append] at ih
    have e : pre ++ ([(c : Int)] ++ ((z.map fun c : Nat => (c : Int)) ++ post)) = pre ++ ((c : Int) :: ((z.map fun c : Nat => (c : Int)) ++ post)) := rfl
    rw [e] at ih
    refine ih.trans ?_
    rw [List.append_assoc]
    show R.ok (.str (acc ++ (c :: z))) (pre.length + 1 + z.length) = R.ok _ (pre.length + (z.length + 1))
    congr 1
    omega
theorem enc_pos : ∀ {d : Nat} {t : T}, OkT d t → 0 < (enc d t).length
  | 0, t, h => by
    cases t with
    | tup l => exact h.elim
    | int i => show 0 < (if 0 ≤ i then _ else _ : List Int).length; split <;> simp
    | _ => simp [enc, encA]
  | d + 1, t, h => by
    cases t with
    | tup l => simp [enc]
    | int i => show 0 < (if 0 ≤ i then _ else _ : List Int).length; split <;> simp
    | _ => simp [enc, encA]
theorem flat_len {d : Nat} : ∀ {l : List T}, (∀ t ∈ l, OkT d t) → l.length ≤ ((l.map (enc d)).flatten).length
  | [], _ => Nat.le_refl _
  | t :: l, h => by
    have := flat_len (l := l) fun x hx => h x (List.mem_cons_of_mem _ hx)
    have := enc_pos (h t List.mem_cons_self)
    rw [List.map_cons, List.flatten_cons, List.length_append, List.length_cons]
    omega
theorem rdL_enc {d : Nat} {post : List Int} (H : ∀ t, OkT d t → ∀ pre post : List Int, rdP (pre ++ (enc d t ++ post)) d pre.length = .ok t (pre.length + (enc d t).length)) :
    ∀ (l : List T) (pre : List Int) (k : Nat) (acc : List T), (∀ t ∈ l, OkT d t) → l.length ≤ k →
      rdL (rdP (pre ++ ((l.map (enc d)).flatten ++ post)) d) k l.length pre.length acc = .ok (.tup (acc ++ l)) (pre.length + ((l.map (enc d)).flatten).length)
  | [], pre, k, acc, _, _ => by
    rw [List.append_nil]
    cases k <;> rfl
  | t :: l, pre, 0, acc, _, hk => by simp at hk
  | t :: l, pre, k + 1, acc, h, hk => by
    have ih := rdL_enc (post := post) H l (pre ++ enc d t) k (acc ++ [t]) (fun x hx => h x (List.mem_cons_of_mem _ hx)) (by simpa using hk)
    have e : pre ++ (((t :: l).map (enc d)).flatten ++ post) = pre ++ (enc d t ++ ((l.map (enc d)).flatten ++ post)) := by
      rw [List.map_cons, List.flatten_cons, List.append_assoc]
    rw [e]
    show (match rdP (pre ++ (enc d t ++ ((l.map (enc d)).flatten ++ post))) d pre.length with
      | .no p => R.no p
      | .ok t' h' => rdL (rdP (pre ++ (enc d t ++ ((l.map (enc d)).flatten ++ post))) d) k l.length h' (acc ++ [t'])) = _
    rw [H t (h t List.mem_cons_self)]
    rw [List.append_assoc, List.length_append] at ih
    refine ih.trans ?_
    rw [List.append_assoc, List.map_cons, List.flatten_cons, List.length_append, Nat.add_assoc]
    rfl
theorem rdG_s {r : List Int} {g : Nat → Nat → R} {z : Bool} {a : Nat} {s : Int} (h : r[a]? = some s) (h1 : ¬ (6 < s ∨ (s = 6 ∧ z = true))) (h2 : 2 < s) : rdG r g z a = rdB r g s a := by
  unfold rdG
  rw [h]
  show (if 6 < s ∨ (s = 6 ∧ z = true) then _ else _) = _
  rw [if_neg h1, if_neg (by omega), if_neg (by omega), if_neg (by omega)]
theorem rdG_encA {t : T} (ok : okA t) {g : Nat → Nat → R} {z : Bool} (pre post : List Int) : rdG (pre ++ (encA t ++ post)) g z pre.length = .ok t (pre.length + (encA t).length) := by
  have step : ∀ (s : Int) (l : List Int), pre ++ (s :: l ++ post) = (pre ++ [s]) ++ (l ++ post) := fun s l => by
    rw [List.append_assoc]
    rfl
  have ln : ∀ s : Int, (pre ++ [s]).length = pre.length + 1 := fun s => by rw [List.length_append]; rfl
  cases t with
  | tup l => exact ok.elim
  | non =>
    unfold rdG
    show (match (pre ++ (0 :: post))[pre.length]? with | none => _ | some s => _) = _
    rw [at_pre]
    rfl
  | bl b =>
    unfold rdG
    show (match (pre ++ ((if b = true then 2 else 1) :: post))[pre.length]? with | none => _ | some s => _) = _
    rw [at_pre]
    cases b <;> rfl
  | int i =>
    by_cases c : 0 ≤ i
    · have e : encA (.int i) = 3 :: vlq i.toNat := if_pos c
      rw [e, rdG_s (s := 3) at_pre2 (by omega) (by omega), step]
      unfold rdB
      have w := rdW_vlq (pre ++ [3]) post i.toNat
      rw [ln] at w
      rw [w]
      show R.ok (.int ((i.toNat : Nat) : Int)) _ = _
      rw [Int.toNat_of_nonneg c]
      show R.ok _ _ = R.ok _ _
      rw [List.length_cons]
      congr 1
      omega
    · have e : encA (.int i) = 4 :: vlq (-1 - i).toNat := if_neg c
      rw [e, rdG_s (s := 4) at_pre2 (by omega) (by omega), step]
      unfold rdB
      have w := rdW_vlq (pre ++ [4]) post (-1 - i).toNat
      rw [ln] at w
      rw [w]
      show R.ok (.int (-1 - (((-1 - i).toNat : Nat) : Int))) _ = _
      rw [Int.toNat_of_nonneg (by omega), show (-1 - (-1 - i) : Int) = i by omega]
      show R.ok _ _ = R.ok _ _
      rw [List.length_cons]
      congr 1
      omega
  | str zz =>
    obtain ⟨l1, l2, sg⟩ := ok
    have e : encA (.str zz) = 5 :: (vlq zz.length ++ zz.map fun c : Nat => (c : Int)) := rfl
    rw [e, rdG_s (s := 5) at_pre2 (by omega) (by omega), step]
    unfold rdB
    have w := rdW_vlq (pre ++ [5]) ((zz.map fun c : Nat => (c : Int)) ++ post) zz.length
    rw [ln] at w
    rw [List.append_assoc (vlq zz.length), w]
    show (if 1 ≤ ((zz.length : Nat) : Int) ∧ ((zz.length : Nat) : Int) ≤ 20 then rdS _ ((zz.length : Nat) : Int).toNat _ [] else _) = _
    rw [if_pos (by omega), Int.toNat_natCast]
    have s := rdS_enc (post := post) (pre := pre) zz ((pre ++ [5]) ++ vlq zz.length) [] sg
    rw [List.append_assoc (pre ++ [5]), List.length_append, ln] at s
    rw [s, List.nil_append]
    show R.ok _ _ = R.ok _ _
    rw [List.length_cons, List.length_append, List.length_map]
    congr 1
    omega
theorem rdP_enc : ∀ (d : Nat) (t : T), OkT d t → ∀ pre post : List Int, rdP (pre ++ (enc d t ++ post)) d pre.length = .ok t (pre.length + (enc d t).length)
  | 0, t, h, pre, post => rdG_encA h pre post
  | d + 1, t, h, pre, post => by
    have atom : okA t → enc (d + 1) t = encA t → rdP (pre ++ (enc (d + 1) t ++ post)) (d + 1) pre.length = .ok t (pre.length + (enc (d + 1) t).length) := fun ok e => by
      rw [e]
      exact rdG_encA ok pre post
    cases t with
    | tup l =>
      have e : enc (d + 1) (.tup l) = 6 :: (vlq l.length ++ (l.map (enc d)).flatten) := rfl
      have hl : ∀ t ∈ l, OkT d t := h
      have ln : (pre ++ [(6 : Int)]).length = pre.length + 1 := by rw [List.length_append]; rfl
      have step : pre ++ (enc (d + 1) (.tup l) ++ post) = (pre ++ [6]) ++ (vlq l.length ++ ((l.map (enc d)).flatten ++ post)) := by
        rw [e, List.append_assoc]
        show pre ++ (6 :: (vlq l.length ++ (l.map (enc d)).flatten ++ post)) = pre ++ (6 :: (vlq l.length ++ ((l.map (enc d)).flatten ++ post)))
        rw [List.append_assoc]
      have step2 : (pre ++ [6]) ++ (vlq l.length ++ ((l.map (enc d)).flatten ++ post)) = ((pre ++ [6]) ++ vlq l.length) ++ ((l.map (enc d)).flatten ++ post) := by
        rw [List.append_assoc (pre ++ [6])]
      have fl := flat_len hl
      have L := rdL_enc (post := post) (rdP_enc d) l ((pre ++ [6]) ++ vlq l.length) (((pre ++ [6]) ++ (vlq l.length ++ ((l.map (enc d)).flatten ++ post))).length + 1) [] hl (by
        rw [List.length_append, List.length_append (as := vlq l.length), List.length_append (as := (l.map (enc d)).flatten)]
        omega)
      have ln2 : ((pre ++ [(6 : Int)]) ++ vlq l.length).length = pre.length + 1 + (vlq l.length).length := by rw [List.length_append, ln]
      rw [← step2, ln2, List.nil_append] at L
      show rdG _ _ false pre.length = _
      have a6 : (pre ++ (enc (d + 1) (.tup l) ++ post))[pre.length]? = some 6 := at_pre
      rw [rdG_s a6 (by rintro (z | ⟨_, z⟩); exact absurd z (by decide); cases z) (by decide), step]
      unfold rdB
      have w := rdW_vlq (pre ++ [6]) ((l.map (enc d)).flatten ++ post) l.length
      rw [ln] at w
      rw [w]
      show rdL _ _ ((l.length : Nat) : Int).toNat _ [] = _
      rw [Int.toNat_natCast, L, e]
      show R.ok _ _ = R.ok _ _
      rw [List.length_cons, List.length_append (as := vlq l.length)]
      congr 1
      omega
    | non => exact atom trivial rfl
    | bl b => exact atom trivial rfl
    | int i => exact atom trivial rfl
    | str z => exact atom h rfl
/-! ### marks, seals -/
def mkF (bs : List Int) : Int := bs.foldl (fun n b => (n * 1000003 + b + 1) % 2305843009213693951) 1
theorem mkF_snoc (bs : List Int) (b : Int) : mkF (bs ++ [b]) = (mkF bs * 1000003 + b + 1) % 2305843009213693951 := by
  unfold mkF
  rw [List.foldl_append]
  rfl
theorem mkF_b (bs : List Int) : 0 ≤ mkF bs ∧ mkF bs < 2305843009213693951 := by
  rcases List.eq_nil_or_concat bs with rfl | ⟨l, b, rfl⟩
  · exact ⟨by decide, by decide⟩
  · rw [List.concat_eq_append, mkF_snoc]
    exact ⟨Int.emod_nonneg _ (by decide), Int.emod_lt_of_pos _ (by decide)⟩
def sealL (bs : List Int) : List Int := [mkF bs % 4294967296 % 256, mkF bs % 4294967296 / 256 % 256, mkF bs % 4294967296 / 65536 % 256, mkF bs % 4294967296 / 16777216 % 256]
theorem sealL_b {bs : List Int} : ∀ b ∈ sealL bs, 0 ≤ b ∧ b < 256 := by
  intro b hb
  unfold sealL at hb
  simp only [List.mem_cons, List.not_mem_nil, or_false] at hb
  rcases hb with rfl | rfl | rfl | rfl <;> exact ⟨Int.emod_nonneg _ (by decide), Int.emod_lt_of_pos _ (by decide)⟩
def rdAll (r : List Int) : R := match rdP r 20 0 with
  | .ok t h => if h = r.length then .ok t h else .no h
  | .no p => .no p
def unsT (r : List Int) : T := if 4 ≤ r.length ∧ r.drop (r.length - 4) = sealL (r.take (r.length - 4)) then
    match rdAll (r.take (r.length - 4)) with
    | .ok t _ => .tup [t]
    | .no _ => .tup []
  else .tup []
theorem rdAll_enc {t : T} (h : OkT 20 t) : rdAll (enc 20 t) = .ok t (enc 20 t).length := by
  have := rdP_enc 20 t h [] []
  rw [List.nil_append, List.append_nil] at this
  unfold rdAll
  rw [show (0 : Nat) = ([] : List Int).length from rfl, this]
  show (if ([] : List Int).length + (enc 20 t).length = (enc 20 t).length then _ else _) = _
  rw [if_pos (by simp)]
  congr 1
  simp
theorem unsT_sealed {t : T} (h : OkT 20 t) : unsT (enc 20 t ++ sealL (enc 20 t)) = .tup [t] := by
  have l4 : (sealL (enc 20 t)).length = 4 := rfl
  have e : (enc 20 t ++ sealL (enc 20 t)).length - 4 = (enc 20 t).length := by rw [List.length_append, l4]; omega
  unfold unsT
  rw [e, List.drop_left, List.take_left, if_pos ⟨by rw [List.length_append, l4]; omega, rfl⟩, rdAll_enc h]
/-! ### how long -/
theorem vlq_small : ∀ (k n : Nat), n < 128 ^ (k + 1) → (vlq n).length ≤ k + 1
  | 0, n, h => by
    rw [vlq_lt (by simpa using h)]
    simp
  | k + 1, n, h => by
    by_cases c : n < 128
    · rw [vlq_lt c]; simp
    · rw [vlq_ge c, List.length_cons]
      have := vlq_small k (n / 128) (Nat.div_lt_of_lt_mul (by rw [Nat.pow_succ, Nat.mul_comm] at h; exact h))
      omega
theorem vlq_b : ∀ (n : Nat), ∀ b ∈ vlq n, 0 ≤ b ∧ b < 256 := by
  intro n
  induction n using Nat.strongRecOn with
  | _ n ih =>
    intro b hb
    by_cases c : n < 128
    · rw [vlq_lt c] at hb
      have := List.mem_singleton.mp hb
      omega
    · rw [vlq_ge c] at hb
      rcases List.mem_cons.mp hb with rfl | hb
      · omega
      · exact ih _ (by omega) b hb
theorem encA_b {t : T} (h : okA t) : ∀ b ∈ encA t, 0 ≤ b ∧ b < 256 := by
  intro b hb
  cases t with
  | tup l => exact h.elim
  | non => have := List.mem_singleton.mp hb; omega
  | bl c => cases c <;> (have := List.mem_singleton.mp hb; simp at this; omega)
  | int i =>
    by_cases c : 0 ≤ i
    · rw [show encA (.int i) = 3 :: vlq i.toNat from if_pos c] at hb
      rcases List.mem_cons.mp hb with rfl | hb
      · omega
      · exact vlq_b _ b hb
    · rw [show encA (.int i) = 4 :: vlq (-1 - i).toNat from if_neg c] at hb
      rcases List.mem_cons.mp hb with rfl | hb
      · omega
      · exact vlq_b _ b hb
  | str z =>
    rcases List.mem_cons.mp hb with rfl | hb
    · omega
    · rcases List.mem_append.mp hb with hb | hb
      · exact vlq_b _ b hb
      · obtain ⟨c, hc, rfl⟩ := List.mem_map.mp hb
        have := h.2.2 c hc
        simp only [isSg, Bool.and_eq_true, decide_eq_true_eq] at this
        omega
theorem enc_b : ∀ {d : Nat} {t : T}, OkT d t → ∀ b ∈ enc d t, 0 ≤ b ∧ b < 256
  | 0, t, h => encA_b h
  | d + 1, t, h => by
    cases t with
    | tup l =>
      intro b hb
      rcases List.mem_cons.mp hb with rfl | hb
      · omega
      · rcases List.mem_append.mp hb with hb | hb
        · exact vlq_b _ b hb
        · obtain ⟨x, hx, hb⟩ := List.mem_flatten.mp hb
          obtain ⟨t, ht, rfl⟩ := List.mem_map.mp hx
          exact enc_b (h t ht) b hb
    | non => exact encA_b (t := .non) trivial
    | bl b => exact encA_b (t := .bl b) trivial
    | int i => exact encA_b (t := .int i) trivial
    | str z => exact encA_b (t := .str z) h
end QR

namespace QR
/-! what is read is what would be written -/
def Byt (r : List Int) : Prop := ∀ b ∈ r, 0 ≤ b ∧ b < 256
theorem wback : ∀ {l : List Int}, Byt l → ∀ b, l[scan l]? = some b → ¬ (b = 0 ∧ 0 < scan l) → l.take (scan l + 1) = vlq (val (l.take (scan l + 1))).toNat
  | [], _, b, e, _ => by simp at e
  | x :: l, hb, b, e, nz => by
    have hx := hb x List.mem_cons_self
    by_cases c : 128 ≤ x
    · have es : scan (x :: l) = scan l + 1 := by rw [scan, if_pos c]
      rw [es] at e nz ⊢
      have e' : l[scan l]? = some b := by simpa using e
      have ih := wback (l := l) (fun y hy => hb y (List.mem_cons_of_mem _ hy)) b e' (fun z => nz ⟨z.1, by omega⟩)
      have bn : b ≠ 0 := fun z => nz ⟨z, by omega⟩
      rw [List.take_succ_cons, val_cons]
      have v0 := val_nn (l.take (scan l + 1))
      revert ih v0
      have eb : (l.take (scan l + 1))[scan l]? = some b := by rw [List.getElem?_take, if_pos (by omega)]; exact e'
      revert eb
      generalize l.take (scan l + 1) = tl
      intro eb ih v0
      have vn : val tl ≠ 0 := fun z => by
        rw [z] at ih
        rw [ih, vlq_lt (by decide)] at eb
        have : scan l = 0 := by
          have := (List.getElem?_eq_some_iff.mp eb).1
          simp at this
          omega
        rw [this] at eb
        have : (0 : Int) = b := by simpa using eb
        omega
      have n1 : (val tl * 128 + x % 128).toNat = (val tl).toNat * 128 + (x % 128).toNat := by
        have := Int.emod_nonneg x (show (128 : Int) ≠ 0 by decide)
        omega
      have x1 : x % 128 = x - 128 := by omega
      rw [n1, vlq_ge (by omega), show ((val tl).toNat * 128 + (x % 128).toNat) / 128 = (val tl).toNat by omega, ← ih]
      congr 1
      omega
    · have es : scan (x :: l) = 0 := by rw [scan, if_neg c]
      rw [es]
      show [x] = vlq (val [x]).toNat
      have : val [x] = x := by
        show (0 : Int) * 128 + x % 128 = x
        omega
      rw [this, vlq_lt (by omega)]
      congr 1
      omega
theorem byt_drop {r : List Int} (h : Byt r) (a : Nat) : Byt (r.drop a) := fun b hb => h b (List.mem_of_mem_drop hb)
theorem rdW_back {r : List Int} {a h : Nat} {n : Int} (hb : Byt r) (e : rdW r a = some (n, h)) : r.drop a = vlq n.toNat ++ r.drop h := by
  unfold rdW at e
  split at e
  · cases e
  · rename_i b hbb
    split at e
    · cases e
    · rename_i nz
      cases e
      rw [← wback (byt_drop hb a) b (by rw [List.getElem?_drop]; exact hbb) nz]
      have e2 : r.drop (a + scan (r.drop a) + 1) = (r.drop a).drop (scan (r.drop a) + 1) := by rw [List.drop_drop]; congr 1
      rw [e2, List.take_append_drop]
theorem drop_at {r : List Int} {a : Nat} {b : Int} (h : r[a]? = some b) : r.drop a = b :: r.drop (a + 1) := by
  obtain ⟨l, e⟩ := List.getElem?_eq_some_iff.mp h
  rw [List.drop_eq_getElem_cons l, e]
theorem sg_nat {b : Int} (h : isSg b = true) : ((b.toNat : Nat) : Int) = b := by
  simp only [isSg, Bool.and_eq_true, decide_eq_true_eq] at h
  omega
theorem rdS_back {r : List Int} : ∀ (m h : Nat) (acc : List Nat) {t : T} {h' : Nat}, rdS r m h acc = .ok t h' → ∃ z : List Nat, t = .str (acc ++ z) ∧ z.length = m ∧ (∀ c ∈ z, isSg (c : Int) = true) ∧ r.drop h = (z.map fun c : Nat => (c : Int)) ++ r.drop h'
  | 0, h, acc, t, h', e => by
    cases e
    exact ⟨[], by rw [List.append_nil], rfl, fun c hc => by simp at hc, rfl⟩
  | m + 1, h, acc, t, h', e => by
    unfold rdS at e
    split at e
    · cases e
    · rename_i b hb
      split at e
      · rename_i sg
        obtain ⟨z, e1, e2, e3, e4⟩ := rdS_back m (h + 1) (acc ++ [b.toNat]) e
        refine ⟨b.toNat :: z, by rw [e1, List.append_assoc]; rfl, by rw [List.length_cons, e2], fun c hc => ?_, ?_⟩
        · rcases List.mem_cons.mp hc with rfl | hc
          · rw [sg_nat sg]
            exact sg
          · exact e3 c hc
        · rw [drop_at hb, e4, List.map_cons, sg_nat sg]
          rfl
      · cases e
theorem rdL_back {r : List Int} {f : Nat → R} {d : Nat} (H : ∀ a t h, f a = .ok t h → OkT d t ∧ r.drop a = enc d t ++ r.drop h) : ∀ (k m h : Nat) (acc : List T) {t : T} {h' : Nat}, rdL f k m h acc = .ok t h' →
    ∃ l : List T, t = .tup (acc ++ l) ∧ l.length = m ∧ (∀ t ∈ l, OkT d t) ∧ r.drop h = (l.map (enc d)).flatten ++ r.drop h'
  | k, 0, h, acc, t, h', e => by
    have e : R.ok (.tup acc) h = .ok t h' := by cases k <;> exact e
    cases e
    exact ⟨[], by rw [List.append_nil], rfl, fun c hc => by simp at hc, rfl⟩
  | 0, m + 1, h, acc, t, h', e => by cases e
  | k + 1, m + 1, h, acc, t, h', e => by
    unfold rdL at e
    split at e
    · cases e
    · rename_i t1 h1 e1
      obtain ⟨o1, d1⟩ := H h t1 h1 e1
      obtain ⟨l, z1, z2, z3, z4⟩ := rdL_back H k m h1 (acc ++ [t1]) e
      refine ⟨t1 :: l, by rw [z1, List.append_assoc]; rfl, by rw [List.length_cons, z2], fun c hc => ?_, ?_⟩
      · rcases List.mem_cons.mp hc with rfl | hc
        · exact o1
        · exact z3 c hc
      · rw [d1, z4, List.map_cons, List.flatten_cons, List.append_assoc]
theorem okT_atom' {d : Nat} {t : T} (h : okA t) : OkT d t ∧ enc d t = encA t := by
  cases d with
  | zero => exact ⟨h, rfl⟩
  | succ d => cases t with
    | tup l => exact h.elim
    | non => exact ⟨h, rfl⟩
    | bl b => exact ⟨h, rfl⟩
    | int i => exact ⟨h, rfl⟩
    | str z => exact ⟨h, rfl⟩
theorem rdG_back {r : List Int} (hb : Byt r) {g : Nat → Nat → R} {z : Bool} {d a : Nat} (hg : z = false → ∀ n h t h', rdW r (a + 1) = some (n, h) → g n.toNat h = .ok t h' → OkT d t ∧ 6 :: r.drop (a + 1) = enc d t ++ r.drop h') {t : T} {h' : Nat} (e : rdG r g z a = .ok t h') : OkT d t ∧ r.drop a = enc d t ++ r.drop h' := by
  unfold rdG at e
  split at e
  · cases e
  · rename_i s hs
    have hs' := drop_at hs
    have sb := hb s (List.mem_of_getElem? hs)
    have one : ∀ {t' : T} {x : Int}, okA t' → encA t' = [x] → s = x → R.ok t' (a + 1) = .ok t h' → OkT d t ∧ r.drop a = enc d t ++ r.drop h' := fun {t' x} o ex es e => by
      cases e
      obtain ⟨o1, o2⟩ := okT_atom' (d := d) o
      refine ⟨o1, ?_⟩
      rw [hs', o2, ex, es]
      rfl
    split at e
    · cases e
    rename_i n6
    split at e
    · rename_i c
      exact one (t' := .non) trivial rfl c e
    split at e
    · rename_i c
      exact one (t' := .bl false) trivial rfl c e
    split at e
    · rename_i c
      exact one (t' := .bl true) trivial rfl c e
    unfold rdB at e
    split at e
    · cases e
    · rename_i n h hw
      obtain ⟨w1, w2, w3⟩ := rdW_nn hw
      have wb := rdW_back hb hw
      split at e
      · rename_i c
        cases e
        obtain ⟨o1, o2⟩ := okT_atom' (d := d) (t := .int n) trivial
        refine ⟨o1, ?_⟩
        rw [hs', o2, show encA (.int n) = 3 :: vlq n.toNat from if_pos w1, wb, c]
        rfl
      split at e
      · rename_i c
        cases e
        obtain ⟨o1, o2⟩ := okT_atom' (d := d) (t := .int (-1 - n)) trivial
        refine ⟨o1, ?_⟩
        rw [hs', o2, show encA (.int (-1 - n)) = 4 :: vlq (-1 - (-1 - n)).toNat from if_neg (by omega), wb, c, show (-1 - (-1 - n)) = n by omega]
        rfl
      split at e
      · rename_i c
        split at e
        · rename_i c2
          obtain ⟨zz, e1, e2, e3, e4⟩ := rdS_back _ _ _ e
          rw [List.nil_append] at e1
          subst e1
          obtain ⟨o1, o2⟩ := okT_atom' (d := d) (t := .str zz) ⟨by omega, by omega, e3⟩
          refine ⟨o1, ?_⟩
          rw [hs', o2, wb, e4, c, show encA (.str zz) = 5 :: (vlq zz.length ++ zz.map fun c : Nat => (c : Int)) from rfl, e2]
          simp
        · cases e
      · have s6 : s = 6 := by omega
        cases zz : z with
        | true => exact absurd (.inr ⟨s6, zz⟩) n6
        | false =>
          obtain ⟨o1, o2⟩ := hg zz n h t h' hw e
          refine ⟨o1, ?_⟩
          rw [hs', s6]
          exact o2
theorem rdP_back {r : List Int} (hb : Byt r) : ∀ (d a : Nat) (t : T) (h : Nat), rdP r d a = .ok t h → OkT d t ∧ r.drop a = enc d t ++ r.drop h
  | 0, a, t, h, e => rdG_back hb (fun z => by cases z) e
  | d + 1, a, t, h, e => by
    refine rdG_back hb (fun _ n h1 t1 h2 hw e2 => ?_) e
    obtain ⟨l, z1, z2, z3, z4⟩ := rdL_back (rdP_back hb d) _ _ _ _ e2
    rw [List.nil_append] at z1
    subst z1
    refine ⟨z3, ?_⟩
    rw [rdW_back hb hw, z4, show enc (d + 1) (.tup l) = 6 :: (vlq l.length ++ (l.map (enc d)).flatten) from rfl, z2]
    simp
theorem rdAll_back {r : List Int} (hb : Byt r) {t : T} {h : Nat} (e : rdAll r = .ok t h) : OkT 20 t ∧ enc 20 t = r := by
  unfold rdAll at e
  split at e
  · rename_i t1 h1 e1
    split at e
    · rename_i c
      cases e
      obtain ⟨o1, o2⟩ := rdP_back hb 20 0 t h e1
      refine ⟨o1, ?_⟩
      rw [c, List.drop_length, List.append_nil] at o2
      exact o2.symm
    · cases e
  · cases e
end QR

namespace Q
open PySem L2 QR
def top (i : Nat) : Stmt := PySem.Challenge.pw_sameround_k33_whole_rows_there_and_back.main.body.getD i (.Pass ⟨0, 0, 0, 0⟩)
/-- what the built-in names still are -/
structure Bts (mg : Str → Option Value) : Prop where
  len : mg "len" = none
  int : mg "int" = none
  list : mg "list" = none
  range : mg "range" = none
  min : mg "min" = none
  tuple : mg "tuple" = none
  isinstance : mg "isinstance" = none
  bool : mg "bool" = none
  str : mg "str" = none
  repr : mg "repr" = none
  sum : mg "sum" = none
  abs : mg "abs" = none
  ord : mg "ord" = none
  reversed : mg "reversed" = none
  all : mg "all" = none
  zip : mg "zip" = none
structure Df (K : PySem.W.Frag) (mg : Str → Option Value) (x : Str) (st : Stmt) (ps : List Str) (f : Addr) (fd : FuncData) : Prop where
  F : Fun K x x st f fd
  m : mg x = some (.ref f)
  b : Binds K fd ps []
theorem Df.k {K : PySem.W.Frag} {mg : Str → Option Value} {x : Str} {st : Stmt} {ps : List Str} {f : Addr} {fd : FuncData} (D : Df K mg x st ps f fd) : PySem.W.keepIn K (.ref f) = true := D.F.kp
def KTup (K : PySem.W.Frag) (a : Addr) (xs : List V) : Prop := ∃ (o : Obj) (its : Array Value) (n : Nat), K.lookup a = some o ∧ o.cls = .type "tuple" ∧ o.data = .seq its n ∧ its.size ≤ sizeLine ∧ Vals xs its.toList
theorem KTup.sq {K : PySem.W.Frag} {a : Addr} {xs : List V} (h : KTup K a xs) (H : Hp) : SqT K H a xs := .inr h
def sbS : Str := " !\"#$"
def saS : Str := "&'()*+,-./0123456789:;<=>?@ABCDEFGHIJKLMNOPQRSTUVWXYZ[\\]^_`abcdefghijklmnopqrstuvwxyz{|}~"
/-- the constants of rows -/
structure Cst (mg : Str → Option Value) : Prop where
  bytes : ∃ t, mg "BYTES" = some (.int 256 t)
  deep : ∃ t, mg "MOST_DEEP" = some (.int 20 t)
  signs : ∃ t, mg "MOST_SIGNS" = some (.int 20 t)
  from0 : ∃ t, mg "FROM_0_ON" = some (.int 3 t)
  below : ∃ t, mg "BELOW_0" = some (.int 4 t)
  strg : ∃ t, mg "STRING" = some (.int 5 t)
  tupl : ∃ t, mg "TUPLE" = some (.int 6 t)
  first : ∃ t, mg "FIRST_SIGN" = some (.int 32 t)
  nosg : ∃ t, mg "NO_SIGN" = some (.int 37 t)
  last : ∃ t, mg "LAST_SIGN" = some (.int 126 t)
  factor : ∃ t, mg "MARK_FACTOR" = some (.int 1000003 t)
  marks : ∃ t, mg "MARKS" = some (.int 2305843009213693951 t)
  seals : ∃ t, mg "SEALS" = some (.int 4294967296 t)
  slen : ∃ t, mg "SEAL_LENGTH" = some (.int 4 t)
  sb : ∃ t, mg "SIGNS_BELOW" = some (.str sbS t)
  sa : ∃ t, mg "SIGNS_ABOVE" = some (.str saS t)
/-! ### heaps -/
theorem sN {H : Hp} {q : Addr} {o : HO} (n : H q = none) : Same H (upd H q o) := fun b u e => by
  rw [upd_ne (ne_of_none e n)]; exact e
theorem sT {H H1 H2 : Hp} (a : Same H H1) (b : Same H1 H2) : Same H H2 := fun c o h => b c o (a c o h)
theorem sR {H : Hp} : Same H H := fun _ _ e => e
/-- new at q, or over a thing that was not there at the start -/
theorem sNew {H H1 : Hp} {p : Addr} {o : HO} (s : Same H H1) (n : H p = none) : Same H (upd H1 p o) := fun b u e => by
  rw [upd_ne (ne_of_none e n)]; exact s b u e
theorem sNo {H H1 : Hp} {p : Addr} (s : Same H H1) (n : H1 p = none) : H p = none := by
  cases e : H p with
  | none => rfl
  | some o =>
    rw [s _ _ e] at n
    cases n
/-- all stands but what is at l -/
def Bu (l : Addr) (H H' : Hp) : Prop := ∀ b o, H b = some o → b ≠ l → H' b = some o
theorem Bu.rf {l : Addr} {H : Hp} : Bu l H H := fun _ _ e _ => e
theorem Bu.at {l : Addr} {H H1 : Hp} {o : HO} (h : Bu l H H1) : Bu l H (upd H1 l o) := fun b u e n => by
  rw [upd_ne n]; exact h b u e n
theorem Bu.st {l : Addr} {H H1 H2 : Hp} (h : Bu l H H1) (s : Same H1 H2) : Bu l H H2 := fun b u e n => s _ _ (h b u e n)
theorem Bu.tr {l : Addr} {H H1 H2 : Hp} (h : Bu l H H1) (g : Bu l H1 H2) : Bu l H H2 := fun b u e n => g b u (h b u e n) n
theorem Bu.of {l : Addr} {H H1 : Hp} (s : Same H H1) : Bu l H H1 := fun b u e _ => s b u e
theorem Bu.new {l : Addr} {H H1 : Hp} (h : Bu l H H1) (n : H l = none) : Same H H1 := fun b u e => h b u e (ne_of_none e n)
/-- tuples stand -/
def Tk (H H' : Hp) : Prop := ∀ b xs, H b = some (.tup xs) → H' b = some (.tup xs)
theorem Tk.of {H H' : Hp} (s : Same H H') : Tk H H' := fun b xs e => s _ _ e
theorem Tk.bu {H H' : Hp} {l : Addr} {xs : List V} (h : Bu l H H') (e : H l = some (.lst xs)) : Tk H H' := fun b ys e2 => h b _ e2 (ne_of e2 e (fun z => by cases z))
theorem Tk.tr {H H1 H2 : Hp} (h : Tk H H1) (g : Tk H1 H2) : Tk H H2 := fun b xs e => g b xs (h b xs e)
theorem size_ok {n : Nat} (h : n ≤ 20000) : n < sizeLine := Nat.lt_of_lt_of_le (show n < 20001 by omega) (by decide)
/-! ### parcels that stand in the heap -/
def sOf (z : List Nat) : Str := ⟨z.toArray⟩
def RepA (t : T) (v : V) : Prop := match t with
  | .non => v = .non
  | .bl b => v = .bl b
  | .int i => v = .int i
  | .str z => v = .str (sOf z) ∧ z.length ≤ 9000
  | .tup _ => False
def Rep (H : Hp) : Nat → T → V → Prop
  | 0, t, v => RepA t v
  | d + 1, t, v => match t with
    | .tup l => ∃ a xs, v = .ref a ∧ H a = some (.tup xs) ∧ xs.length = l.length ∧ xs.length ≤ 9000 ∧ ∀ (i : Nat) (x : V) (t : T), xs[i]? = some x → l[i]? = some t → Rep H d t x
    | t => RepA t v
theorem Rep.tk {H H' : Hp} (k : Tk H H') : ∀ {d : Nat} {t : T} {v : V}, Rep H d t v → Rep H' d t v
  | 0, t, v, h => h
  | d + 1, t, v, h => by
    cases t with
    | tup l =>
      obtain ⟨a, xs, e, h1, h2, h3, h4⟩ := h
      exact ⟨a, xs, e, k _ _ h1, h2, h3, fun i x t hx ht => Rep.tk k (h4 i x t hx ht)⟩
    | _ => exact h
theorem Rep.same {H H' : Hp} {d : Nat} {t : T} {v : V} (h : Rep H d t v) (s : Same H H') : Rep H' d t v := h.tk (.of s)
theorem Rep.atom {H : Hp} {t : T} {v : V} (h : RepA t v) : ∀ {d : Nat}, Rep H d t v
  | 0 => h
  | d + 1 => by
    cases t with
    | tup l => exact h.elim
    | _ => exact h
theorem Rep.more {H : Hp} : ∀ {d : Nat} {t : T} {v : V}, Rep H d t v → Rep H (d + 1) t v
  | 0, t, v, h => Rep.atom h
  | d + 1, t, v, h => by
    cases t with
    | tup l =>
      obtain ⟨a, xs, e, h1, h2, h3, h4⟩ := h
      exact ⟨a, xs, e, h1, h2, h3, fun i x t hx ht => (h4 i x t hx ht).more⟩
    | _ => exact h
theorem Rep.up {H : Hp} {d : Nat} {t : T} {v : V} (h : Rep H d t v) : ∀ k, Rep H (d + k) t v
  | 0 => h
  | k + 1 => (h.up k).more
/-- what a parcel's value is -/
theorem Rep.cases {H : Hp} {d : Nat} {t : T} {v : V} (h : Rep H d t v) : (t = .non ∧ v = .non) ∨ (∃ b, t = .bl b ∧ v = .bl b) ∨ (∃ i, t = .int i ∧ v = .int i) ∨ (∃ z, t = .str z ∧ v = .str (sOf z) ∧ z.length ≤ 9000) ∨
    ∃ d' l a xs, d = d' + 1 ∧ t = .tup l ∧ v = .ref a ∧ H a = some (.tup xs) ∧ xs.length = l.length ∧ xs.length ≤ 9000 ∧ ∀ (i : Nat) (x : V) (t : T), xs[i]? = some x → l[i]? = some t → Rep H d' t x := by
  cases d with
  | zero =>
    cases t with
    | non => exact .inl ⟨rfl, h⟩
    | bl b => exact .inr (.inl ⟨b, rfl, h⟩)
    | int i => exact .inr (.inr (.inl ⟨i, rfl, h⟩))
    | str z => exact .inr (.inr (.inr (.inl ⟨z, rfl, h⟩)))
    | tup l => exact h.elim
  | succ d =>
    cases t with
    | non => exact .inl ⟨rfl, h⟩
    | bl b => exact .inr (.inl ⟨b, rfl, h⟩)
    | int i => exact .inr (.inr (.inl ⟨i, rfl, h⟩))
    | str z => exact .inr (.inr (.inr (.inl ⟨z, rfl, h⟩)))
    | tup l =>
      obtain ⟨a, xs, h⟩ := h
      exact .inr (.inr (.inr (.inr ⟨d, l, a, xs, rfl, rfl, h⟩)))
/-- a row: a tuple of bytes -/
structure RowAt (H : Hp) (q : Addr) (bs : List Int) : Prop where
  at_ : H q = some (.tup (bs.map V.int))
  b : ∀ b ∈ bs, 0 ≤ b ∧ b < 256
  few : bs.length ≤ 9000
theorem RowAt.tk {H H' : Hp} {q : Addr} {bs : List Int} (h : RowAt H q bs) (k : Tk H H') : RowAt H' q bs := ⟨k _ _ h.at_, h.b, h.few⟩
theorem RowAt.same {H H' : Hp} {q : Addr} {bs : List Int} (h : RowAt H q bs) (s : Same H H') : RowAt H' q bs := h.tk (.of s)
theorem at_ints {bs : List Int} {i : Nat} {x : V} (h : (bs.map V.int)[i]? = some x) : ∃ b, bs[i]? = some b ∧ x = .int b := by
  rw [List.getElem?_map] at h
  cases e : bs[i]? with
  | none => rw [e] at h; cases h
  | some b => rw [e] at h; exact ⟨b, rfl, (Option.some.inj h).symm⟩
theorem take_more {α : Type} {l : List α} {i : Nat} {x : α} (h : l[i]? = some x) : l.take (i + 1) = l.take i ++ [x] := by
  rw [List.take_add_one, h]
  rfl
abbrev sPlain : Stmt := top 6
abbrev sNum : Stmt := top 7
abbrev sIsRow : Stmt := top 26
abbrev sIsSg : Stmt := top 27
abbrev sSgOf : Stmt := top 28
abbrev sMkOf : Stmt := top 38
abbrev sMark : Stmt := top 9999
abbrev sSeal : Stmt := top 39
abbrev kInt (K : PySem.W.Frag) (t : Value) (b : Bool) : Prop := PySem.W.kitOne K t (.type "int") = some b
abbrev kBool (K : PySem.W.Frag) (t : Value) (b : Bool) : Prop := PySem.W.kitOne K t (.type "bool") = some b
def spPlain (K : PySem.W.Frag) : Sp := fun vs H Q _ => ∃ (v : V) (t : Value) (b c : Bool), vs = [v] ∧ TyX K H v t ∧ kInt K t b ∧ kBool K t c ∧ Q (.bl (b && !c)) H
def NoInt (K : PySem.W.Frag) (H : Hp) (v : V) : Prop := ∃ (t : Value) (b c : Bool), TyX K H v t ∧ kInt K t b ∧ kBool K t c ∧ (b && !c) = false
def spNum (K : PySem.W.Frag) : Sp := fun vs H Q _ => ∃ (n : Int) (v : V), vs = [.int n, v] ∧ ((∃ i : Int, v = .int i ∧ Q (.bl (decide (0 ≤ i) && decide (i < n))) H) ∨ (NoInt K H v ∧ Q (.bl false) H))
theorem kInt_int {K : PySem.W.Frag} : kInt K (.type "int") true := kit_ty (by decide +kernel)
theorem kBool_int {K : PySem.W.Frag} : kBool K (.type "int") false := kit_ty (by decide +kernel)
/-- a byte -/
def isB : V → Bool
  | .int i => decide (0 ≤ i) && decide (i < 256)
  | _ => false
/-- None, a flag, a number -/
def Sc (v : V) : Prop := v = .non ∨ (∃ b, v = .bl b) ∨ ∃ i, v = .int i
def spIsRow (K : PySem.W.Frag) : Sp := fun vs H Q _ => ∃ v : V, vs = [v] ∧ ((∃ q xs, v = .ref q ∧ H q = some (.tup xs) ∧ xs.length ≤ 9000 ∧ (∀ x ∈ xs, Sc x) ∧ ∀ H', Same H H' → Q (.bl (xs.all isB)) H') ∨
  (∃ t, TyX K H v t ∧ PySem.W.kitOne K t (.type "tuple") = some false ∧ Q (.bl false) H))
theorem all_isB {bs : List Int} (h : ∀ b ∈ bs, 0 ≤ b ∧ b < 256) : (bs.map V.int).all isB = true := by
  rw [List.all_eq_true]
  intro x hx
  obtain ⟨b, hb, rfl⟩ := List.mem_map.mp hx
  obtain ⟨h1, h2⟩ := h b hb
  show (decide (0 ≤ b) && decide (b < 256)) = true
  rw [decide_eq_true h1, decide_eq_true h2]
  rfl
theorem sc_ints (bs : List Int) : ∀ x ∈ bs.map V.int, Sc x := fun x hx => by
  obtain ⟨b, _, rfl⟩ := List.mem_map.mp hx
  exact .inr (.inr ⟨b, rfl⟩)
def spIsSg : Sp := fun vs H Q _ => ∃ b : Int, vs = [.int b] ∧ Q (.bl (isSg b)) H
def spSgOf : Sp := fun vs H Q _ => ∃ b : Int, vs = [.int b] ∧ isSg b = true ∧ Q (.str (sOf [b.toNat])) H
def spMkOf (K : PySem.W.Frag) : Sp := fun vs H Q _ => ∃ (q : Addr) (bs : List Int), vs = [.ref q] ∧ H q = some (.tup (bs.map V.int)) ∧ Q (.int (mkF bs)) H
def spMark (K : PySem.W.Frag) : Sp := fun vs H Q _ => ∃ (q : Addr) (bs : List Int), vs = [.ref q] ∧ RowAt H q bs ∧ ∀ H', Same H H' → Q (.int (mkF bs)) H'
def spSeal : Sp := fun vs H Q _ => ∃ (q : Addr) (bs : List Int), vs = [.ref q] ∧ H q = some (.tup (bs.map V.int)) ∧ ∀ z H', Same H H' → H' z = some (.tup ((sealL bs).map V.int)) → Q (.ref z) H'
theorem sg_lo : ∀ k : Nat, k < 5 → sbS.cps.toList[k]? = some (32 + k) := by decide +kernel
theorem sg_hi : ∀ k : Nat, k < 89 → saS.cps.toList[k]? = some (38 + k) := by decide +kernel
theorem sg_b {b : Int} (h : isSg b = true) : 32 ≤ b ∧ b ≤ 126 ∧ b ≠ 37 := by
  simp only [isSg, Bool.and_eq_true, decide_eq_true_eq, Bool.not_eq_true', decide_eq_false_iff_not] at h
  exact ⟨h.1.1, h.1.2, h.2⟩
/-- what is left, what is written of a seal -/
def lf (m : Int) : Nat → Int
  | 0 => m
  | i + 1 => lf m i / 256
def sl (m : Int) : Nat → List Int
  | 0 => []
  | i + 1 => sl m i ++ [lf m i % 256]
theorem sl_len (m : Int) : ∀ i, (sl m i).length = i
  | 0 => rfl
  | i + 1 => by
    show (sl m i ++ [_]).length = _
    rw [List.length_append, sl_len m i]
    rfl
theorem sl_seal (bs : List Int) : sl (mkF bs % 4294967296) 4 = sealL bs := by
  unfold sealL
  show [mkF bs % 4294967296 % 256, mkF bs % 4294967296 / 256 % 256, mkF bs % 4294967296 / 256 / 256 % 256, mkF bs % 4294967296 / 256 / 256 / 256 % 256] = _
  rw [Int.ediv_ediv_of_nonneg (by decide), Int.ediv_ediv_of_nonneg (by decide)]
  rfl
section
variable {P : Program} {w : World} {K : PySem.W.Frag} {mg : Str → Option Value} {base : Heap}
theorem Sc.ni {H : Hp} {v : V} (h : Sc v) : (∃ i, v = .int i) ∨ NoInt K H v := by
  rcases h with rfl | ⟨b, rfl⟩ | h
  · exact .inr ⟨.type "NoneType", false, false, .base .non, kit_ty (by decide +kernel), kit_ty (by decide +kernel), rfl⟩
  · exact .inr ⟨.type "bool", true, true, .base (.bl _), kit_ty (by decide +kernel), kit_ty (by decide +kernel), rfl⟩
  · exact .inl h
theorem scPlain : FnScope ["thing"] ["thing"] (defScope sPlain) := ⟨rfl, rfl, rfl, by decide +kernel, rfl, by decide +kernel, by decide +kernel⟩
theorem ok_plain {f : Addr} {fd : FuncData} (D : Df K mg "is_plain_int" sPlain ["thing"] f fd) (B : Bts mg) : FnOk P w K mg base CX0 1 f fd ["thing"] (spPlain K) := by
  refine D.F.ok scPlain (fun vs H Q E h => ?_) (fun cdv A outer s H vs Q E hr h => ?_)
  · obtain ⟨v, t, b, c, rfl, _⟩ := h
    rfl
  · obtain ⟨v, t, b, c, rfl, ty, kb, kc, k⟩ := h
    refine ⟨_, pss_one (ps_ret (pe_and (pe_callB call_isi (by rfl) B.isinstance PyProof.Rows.boot_isinstance (pa_cons (pv 0) (pa_cons (pe_bltn (v := .ty "int") rfl B.int PyProof.Rows.boot_int rfl) pa_nil)))
      (pe_one (pe_not (pe_callB call_isi (by rfl) B.isinstance PyProof.Rows.boot_isinstance (pa_cons (pv 0) (pa_cons (pe_bltn (v := .ty "bool") rfl B.bool (by decide +kernel) rfl) pa_nil))))))), ?_⟩
    refine ⟨_, rfl, v, .ty "int", t, .type "int", b, rfl, .ty _, ty, kb, _, rfl, ?_⟩
    cases b with
    | false => exact iteF k
    | true => exact iteT ⟨_, rfl, v, .ty "bool", t, .type "bool", c, rfl, .ty _, ty, kc, _, rfl, k⟩
theorem scNum : FnScope ["limit", "thing"] ["limit", "thing"] (defScope sNum) := ⟨rfl, rfl, rfl, by decide +kernel, rfl, by decide +kernel, by decide +kernel⟩
theorem ok_num {f fP : Addr} {fd fdP : FuncData} (D : Df K mg "is_number_below" sNum ["limit", "thing"] f fd) (B : Bts mg) (DP : Df K mg "is_plain_int" sPlain ["thing"] fP fdP) : FnOk P w K mg base CX0 2 f fd ["limit", "thing"] (spNum K) := by
  have GP : FnOk P w K mg base CX0 1 fP fdP ["thing"] (spPlain K) := ok_plain DP B
  refine D.F.ok scNum (fun vs H Q E h => ?_) (fun cdv A outer s H vs Q E hr h => ?_)
  · obtain ⟨n, v, rfl, _⟩ := h
    rfl
  · obtain ⟨n, v, rfl, h⟩ := h
    refine ⟨_, pss_one (ps_ret (pe_and (pe_call GP hr rfl DP.m DP.k DP.b .nil pass0 (pa_cons (pv 1) pa_nil)) (pe_one (pe_chain op_le op_lt pe_int (pv 1) (pv 0))))), ?_⟩
    rcases h with ⟨i, rfl, k⟩ | ⟨⟨t, b, c, ty, kb, kc, e⟩, k⟩
    · refine ⟨_, rfl, .int i, .type "int", true, false, rfl, .base (.int _), kInt_int, kBool_int, _, rfl, iteT ?_⟩
      refine ⟨_, rfl, _, _, rfl, rfl, _, rfl, ?_⟩
      by_cases c : (0 : Int) ≤ i
      · rw [decide_eq_true c] at k ⊢
        exact iteT ⟨_, rfl, _, _, rfl, rfl, k⟩
      · rw [decide_eq_false c] at k ⊢
        exact iteF k
    · refine ⟨_, rfl, v, t, b, c, rfl, ty, kb, kc, _, rfl, ?_⟩
      rw [e]
      exact iteF k
theorem scIsRow : FnScope ["thing", "part"] ["thing"] (defScope sIsRow) := ⟨rfl, rfl, rfl, by decide +kernel, rfl, by decide +kernel, by decide +kernel⟩
theorem ok_isrow {f fP fN : Addr} {fd fdP fdN : FuncData} (D : Df K mg "is_row" sIsRow ["thing"] f fd) (B : Bts mg) (C : Cst mg) (DP : Df K mg "is_plain_int" sPlain ["thing"] fP fdP) (DN : Df K mg "is_number_below" sNum ["limit", "thing"] fN fdN) : FnOk P w K mg base CX0 3 f fd ["thing"] (spIsRow K) := by
  have GN : FnOk P w K mg base CX0 2 fN fdN ["limit", "thing"] (spNum K) := ok_num DN B DP
  obtain ⟨tb, hb⟩ := C.bytes
  refine D.F.ok scIsRow (fun vs H Q E h => ?_) (fun cdv A outer s H vs Q E hr h => ?_)
  · obtain ⟨v, rfl, _⟩ := h
    rfl
  · obtain ⟨v, rfl, h⟩ := h
    have nd := scIsRow.nd
    refine ⟨_, pss_one (ps_ret (pe_and (pe_callB call_isi (by rfl) B.isinstance PyProof.Rows.boot_isinstance (pa_cons (pv 0) (pa_cons (pe_bltn (v := .ty "tuple") rfl B.tuple PyProof.Rows.boot_tuple rfl) pa_nil)))
      (pe_one (pe_callB (cr_all rfl) (by rfl) B.all PyProof.Rows.boot_all (pa_cons (pe_lc (own := [("part", 1)]) (g := gName 1) (tt := tYes) rfl nd (pi_tup (pv 0))
        (blkOk_by (N := ["thing", "part"]) (sc := defScope sIsRow) (by decide +kernel)) (fun _ _ _ _ _ => pg_name (i := 1) nd rfl (.inl rfl)) (fun _ _ _ _ _ => pts_nil)
        (fun _ _ _ _ _ => pe_call GN hr rfl DN.m DN.k DN.b .nil pass0 (pa_cons (pe_glob (v := .int 256) rfl hb ⟨_, rfl⟩) (pa_cons (pv 1) pa_nil)))) pa_nil))))), ?_⟩
    rcases h with ⟨q, xs, rfl, hq, few, sc, k⟩ | ⟨t, ty, kt, k⟩
    · refine ⟨_, rfl, .ref q, .ty "tuple", .type "tuple", .type "tuple", true, rfl, .ty _, .base (.tup hq), kit_ty (by decide +kernel), _, rfl, iteT ?_⟩
      refine ⟨_, rfl, q, rfl, ⟨_, SqT.of hq⟩, fun D hD => lc_tup (K := K) (a := q) (xs := xs) (fun i H' => H' D = some (.lst (((xs.take i).map isB).map V.bl)) ∧ Same H H') ?_ ?_ ?_ ?_⟩
      · exact ⟨upd_same, sN hD⟩
      · rintro i H' hi ⟨_, s1⟩
        exact SqT.of (s1 _ _ hq)
      · rintro i x H' hx ⟨eD, s1⟩
        have hm := sc x (List.mem_of_getElem? hx)
        have hi := (List.getElem?_eq_some_iff.mp hx).1
        have fin : ∀ b, b = isB x → ∃ acc, H' D = some (.lst acc) ∧ acc.length < sizeLine ∧ (upd H' D (.lst (acc ++ [.bl b]))) D = some (.lst (((xs.take (i + 1)).map isB).map V.bl)) ∧ Same H (upd H' D (.lst (acc ++ [.bl b]))) := fun b hb => by
          refine ⟨_, eD, ?_, ?_, sNew s1 hD⟩
          · rw [List.length_map, List.length_map, List.length_take]
            exact size_ok (by omega)
          · rw [upd_same, take_more hx, List.map_append, List.map_append, hb]
            rfl
        refine ⟨rfl, ?_⟩
        rcases hm.ni (K := K) (H := H') with ⟨j, rfl⟩ | ni
        · exact ⟨_, rfl, 256, .int j, rfl, .inl ⟨j, rfl, fin _ rfl⟩⟩
        · refine ⟨_, rfl, 256, x, rfl, .inr ⟨ni, fin _ ?_⟩⟩
          rcases hm with rfl | ⟨b, rfl⟩ | ⟨j, rfl⟩
          · rfl
          · rfl
          · obtain ⟨t, b, c, ty, kb, kc, e⟩ := ni
            cases ty with
            | base ty =>
              cases ty
              rw [show b = true from (Option.some.inj (kInt_int.symm.trans kb)).symm, show c = false from (Option.some.inj (kBool_int.symm.trans kc)).symm] at e
              cases e
      · rintro H' ⟨eD, s1⟩
        rw [List.take_length] at eD
        refine ⟨D, _, rfl, SqL.of eD, ?_⟩
        have e : (xs.map isB).all id = xs.all isB := by rw [List.all_map]; rfl
        rw [e]
        exact k _ s1
    · exact ⟨_, rfl, v, .ty "tuple", t, .type "tuple", false, rfl, .ty _, ty, kt, _, rfl, iteF k⟩
theorem scIsSg : FnScope ["number"] ["number"] (defScope sIsSg) := ⟨rfl, rfl, rfl, by decide +kernel, rfl, by decide +kernel, by decide +kernel⟩
theorem ok_issg {f : Addr} {fd : FuncData} (D : Df K mg "is_sign" sIsSg ["number"] f fd) (C : Cst mg) : FnOk P w K mg base CX0 1 f fd ["number"] spIsSg := by
  obtain ⟨t1, h1⟩ := C.first
  obtain ⟨t2, h2⟩ := C.last
  obtain ⟨t3, h3⟩ := C.nosg
  refine D.F.ok scIsSg (fun vs H Q E h => ?_) (fun cdv A outer s H vs Q E hr h => ?_)
  · obtain ⟨b, rfl, _⟩ := h
    rfl
  · obtain ⟨b, rfl, k⟩ := h
    refine ⟨_, pss_one (ps_ret (pe_and (pe_chain op_le op_le (pe_glob (v := .int 32) rfl h1 ⟨_, rfl⟩) (pv 0) (pe_glob (v := .int 126) rfl h2 ⟨_, rfl⟩)) (pe_one (pe_cmpR op_ne (pv 0) (pe_glob (v := .int 37) rfl h3 ⟨_, rfl⟩) (nomark _))))), ?_⟩
    unfold isSg at k
    refine ⟨_, rfl, _, _, rfl, rfl, _, rfl, ?_⟩
    by_cases c : (32 : Int) ≤ b
    · rw [decide_eq_true c] at k ⊢
      refine iteT ⟨_, _, rfl, rfl, _, rfl, ?_⟩
      by_cases c2 : b ≤ 126
      · rw [decide_eq_true c2] at k ⊢
        refine iteT ⟨_, rfl, rfl, ?_⟩
        have e : decide (V.int b = V.int 37) = decide (b = 37) := by
          by_cases c3 : b = 37
          · rw [c3, decide_eq_true rfl, decide_eq_true rfl]
          · rw [decide_eq_false c3, decide_eq_false fun z => c3 (V.int.inj z)]
        rw [e]
        exact k
      · rw [decide_eq_false c2] at k ⊢
        exact iteF k
    · rw [decide_eq_false c] at k ⊢
      exact iteF ⟨_, rfl, iteF k⟩
theorem scSgOf : FnScope ["number"] ["number"] (defScope sSgOf) := ⟨rfl, rfl, rfl, by decide +kernel, rfl, by decide +kernel, by decide +kernel⟩
theorem ok_sgof {f : Addr} {fd : FuncData} (D : Df K mg "sign_of" sSgOf ["number"] f fd) (C : Cst mg) : FnOk P w K mg base CX0 1 f fd ["number"] spSgOf := by
  obtain ⟨t1, h1⟩ := C.first
  obtain ⟨t3, h3⟩ := C.nosg
  obtain ⟨t4, h4⟩ := C.sb
  obtain ⟨t5, h5⟩ := C.sa
  refine D.F.ok scSgOf (fun vs H Q E h => ?_) (fun cdv A outer s H vs Q E hr h => ?_)
  · obtain ⟨b, rfl, _⟩ := h
    rfl
  · obtain ⟨b, rfl, sg, k⟩ := h
    obtain ⟨b1, b2, b3⟩ := sg_b sg
    refine ⟨_, pss_cons (ps_if (pt_cmpR op_lt (pv 0) (pe_glob (v := .int 37) rfl h3 ⟨_, rfl⟩) (nomark _))
        (pss_one (ps_ret (pe_ix ix_str (pe_glob (v := .str sbS) rfl h4 ⟨_, rfl⟩) (pe_op op_sub (pv 0) (pe_glob (v := .int 32) rfl h1 ⟨_, rfl⟩)) (fun _ _ => rfl)))) pss_nil)
      (pss_one (ps_ret (pe_ix ix_str (pe_glob (v := .str saS) rfl h5 ⟨_, rfl⟩) (pe_op op_sub (pe_op op_sub (pv 0) (pe_glob (v := .int 37) rfl h3 ⟨_, rfl⟩)) pe_int) (fun _ _ => rfl)))), ?_⟩
    refine ⟨_, rfl, _, _, rfl, rfl, _, rfl, ite2 (fun c => ?_) (fun c => ?_)⟩
    · have c : b < 37 := of_decide_eq_true c
      refine ⟨_, rfl, _, _, rfl, rfl, sbS, b - 32, b.toNat, rfl, rfl, by decide +kernel, ?_, k⟩
      rw [show b - 32 = (((b.toNat - 32 : Nat)) : Int) by omega]
      refine atI_nat ?_
      rw [sg_lo _ (by omega), show 32 + (b.toNat - 32) = b.toNat by omega]
    · have c : ¬ b < 37 := fun z => c (decide_eq_true z)
      refine ⟨_, rfl, _, _, rfl, rfl, _, _, rfl, rfl, saS, b - 37 - 1, b.toNat, rfl, rfl, by decide +kernel, ?_, k⟩
      rw [show b - 37 - 1 = (((b.toNat - 38 : Nat)) : Int) by omega]
      refine atI_nat ?_
      rw [sg_hi _ (by omega), show 38 + (b.toNat - 38) = b.toNat by omega]
theorem scMkOf : FnScope ["row", "number", "byte"] ["row"] (defScope sMkOf) := ⟨rfl, rfl, rfl, by decide +kernel, rfl, by decide +kernel, by decide +kernel⟩
theorem ok_mkof {f : Addr} {fd : FuncData} (D : Df K mg "mark_of" sMkOf ["row"] f fd) (C : Cst mg) : FnOk P w K mg base CX0 1 f fd ["row"] (spMkOf K) := by
  obtain ⟨t1, h1⟩ := C.factor
  obtain ⟨t2, h2⟩ := C.marks
  refine D.F.ok scMkOf (fun vs H Q E h => ?_) (fun cdv A outer s H vs Q E hr h => ?_)
  · obtain ⟨q, bs, rfl, _⟩ := h
    rfl
  · obtain ⟨q, bs, rfl, hq, k⟩ := h
    have nd := scMkOf.nd
    refine ⟨_, pss_cons (ps_set (i := 1) nd rfl (.inl rfl) pe_int)
      (pss_cons (ps_for PassesOwn.never rfl (pi_tup (pv 0)) (pg_name (i := 2) nd rfl (.inl rfl))
        (pss_one (ps_set (i := 1) nd rfl (.inl rfl) (pe_op op_mod (pe_op op_add (pe_op op_add (pe_op op_mul (pv 1) (pe_glob (v := .int 1000003) rfl h1 ⟨_, rfl⟩)) (pv 2)) pe_int) (pe_glob (v := .int 2305843009213693951) rfl h2 ⟨_, rfl⟩)))))
      (pss_one (ps_ret (pv 1)))), ?_⟩
    refine ⟨_, rfl, q, rfl, ⟨_, SqT.of hq⟩, for_tup (K := K) (a := q) (xs := bs.map V.int) (fun i σ H' => ∃ x2, σ = [some (.ref q), some (.int (mkF (bs.take i))), x2] ∧ H' = H) ?_ ?_ ?_ ?_⟩
    · exact ⟨none, rfl, rfl⟩
    · rintro i σ H' hi ⟨x2, rfl, rfl⟩
      exact SqT.of hq
    · rintro i x σ H' hx ⟨x2, rfl, rfl⟩
      obtain ⟨b, hb, rfl⟩ := at_ints hx
      refine ⟨_, rfl, _, _, rfl, rfl, .inr ⟨by decide, by decide⟩, _, rfl, _, _, rfl, rfl, _, _, rfl, rfl, _, _, rfl, rfl, (by decide : (0 : Int) < 2305843009213693951), some (.int b), ?_, rfl⟩
      rw [take_more hb, mkF_snoc]
      rfl
    · rintro σ H' ⟨x2, rfl, rfl⟩
      rw [List.length_map, List.take_length]
      exact ⟨_, rfl, k⟩
theorem scSeal : FnScope ["row", "left", "seal", "_"] ["row"] (defScope sSeal) := ⟨rfl, rfl, rfl, by decide +kernel, rfl, by decide +kernel, by decide +kernel⟩
theorem ok_seal {f fM : Addr} {fd fdM : FuncData} (D : Df K mg "seal_of" sSeal ["row"] f fd) (B : Bts mg) (C : Cst mg) (DM : Df K mg "mark_of" sMkOf ["row"] fM fdM) : FnOk P w K mg base CX0 2 f fd ["row"] spSeal := by
  have GM : FnOk P w K mg base CX0 1 fM fdM ["row"] (spMkOf K) := ok_mkof DM C
  obtain ⟨t1, h1⟩ := C.seals
  obtain ⟨t2, h2⟩ := C.slen
  obtain ⟨t3, h3⟩ := C.bytes
  refine D.F.ok scSeal (fun vs H Q E h => ?_) (fun cdv A outer s H vs Q E hr h => ?_)
  · obtain ⟨q, bs, rfl, _⟩ := h
    rfl
  · obtain ⟨q, bs, rfl, hq, k⟩ := h
    have nd := scSeal.nd
    refine ⟨_, pss_cons (ps_set (i := 1) nd rfl (.inl rfl) (pe_op op_mod (pe_call GM hr rfl DM.m DM.k DM.b .nil pass0 (pa_cons (pv 0) pa_nil)) (pe_glob (v := .int 4294967296) rfl h1 ⟨_, rfl⟩)))
      (pss_cons (ps_set (i := 2) nd rfl (.inl rfl) (pe_lst pa_nil))
      (pss_cons (ps_for PassesOwn.never rfl (pi_range1 rfl B.range (pa_cons (pe_glob (v := .int 4) rfl h2 ⟨_, rfl⟩) pa_nil)) (pg_name (i := 3) nd rfl (.inl rfl))
        (pss_cons (ps_expr (pe_bm PySem.F.plainAttrs_list PySem.F.slot_list_append PySem.F.type_list_append mt_append (pv 2) (pa_cons (pe_op op_mod (pv 1) (pe_glob (v := .int 256) rfl h3 ⟨_, rfl⟩)) pa_nil)))
        (pss_one (ps_set (i := 1) nd rfl (.inl rfl) (pe_op op_fdiv (pv 1) (pe_glob (v := .int 256) rfl h3 ⟨_, rfl⟩))))))
      (pss_one (ps_ret (pe_callTy call_tuple_of (by rfl) B.tuple PyProof.Rows.boot_tuple (pa_cons (pv 2) pa_nil)))))), ?_⟩
    refine ⟨_, rfl, q, bs, rfl, hq, _, _, rfl, rfl, (by decide : (0 : Int) < 4294967296), Nat.zero_le _, fun l hl => ?_⟩
    refine ⟨4, rfl, by decide, by decide, for_range (lo := 0) (n := 4) (fun i σ H' => ∃ x3, σ = [some (.ref q), some (.int (lf (mkF bs % 4294967296) i)), some (.ref l), x3] ∧ H' l = some (.lst ((sl (mkF bs % 4294967296) i).map V.int)) ∧ Same H H') ?_ ?_ ?_⟩
    · exact ⟨none, rfl, upd_same, sN hl⟩
    · rintro i σ H' hi ⟨x3, rfl, e, s1⟩
      refine ⟨_, rfl, .inl ⟨rfl, _, SqL.of e⟩, _, rfl, _, _, rfl, rfl, (by decide : (0 : Int) < 256), l, _, _, rfl, rfl, e, ?_, ?_⟩
      · rw [List.length_map, sl_len]
        exact size_ok (by omega)
      · refine ⟨_, rfl, _, _, rfl, rfl, ⟨by decide, by decide⟩, _, rfl, ?_, sNew s1 hl⟩
        rw [upd_same]
        show _ = some (HO.lst ((sl (mkF bs % 4294967296) i ++ [_]).map V.int))
        rw [List.map_append]
        rfl
    · rintro σ H' ⟨x3, rfl, e, s1⟩
      refine ⟨_, rfl, l, _, rfl, .inl ⟨SqL.of e, fun z hz => k z _ (sT s1 (sN hz)) ?_⟩⟩
      rw [upd_same, sl_seal]
end
end Q

namespace L2
open PySem PySem.Spec PyProof.Rows
section
variable {X : Cx}
/-- t.index(x), t of flat things, the first place -/
theorem mt_tidx : MtR X "tuple.index" (fun x xs H Q => ∃ (p : Addr) (ys : List V) (y : V) (j : Nat) (z : V), x = .ref p ∧ xs = [y] ∧ SqT X.K H p ys ∧ flatV y = true ∧ ys.all flatV = true ∧ ys[j]? = some z ∧ eqV z y = true ∧ (∀ (m : Nat) (z' : V), m < j → ys[m]? = some z' → eqV z' y = false) ∧ Q (.int (j : Nat)) H) := by
  intro pins s σ H x xs v us Q I rx rs h
  obtain ⟨p, ys, y, j, z, rfl, rfl, hq, fy, fys, hz, hzj, hno, q⟩ := h
  cases rx
  cases rs with
  | cons ry rt =>
    rename_i uy ut
    cases rt
    obtain ⟨its, r, pl, hsz⟩ := I.tuple hq
    obtain ⟨⟨cls, dd, dt, sl⟩, ho, hc, n, hd⟩ := pl
    simp only at hc hd
    subst hc
    subst hd
    have hvl := r.length
    obtain ⟨u, hu, ru⟩ := r.get hz
    obtain ⟨hjl, hje⟩ := List.getElem?_eq_some_iff.mp hu
    have hj : j < its.toArray.size := by simpa using hjl
    refine call_meets PySem.F.slot_tuple_index ⟨_, ho, rfl⟩ PySem.F.entry_tuple_index (PySem.F.args_tuple_index_2 _ _) (TI.tuple_indexAt p its.toArray n dd sl uy (eqU y) j hj ?_ ?_)
      ⟨ho, fun w hw => mem_eqAt ry fy r fys w (by simpa using hw), ⟨.int (j : Nat), H, I.tok _, ⟨_, rfl⟩, q⟩⟩
    · have e1 : its.toArray[j] = u := by simpa using hje
      rw [e1, eqU_of ru (flat_at fys hz)]
      exact hzj
    · intro m hm hmj
      have hml : m < its.length := by simpa using hm
      have hmy : m < ys.length := by omega
      have hy' : ys[m]? = some ys[m] := List.getElem?_eq_getElem hmy
      obtain ⟨u2, hu2, ru2⟩ := r.get hy'
      obtain ⟨_, hme⟩ := List.getElem?_eq_some_iff.mp hu2
      have e1 : its.toArray[m] = u2 := by simpa using hme
      rw [e1, eqU_of ru2 (flat_at fys hy')]
      exact hno m _ hmj hy'
/-- x is True, x is False, of any x -/
theorem op_is_xb : OpR X (compareOp .Is) (fun x y H Q => ((∃ i : Int, x = .int i) ∨ (∃ z : Str, x = .str z) ∨ ∃ a : Addr, x = .ref a) ∧ ∃ b : Bool, y = .bl b ∧ Q (.bl false) H) := by
  intro pins s σ H x y v u Q I rx ry h
  obtain ⟨hx, b, rfl, q⟩ := h
  cases (show u = Value.bool b from ry)
  rcases hx with ⟨i, rfl⟩ | ⟨z, rfl⟩ | ⟨a, rfl⟩
  · obtain ⟨t, rfl⟩ := rx
    exact wpAny_is_other rfl (fun z => nomatch z) ⟨.bl false, H, I, rfl, q⟩
  · obtain ⟨t, rfl⟩ := rx
    exact wpAny_is_other rfl (fun z => nomatch z) ⟨.bl false, H, I, rfl, q⟩
  · cases rx
    exact wpAny_is_other rfl (fun z => nomatch z) ⟨.bl false, H, I, rfl, q⟩
end
end L2
namespace Q
open PySem L2 QR
abbrev sIsStr : Stmt := top 29
abbrev sIPW : Stmt := top 30
abbrev sIsPar : Stmt := top 31
abbrev sWW : Stmt := top 32
abbrev sWP : Stmt := top 33
abbrev sRowOf : Stmt := top 34
abbrev sSealed : Stmt := top 40
structure Bare (K : PySem.W.Frag) (mg : Str → Option Value) : Prop where
  ex : ∃ a, mg "BARE" = some (.ref a) ∧ KTup K a [.non, .bl false, .bl true] ∧ ∃ o, K.lookup a = some o ∧ o.cls = .type "tuple" ∧ o.dict = none
theorem enc_atom {d : Nat} {t : T} (h : okA t) : enc d t = encA t := by
  cases d with
  | zero => rfl
  | succ d => cases t with
    | tup l => exact h.elim
    | _ => rfl
theorem okT_atom {d : Nat} {z : List Nat} (h : OkT d (.str z)) : okA (.str z) := by
  cases d <;> exact h
def spIsStr : Sp := fun vs H Q _ => ∃ z : List Nat, vs = [.str (sOf z)] ∧ okA (.str z) ∧ ∀ H', Same H H' → Q (.bl true) H'
def spIPW (d : Nat) : Sp := fun vs H Q _ => ∃ (t : T) (v : V), vs = [.int (d : Int), v] ∧ Rep H d t v ∧ OkT d t ∧ ∀ H', Same H H' → Q (.bl true) H'
def spIsPar : Sp := fun vs H Q _ => ∃ (t : T) (v : V), vs = [v] ∧ Rep H 20 t v ∧ OkT 20 t ∧ ∀ H', Same H H' → Q (.bl true) H'
def spWW : Sp := fun vs H Q _ => ∃ (l : Addr) (n : Int) (acc : List V), vs = [.ref l, .int n] ∧ H l = some (.lst acc) ∧ 0 ≤ n ∧ acc.length + (vlq n.toNat).length ≤ 9000 ∧ ∀ H', Bu l H H' → H' l = some (.lst (acc ++ (vlq n.toNat).map V.int)) → Q .non H'
def spWP (d : Nat) : Sp := fun vs H Q _ => ∃ (l : Addr) (t : T) (v : V) (acc : List V), vs = [.ref l, v] ∧ H l = some (.lst acc) ∧ Rep H d t v ∧ OkT d t ∧ acc.length + (enc d t).length ≤ 9000 ∧ ∀ H', Bu l H H' → H' l = some (.lst (acc ++ (enc d t).map V.int)) → Q .non H'
def spRowOf : Sp := fun vs H Q _ => ∃ (t : T) (v : V), vs = [v] ∧ Rep H 20 t v ∧ OkT 20 t ∧ (enc 20 t).length ≤ 8000 ∧ ∀ q H', Same H H' → RowAt H' q (enc 20 t) → Q (.ref q) H'
def spSealed : Sp := fun vs H Q _ => ∃ (t : T) (v : V), vs = [v] ∧ Rep H 20 t v ∧ OkT 20 t ∧ (enc 20 t).length ≤ 8000 ∧ ∀ q H', Same H H' → RowAt H' q (enc 20 t ++ sealL (enc 20 t)) → Q (.ref q) H'
theorem sOf_len (z : List Nat) : (sOf z).length = z.length := by
  show z.toArray.size = _
  exact List.size_toArray
theorem sOf_at {z : List Nat} {i c : Nat} (h : (sOf z).cps[i]? = some c) : z[i]? = some c := by
  have h : z.toArray[i]? = some c := h
  rwa [List.getElem?_toArray] at h
theorem flat_take {d : Nat} (l : List T) (i : Nat) : (((l.take i).map (enc d)).flatten).length ≤ ((l.map (enc d)).flatten).length := by
  have e : l.map (enc d) = (l.take i).map (enc d) ++ (l.drop i).map (enc d) := by rw [← List.map_append, List.take_append_drop]
  rw [e, List.flatten_append, List.length_append]
  omega
/-- t + u, the whole or a new one -/
def rCatS : R2 := fun x y H Q => ∃ a b xs ys, x = .ref a ∧ y = .ref b ∧ H a = some (.tup xs) ∧ H b = some (.tup ys) ∧ xs.length + ys.length ≤ sizeLine ∧ ∀ z H', Same H H' → H' z = some (.tup (xs ++ ys)) → Q (.ref z) H'
theorem op_catS {X : Cx} : OpR X (binaryOp .Add) rCatS := by
  intro pins s σ H x y v u Q I rx ry h
  obtain ⟨a, b, xs, ys, rfl, rfl, ha, hb, hz, k⟩ := h
  refine op_catA pins s σ H _ _ v u Q I rx ry ⟨a, b, xs, ys, rfl, rfl, SqT.of ha, SqT.of hb, hz, fun e => ?_, fun _ e => ?_, fun _ _ p hp => k p _ (sN hp) upd_same⟩
  · exact k b H (fun _ _ e => e) (by rw [hb, e]; rfl)
  · exact k a H (fun _ _ e => e) (by rw [ha, e, List.append_nil])
section
variable {P : Program} {w : World} {K : PySem.W.Frag} {mg : Str → Option Value} {base : Heap}
theorem scIsStr : FnScope ["thing", "sign"] ["thing"] (defScope sIsStr) := ⟨rfl, rfl, rfl, by decide +kernel, rfl, by decide +kernel, by decide +kernel⟩
theorem ok_isstr {f fS : Addr} {fd fdS : FuncData} (D : Df K mg "is_string" sIsStr ["thing"] f fd) (B : Bts mg) (C : Cst mg) (DS : Df K mg "is_sign" sIsSg ["number"] fS fdS) : FnOk P w K mg base CX0 2 f fd ["thing"] spIsStr := by
  have GS : FnOk P w K mg base CX0 1 fS fdS ["number"] spIsSg := ok_issg DS C
  obtain ⟨t1, h1⟩ := C.signs
  refine D.F.ok scIsStr (fun vs H Q E h => ?_) (fun cdv A outer s H vs Q E hr h => ?_)
  · obtain ⟨z, rfl, _⟩ := h
    rfl
  · obtain ⟨z, rfl, ⟨z1, z2, zs⟩, k⟩ := h
    have nd := scIsStr.nd
    refine ⟨_, pss_cons (ps_if (PW.pt (pw_or (pt_not (pt_val (pe_callB call_isi (by rfl) B.isinstance PyProof.Rows.boot_isinstance (pa_cons (pv 0) (pa_cons (pe_bltn (v := .ty "str") rfl B.str PyProof.Rows.boot_str rfl) pa_nil)))))
        (pw_or1 (pt_not (pt_chain op_le op_le pe_int (pe_callB call_len_str (by rfl) B.len PySem.boot_len (pa_cons (pv 0) pa_nil)) (pe_glob (v := .int 20) rfl h1 ⟨_, rfl⟩)))))) pss_never pss_nil)
      (pss_one (ps_ret (pe_callB (cr_all rfl) (by rfl) B.all PyProof.Rows.boot_all (pa_cons (pe_lc (own := [("sign", 1)]) (g := gName 1) (tt := tYes) rfl nd (pi_str (pv 0))
        (blkOk_by (N := ["thing", "sign"]) (sc := defScope sIsStr) (by decide +kernel)) (fun _ _ _ _ _ => pg_name (i := 1) nd rfl (.inl rfl)) (fun _ _ _ _ _ => pts_nil)
        (fun _ _ _ _ _ => pe_call GS hr rfl DS.m DS.k DS.b .nil pass0 (pa_cons (pe_callB call_ord (by rfl) B.ord (by decide +kernel) (pa_cons (pv 1) pa_nil)) pa_nil))) pa_nil)))), ?_⟩
    have ez := sOf_len z
    refine ⟨_, rfl, .str (sOf z), .ty "str", .type "str", .type "str", true, rfl, .ty _, .base (.str _), kit_ty (by decide +kernel), _, rfl, iteF ?_⟩
    refine ⟨_, rfl, sOf z, rfl, by rw [ez]; exact Nat.le_of_lt (size_ok (by omega)), _, _, rfl, rfl, _, rfl, ?_⟩
    rw [ez]
    refine ite2 (fun _ => ?_) (fun c => absurd (decide_eq_true (by omega)) c)
    refine ⟨_, _, rfl, rfl, _, rfl, ite2 (fun c => ?_) (fun _ => ?_)⟩
    · rw [decide_eq_true (by omega)] at c
      cases c
    refine ⟨_, rfl, sOf z, rfl, fun D hD => lc_it (walk_str (z := sOf z)) (fun i H' => H' D = some (.lst ((List.replicate i true).map V.bl)) ∧ i ≤ z.length ∧ Same H H') ?_ ?_ ?_ ?_⟩
    · exact ⟨upd_same, Nat.zero_le _, sN hD⟩
    · rintro i H' hi _
      trivial
    · rintro i x H1 H' hi ⟨eD, il, s1⟩ ⟨rfl, c, hc, rfl⟩
      have hc := sOf_at hc
      refine ⟨rfl, ?_⟩
      refine ⟨_, rfl, _, rfl, rfl, (c : Int), rfl, ?_⟩
      rw [zs c (List.mem_of_getElem? hc)]
      refine ⟨_, eD, ?_, ?_, (List.getElem?_eq_some_iff.mp hc).1, sNew s1 hD⟩
      · rw [List.length_map, List.length_replicate]
        exact size_ok (by omega)
      · rw [upd_same, List.replicate_succ', List.map_append]
        rfl
    · rintro H' ⟨eD, _, s1⟩
      refine ⟨D, _, rfl, SqL.of eD, ?_⟩
      have e : (List.replicate (sOf z).cps.size true).all id = true := by
        rw [List.all_eq_true]
        intro x hx
        rw [(List.mem_replicate.mp hx).2]
        rfl
      rw [e]
      exact k _ s1
theorem scIPW : FnScope ["deep", "thing", "part"] ["deep", "thing"] (defScope sIPW) := ⟨rfl, rfl, rfl, by decide +kernel, rfl, by decide +kernel, by decide +kernel⟩
theorem ok_ipw {f fT fS : Addr} {fd fdT fdS : FuncData} (D : Df K mg "is_parcel_within" sIPW ["deep", "thing"] f fd) (B : Bts mg) (C : Cst mg) (DT : Df K mg "is_string" sIsStr ["thing"] fT fdT) (DS : Df K mg "is_sign" sIsSg ["number"] fS fdS) : ∀ d, FnOk P w K mg base CX0 (d + 3) f fd ["deep", "thing"] (spIPW d) := by
  have GT : FnOk P w K mg base CX0 2 fT fdT ["thing"] spIsStr := ok_isstr DT B C DS
  have main : ∀ d, (∀ d', d = d' + 1 → FnOk P w K mg base CX0 (d' + 3) f fd ["deep", "thing"] (spIPW d')) → FnOk P w K mg base CX0 (d + 3) f fd ["deep", "thing"] (spIPW d) := by
    intro d IH
    have IH' : FnOk P w K mg base CX0 (d + 2) f fd ["deep", "thing"] (fun vs H Q E => 0 < d ∧ spIPW (d - 1) vs H Q E) := by
      cases d with
      | zero => exact ⟨fun vs H Q E h => absurd h.1 (by decide), fun A outer s H args us vs Q E hr e0 hb r h => absurd h.1 (by decide)⟩
      | succ d => exact (IH d rfl).imp fun vs H Q E h => h.2
    refine D.F.ok scIPW (fun vs H Q E h => ?_) (fun cdv A outer s H vs Q E hr h => ?_)
    · obtain ⟨t, v, rfl, _⟩ := h
      rfl
    · obtain ⟨t, v, rfl, rep, ok, k⟩ := h
      have nd := scIPW.nd
      have hr2 : Room 2 _ := hr.mono (by omega)
      refine ⟨_, pss_cons (ps_if (pt_val (pe_callB call_isi (by rfl) B.isinstance PyProof.Rows.boot_isinstance (pa_cons (pv 1) (pa_cons (pe_bltn (v := .ty "tuple") rfl B.tuple PyProof.Rows.boot_tuple rfl) pa_nil))))
          (pss_one (ps_ret (pe_and (pe_cmpR op_gt (pv 0) pe_int (nomark _)) (pe_one (pe_callB (cr_all rfl) (by rfl) B.all PyProof.Rows.boot_all (pa_cons (pe_lc (own := [("part", 2)]) (g := gName 2) (tt := tYes) rfl nd (pi_tup (pv 1))
            (blkOk_by (N := ["deep", "thing", "part"]) (sc := defScope sIPW) (by decide +kernel)) (fun _ _ _ _ _ => pg_name (i := 2) nd rfl (.inl rfl)) (fun _ _ _ _ _ => pts_nil)
            (fun _ _ _ _ _ => pe_call IH' hr rfl D.m D.k D.b .nil pass0 (pa_cons (pe_op op_sub (pv 0) pe_int) (pa_cons (pv 2) pa_nil)))) pa_nil)))))) pss_nil)
        (pss_one (ps_ret (pe_or (pe_cmp (pc_isN (pv 1)) rfl) (pe_or (pe_callB call_isi (by rfl) B.isinstance PyProof.Rows.boot_isinstance (pa_cons (pv 1) (pa_cons (pe_bltn (v := .ty "int") rfl B.int PyProof.Rows.boot_int rfl) pa_nil)))
          (pe_one (pe_call GT hr2 rfl DT.m DT.k DT.b .nil pass0 (pa_cons (pv 1) pa_nil))))))), ?_⟩
      rcases rep.cases with ⟨rfl, rfl⟩ | ⟨b, rfl, rfl⟩ | ⟨i, rfl, rfl⟩ | ⟨z, rfl, rfl, zl⟩ | ⟨d', l, a, xs, rfl, rfl, rfl, ha, hl, few, hk⟩
      · refine ⟨_, rfl, .non, .ty "tuple", .type "NoneType", .type "tuple", false, rfl, .ty _, .base .non, kit_ty (by decide +kernel), _, rfl, iteF ?_⟩
        exact ⟨_, rfl, _, rfl, iteT (k _ sR)⟩
      · refine ⟨_, rfl, .bl b, .ty "tuple", .type "bool", .type "tuple", false, rfl, .ty _, .base (.bl _), kit_ty (by decide +kernel), _, rfl, iteF ?_⟩
        refine ⟨_, rfl, _, rfl, iteF ?_⟩
        exact ⟨_, rfl, .bl b, .ty "int", .type "bool", .type "int", true, rfl, .ty _, .base (.bl _), kit_ty (by decide +kernel), _, rfl, iteT (k _ sR)⟩
      · refine ⟨_, rfl, .int i, .ty "tuple", .type "int", .type "tuple", false, rfl, .ty _, .base (.int _), kit_ty (by decide +kernel), _, rfl, iteF ?_⟩
        refine ⟨_, rfl, _, rfl, iteF ?_⟩
        exact ⟨_, rfl, .int i, .ty "int", .type "int", .type "int", true, rfl, .ty _, .base (.int _), kit_ty (by decide +kernel), _, rfl, iteT (k _ sR)⟩
      · refine ⟨_, rfl, .str (sOf z), .ty "tuple", .type "str", .type "tuple", false, rfl, .ty _, .base (.str _), kit_ty (by decide +kernel), _, rfl, iteF ?_⟩
        refine ⟨_, rfl, _, rfl, iteF ?_⟩
        refine ⟨_, rfl, .str (sOf z), .ty "int", .type "str", .type "int", false, rfl, .ty _, .base (.str _), kit_ty (by decide +kernel), _, rfl, iteF ?_⟩
        exact ⟨_, rfl, z, rfl, okT_atom ok, k⟩
      · have okl : ∀ t ∈ l, OkT d' t := ok
        refine ⟨_, rfl, .ref a, .ty "tuple", .type "tuple", .type "tuple", true, rfl, .ty _, .base (.tup ha), kit_ty (by decide +kernel), _, rfl, iteT ?_⟩
        refine ⟨_, rfl, _, _, rfl, rfl, _, rfl, ite2 (fun _ => ?_) (fun c => absurd (decide_eq_true (by omega)) c)⟩
        refine ⟨_, rfl, a, rfl, ⟨_, SqT.of ha⟩, fun D hD => lc_tup (K := K) (a := a) (xs := xs) (fun i H' => H' D = some (.lst ((List.replicate i true).map V.bl)) ∧ Same H H') ?_ ?_ ?_ ?_⟩
        · exact ⟨upd_same, sN hD⟩
        · rintro i H' hi ⟨_, s1⟩
          exact SqT.of (s1 _ _ ha)
        · rintro i x H' hx ⟨eD, s1⟩
          have hi := (List.getElem?_eq_some_iff.mp hx).1
          have hil : i < l.length := by omega
          have ht : l[i]? = some l[i] := List.getElem?_eq_getElem hil
          refine ⟨rfl, ?_⟩
          refine ⟨_, rfl, _, _, rfl, rfl, _, rfl, by omega, l[i], x, ?_, (hk i x _ hx ht).same s1, okl _ (List.mem_of_getElem? ht), fun H2 s2 => ⟨_, s2 _ _ eD, ?_, ?_, sNew (sT s1 s2) hD⟩⟩
          · show [V.int (((d' + 1 : Nat) : Int) - 1), x] ++ [] = [V.int ((d' + 1 - 1 : Nat) : Int), x]
            rw [show (((d' + 1 : Nat) : Int) - 1) = ((d' + 1 - 1 : Nat) : Int) by omega]
            rfl
          · rw [List.length_map, List.length_replicate]
            exact size_ok (by omega)
          · rw [upd_same, List.replicate_succ', List.map_append]
            rfl
        · rintro H' ⟨eD, s1⟩
          refine ⟨D, _, rfl, SqL.of eD, ?_⟩
          have e : (List.replicate xs.length true).all id = true := by
            rw [List.all_eq_true]
            intro x hx
            rw [(List.mem_replicate.mp hx).2]
            rfl
          rw [e]
          exact k _ s1
  intro d
  induction d with
  | zero => exact main 0 fun d' e => by omega
  | succ d ih =>
    refine main (d + 1) fun d' e => ?_
    obtain rfl : d' = d := by omega
    exact ih
theorem scIsPar : FnScope ["thing"] ["thing"] (defScope sIsPar) := ⟨rfl, rfl, rfl, by decide +kernel, rfl, by decide +kernel, by decide +kernel⟩
theorem ok_ispar {f fI fT fS : Addr} {fd fdI fdT fdS : FuncData} (D : Df K mg "is_parcel" sIsPar ["thing"] f fd) (B : Bts mg) (C : Cst mg) (DI : Df K mg "is_parcel_within" sIPW ["deep", "thing"] fI fdI) (DT : Df K mg "is_string" sIsStr ["thing"] fT fdT) (DS : Df K mg "is_sign" sIsSg ["number"] fS fdS) : FnOk P w K mg base CX0 24 f fd ["thing"] spIsPar := by
  have GI : FnOk P w K mg base CX0 23 fI fdI ["deep", "thing"] (spIPW 20) := ok_ipw DI B C DT DS 20
  obtain ⟨t1, h1⟩ := C.deep
  refine D.F.ok scIsPar (fun vs H Q E h => ?_) (fun cdv A outer s H vs Q E hr h => ?_)
  · obtain ⟨t, v, rfl, _⟩ := h
    rfl
  · obtain ⟨t, v, rfl, rep, ok, k⟩ := h
    refine ⟨_, pss_one (ps_ret (pe_call GI hr rfl DI.m DI.k DI.b .nil pass0 (pa_cons (pe_glob (v := .int 20) rfl h1 ⟨_, rfl⟩) (pa_cons (pv 0) pa_nil)))), ?_⟩
    exact ⟨_, rfl, t, v, rfl, rep, ok, k⟩
theorem scWW : FnScope ["row", "number"] ["row", "number"] (defScope sWW) := ⟨rfl, rfl, rfl, by decide +kernel, rfl, by decide +kernel, by decide +kernel⟩
theorem ok_ww {f : Addr} {fd : FuncData} (D : Df K mg "write_whole" sWW ["row", "number"] f fd) : FnOk P w K mg base CX0 1 f fd ["row", "number"] spWW := by
  refine D.F.ok scWW (fun vs H Q E h => ?_) (fun cdv A outer s H vs Q E hr h => ?_)
  · obtain ⟨l, n, acc, rfl, _⟩ := h
    rfl
  · obtain ⟨l, n, acc, rfl, hl, n0, few, k⟩ := h
    have nd := scWW.nd
    refine ⟨_, pss_cons (ps_while PassesOwn.never (pt_cmpR op_ge (pv 1) pe_int (nomark _))
        (pss_cons (ps_expr (pe_bm PySem.F.plainAttrs_list PySem.F.slot_list_append PySem.F.type_list_append mt_append (pv 0) (pa_cons (pe_op op_add pe_int (pe_op op_mod (pv 1) pe_int)) pa_nil)))
        (pss_one (ps_set (i := 1) nd rfl (.inl rfl) (pe_op op_fdiv (pv 1) pe_int)))))
      (pss_one (ps_expr (pe_bm PySem.F.plainAttrs_list PySem.F.slot_list_append PySem.F.type_list_append mt_append (pv 0) (pa_cons (pv 1) pa_nil)))), ?_⟩
    have W0 : ∀ {a b : List V}, a ++ b = acc ++ (vlq n.toNat).map V.int → a.length < sizeLine := fun {a b} e => by
      have := congrArg List.length e
      rw [List.length_append, List.length_append, List.length_map] at this
      exact size_ok (by omega)
    refine ⟨fun m σ H' => ∃ acc' : List V, σ = [some (.ref l), some (.int (m : Int))] ∧ H' l = some (.lst acc') ∧ Bu l H H' ∧ acc' ++ (vlq m).map V.int = acc ++ (vlq n.toNat).map V.int, ⟨n.toNat, acc, ?_, hl, .rf, rfl⟩, ?_⟩
    · rw [Int.toNat_of_nonneg n0]
      rfl
    · rintro m σ H' ⟨acc', rfl, el, b1, e⟩
      refine ⟨_, rfl, _, _, rfl, rfl, _, rfl, ite2 (fun c => ?_) (fun c => ?_)⟩
      · have c : ¬ m < 128 := by
          have c : (128 : Int) ≤ (m : Int) := of_decide_eq_true c
          omega
        refine ⟨fun σ' H' => ∃ acc' : List V, σ' = [some (.ref l), some (.int ((m / 128 : Nat) : Int))] ∧ H' l = some (.lst acc') ∧ Bu l H H' ∧ acc' ++ (vlq (m / 128)).map V.int = acc ++ (vlq n.toNat).map V.int, fun σ' H' h => ⟨m / 128, by omega, h⟩, ?_⟩
        refine ⟨_, rfl, .inl ⟨rfl, _, SqL.of el⟩, _, rfl, _, _, rfl, rfl, (by decide : (0 : Int) < 128), _, _, rfl, rfl, l, _, _, rfl, rfl, el, W0 e, ?_⟩
        refine ⟨_, rfl, _, _, rfl, rfl, ⟨by decide, by decide⟩, _, ?_, upd_same, b1.at, ?_⟩
        · show [some (V.ref l), some (V.int ((m : Int) / 128))] = _
          rw [show ((m : Int) / 128) = ((m / 128 : Nat) : Int) by omega]
        · rw [vlq_ge c, List.map_cons] at e
          rw [List.append_assoc, ← e]
          show _ ++ (V.int (128 + (m : Int) % 128) :: _) = _
          rw [show (128 + (m : Int) % 128) = ((128 + m % 128 : Nat) : Int) by omega]
          rfl
      · have c : m < 128 := by
          have c : ¬ (128 : Int) ≤ (m : Int) := fun z => c (decide_eq_true z)
          omega
        rw [vlq_lt c] at e
        refine ⟨_, rfl, .inl ⟨rfl, _, SqL.of el⟩, _, rfl, l, _, _, rfl, rfl, el, W0 e, ?_⟩
        refine k _ b1.at ?_
        rw [upd_same, ← e]
        rfl
end
end Q

namespace Q
open PySem L2 QR
theorem encA_int {i : Int} (h : 0 ≤ i) : encA (.int i) = 3 :: vlq i.toNat := if_pos h
theorem encA_neg {i : Int} (h : ¬ 0 ≤ i) : encA (.int i) = 4 :: vlq (-1 - i).toNat := if_neg h
theorem room_one {a b : Nat} (h : a + b ≤ 9000) (c : 0 < b) : a < sizeLine := size_ok (by omega)
section
variable {P : Program} {w : World} {K : PySem.W.Frag} {mg : Str → Option Value} {base : Heap}
theorem scWP : FnScope ["row", "parcel", "part", "sign"] ["row", "parcel"] (defScope sWP) := ⟨rfl, rfl, rfl, by decide +kernel, rfl, by decide +kernel, by decide +kernel⟩
theorem ok_wp {f fW : Addr} {fd fdW : FuncData} (D : Df K mg "write_parcel" sWP ["row", "parcel"] f fd) (B : Bts mg) (C : Cst mg) (BA : Bare K mg) (DW : Df K mg "write_whole" sWW ["row", "number"] fW fdW) : ∀ d, FnOk P w K mg base CX0 (d + 2) f fd ["row", "parcel"] (spWP d) := by
  have GW : FnOk P w K mg base CX0 1 fW fdW ["row", "number"] spWW := ok_ww DW
  obtain ⟨t3, h3⟩ := C.from0
  obtain ⟨t4, h4⟩ := C.below
  obtain ⟨t5, h5⟩ := C.strg
  obtain ⟨t6, h6⟩ := C.tupl
  obtain ⟨aB, hB, kB, oB, lB, cB, dB⟩ := BA.ex
  have main : ∀ d, FnOk P w K mg base CX0 (d + 1) f fd ["row", "parcel"] (fun vs H Q E => 0 < d ∧ spWP (d - 1) vs H Q E) → FnOk P w K mg base CX0 (d + 2) f fd ["row", "parcel"] (spWP d) := by
    intro d IH
    refine D.F.ok scWP (fun vs H Q E h => ?_) (fun cdv A outer s H vs Q E hr h => ?_)
    · obtain ⟨l, t, v, acc, rfl, _⟩ := h
      rfl
    · obtain ⟨l, t, v, acc, rfl, hl, rep, ok, few, k⟩ := h
      have nd := scWP.nd
      have hr1 : Room 1 _ := hr.mono (by omega)
      refine ⟨_, pss_one (ps_if (PW.pt (pw_or (pt_cmp (pc_isN (pv 1))) (pw_or (pt_cmpR (OpR.or op_is_bl op_is_xb) (pv 1) pe_bl (nomark _)) (pw_or1 (pt_cmpR (OpR.or op_is_bl op_is_xb) (pv 1) pe_bl (nomark _))))))
          (pss_one (ps_expr (pe_bm PySem.F.plainAttrs_list PySem.F.slot_list_append PySem.F.type_list_append mt_append (pv 0) (pa_cons (pe_bm PySem.F.plainAttrs_tuple PySem.F.slot_tuple_index PySem.F.type_tuple_index mt_tidx (pe_glob (v := .ref aB) rfl hB rfl) (pa_cons (pv 1) pa_nil)) pa_nil))))
          (pss_one (ps_if (pt_val (pe_callB call_isi (by rfl) B.isinstance PyProof.Rows.boot_isinstance (pa_cons (pv 1) (pa_cons (pe_bltn (v := .ty "str") rfl B.str PyProof.Rows.boot_str rfl) pa_nil))))
            (pss_cons (ps_expr (pe_bm PySem.F.plainAttrs_list PySem.F.slot_list_append PySem.F.type_list_append mt_append (pv 0) (pa_cons (pe_glob (v := .int 5) rfl h5 ⟨_, rfl⟩) pa_nil)))
            (pss_cons (ps_expr (pe_call GW hr1 rfl DW.m DW.k DW.b .nil pass0 (pa_cons (pv 0) (pa_cons (pe_callB call_len_str (by rfl) B.len PySem.boot_len (pa_cons (pv 1) pa_nil)) pa_nil))))
            (pss_one (ps_expr (pe_bm PySem.F.plainAttrs_list PySem.F.slot_list_extend PySem.F.type_list_extend mt_extend (pv 0) (pa_cons (pe_lc (own := [("sign", 3)]) (g := gName 3) (tt := tYes) rfl nd (pi_str (pv 1))
              (blkOk_by (N := ["row", "parcel", "part", "sign"]) (sc := defScope sWP) (by decide +kernel)) (fun _ _ _ _ _ => pg_name (i := 3) nd rfl (.inl rfl)) (fun _ _ _ _ _ => pts_nil)
              (fun _ _ _ _ _ => pe_callB call_ord (by rfl) B.ord (by decide +kernel) (pa_cons (pv 3) pa_nil))) pa_nil))))))
            (pss_one (ps_if (pt_val (pe_callB call_isi (by rfl) B.isinstance PyProof.Rows.boot_isinstance (pa_cons (pv 1) (pa_cons (pe_bltn (v := .ty "tuple") rfl B.tuple PyProof.Rows.boot_tuple rfl) pa_nil))))
              (pss_cons (ps_expr (pe_bm PySem.F.plainAttrs_list PySem.F.slot_list_append PySem.F.type_list_append mt_append (pv 0) (pa_cons (pe_glob (v := .int 6) rfl h6 ⟨_, rfl⟩) pa_nil)))
              (pss_cons (ps_expr (pe_call GW hr1 rfl DW.m DW.k DW.b .nil pass0 (pa_cons (pv 0) (pa_cons (pe_callB call_len_seq (by rfl) B.len PySem.boot_len (pa_cons (pv 1) pa_nil)) pa_nil))))
              (pss_one (ps_for PassesOwn.never rfl (pi_tup (pv 1)) (pg_name (i := 2) nd rfl (.inl rfl)) (pss_one (ps_expr (pe_call IH hr rfl D.m D.k D.b .nil pass0 (pa_cons (pv 0) (pa_cons (pv 2) pa_nil)))))))))
              (pss_one (ps_if (pt_cmpR op_ge (pv 1) pe_int (nomark _))
                (pss_cons (ps_expr (pe_bm PySem.F.plainAttrs_list PySem.F.slot_list_append PySem.F.type_list_append mt_append (pv 0) (pa_cons (pe_glob (v := .int 3) rfl h3 ⟨_, rfl⟩) pa_nil)))
                (pss_one (ps_expr (pe_call GW hr1 rfl DW.m DW.k DW.b .nil pass0 (pa_cons (pv 0) (pa_cons (pv 1) pa_nil))))))
                (pss_cons (ps_expr (pe_bm PySem.F.plainAttrs_list PySem.F.slot_list_append PySem.F.type_list_append mt_append (pv 0) (pa_cons (pe_glob (v := .int 4) rfl h4 ⟨_, rfl⟩) pa_nil)))
                (pss_one (ps_expr (pe_call GW hr1 rfl DW.m DW.k DW.b .nil pass0 (pa_cons (pv 0) (pa_cons (pe_op op_sub (pe_un un_neg pe_int) (pv 1)) pa_nil))))))))))))), ?_⟩
      have apnd : ∀ {ys zs : List Int}, acc ++ [V.int (ys.headD 0)] ++ zs.map V.int = acc ++ (ys.headD 0 :: zs).map V.int := fun {ys zs} => by
        rw [List.append_assoc]
        rfl
      have rs : Same H H := sR
      rcases rep.cases with ⟨rfl, rfl⟩ | ⟨b, rfl, rfl⟩ | ⟨i, rfl, rfl⟩ | ⟨z, rfl, rfl, zl⟩ | ⟨d', ls, a, xs, rfl, rfl, rfl, ha, hll, lfew, hk⟩
      · rw [enc_atom (t := .non) trivial] at few k
        refine ⟨_, rfl, _, rfl, iteT ?_⟩
        refine ⟨_, rfl, .inl ⟨rfl, _, SqL.of hl⟩, .inr (.inl ⟨rfl, oB, lB, cB, dB⟩), _, rfl, aB, _, .non, 0, .non, rfl, rfl, kB.sq _, rfl, rfl, rfl, rfl, fun m z hm => by omega, l, _, _, rfl, rfl, hl, room_one few (by decide), ?_⟩
        exact k _ Bu.rf.at upd_same
      · rw [enc_atom (t := .bl b) trivial] at few k
        refine ⟨_, rfl, _, rfl, iteF ?_⟩
        refine ⟨_, rfl, .inl ⟨b, false, rfl, rfl, _, rfl, ?_⟩⟩
        cases b with
        | false =>
          refine iteT ?_
          refine ⟨_, rfl, .inl ⟨rfl, _, SqL.of hl⟩, .inr (.inl ⟨rfl, oB, lB, cB, dB⟩), _, rfl, aB, _, .bl false, 1, .bl false, rfl, rfl, kB.sq _, rfl, rfl, rfl, rfl, fun m z hm e => ?_, l, _, _, rfl, rfl, hl, room_one few (by decide), ?_⟩
          · obtain rfl : m = 0 := by omega
            cases e
            rfl
          exact k _ Bu.rf.at upd_same
        | true =>
          refine iteF ?_
          refine ⟨_, rfl, .inl ⟨true, true, rfl, rfl, _, rfl, iteT ?_⟩⟩
          refine ⟨_, rfl, .inl ⟨rfl, _, SqL.of hl⟩, .inr (.inl ⟨rfl, oB, lB, cB, dB⟩), _, rfl, aB, _, .bl true, 2, .bl true, rfl, rfl, kB.sq _, rfl, rfl, rfl, rfl, fun m z hm e => ?_, l, _, _, rfl, rfl, hl, room_one few (by decide), ?_⟩
          · rcases (show m = 0 ∨ m = 1 by omega) with rfl | rfl <;> (cases e; rfl)
          exact k _ Bu.rf.at upd_same
      · rw [enc_atom (t := .int i) trivial] at few k
        refine ⟨_, rfl, _, rfl, iteF ?_⟩
        refine ⟨_, rfl, .inr ⟨.inl ⟨i, rfl⟩, false, rfl, _, rfl, iteF ?_⟩⟩
        refine ⟨_, rfl, .inr ⟨.inl ⟨i, rfl⟩, true, rfl, _, rfl, iteF ?_⟩⟩
        refine ⟨_, rfl, .int i, .ty "str", .type "int", .type "str", false, rfl, .ty _, .base (.int _), kit_ty (by decide +kernel), _, rfl, iteF ?_⟩
        refine ⟨_, rfl, .int i, .ty "tuple", .type "int", .type "tuple", false, rfl, .ty _, .base (.int _), kit_ty (by decide +kernel), _, rfl, iteF ?_⟩
        refine ⟨_, rfl, _, _, rfl, rfl, _, rfl, ite2 (fun c => ?_) (fun c => ?_)⟩
        · have c : 0 ≤ i := of_decide_eq_true c
          rw [encA_int c] at few k
          rw [List.length_cons] at few
          refine ⟨_, rfl, .inl ⟨rfl, _, SqL.of hl⟩, l, _, _, rfl, rfl, hl, room_one few (by omega), ?_⟩
          refine ⟨_, rfl, _, rfl, l, i, _, rfl, upd_same, c, ?_, fun H' b1 e => ?_⟩
          · rw [List.length_append, List.length_singleton]
            omega
          · refine k H' (Bu.rf.at.tr b1) ?_
            rw [e, List.append_assoc]
            rfl
        · have c : ¬ 0 ≤ i := fun z => c (decide_eq_true z)
          rw [encA_neg c] at few k
          rw [List.length_cons] at few
          refine ⟨_, rfl, .inl ⟨rfl, _, SqL.of hl⟩, l, _, _, rfl, rfl, hl, room_one few (by omega), ?_⟩
          refine ⟨_, rfl, _, rfl, _, rfl, _, _, rfl, rfl, l, -1 - i, _, rfl, upd_same, by omega, ?_, fun H' b1 e => ?_⟩
          · rw [List.length_append, List.length_singleton]
            omega
          · refine k H' (Bu.rf.at.tr b1) ?_
            rw [e, List.append_assoc]
            rfl
      · have okz := okT_atom ok
        rw [enc_atom okz] at few k
        have ee : encA (.str z) = 5 :: (vlq z.length ++ z.map fun c : Nat => (c : Int)) := rfl
        rw [ee] at few k
        rw [List.length_cons, List.length_append, List.length_map] at few
        refine ⟨_, rfl, _, rfl, iteF ?_⟩
        refine ⟨_, rfl, .inr ⟨.inr (.inl ⟨_, rfl⟩), false, rfl, _, rfl, iteF ?_⟩⟩
        refine ⟨_, rfl, .inr ⟨.inr (.inl ⟨_, rfl⟩), true, rfl, _, rfl, iteF ?_⟩⟩
        refine ⟨_, rfl, .str (sOf z), .ty "str", .type "str", .type "str", true, rfl, .ty _, .base (.str _), kit_ty (by decide +kernel), _, rfl, iteT ?_⟩
        refine ⟨_, rfl, .inl ⟨rfl, _, SqL.of hl⟩, l, _, _, rfl, rfl, hl, room_one few (by omega), ?_⟩
        have ez := sOf_len z
        refine ⟨_, rfl, _, rfl, sOf z, rfl, by rw [ez]; exact Nat.le_of_lt (size_ok (by omega)), l, (z.length : Int), acc ++ [.int 5], ?_, upd_same, by omega, ?_, fun H2 b2 e2 => ?_⟩
        · rw [ez]
          rfl
        · rw [List.length_append, List.length_singleton, Int.toNat_natCast]
          omega
        · rw [Int.toNat_natCast] at e2
          have b02 : Bu l H H2 := Bu.rf.at.tr b2
          refine ⟨_, rfl, .inl ⟨rfl, _, SqL.of e2⟩, _, rfl, sOf z, rfl, fun D hD => lc_it (walk_str (z := sOf z)) (fun i H' => H' D = some (.lst ((z.take i).map fun c => V.int ((c : Nat) : Int))) ∧ i ≤ z.length ∧ Same H2 H') ?_ ?_ ?_ ?_⟩
          · exact ⟨upd_same, Nat.zero_le _, sN hD⟩
          · rintro i H' hi _
            trivial
          · rintro i x H1 H' hi ⟨eD, il, s1⟩ ⟨rfl, c, hc, rfl⟩
            have hc := sOf_at hc
            refine ⟨rfl, ?_⟩
            refine ⟨_, rfl, _, rfl, rfl, _, eD, ?_, ?_, (List.getElem?_eq_some_iff.mp hc).1, sNew s1 hD⟩
            · rw [List.length_map, List.length_take]
              exact size_ok (by omega)
            · rw [upd_same, take_more hc, List.map_append]
              rfl
          · rintro H3 ⟨eD, _, s3⟩
            have esz : (sOf z).cps.size = z.length := ez
            rw [esz, List.take_length] at eD
            refine ⟨l, D, _, _, rfl, rfl, s3 _ _ e2, eD, ?_, ?_⟩
            · simp only [List.length_append, List.length_map, List.length_singleton]
              exact Nat.le_of_lt (size_ok (by omega))
            · refine k _ (b02.st s3).at ?_
              rw [upd_same]
              simp only [List.map_cons, List.map_append, List.append_assoc, List.cons_append, List.nil_append, List.map_map]
              rfl
      · have okl : ∀ t ∈ ls, OkT d' t := ok
        have ee : enc (d' + 1) (.tup ls) = 6 :: (vlq ls.length ++ (ls.map (enc d')).flatten) := rfl
        rw [ee] at few k
        rw [List.length_cons, List.length_append] at few
        refine ⟨_, rfl, _, rfl, iteF ?_⟩
        refine ⟨_, rfl, .inr ⟨.inr (.inr ⟨_, rfl⟩), false, rfl, _, rfl, iteF ?_⟩⟩
        refine ⟨_, rfl, .inr ⟨.inr (.inr ⟨_, rfl⟩), true, rfl, _, rfl, iteF ?_⟩⟩
        refine ⟨_, rfl, .ref a, .ty "str", .type "tuple", .type "str", false, rfl, .ty _, .base (.tup ha), kit_ty (by decide +kernel), _, rfl, iteF ?_⟩
        refine ⟨_, rfl, .ref a, .ty "tuple", .type "tuple", .type "tuple", true, rfl, .ty _, .base (.tup ha), kit_ty (by decide +kernel), _, rfl, iteT ?_⟩
        refine ⟨_, rfl, .inl ⟨rfl, _, SqL.of hl⟩, l, _, _, rfl, rfl, hl, room_one few (by omega), ?_⟩
        have b01 : Bu l H (upd H l (.lst (acc ++ [.int 6]))) := Bu.rf.at
        have tk : ∀ {H' : Hp}, Bu l H H' → Tk H H' := fun b => Tk.bu b hl
        refine ⟨_, rfl, _, rfl, a, xs, rfl, .inr (SqT.of (tk b01 _ _ ha)), l, (ls.length : Int), acc ++ [.int 6], ?_, upd_same, by omega, ?_, fun H2 b2 e2 => ?_⟩
        · rw [hll]
          rfl
        · rw [List.length_append, List.length_singleton, Int.toNat_natCast]
          omega
        rw [Int.toNat_natCast] at e2
        have b02 := b01.tr b2
        refine ⟨_, rfl, a, rfl, ⟨_, SqT.of (tk b02 _ _ ha)⟩, for_tup (K := K) (a := a) (xs := xs) (fun i σ H' => ∃ x2 x3, σ = [some (.ref l), some (.ref a), x2, x3] ∧ Bu l H H' ∧ H' l = some (.lst (acc ++ [.int 6] ++ (vlq ls.length).map V.int ++ (((ls.take i).map (enc d')).flatten).map V.int))) ?_ ?_ ?_ ?_⟩
        · refine ⟨none, none, rfl, b02, ?_⟩
          rw [e2]
          simp
        · rintro i σ H' hi ⟨x2, x3, rfl, b, e⟩
          exact SqT.of (tk b _ _ ha)
        · rintro i x σ H' hx ⟨x2, x3, rfl, b, e⟩
          have hi := (List.getElem?_eq_some_iff.mp hx).1
          have hil : i < ls.length := by omega
          have ht : ls[i]? = some ls[i] := List.getElem?_eq_getElem hil
          have ft := flat_take (d := d') ls (i + 1)
          rw [take_more ht, List.map_append, List.flatten_append, List.length_append] at ft
          have e1 : (([ls[i]].map (enc d')).flatten) = enc d' ls[i] := by simp
          rw [e1] at ft
          refine ⟨_, rfl, _, rfl, by omega, l, ls[i], x, _, rfl, e, (hk i x _ hx ht).tk (tk b), okl _ (List.mem_of_getElem? ht), ?_, fun H3 b3 e3 => ⟨_, x3, rfl, b.tr b3, ?_⟩⟩
          · simp only [List.length_append, List.length_map, List.length_singleton, Nat.add_sub_cancel]
            omega
          · rw [show H3 l = some (.lst (acc ++ [.int 6] ++ (vlq ls.length).map V.int ++ (((ls.take i).map (enc d')).flatten).map V.int ++ (enc d' ls[i]).map V.int)) from e3, take_more ht, List.map_append, List.flatten_append, e1, List.map_append, ← List.append_assoc]
        · rintro σ H' ⟨x2, x3, rfl, b, e⟩
          refine k H' b ?_
          rw [e, hll, List.take_length]
          simp only [List.map_cons, List.map_append, List.append_assoc, List.cons_append, List.nil_append]
  intro d
  induction d with
  | zero => exact main 0 ⟨fun vs H Q E h => absurd h.1 (by decide), fun A outer s H args us vs Q E hr e0 hb r h => absurd h.1 (by decide)⟩
  | succ d ih => exact main (d + 1) (ih.imp fun vs H Q E h => h.2)
theorem scRowOf : FnScope ["parcel", "row"] ["parcel"] (defScope sRowOf) := ⟨rfl, rfl, rfl, by decide +kernel, rfl, by decide +kernel, by decide +kernel⟩
theorem ok_rowof {f fP fI fT fS fV fW : Addr} {fd fdP fdI fdT fdS fdV fdW : FuncData} (D : Df K mg "row_of" sRowOf ["parcel"] f fd) (B : Bts mg) (C : Cst mg) (BA : Bare K mg) (DP : Df K mg "is_parcel" sIsPar ["thing"] fP fdP) (DI : Df K mg "is_parcel_within" sIPW ["deep", "thing"] fI fdI) (DT : Df K mg "is_string" sIsStr ["thing"] fT fdT) (DS : Df K mg "is_sign" sIsSg ["number"] fS fdS)
    (DV : Df K mg "write_parcel" sWP ["row", "parcel"] fV fdV) (DW : Df K mg "write_whole" sWW ["row", "number"] fW fdW) : FnOk P w K mg base CX0 25 f fd ["parcel"] spRowOf := by
  have GP : FnOk P w K mg base CX0 24 fP fdP ["thing"] spIsPar := ok_ispar DP B C DI DT DS
  have GV : FnOk P w K mg base CX0 22 fV fdV ["row", "parcel"] (spWP 20) := ok_wp DV B C BA DW 20
  refine D.F.ok scRowOf (fun vs H Q E h => ?_) (fun cdv A outer s H vs Q E hr h => ?_)
  · obtain ⟨t, v, rfl, _⟩ := h
    rfl
  · obtain ⟨t, v, rfl, rep, ok, few, k⟩ := h
    have nd := scRowOf.nd
    have hr2 : Room 22 _ := hr.mono (by decide)
    refine ⟨_, pss_cons (ps_if (pt_not (pt_val (pe_call GP hr rfl DP.m DP.k DP.b .nil pass0 (pa_cons (pv 0) pa_nil)))) pss_never pss_nil)
      (pss_cons (ps_set (i := 1) nd rfl (.inl rfl) (pe_lst pa_nil))
      (pss_cons (ps_expr (pe_call GV hr2 rfl DV.m DV.k DV.b .nil pass0 (pa_cons (pv 1) (pa_cons (pv 0) pa_nil))))
      (pss_one (ps_ret (pe_callTy call_tuple_of (by rfl) B.tuple PyProof.Rows.boot_tuple (pa_cons (pv 1) pa_nil)))))), ?_⟩
    refine ⟨_, rfl, t, v, rfl, rep, ok, fun H1 s1 => ⟨_, rfl, iteF ?_⟩⟩
    refine ⟨Nat.zero_le _, fun l hl => ?_⟩
    have s2 := sT s1 (sN (o := .lst []) hl)
    refine ⟨_, rfl, _, rfl, l, t, v, [], rfl, upd_same, rep.same s2, ok, by rw [List.length_nil]; omega, fun H3 b3 e3 => ?_⟩
    rw [List.nil_append] at e3
    have s3 : Same H H3 := fun b o e => b3 b o (s2 b o e) (ne_of_none e (sNo s1 hl))
    refine ⟨_, rfl, l, _, rfl, .inl ⟨SqL.of e3, fun q hq => k q _ (sT s3 (sN hq)) ⟨upd_same, enc_b ok, by omega⟩⟩⟩
theorem scSealed : FnScope ["parcel", "row"] ["parcel"] (defScope sSealed) := ⟨rfl, rfl, rfl, by decide +kernel, rfl, by decide +kernel, by decide +kernel⟩
theorem ok_sealed {f fR fS fM : Addr} {fd fdR fdS fdM : FuncData} (D : Df K mg "sealed" sSealed ["parcel"] f fd) (B : Bts mg) (C : Cst mg) (DR : Df K mg "row_of" sRowOf ["parcel"] fR fdR) (GR : FnOk P w K mg base CX0 25 fR fdR ["parcel"] spRowOf) (DS : Df K mg "seal_of" sSeal ["row"] fS fdS) (DM : Df K mg "mark_of" sMkOf ["row"] fM fdM) : FnOk P w K mg base CX0 26 f fd ["parcel"] spSealed := by
  have GS : FnOk P w K mg base CX0 2 fS fdS ["row"] spSeal := ok_seal DS B C DM
  refine D.F.ok scSealed (fun vs H Q E h => ?_) (fun cdv A outer s H vs Q E hr h => ?_)
  · obtain ⟨t, v, rfl, _⟩ := h
    rfl
  · obtain ⟨t, v, rfl, rep, ok, few, k⟩ := h
    have nd := scSealed.nd
    have hr2 : Room 2 _ := hr.mono (by decide)
    refine ⟨_, pss_cons (ps_set (i := 1) nd rfl (.inl rfl) (pe_call GR hr rfl DR.m DR.k DR.b .nil pass0 (pa_cons (pv 0) pa_nil)))
      (pss_one (ps_ret (pe_op op_catS (pv 1) (pe_call GS hr2 rfl DS.m DS.k DS.b .nil pass0 (pa_cons (pv 1) pa_nil))))), ?_⟩
    refine ⟨_, rfl, t, v, rfl, rep, ok, few, fun q H1 s1 hq => ?_⟩
    refine ⟨_, rfl, _, rfl, q, _, rfl, hq.at_, fun z H2 s2 hz => ⟨q, z, _, _, rfl, rfl, s2 _ _ hq.at_, hz, ?_, fun y H3 s3 hy => ?_⟩⟩
    · rw [List.length_map, List.length_map]
      exact Nat.le_of_lt (size_ok (by show _ + 4 ≤ _; omega))
    · refine k y H3 (sT s1 (sT s2 s3)) ⟨by rw [List.map_append]; exact hy, fun b hb => ?_, ?_⟩
      · rcases List.mem_append.mp hb with hb | hb
        · exact enc_b ok b hb
        · exact sealL_b b hb
      · rw [List.length_append]
        show _ + 4 ≤ _
        omega
end
end Q

namespace Q
open PySem L2 QR
abbrev sPlace : Stmt := inClass (top 4) 0
abbrev sRInit : Stmt := inClass (top 35) 0
abbrev sDue : Stmt := inClass (top 35) 1
abbrev sRW : Stmt := inClass (top 35) 2
abbrev sRS : Stmt := inClass (top 35) 3
abbrev sRT : Stmt := inClass (top 35) 4
abbrev sRP : Stmt := inClass (top 35) 5
def xdB (p : Int) : HO := .xd [("place", .int p)]
def spPlace (CB : Addr) : Sp := fun vs H Q _ => ∃ (a : Addr) (y : V), vs = [.ref a, y] ∧ H a = some (exo a CB none) ∧ ∀ d, H d = none → d ≠ a → Q .non (upd (upd H d (exd d [("place", y)])) a (exo a CB (some d)))
/-- what the top says of BadRow -/
structure BTxt (K : PySem.W.Frag) (mg : Str → Option Value) (CB fI : Addr) (fd : FuncData) : Prop where
  ox : OexC K CB
  iC : PySem.W.findIn K (.ref CB) "__init__" = some (some (.ref fI))
  tI : PySem.W.typeIn K (.ref fI) = some (.type "function")
  F : Fun K "__init__" "BadRow.__init__" sPlace fI fd
  b : Binds K fd ["self", "place"] []
  no : PySem.W.findIn K (.ref CB) "place" = some none
  g : mg "BadRow" = some (.ref CB)
  ex : PySem.W.exmOne K (.ref CB) (.ref CB) = some true
  xf : XfC K CB
/-- what it says of RowReader -/
structure RTxt (K : PySem.W.Frag) (mg : Str → Option Value) (CR : Addr) : Prop where
  cl : Cls K CR
  nR : NoAttr K CR "row"
  nA : NoAttr K CR "at"
  mgC : mg "RowReader" = some (.ref CR)
/-- its methods -/
structure RDefs (K : PySem.W.Frag) (CR : Addr) where
  fI : Addr
  dI : FuncData
  FI : Fun K "__init__" "RowReader.__init__" sRInit fI dI
  bI : Binds K dI ["self", "row"] []
  mM : Mk K CR fI
  fD : Addr
  dD : FuncData
  FD : Fun K "due_byte" "RowReader.due_byte" sDue fD dD
  bD : Binds K dD ["self"] []
  mD : Meth K CR "due_byte" fD
  fW : Addr
  dW : FuncData
  FW : Fun K "read_whole" "RowReader.read_whole" sRW fW dW
  bW : Binds K dW ["self"] []
  mW : Meth K CR "read_whole" fW
  fS : Addr
  dS : FuncData
  FS : Fun K "read_string" "RowReader.read_string" sRS fS dS
  bS : Binds K dS ["self"] []
  mS : Meth K CR "read_string" fS
  fT : Addr
  dT : FuncData
  FT : Fun K "read_tuple" "RowReader.read_tuple" sRT fT dT
  bT : Binds K dT ["self", "deep"] []
  mT : Meth K CR "read_tuple" fT
  fP : Addr
  dP : FuncData
  FP : Fun K "read_parcel" "RowReader.read_parcel" sRP fP dP
  bP : Binds K dP ["self", "deep"] []
  mP : Meth K CR "read_parcel" fP
def rf (q : Addr) (a : Nat) : List (Str × V) := [("row", .ref q), ("at", .int (a : Int))]
theorem put_at (q : Addr) (a b : Nat) : putF "at" (.int (b : Int)) (rf q a) = rf q b := by
  unfold rf putF
  rw [if_neg (by decide +kernel)]
  unfold putF
  rw [if_pos rfl]
/-- a reader of the row at q, at place a -/
structure RdIn (CR : Addr) (H : Hp) (rd dx q : Addr) (bs : List Int) (a : Nat) : Prop where
  at_ : H rd = some (.ins CR dx (rf q a))
  row : RowAt H q bs
  le : a ≤ bs.length
theorem RdIn.tk {CR : Addr} {H H' : Hp} {rd dx q : Addr} {bs : List Int} {a : Nat} (h : RdIn CR H rd dx q bs a) (b : Bu rd H H') : Tk H H' := fun c ys e => b c _ e (ne_of e h.at_ (fun z => by cases z))
theorem RdIn.go {CR : Addr} {H H' : Hp} {rd dx q : Addr} {bs : List Int} {a c : Nat} (h : RdIn CR H rd dx q bs a) (b : Bu rd H H') (e : H' rd = some (.ins CR dx (rf q c))) (l : c ≤ bs.length) : RdIn CR H' rd dx q bs c :=
  ⟨e, h.row.tk (h.tk b), l⟩
theorem RdIn.put {CR : Addr} {H : Hp} {rd dx q : Addr} {bs : List Int} {a c : Nat} (h : RdIn CR H rd dx q bs a) (l : c ≤ bs.length) : RdIn CR (upd H rd (.ins CR dx (putF "at" (.int (c : Int)) (rf q a)))) rd dx q bs c := by
  rw [put_at]
  exact h.go Bu.rf.at upd_same l
/-- what comes of a reading -/
def Out (CB CR rd dx q : Addr) (D : Nat) (x : R) (H : Hp) (Q : VK) (E : XK) : Prop :=
  (∀ t h v H', x = .ok t h → Bu rd H H' → H' rd = some (.ins CR dx (rf q h)) → Rep H' D t v → Q v H') ∧ ∀ p d H', x = .no p → Bu rd H H' → H' d = some (xdB (p : Int)) → E (.ref CB) (some d) H'
theorem Out.from {CB CR rd dx q : Addr} {D : Nat} {x : R} {H H1 : Hp} {Q : VK} {E : XK} (h : Out CB CR rd dx q D x H Q E) (b : Bu rd H H1) : Out CB CR rd dx q D x H1 Q E :=
  ⟨fun t h' v H' e b' e2 r => h.1 t h' v H' e (b.tr b') e2 r, fun p d H' e b' e2 => h.2 p d H' e (b.tr b') e2⟩
def spDue (CB CR : Addr) : Sp := fun vs H Q E => ∃ (rd dx q : Addr) (bs : List Int) (a : Nat), vs = [.ref rd] ∧ RdIn CR H rd dx q bs a ∧ (∀ b, bs[a]? = some b → Q (.int b) H) ∧ (bs[a]? = none → ∀ d H', Same H H' → H' d = some (xdB (a : Int)) → E (.ref CB) (some d) H')
def spRW (CB CR : Addr) : Sp := fun vs H Q E => ∃ (rd dx q : Addr) (bs : List Int) (a : Nat), vs = [.ref rd] ∧ RdIn CR H rd dx q bs a ∧ (∀ n h H', rdW bs a = some (n, h) → Bu rd H H' → H' rd = some (.ins CR dx (rf q h)) → Q (.int n) H') ∧
  (rdW bs a = none → ∀ d H', Bu rd H H' → H' d = some (xdB (a : Int)) → E (.ref CB) (some d) H')
def strR (bs : List Int) (a : Nat) : R := match rdW bs a with
  | none => .no a
  | some (n, h) => if 1 ≤ n ∧ n ≤ 20 then rdS bs n.toNat h [] else .no a
def tupR (bs : List Int) (d a : Nat) : R := match rdW bs a with
  | none => .no a
  | some (n, h) => rdL (rdP bs d) (bs.length + 1) n.toNat h []
def spRS (CB CR : Addr) : Sp := fun vs H Q E => ∃ (rd dx q : Addr) (bs : List Int) (a : Nat), vs = [.ref rd] ∧ RdIn CR H rd dx q bs a ∧ Out CB CR rd dx q 0 (strR bs a) H Q E
def spRT (CB CR : Addr) (d : Nat) : Sp := fun vs H Q E => ∃ (rd dx q : Addr) (bs : List Int) (a : Nat), vs = [.ref rd, .int (d : Int)] ∧ RdIn CR H rd dx q bs a ∧ Out CB CR rd dx q (d + 1) (tupR bs d a) H Q E
def spRP (CB CR : Addr) (d : Nat) : Sp := fun vs H Q E => ∃ (rd dx q : Addr) (bs : List Int) (a : Nat), vs = [.ref rd, .int (d : Int)] ∧ RdIn CR H rd dx q bs a ∧ Out CB CR rd dx q d (rdP bs d a) H Q E
def spRInit (CR : Addr) : Sp := fun vs H Q _ => ∃ (rd dx q : Addr), vs = [.ref rd, .ref q] ∧ H rd = some (.ins CR dx []) ∧ ∀ H', Bu rd H H' → H' rd = some (.ins CR dx (rf q 0)) → Q .non H'
/-- t[lo:hi], as it stands -/
def rSlX : V → Option Int → Option Int → Hp → VK → Prop := fun x lo hi H Q => ∃ a xs, x = .ref a ∧ H a = some (.tup xs) ∧ ∀ z H', Same H H' → H' z = some (.tup (cutV xs lo hi)) → Q (.ref z) H'
theorem sl_X {X : Cx} : SlR X rSlX := by
  intro pins s σ H x v vl vu lo hi sl Q I rx hs pl pu h
  obtain ⟨a, xs, rfl, ha, k⟩ := h
  refine sl_tupA pins s σ H _ v vl vu lo hi sl Q I rx hs pl pu ⟨a, xs, rfl, SqT.of ha, fun e => k a H (fun _ _ e => e) ?_, fun _ p hp => k p _ (sN hp) upd_same⟩
  unfold cutV
  rw [e.1, e.2, List.drop_zero, Nat.sub_zero, List.take_length]
  exact ha
theorem cut_nat (xs : List V) {a b : Nat} (h : a ≤ b) (l : b ≤ xs.length) : cutV xs (some (a : Int)) (some (b : Int)) = (xs.drop a).take (b - a) := by
  unfold cutV
  rw [HT.sIx_nat, HT.sIx_nat, Nat.min_eq_left (show a ≤ xs.length by omega), Nat.min_eq_left l]
theorem at_row {bs : List Int} {a : Nat} {b : Int} (h : bs[a]? = some b) : atI (bs.map V.int) (a : Int) = some (V.int b) := atI_nat (by rw [List.getElem?_map, h]; rfl)
theorem join_signs : ∀ acc : List Nat, TL.joinL [] (acc.map fun c => [c]) = acc
  | [] => rfl
  | [_] => rfl
  | c :: d :: r => by
    have ih := join_signs (d :: r)
    show [c] ++ ([] ++ TL.joinL [] ((d :: r).map fun c => [c])) = _
    rw [ih]
    rfl
theorem join_sOf (acc : List Nat) : Txt.join (SX.S []) (acc.map fun c => sOf [c]) = sOf acc := by
  have e : (acc.map fun c => sOf [c]) = (acc.map fun c => [c]).map SX.S := by rw [List.map_map]; rfl
  rw [e, SX.join_S, join_signs]
  rfl
section
variable {P : Program} {w : World} {K : PySem.W.Frag} {mg : Str → Option Value} {base : Heap}
theorem scPlace : FnScope ["self", "place"] ["self", "place"] (defScope sPlace) := ⟨rfl, rfl, rfl, by decide +kernel, rfl, by decide +kernel, by decide +kernel⟩
theorem ok_place {CB fI : Addr} {fd : FuncData} (T : BTxt K mg CB fI fd) : FnOk P w K mg base CX0 1 fI fd ["self", "place"] (spPlace CB) := by
  refine T.F.ok scPlace (fun vs H Q E h => ?_) (fun cdv A outer s H vs Q E hr h => ?_)
  · obtain ⟨a, y, rfl, _⟩ := h
    rfl
  · obtain ⟨a, y, rfl, e, k⟩ := h
    refine ⟨_, pss_one (ps_ost (pv 0) (pv 1)), ?_⟩
    exact ⟨_, rfl, _, rfl, a, CB, rfl, T.ox, T.no, .inl ⟨e, fun d n ne => k d n ne⟩⟩
/-- raise BadRow(y) -/
theorem bad_raise {CB : Addr} {H1 : Hp} {y : V} {E : XK} (k : ∀ d H', Same H1 H' → H' d = some (.xd [("place", y)]) → E (.ref CB) (some d) H') :
    [y].length ≤ 1000 ∧ ∀ a, H1 a = none → spPlace CB (.ref a :: ([y] ++ [])) (upd H1 a (exo a CB none)) (fun v H2 => v = .non ∧ ∃ (d : Addr) (fs : List (Str × V)), H2 a = some (exo a CB (some d)) ∧ H2 d = some (exd d fs) ∧ H1 d = none ∧ E (.ref CB) (some d) (upd (del H2 a) d (.xd fs))) (fun _ _ _ => False) := by
  refine ⟨(by show 1 ≤ 1000; decide), fun a ha => ⟨a, y, rfl, upd_same, fun d hd hda => ⟨rfl, d, _, upd_same, ?_, ?_, k d _ (fun b o e => ?_) upd_same⟩⟩⟩
  · rw [upd_ne hda, upd_same]
  · rw [upd_ne hda] at hd
    exact hd
  · have nba : b ≠ a := ne_of_none e ha
    rw [upd_ne hda] at hd
    have nbd : b ≠ d := ne_of_none e hd
    rw [upd_ne nbd, del_ne nba, upd_ne nba, upd_ne nbd, upd_ne nba]
    exact e
theorem scRInit : FnScope ["self", "row"] ["self", "row"] (defScope sRInit) := ⟨rfl, rfl, rfl, by decide +kernel, rfl, by decide +kernel, by decide +kernel⟩
theorem ok_rinit {CR : Addr} (T : RTxt K mg CR) (M : RDefs K CR) : FnOk P w K mg base CX0 1 M.fI M.dI ["self", "row"] (spRInit CR) := by
  refine M.FI.ok scRInit (fun vs H Q E h => ?_) (fun cdv A outer s H vs Q E hr h => ?_)
  · obtain ⟨rd, dx, q, rfl, _⟩ := h
    rfl
  · obtain ⟨rd, dx, q, rfl, e, k⟩ := h
    refine ⟨_, pss_cons (ps_fld (pv 0) (pv 1) rfl) (pss_one (ps_fld (pv 0) pe_int rfl)), ?_⟩
    refine ⟨_, rfl, _, rfl, rd, CR, dx, _, rfl, e, T.cl, T.nR, (by show 0 < 1000; decide), ?_⟩
    refine ⟨_, rfl, rd, CR, dx, _, rfl, upd_same, T.cl, T.nA, (by show 1 < 1000; decide), ?_⟩
    refine k _ Bu.rf.at.at ?_
    rw [upd_same]
    show some (HO.ins CR dx (putF "at" (.int ((0 : Nat) : Int)) [("row", V.ref q)])) = _
    unfold putF
    rw [if_neg (by decide +kernel)]
    rfl
theorem scDue : FnScope ["self"] ["self"] (defScope sDue) := ⟨rfl, rfl, rfl, by decide +kernel, rfl, by decide +kernel, by decide +kernel⟩
theorem ok_due {CR CB fB : Addr} {dB : FuncData} (T : RTxt K mg CR) (M : RDefs K CR) (B : Bts mg) (BT : BTxt K mg CB fB dB) : FnOk P w K mg base (L2.CX P w) 3 M.fD M.dD ["self"] (spDue CB CR) := by
  have GI : FnOk P w K mg base CX0 1 fB dB ["self", "place"] (spPlace CB) := ok_place BT
  refine M.FD.okX scDue (fun vs H Q E h => ?_) (fun cdv A outer s H vs Q E hr h => ?_)
  · obtain ⟨rd, dx, q, bs, a, rfl, _⟩ := h
    rfl
  · obtain ⟨rd, dx, q, bs, a, rfl, ri, k1, k2⟩ := h
    refine ⟨_, pss_cons (ps_if (pt_cmpR op_eq (pe_fld (pv 0) rfl) (pe_callB call_len_seq (by rfl) B.len PySem.boot_len (pa_cons (pe_fld (pv 0) rfl) pa_nil)) (nomark _)) (pss_one (ps_raise rfl (takes_of rfl rfl rfl rfl) (pmk_oex BT.ox BT.iC BT.tI GI hr BT.b .nil pass0 rfl BT.g (pa_cons (pe_fld (pv 0) rfl) pa_nil)))) pss_nil)
      (pss_one (ps_ret (pe_ix ix_tup (pe_fld (pv 0) rfl) (pe_fld (pv 0) rfl) (fun _ _ => rfl)))), ?_⟩
    refine ⟨_, rfl, rd, CR, dx, _, _, rfl, ri.at_, T.cl, T.nA, rfl, _, rfl, rd, CR, dx, _, _, rfl, ri.at_, T.cl, T.nR, rfl, q, _, rfl, .inr (SqT.of ri.row.at_), rfl, _, rfl, ?_⟩
    rw [List.length_map]
    refine ite2 (fun c => ?_) (fun c => ?_)
    · have c : a = bs.length := by
        have z := V.int.inj (of_decide_eq_true c)
        omega
      refine ⟨_, rfl, rd, CR, dx, _, _, rfl, ri.at_, T.cl, T.nA, rfl, bad_raise fun d H' s1 e => k2 (List.getElem?_eq_none (by omega)) d H' s1 e⟩
    · have c : a < bs.length := by
        have z : ¬ a = bs.length := fun z => c (decide_eq_true (by rw [z]))
        have := ri.le
        omega
      exact ⟨_, rfl, rd, CR, dx, _, _, rfl, ri.at_, T.cl, T.nR, rfl, _, rfl, rd, CR, dx, _, _, rfl, ri.at_, T.cl, T.nA, rfl, q, _, _, _, rfl, rfl, SqT.of ri.row.at_, at_row (List.getElem?_eq_getElem c), k1 _ (List.getElem?_eq_getElem c)⟩
theorem scRW : FnScope ["self", "start", "number", "byte"] ["self"] (defScope sRW) := ⟨rfl, rfl, rfl, by decide +kernel, rfl, by decide +kernel, by decide +kernel⟩
theorem ok_rw {CR CB fB : Addr} {dB : FuncData} (T : RTxt K mg CR) (M : RDefs K CR) (B : Bts mg) (BT : BTxt K mg CB fB dB) : FnOk P w K mg base (L2.CX P w) 3 M.fW M.dW ["self"] (spRW CB CR) := by
  have GI : FnOk P w K mg base CX0 1 fB dB ["self", "place"] (spPlace CB) := ok_place BT
  refine M.FW.okX scRW (fun vs H Q E h => ?_) (fun cdv A outer s H vs Q E hr h => ?_)
  · obtain ⟨rd, dx, q, bs, a, rfl, _⟩ := h
    rfl
  · obtain ⟨rd, dx, q, bs, a, rfl, ri, k1, k2⟩ := h
    have nd := scRW.nd
    refine ⟨_, pss_cons (ps_set (i := 1) nd rfl (.inl rfl) (pe_fld (pv 0) rfl))
      (pss_cons (ps_while (passes_of rfl) (PW.pt (pw_and (pt_cmpR op_lt (pe_fld (pv 0) rfl) (pe_callB call_len_seq (by rfl) B.len PySem.boot_len (pa_cons (pe_fld (pv 0) rfl) pa_nil)) (nomark _)) (pw_and1 (pt_cmpR op_ge (pe_ix ix_tup (pe_fld (pv 0) rfl) (pe_fld (pv 0) rfl) (fun _ _ => rfl)) pe_int (nomark _)))))
        (pss_one (ps_fldaug (pv 0) pe_int in_add)))
      (pss_cons (ps_if (pt_cmpR op_eq (pe_fld (pv 0) rfl) (pe_callB call_len_seq (by rfl) B.len PySem.boot_len (pa_cons (pe_fld (pv 0) rfl) pa_nil)) (nomark _)) (pss_one (ps_raise rfl (takes_of rfl rfl rfl rfl) (pmk_oex BT.ox BT.iC BT.tI GI hr BT.b .nil pass0 rfl BT.g (pa_cons (pv 1) pa_nil)))) pss_nil)
      (pss_cons (ps_fldaug (pv 0) pe_int in_add)
      (pss_cons (ps_if (PW.pt (pw_and (pt_cmpR op_eq (pe_ix ix_tup (pe_fld (pv 0) rfl) (pe_op op_sub (pe_fld (pv 0) rfl) pe_int) (fun _ _ => rfl)) pe_int (nomark _)) (pw_and1 (pt_cmpR op_gt (pe_op op_sub (pe_fld (pv 0) rfl) (pv 1)) pe_int (nomark _))))) (pss_one (ps_raise rfl (takes_of rfl rfl rfl rfl) (pmk_oex BT.ox BT.iC BT.tI GI hr BT.b .nil pass0 rfl BT.g (pa_cons (pv 1) pa_nil)))) pss_nil)
      (pss_cons (ps_set (i := 2) nd rfl (.inl rfl) pe_int)
      (pss_cons (ps_for (passes_of rfl) rfl (RT.pi_revA rfl B.reversed (pe_slice sl_X (pe_fld (pv 0) rfl) (po_some (pv 1)) (po_some (pe_fld (pv 0) rfl)))) (pg_name (i := 3) nd rfl (.inl rfl))
        (pss_one (ps_set (i := 2) nd rfl (.inl rfl) (pe_op op_add (pe_op op_mul (pv 2) pe_int) (pe_op op_mod (pv 3) pe_int)))))
      (pss_one (ps_ret (pv 2))))))))), ?_⟩
    refine ⟨_, rfl, rd, CR, dx, _, _, rfl, ri.at_, T.cl, T.nA, rfl, ?_⟩
    have sl0 := scan_le (bs.drop a)
    rw [List.length_drop] at sl0
    refine ⟨fun m σ H' => ∃ i : Nat, σ = [some (.ref rd), some (.int (a : Int)), none, none] ∧ RdIn CR H' rd dx q bs (a + i) ∧ Bu rd H H' ∧ i ≤ scan (bs.drop a) ∧ m = bs.length - (a + i), ⟨_, 0, rfl, ri, .rf, Nat.zero_le _, rfl⟩, ?_⟩
    rintro m σ H1 ⟨i, rfl, r1, b1, hi, rfl⟩
    have flds : ∀ {H2 : Hp} {c : Nat}, RdIn CR H2 rd dx q bs c → H2 rd = some (.ins CR dx (rf q c)) := fun r => r.at_
    refine ⟨_, rfl, rd, CR, dx, _, _, rfl, r1.at_, T.cl, T.nA, rfl, _, rfl, rd, CR, dx, _, _, rfl, r1.at_, T.cl, T.nR, rfl, q, _, rfl, .inr (SqT.of r1.row.at_), _, _, rfl, rfl, _, rfl, ?_⟩
    rw [List.length_map]
    rcases Nat.lt_or_ge i (scan (bs.drop a)) with c | c
    · obtain ⟨b, e, c2⟩ := scan_big c
      rw [List.getElem?_drop] at e
      refine ite2 (fun _ => ?_) (fun c3 => absurd (decide_eq_true (by have := (List.getElem?_eq_some_iff.mp e).1; omega)) c3)
      refine ⟨_, rfl, rd, CR, dx, _, _, rfl, r1.at_, T.cl, T.nR, rfl, _, rfl, rd, CR, dx, _, _, rfl, r1.at_, T.cl, T.nA, rfl, q, _, _, _, rfl, rfl, SqT.of r1.row.at_, at_row e, _, _, rfl, rfl, _, rfl, ?_⟩
      rw [decide_eq_true c2]
      refine iteT ⟨fun σ' H' => ∃ j : Nat, σ' = [some (.ref rd), some (.int (a : Int)), none, none] ∧ RdIn CR H' rd dx q bs (a + j) ∧ Bu rd H H' ∧ j ≤ scan (bs.drop a) ∧ j = i + 1, fun σ' H' ⟨j, e1, e2, e3, e4, e5⟩ => ⟨_, by have := ri.le; omega, j, e1, e2, e3, e4, rfl⟩, ?_⟩
      refine ⟨_, rfl, rd, CR, dx, _, _, rfl, r1.at_, T.cl, T.nA, rfl, _, _, rfl, rfl, dx, _, r1.at_, (by show 2 < 1000; decide), i + 1, rfl, ?_, b1.at, by omega, rfl⟩
      have z := r1.put (c := a + (i + 1)) (by have := ri.le; omega)
      have ec : ((a + i : Nat) : Int) + 1 = ((a + (i + 1) : Nat) : Int) := by omega
      rw [← ec] at z
      exact z
    · obtain rfl : i = scan (bs.drop a) := by omega
      clear c hi
      have rdw := k1
      by_cases c : a + scan (bs.drop a) = bs.length
      · refine ite2 (fun c3 => ?_) (fun _ => ?_)
        · have := of_decide_eq_true c3
          omega
        refine iteF ?_
        refine ⟨_, rfl, rd, CR, dx, _, _, rfl, r1.at_, T.cl, T.nA, rfl, _, rfl, rd, CR, dx, _, _, rfl, r1.at_, T.cl, T.nR, rfl, q, _, rfl, .inr (SqT.of r1.row.at_), rfl, _, rfl, ?_⟩
        rw [List.length_map, c, decide_eq_true rfl]
        refine iteT ⟨_, rfl, bad_raise fun d H' s1 e => k2 ?_ d H' (b1.st s1) e⟩
        unfold rdW
        rw [List.getElem?_eq_none (by omega)]
      · have lt : a + scan (bs.drop a) < bs.length := by have := ri.le; omega
        have eb : bs[a + scan (bs.drop a)]? = some bs[a + scan (bs.drop a)] := List.getElem?_eq_getElem lt
        have small : bs[a + scan (bs.drop a)] < 128 := by
          refine scan_at (l := bs.drop a) ?_
          rw [List.getElem?_drop]
          exact eb
        have wr : rdW bs a = if bs[a + scan (bs.drop a)] = 0 ∧ 0 < scan (bs.drop a) then none else some (val ((bs.drop a).take (scan (bs.drop a) + 1)), a + scan (bs.drop a) + 1) := by
          unfold rdW
          rw [eb]
        revert small eb wr
        generalize bs[a + scan (bs.drop a)] = b
        intro eb small wr
        refine ite2 (fun _ => ?_) (fun c3 => absurd (decide_eq_true (by omega)) c3)
        refine ⟨_, rfl, rd, CR, dx, _, _, rfl, r1.at_, T.cl, T.nR, rfl, _, rfl, rd, CR, dx, _, _, rfl, r1.at_, T.cl, T.nA, rfl, q, _, _, _, rfl, rfl, SqT.of r1.row.at_, at_row eb, _, _, rfl, rfl, _, rfl, ?_⟩
        rw [decide_eq_false (show ¬ (128 : Int) ≤ b by omega)]
        refine iteF ?_
        refine ⟨_, rfl, rd, CR, dx, _, _, rfl, r1.at_, T.cl, T.nA, rfl, _, rfl, rd, CR, dx, _, _, rfl, r1.at_, T.cl, T.nR, rfl, q, _, rfl, .inr (SqT.of r1.row.at_), rfl, _, rfl, ?_⟩
        rw [List.length_map, decide_eq_false fun z => c (by have := V.int.inj z; omega)]
        refine iteF ?_
        refine ⟨_, rfl, rd, CR, dx, _, _, rfl, r1.at_, T.cl, T.nA, rfl, _, _, rfl, rfl, dx, _, r1.at_, (by show 2 < 1000; decide), ?_⟩
        have r2 := r1.put (c := a + scan (bs.drop a) + 1) (by omega)
        have ec : ((a + scan (bs.drop a) : Nat) : Int) + 1 = ((a + scan (bs.drop a) + 1 : Nat) : Int) := by omega
        rw [← ec] at r2
        have b2 : Bu rd H (upd H1 rd (.ins CR dx (putF "at" (.int (((a + scan (bs.drop a) : Nat) : Int) + 1)) (rf q (a + scan (bs.drop a)))))) := b1.at
        show tSeq _ _ _ _ (upd H1 rd (.ins CR dx (putF "at" (.int (((a + scan (bs.drop a) : Nat) : Int) + 1)) (rf q (a + scan (bs.drop a))))))
        revert r2 b2
        generalize (upd H1 rd (.ins CR dx (putF "at" (.int (((a + scan (bs.drop a) : Nat) : Int) + 1)) (rf q (a + scan (bs.drop a)))))) = H2
        intro r2 b2
        have ea : atI (bs.map V.int) (((a + scan (bs.drop a) + 1 : Nat) : Int) - 1) = some (V.int b) := by
          rw [show (((a + scan (bs.drop a) + 1 : Nat) : Int) - 1) = ((a + scan (bs.drop a) : Nat) : Int) by omega]
          exact at_row eb
        refine ⟨_, rfl, rd, CR, dx, _, _, rfl, r2.at_, T.cl, T.nR, rfl, _, rfl, rd, CR, dx, _, _, rfl, r2.at_, T.cl, T.nA, rfl, _, _, rfl, rfl, q, _, _, _, rfl, rfl, SqT.of r2.row.at_, ea, rfl, _, rfl, ?_⟩
        refine ite2 (fun z => ?u1) (fun z => ?u2)
        case' u1 =>
          have z : b = 0 := V.int.inj (of_decide_eq_true z)
          refine ⟨_, rfl, rd, CR, dx, _, _, rfl, r2.at_, T.cl, T.nA, rfl, _, rfl, _, _, rfl, rfl, _, _, rfl, rfl, _, rfl, ?_⟩
          refine ite2 (fun z2 => ?u3) (fun z2 => ?u4)
          case' u3 =>
            have z2 : (1 : Int) < ((a + scan (bs.drop a) + 1 : Nat) : Int) - (a : Int) := of_decide_eq_true z2
            exact ⟨_, rfl, bad_raise fun d H' s1 e => k2 (by rw [wr, if_pos ⟨z, by omega⟩]) d H' (b2.st s1) e⟩
          case' u4 => have nb : ¬ (b = 0 ∧ 0 < scan (bs.drop a)) := fun y => z2 (decide_eq_true (by omega))
        case' u2 =>
          have nb : ¬ (b = 0 ∧ 0 < scan (bs.drop a)) := fun y => z (decide_eq_true (by rw [y.1]))
        all_goals
          rw [if_neg nb] at wr
          have lc : ((bs.map V.int).drop a).take (a + scan (bs.drop a) + 1 - a) = ((bs.drop a).take (scan (bs.drop a) + 1)).map V.int := by
            rw [← List.map_drop, ← List.map_take, show a + scan (bs.drop a) + 1 - a = scan (bs.drop a) + 1 by omega]
          refine ⟨_, rfl, rd, CR, dx, _, _, rfl, r2.at_, T.cl, T.nR, rfl, _, rfl, _, rfl, _, rfl, rd, CR, dx, _, _, rfl, r2.at_, T.cl, T.nA, rfl, _, rfl, q, _, rfl, r2.row.at_, fun y H3 s3 hy => ?_⟩
          rw [cut_nat _ (by omega) (by rw [List.length_map]; omega), lc] at hy
          refine ⟨y, _, rfl, .inr ⟨SqT.of hy, RT.for_ItvT (K := K) (a := y) (xs := ((bs.drop a).take (scan (bs.drop a) + 1)).map V.int) (fun j σ H' => ∃ x3, σ = [some (.ref rd), some (.int (a : Int)), some (.int (val (((bs.drop a).take (scan (bs.drop a) + 1)).drop (scan (bs.drop a) + 1 - j)))), x3] ∧ H' = H3) ?_ ?_ ?_ ?_⟩⟩
          · refine ⟨none, ?_, rfl⟩
            rw [Nat.sub_zero, List.drop_eq_nil_of_le (by rw [List.length_take]; omega)]
            rfl
          · rintro j σ H' ⟨x3, rfl, rfl⟩
            exact SqT.of hy
          · rintro j x σ H' hj hx ⟨x3, rfl, rfl⟩
            have ln : (((bs.drop a).take (scan (bs.drop a) + 1)).map V.int).length = scan (bs.drop a) + 1 := by
              rw [List.length_map, List.length_take, List.length_drop]
              omega
            rw [ln] at hj hx
            obtain ⟨b', hb', rfl⟩ := at_ints hx
            refine ⟨_, rfl, _, _, rfl, rfl, .inr ⟨by decide, by decide⟩, _, rfl, _, _, rfl, rfl, (by decide : (0 : Int) < 128), _, _, rfl, rfl, some (.int b'), ?_, rfl⟩
            have e1 : ((bs.drop a).take (scan (bs.drop a) + 1)).drop (scan (bs.drop a) + 1 - (j + 1)) = b' :: ((bs.drop a).take (scan (bs.drop a) + 1)).drop (scan (bs.drop a) + 1 - j) := by
              obtain ⟨l1, e1⟩ := List.getElem?_eq_some_iff.mp hb'
              rw [show scan (bs.drop a) + 1 - (j + 1) = scan (bs.drop a) + 1 - 1 - j by omega, List.drop_eq_getElem_cons l1, e1, show scan (bs.drop a) + 1 - 1 - j + 1 = scan (bs.drop a) + 1 - j by omega]
            rw [e1, val_cons]
            rfl
          · rintro σ H' ⟨x3, rfl, rfl⟩
            have ln : (((bs.drop a).take (scan (bs.drop a) + 1)).map V.int).length = scan (bs.drop a) + 1 := by
              rw [List.length_map, List.length_take, List.length_drop]
              omega
            rw [ln, Nat.sub_self, List.drop_zero]
            exact ⟨_, rfl, k1 _ _ _ wr (b2.st s3) (s3 _ _ r2.at_)⟩
end
end Q

namespace Q
open PySem L2 QR
theorem rdS_at {r : List Int} {m h : Nat} {acc : List Nat} {b : Int} (e : r[h]? = some b) : rdS r (m + 1) h acc = if isSg b = true then rdS r m (h + 1) (acc ++ [b.toNat]) else .no h := by
  rw [rdS, e]
theorem rdS_no {r : List Int} {m h : Nat} {acc : List Nat} (e : r[h]? = none) : rdS r (m + 1) h acc = .no h := by
  rw [rdS, e]
theorem lens1 : ∀ acc : List Nat, ((acc.map fun c => sOf [c]).map (·.length)).sum = acc.length
  | [] => rfl
  | c :: r => by
    rw [List.map_cons, List.map_cons, List.sum_cons, lens1 r, List.length_cons]
    show 1 + r.length = _
    omega
section
variable {P : Program} {w : World} {K : PySem.W.Frag} {mg : Str → Option Value} {base : Heap}
theorem scRS : FnScope ["self", "start", "many", "signs", "_", "number"] ["self"] (defScope sRS) := ⟨rfl, rfl, rfl, by decide +kernel, rfl, by decide +kernel, by decide +kernel⟩
theorem ok_rs {CR CB fB fS fG : Addr} {dB dS dG : FuncData} (T : RTxt K mg CR) (M : RDefs K CR) (B : Bts mg) (C : Cst mg) (BT : BTxt K mg CB fB dB) (DS : Df K mg "is_sign" sIsSg ["number"] fS dS) (DG : Df K mg "sign_of" sSgOf ["number"] fG dG) : FnOk P w K mg base (L2.CX P w) 4 M.fS M.dS ["self"] (spRS CB CR) := by
  have GI : FnOk P w K mg base CX0 1 fB dB ["self", "place"] (spPlace CB) := ok_place BT
  have GD : FnOk P w K mg base (L2.CX P w) 3 M.fD M.dD ["self"] (spDue CB CR) := ok_due T M B BT
  have GW : FnOk P w K mg base (L2.CX P w) 3 M.fW M.dW ["self"] (spRW CB CR) := ok_rw T M B BT
  have GS : FnOk P w K mg base CX0 1 fS dS ["number"] spIsSg := ok_issg DS C
  have GG : FnOk P w K mg base CX0 1 fG dG ["number"] spSgOf := ok_sgof DG C
  obtain ⟨t1, h1⟩ := C.signs
  refine M.FS.okX scRS (fun vs H Q E h => ?_) (fun cdv A outer s H vs Q E hr h => ?_)
  · obtain ⟨rd, dx, q, bs, a, rfl, _⟩ := h
    rfl
  · obtain ⟨rd, dx, q, bs, a, rfl, ri, k⟩ := h
    have nd := scRS.nd
    have hr1 : Room 1 _ := hr.mono (by decide)
    have hr2 : Room 2 _ := hr.mono (by decide)
    refine ⟨_, pss_cons (ps_set (i := 1) nd rfl (.inl rfl) (pe_fld (pv 0) rfl))
      (pss_cons (ps_set (i := 2) nd rfl (.inl rfl) (pe_meth0 (pv 0) T.cl M.mW GW hr M.bW .nil (passes_call (takes_of rfl rfl rfl rfl) fun _ _ _ _ h => h)))
      (pss_cons (ps_if (pt_not (pt_chain op_le op_le pe_int (pv 2) (pe_glob (v := .int 20) rfl h1 ⟨_, rfl⟩))) (pss_one (ps_raise rfl (takes_of rfl rfl rfl rfl) (pmk_oex BT.ox BT.iC BT.tI GI hr2 BT.b .nil pass0 rfl BT.g (pa_cons (pv 1) pa_nil)))) pss_nil)
      (pss_cons (ps_set (i := 3) nd rfl (.inl rfl) (pe_lst pa_nil))
      (pss_cons (ps_for (passes_of rfl) rfl (pi_range1 rfl B.range (pa_cons (pv 2) pa_nil)) (pg_name (i := 4) nd rfl (.inl rfl))
        (pss_cons (ps_set (i := 5) nd rfl (.inl rfl) (pe_meth0 (pv 0) T.cl M.mD GD hr M.bD .nil (passes_call (takes_of rfl rfl rfl rfl) fun _ _ _ _ h => h)))
        (pss_cons (ps_if (pt_not (pt_val (pe_call GS hr1 rfl DS.m DS.k DS.b .nil pass0 (pa_cons (pv 5) pa_nil)))) (pss_one (ps_raise rfl (takes_of rfl rfl rfl rfl) (pmk_oex BT.ox BT.iC BT.tI GI hr2 BT.b .nil pass0 rfl BT.g (pa_cons (pe_fld (pv 0) rfl) pa_nil)))) pss_nil)
        (pss_cons (ps_expr (pe_bm PySem.F.plainAttrs_list PySem.F.slot_list_append PySem.F.type_list_append mt_append (pv 3) (pa_cons (pe_call GG hr1 rfl DG.m DG.k DG.b .nil pass0 (pa_cons (pv 5) pa_nil)) pa_nil)))
        (pss_one (ps_fldaug (pv 0) pe_int in_add))))))
      (pss_one (ps_ret (pe_join pe_str (pv 3)))))))), ?_⟩
    refine ⟨_, rfl, rd, CR, dx, _, _, rfl, ri.at_, T.cl, T.nA, rfl, ?_⟩
    refine ⟨_, rfl, rd, dx, _, rfl, ri.at_, rfl, rd, dx, q, bs, a, rfl, ri, fun n h H1 wr b1 e1 => ?_, fun wr d H' b e => k.2 a d H' (by unfold strR; rw [wr]) b e⟩
    obtain ⟨n0, ah, hl⟩ := rdW_nn wr
    have r1 := ri.go b1 e1 hl
    have eR : strR bs a = if 1 ≤ n ∧ n ≤ 20 then rdS bs n.toNat h [] else .no a := by
      unfold strR
      rw [wr]
    refine ⟨_, rfl, _, _, rfl, rfl, _, rfl, ?_⟩
    by_cases c : 1 ≤ n ∧ n ≤ 20
    · rw [if_pos c] at eR
      refine ite2 (fun _ => ?_) (fun z => absurd (decide_eq_true c.1) z)
      refine ⟨_, _, rfl, rfl, _, rfl, ite2 (fun z => ?_) (fun _ => ?_)⟩
      · rw [decide_eq_true c.2] at z
        cases z
      refine ⟨Nat.zero_le _, fun l hl0 => ?_⟩
      have lrd : l ≠ rd := fun z => by rw [z, e1] at hl0; cases hl0
      have b2 : Bu rd H (upd H1 l (.lst [])) := b1.st (sN hl0)
      have r2 : RdIn CR (upd H1 l (.lst [])) rd dx q bs h := r1.go (Bu.of (sN hl0)) ((sN hl0) _ _ e1) hl
      have nl : H l = none := by
        cases e : H l with
        | none => rfl
        | some o =>
          have := b1 _ _ e lrd
          rw [this] at hl0
          cases hl0
      have upb : ∀ {H2 : Hp} {o : HO}, Bu rd H H2 → Bu rd H (upd H2 l o) := fun b x u e n => by
        rw [upd_ne (ne_of_none e nl)]
        exact b x u e n
      refine ⟨_, rfl, n, rfl, by omega, by omega, for_range (lo := 0) (n := n.toNat) (fun i σ H' => ∃ (x4 x5 : Option V) (acc : List Nat), σ = [some (.ref rd), some (.int (a : Int)), some (.int n), some (.ref l), x4, x5] ∧ RdIn CR H' rd dx q bs (h + i) ∧ Bu rd H H' ∧ H' l = some (.lst (acc.map fun c => V.str (sOf [c]))) ∧ acc.length = i ∧ i ≤ n.toNat ∧ rdS bs (n.toNat - i) (h + i) acc = strR bs a) ?_ ?_ ?_⟩
      · exact ⟨none, none, [], rfl, r2, b2, upd_same, rfl, Nat.zero_le _, eR.symm⟩
      · rintro i σ H3 hi ⟨x4, x5, acc, rfl, r3, b3, e3, la, il, tgt⟩
        refine ⟨_, rfl, rd, dx, _, rfl, r3.at_, rfl, rd, dx, q, bs, h + i, rfl, r3, fun b eb => ?_, fun eb d H' s e => ?_⟩
        · refine ⟨_, rfl, b, rfl, ?_⟩
          rw [show n.toNat - i = (n.toNat - (i + 1)) + 1 by omega, rdS_at eb] at tgt
          cases sg : isSg b with
          | false =>
            rw [sg, if_neg Bool.false_ne_true] at tgt
            refine ⟨_, rfl, iteT ?_⟩
            exact ⟨_, rfl, rd, CR, dx, _, _, rfl, r3.at_, T.cl, T.nA, rfl, bad_raise fun d H' s e => k.2 (h + i) d H' tgt.symm (b3.st s) e⟩
          | true =>
            rw [sg, if_pos rfl] at tgt
            have lt := (List.getElem?_eq_some_iff.mp eb).1
            refine ⟨_, rfl, iteF ?_⟩
            refine ⟨_, rfl, .inl ⟨rfl, _, SqL.of e3⟩, _, rfl, b, rfl, sg, l, _, _, rfl, rfl, e3, ?_, ?_⟩
            · rw [List.length_map, la]
              exact size_ok (by omega)
            · have r4 : RdIn CR (upd H3 l (.lst ((acc.map fun c => V.str (sOf [c])) ++ [.str (sOf [b.toNat])]))) rd dx q bs (h + i) := by
                refine ⟨?_, r3.row.tk fun c xs e => ?_, r3.le⟩
                · rw [upd_ne lrd.symm]
                  exact r3.at_
                · rw [upd_ne (ne_of e e3 (fun z => by cases z))]
                  exact e
              refine ⟨_, rfl, rd, CR, dx, _, _, rfl, r4.at_, T.cl, T.nA, rfl, _, _, rfl, rfl, dx, _, r4.at_, (by show 2 < 1000; decide), _, _, acc ++ [b.toNat], rfl, ?_, (upb b3).at, ?_, ?_, by omega, ?_⟩
              · have z := r4.put (c := h + (i + 1)) (by omega)
                have ec : ((h + i : Nat) : Int) + 1 = ((h + (i + 1) : Nat) : Int) := by omega
                rw [← ec] at z
                exact z
              · rw [upd_ne lrd, upd_same, List.map_append]
                rfl
              · rw [List.length_append, la]
                rfl
              · exact tgt
        · rw [show n.toNat - i = (n.toNat - (i + 1)) + 1 by omega, rdS_no eb] at tgt
          exact k.2 (h + i) d H' tgt.symm (b3.st s) e
      · rintro σ H3 ⟨x4, x5, acc, rfl, r3, b3, e3, la, il, tgt⟩
        rw [Nat.sub_self] at tgt
        have tgt : R.ok (.str acc) (h + n.toNat) = strR bs a := tgt
        have lens := lens1 acc
        refine ⟨⟨_, rfl⟩, _, rfl, SX.S [], l, acc.map fun c => sOf [c], rfl, rfl, .inl (SqL.of (by rw [e3, List.map_map]; rfl)), ?_, ?_⟩
        · rw [lens, la]
          show n.toNat + (acc.map fun c => sOf [c]).length * 0 ≤ _
          omega
        · rw [join_sOf]
          exact k.1 (.str acc) (h + n.toNat) _ H3 tgt.symm b3 r3.at_ ⟨rfl, by omega⟩
    · rw [if_neg c] at eR
      by_cases c1 : 1 ≤ n
      · refine ite2 (fun _ => ?_) (fun z => absurd (decide_eq_true c1) z)
        refine ⟨_, _, rfl, rfl, _, rfl, ite2 (fun z => ?_) (fun z => ?_)⟩
        · exact ⟨_, rfl, bad_raise fun d H' s e => k.2 a d H' eR (b1.st s) e⟩
        · rw [decide_eq_false (show ¬ n ≤ 20 by omega)] at z
          exact absurd rfl z
      · refine ite2 (fun z => absurd (of_decide_eq_true z) c1) (fun _ => ?_)
        refine ⟨_, rfl, iteT ?_⟩
        exact ⟨_, rfl, bad_raise fun d H' s e => k.2 a d H' eR (b1.st s) e⟩
theorem scRT : FnScope ["self", "deep", "many", "parts"] ["self", "deep"] (defScope sRT) := ⟨rfl, rfl, rfl, by decide +kernel, rfl, by decide +kernel, by decide +kernel⟩
theorem ok_rt {CR CB fB : Addr} {dB : FuncData} {d : Nat} (T : RTxt K mg CR) (M : RDefs K CR) (B : Bts mg) (BT : BTxt K mg CB fB dB) (GP : FnOk P w K mg base (L2.CX P w) (2 * d + 5) M.fP M.dP ["self", "deep"] (spRP CB CR d)) : FnOk P w K mg base (L2.CX P w) (2 * d + 6) M.fT M.dT ["self", "deep"] (spRT CB CR d) := by
  have GW : FnOk P w K mg base (L2.CX P w) 3 M.fW M.dW ["self"] (spRW CB CR) := ok_rw T M B BT
  refine M.FT.okX scRT (fun vs H Q E h => ?_) (fun cdv A outer s H vs Q E hr h => ?_)
  · obtain ⟨rd, dx, q, bs, a, rfl, _⟩ := h
    rfl
  · obtain ⟨rd, dx, q, bs, a, rfl, ri, k⟩ := h
    have nd := scRT.nd
    have hr3 : Room 3 _ := hr.mono (by omega)
    refine ⟨_, pss_cons (ps_set (i := 2) nd rfl (.inl rfl) (pe_meth0 (pv 0) T.cl M.mW GW hr3 M.bW .nil (passes_call (takes_of rfl rfl rfl rfl) fun _ _ _ _ h => h)))
      (pss_cons (ps_set (i := 3) nd rfl (.inl rfl) (pe_lst pa_nil))
      (pss_cons (ps_while (passes_of rfl) (pt_cmpR op_lt (pe_callB call_len_seq (by rfl) B.len PySem.boot_len (pa_cons (pv 3) pa_nil)) (pv 2) (nomark _))
        (pss_one (ps_expr (pe_bm PySem.F.plainAttrs_list PySem.F.slot_list_append PySem.F.type_list_append mt_append (pv 3) (pa_cons (pe_meth (pv 0) T.cl M.mP GP hr M.bP .nil (passes_call (takes_of rfl rfl rfl rfl) fun _ _ _ _ h => h) (pa_cons (pv 1) pa_nil)) pa_nil)))))
      (pss_one (ps_ret (pe_callTy call_tuple_of (by rfl) B.tuple PyProof.Rows.boot_tuple (pa_cons (pv 3) pa_nil)))))), ?_⟩
    refine ⟨_, rfl, rd, dx, _, rfl, ri.at_, rfl, rd, dx, q, bs, a, rfl, ri, fun n h H1 wr b1 e1 => ?_, fun wr d H' b e => k.2 a d H' (by unfold tupR; rw [wr]) b e⟩
    obtain ⟨n0, ah, hl⟩ := rdW_nn wr
    have r1 := ri.go b1 e1 hl
    have eR : tupR bs d a = rdL (rdP bs d) (bs.length + 1) n.toNat h [] := by
      unfold tupR
      rw [wr]
    refine ⟨Nat.zero_le _, fun l hl0 => ?_⟩
    have lrd : l ≠ rd := fun z => by rw [z, e1] at hl0; cases hl0
    have b2 : Bu rd H (upd H1 l (.lst [])) := b1.st (sN hl0)
    have r2 : RdIn CR (upd H1 l (.lst [])) rd dx q bs h := r1.go (Bu.of (sN hl0)) ((sN hl0) _ _ e1) hl
    have nl : H l = none := by
      cases e : H l with
      | none => rfl
      | some o =>
        have := b1 _ _ e lrd
        rw [this] at hl0
        cases hl0
    have upb : ∀ {H2 : Hp} {o : HO}, Bu rd H H2 → Bu rd H (upd H2 l o) := fun b x u e n => by
      rw [upd_ne (ne_of_none e nl)]
      exact b x u e n
    refine ⟨fun m σ H' => ∃ (h' fu : Nat) (ts : List QR.T) (xs : List V), σ = [some (.ref rd), some (.int (d : Int)), some (.int n), some (.ref l)] ∧ RdIn CR H' rd dx q bs h' ∧ Bu rd H H' ∧ H' l = some (.lst xs) ∧ xs.length = ts.length ∧ (∀ (i : Nat) (x : V) (t : QR.T), xs[i]? = some x → ts[i]? = some t → Rep H' d t x) ∧
      ts.length ≤ n.toNat ∧ ts.length ≤ h' ∧ bs.length + 1 ≤ fu + h' ∧ rdL (rdP bs d) fu (n.toNat - ts.length) h' ts = tupR bs d a ∧ m = bs.length - h', ⟨_, h, bs.length + 1, [], [], rfl, r2, b2, upd_same, rfl, fun i x t hx => by simp at hx, Nat.zero_le _, Nat.zero_le _, by omega, eR.symm, rfl⟩, ?_⟩
    rintro m σ H3 ⟨h', fu, ts, xs, rfl, r3, b3, e3, lx, reps, tn, th, fl, tgt, rfl⟩
    refine ⟨_, rfl, l, _, rfl, .inl (SqL.of e3), _, rfl, _, _, rfl, rfl, _, rfl, ite2 (fun c => ?_) (fun c => ?_)⟩
    · have c : ts.length < n.toNat := by
        have c : ((xs.length : Nat) : Int) < n := of_decide_eq_true c
        omega
      refine ⟨fun σ' H' => ∃ (h2 fu : Nat) (ts : List QR.T) (xs : List V), σ' = [some (.ref rd), some (.int (d : Int)), some (.int n), some (.ref l)] ∧ RdIn CR H' rd dx q bs h2 ∧ Bu rd H H' ∧ H' l = some (.lst xs) ∧ xs.length = ts.length ∧ (∀ (i : Nat) (x : V) (t : QR.T), xs[i]? = some x → ts[i]? = some t → Rep H' d t x) ∧
        ts.length ≤ n.toNat ∧ ts.length ≤ h2 ∧ bs.length + 1 ≤ fu + h2 ∧ rdL (rdP bs d) fu (n.toNat - ts.length) h2 ts = tupR bs d a ∧ h' < h2, fun σ' H' ⟨h2, fu, ts, xs, z1, z2, z3, z4, z5, z6, z7, z8, z9, z10, z11⟩ => ⟨bs.length - h2, by have := z2.le; omega, h2, fu, ts, xs, z1, z2, z3, z4, z5, z6, z7, z8, z9, z10, rfl⟩, ?_⟩
      have le3 := r3.le
      obtain ⟨fu, rfl⟩ : ∃ f0, fu = f0 + 1 := ⟨fu - 1, by omega⟩
      have un : rdL (rdP bs d) (fu + 1) (n.toNat - ts.length) h' ts = match rdP bs d h' with
        | .no p => .no p
        | .ok t h2 => rdL (rdP bs d) fu (n.toNat - (ts.length + 1)) h2 (ts ++ [t]) := by
        rw [show n.toNat - ts.length = (n.toNat - (ts.length + 1)) + 1 by omega]
        rfl
      rw [un] at tgt
      refine ⟨_, rfl, .inl ⟨rfl, _, SqL.of e3⟩, _, rfl, rd, dx, _, rfl, r3.at_, rfl, _, rfl, rd, dx, q, bs, h', rfl, r3, fun t h2 v H4 e4 b4 a4 rp => ?_, fun p dd H4 e4 b4 a4 => ?_⟩
      · obtain ⟨f1, f2⟩ := rdP_fwd d h' t h2 e4
        rw [e4] at tgt
        have l4 := b4 _ _ e3 lrd
        have tk4 := r3.tk b4
        refine ⟨l, _, _, rfl, rfl, l4, by rw [lx]; exact size_ok (by have := r3.row.few; omega), ?_⟩
        have tk5 : Tk H4 (upd H4 l (.lst (xs ++ [v]))) := fun c ys e => by
          rw [upd_ne (ne_of e l4 (fun z => by cases z))]
          exact e
        refine ⟨h2, fu, ts ++ [t], xs ++ [v], rfl, ⟨by rw [upd_ne lrd.symm]; exact a4, (r3.row.tk tk4).tk tk5, f2⟩, upb (b3.tr b4), upd_same, by rw [List.length_append, List.length_append, lx]; rfl, fun i x t' hx ht => ?_, by rw [List.length_append]; show _ + 1 ≤ _; omega, by rw [List.length_append]; show _ + 1 ≤ _; omega, by omega, by rw [List.length_append]; exact tgt, f1⟩
        by_cases hi : i < xs.length
        · rw [List.getElem?_append_left hi] at hx
          rw [List.getElem?_append_left (by omega)] at ht
          exact ((reps i x t' hx ht).tk tk4).tk tk5
        · rw [List.getElem?_append_right (by omega)] at hx
          rw [List.getElem?_append_right (by omega)] at ht
          have z1 : i - xs.length = 0 := by
            have := (List.getElem?_eq_some_iff.mp hx).1
            have : i - xs.length < 1 := this
            omega
          rw [z1] at hx
          rw [← lx, z1] at ht
          cases hx
          cases ht
          exact rp.tk tk5
      · rw [e4] at tgt
        exact k.2 p dd H4 tgt.symm (b3.tr b4) a4
    · have c : n.toNat - ts.length = 0 := by
        have c : ¬ ((xs.length : Nat) : Int) < n := fun z => c (decide_eq_true z)
        omega
      have tgt : R.ok (.tup ts) h' = tupR bs d a := by
        rw [c] at tgt
        rw [← tgt]
        cases fu <;> rfl
      refine ⟨_, rfl, l, _, rfl, .inl ⟨SqL.of e3, fun z hz => ?_⟩⟩
      have s4 := sN (o := .tup xs) hz
      refine k.1 (.tup ts) h' _ _ tgt.symm (b3.st s4) (s4 _ _ r3.at_) ⟨z, xs, rfl, upd_same, lx, ?_, fun i x t hx ht => (reps i x t hx ht).same s4⟩
      have := r3.row.few
      have := r3.le
      omega
theorem scRP : FnScope ["self", "deep", "sort"] ["self", "deep"] (defScope sRP) := ⟨rfl, rfl, rfl, by decide +kernel, rfl, by decide +kernel, by decide +kernel⟩
theorem ok_rp {CR CB fB fS fG : Addr} {dB dS dG : FuncData} (T : RTxt K mg CR) (M : RDefs K CR) (B : Bts mg) (C : Cst mg) (BA : Bare K mg) (BT : BTxt K mg CB fB dB) (DS : Df K mg "is_sign" sIsSg ["number"] fS dS) (DG : Df K mg "sign_of" sSgOf ["number"] fG dG) : ∀ d, FnOk P w K mg base (L2.CX P w) (2 * d + 5) M.fP M.dP ["self", "deep"] (spRP CB CR d) := by
  have GI : FnOk P w K mg base CX0 1 fB dB ["self", "place"] (spPlace CB) := ok_place BT
  have GD : FnOk P w K mg base (L2.CX P w) 3 M.fD M.dD ["self"] (spDue CB CR) := ok_due T M B BT
  have GW : FnOk P w K mg base (L2.CX P w) 3 M.fW M.dW ["self"] (spRW CB CR) := ok_rw T M B BT
  have GS : FnOk P w K mg base (L2.CX P w) 4 M.fS M.dS ["self"] (spRS CB CR) := ok_rs T M B C BT DS DG
  obtain ⟨t3, h3⟩ := C.from0
  obtain ⟨t4, h4⟩ := C.below
  obtain ⟨t5, h5⟩ := C.strg
  obtain ⟨t6, h6⟩ := C.tupl
  obtain ⟨aB, hB, kB, oB, lB, cB, dB0⟩ := BA.ex
  have main : ∀ d, FnOk P w K mg base (L2.CX P w) (2 * d + 4) M.fT M.dT ["self", "deep"] (fun vs H Q E => 0 < d ∧ spRT CB CR (d - 1) vs H Q E) → FnOk P w K mg base (L2.CX P w) (2 * d + 5) M.fP M.dP ["self", "deep"] (spRP CB CR d) := by
    intro d GT
    refine M.FP.okX scRP (fun vs H Q E h => ?_) (fun cdv A outer s H vs Q E hr h => ?_)
    · obtain ⟨rd, dx, q, bs, a, rfl, _⟩ := h
      rfl
    · obtain ⟨rd, dx, q, bs, a, rfl, ri, k⟩ := h
      have nd := scRP.nd
      have hr2 : Room 2 _ := hr.mono (by omega)
      have hr3 : Room 3 _ := hr.mono (by omega)
      have hr4 : Room 4 _ := hr.mono (by omega)
      refine ⟨_, pss_cons (ps_set (i := 2) nd rfl (.inl rfl) (pe_meth0 (pv 0) T.cl M.mD GD hr3 M.bD .nil (passes_call (takes_of rfl rfl rfl rfl) fun _ _ _ _ h => h)))
        (pss_cons (ps_if (PW.pt (pw_or (pt_cmpR op_gt (pv 2) (pe_glob (v := .int 6) rfl h6 ⟨_, rfl⟩) (nomark _)) (pw_or1 (PW.pt (pw_and (pt_cmpR op_eq (pv 2) (pe_glob (v := .int 6) rfl h6 ⟨_, rfl⟩) (nomark _)) (pw_and1 (pt_cmpR op_eq (pv 1) pe_int (nomark _)))))))) (pss_one (ps_raise rfl (takes_of rfl rfl rfl rfl) (pmk_oex BT.ox BT.iC BT.tI GI hr2 BT.b .nil pass0 rfl BT.g (pa_cons (pe_fld (pv 0) rfl) pa_nil)))) pss_nil)
        (pss_cons (ps_fldaug (pv 0) pe_int in_add)
        (pss_cons (ps_if (pt_cmpR op_eq (pv 2) (pe_glob (v := .int 3) rfl h3 ⟨_, rfl⟩) (nomark _)) (pss_one (ps_ret (pe_meth0 (pv 0) T.cl M.mW GW hr3 M.bW .nil (passes_call (takes_of rfl rfl rfl rfl) fun _ _ _ _ h => h)))) pss_nil)
        (pss_cons (ps_if (pt_cmpR op_eq (pv 2) (pe_glob (v := .int 4) rfl h4 ⟨_, rfl⟩) (nomark _)) (pss_one (ps_ret (pe_op op_sub (pe_un un_neg pe_int) (pe_meth0 (pv 0) T.cl M.mW GW hr3 M.bW .nil (passes_call (takes_of rfl rfl rfl rfl) fun _ _ _ _ h => h))))) pss_nil)
        (pss_cons (ps_if (pt_cmpR op_eq (pv 2) (pe_glob (v := .int 5) rfl h5 ⟨_, rfl⟩) (nomark _)) (pss_one (ps_ret (pe_meth0 (pv 0) T.cl M.mS GS hr4 M.bS .nil (passes_call (takes_of rfl rfl rfl rfl) fun _ _ _ _ h => h)))) pss_nil)
        (pss_cons (ps_if (pt_cmpR op_eq (pv 2) (pe_glob (v := .int 6) rfl h6 ⟨_, rfl⟩) (nomark _)) (pss_one (ps_ret (pe_meth (pv 0) T.cl M.mT GT hr M.bT .nil (passes_call (takes_of rfl rfl rfl rfl) fun _ _ _ _ h => h) (pa_cons (pe_op op_sub (pv 1) pe_int) pa_nil)))) pss_nil)
        (pss_one (ps_ret (pe_ix ix_tup (pe_glob (v := .ref aB) rfl hB rfl) (pv 2) (fun _ _ => rfl)))))))))), ?_⟩
      have eP : ∃ g : Nat → Nat → R, rdP bs d a = rdG bs g (decide (d = 0)) a ∧ (0 < d → ∀ n h, g n h = rdL (rdP bs (d - 1)) (bs.length + 1) n h []) := by
        cases d with
        | zero => exact ⟨_, rfl, fun z => absurd z (by decide)⟩
        | succ d => exact ⟨_, rfl, fun _ n h => rfl⟩
      obtain ⟨g, eP, eg⟩ := eP
      rw [eP] at k
      refine ⟨_, rfl, rd, dx, _, rfl, ri.at_, rfl, rd, dx, q, bs, a, rfl, ri, fun b eb => ?_, fun eb dd H' s1 e => k.2 a dd H' (by unfold rdG; rw [eb]) (Bu.of s1) e⟩
      have lt := (List.getElem?_eq_some_iff.mp eb).1
      obtain ⟨b0, b256⟩ := ri.row.b b (List.mem_of_getElem? eb)
      have eG : rdG bs g (decide (d = 0)) a = if 6 < b ∨ (b = 6 ∧ decide (d = 0) = true) then .no a else if b = 0 then .ok .non (a + 1) else if b = 1 then .ok (.bl false) (a + 1) else if b = 2 then .ok (.bl true) (a + 1) else rdB bs g b a := by
        unfold rdG
        rw [eb]
      rw [eG] at k
      have dint : ∀ i j : Int, decide (V.int i = V.int j) = decide (i = j) := fun i j => by
        by_cases c : i = j
        · rw [c, decide_eq_true rfl, decide_eq_true rfl]
        · rw [decide_eq_false c, decide_eq_false fun z => c (V.int.inj z)]
      -- what is refused
      have bad : (6 < b ∨ (b = 6 ∧ decide (d = 0) = true)) → ∀ dd H', Same H H' → H' dd = some (xdB (a : Int)) → E (.ref CB) (some dd) H' := fun c dd H' s e => k.2 a dd H' (if_pos c) (Bu.of s) e
      refine ⟨_, rfl, _, _, rfl, rfl, _, rfl, ?_⟩
      refine ite2 (fun c => ?_) (fun c => ?_)
      · exact ⟨_, rfl, rd, CR, dx, _, _, rfl, ri.at_, T.cl, T.nA, rfl, bad_raise fun dd H' s e => bad (.inl (of_decide_eq_true c)) dd H' s e⟩
      have c6 : ¬ 6 < b := fun z => c (decide_eq_true z)
      clear c
      refine ⟨_, rfl, rfl, _, rfl, ?_⟩
      rw [dint]
      refine ite2 (fun c => ?v1) (fun c => ?v2)
      case' v1 =>
        refine ⟨_, rfl, rfl, _, rfl, ?_⟩
        rw [dint]
        refine ite2 (fun c2 => ?v3) (fun c2 => ?v4)
        case' v3 =>
          have c2 : (d : Int) = 0 := of_decide_eq_true c2
          exact ⟨_, rfl, rd, CR, dx, _, _, rfl, ri.at_, T.cl, T.nA, rfl, bad_raise fun dd H' s e => bad (.inr ⟨of_decide_eq_true c, decide_eq_true (by omega)⟩) dd H' s e⟩
        case' v4 => have ok6 : ¬ (b = 6 ∧ decide (d = 0) = true) := fun y => c2 (decide_eq_true (by have := of_decide_eq_true y.2; omega))
      case' v2 => have ok6 : ¬ (b = 6 ∧ decide (d = 0) = true) := fun y => c (decide_eq_true y.1)
      all_goals
        rw [if_neg (show ¬ (6 < b ∨ (b = 6 ∧ decide (d = 0) = true)) from fun y => y.elim c6 ok6)] at k
        refine ⟨_, rfl, rd, CR, dx, _, _, rfl, ri.at_, T.cl, T.nA, rfl, _, _, rfl, rfl, dx, _, ri.at_, (by show 2 < 1000; decide), ?_⟩
        have r20 := ri.put (c := a + 1) (by omega)
        have b2 : Bu rd H (upd H rd (.ins CR dx (putF "at" (.int ((a : Int) + 1)) (rf q a)))) := Bu.rf.at
        show tSeq _ _ _ _ (upd H rd (.ins CR dx (putF "at" (.int ((a : Int) + 1)) (rf q a))))
        have r2 : RdIn CR (upd H rd (.ins CR dx (putF "at" (.int ((a : Int) + 1)) (rf q a)))) rd dx q bs (a + 1) := r20
        clear r20
        revert b2 r2
        generalize (upd H rd (.ins CR dx (putF "at" (.int ((a : Int) + 1)) (rf q a)))) = H2
        intro b2 r2
        have k' := k.from b2
        refine ⟨_, rfl, rfl, _, rfl, ?_⟩
        rw [dint]
        refine ite2 (fun y => ?_) (fun y3 => ?_)
        · obtain rfl : b = 3 := of_decide_eq_true y
          have eB : rdB bs g 3 a = match rdW bs (a + 1) with
            | none => .no (a + 1)
            | some (n, h) => .ok (.int n) h := by
            unfold rdB
            cases rdW bs (a + 1) <;> rfl
          refine ⟨_, rfl, rd, dx, _, rfl, r2.at_, rfl, rd, dx, q, bs, a + 1, rfl, r2, fun n h H3 wr b3 e3 => k'.1 (.int n) h _ H3 (by show rdB bs g 3 a = _; rw [eB, wr]) b3 e3 (Rep.atom (t := .int n) (v := .int n) rfl), fun wr dd H3 b3 e3 => k'.2 (a + 1) dd H3 (by show rdB bs g 3 a = _; rw [eB, wr]) b3 e3⟩
        refine ⟨_, rfl, rfl, _, rfl, ?_⟩
        rw [dint]
        refine ite2 (fun y => ?_) (fun y4 => ?_)
        · obtain rfl : b = 4 := of_decide_eq_true y
          have eB : rdB bs g 4 a = match rdW bs (a + 1) with
            | none => .no (a + 1)
            | some (n, h) => .ok (.int (-1 - n)) h := by
            unfold rdB
            cases rdW bs (a + 1) <;> rfl
          refine ⟨_, rfl, _, rfl, rd, dx, _, rfl, r2.at_, rfl, rd, dx, q, bs, a + 1, rfl, r2, fun n h H3 wr b3 e3 => ⟨_, _, rfl, rfl, k'.1 (.int (-1 - n)) h _ H3 (by show rdB bs g 4 a = _; rw [eB, wr]) b3 e3 (Rep.atom (t := .int (-1 - n)) (v := .int (-1 - n)) rfl)⟩, fun wr dd H3 b3 e3 => k'.2 (a + 1) dd H3 (by show rdB bs g 4 a = _; rw [eB, wr]) b3 e3⟩
        refine ⟨_, rfl, rfl, _, rfl, ?_⟩
        rw [dint]
        refine ite2 (fun y => ?_) (fun y5 => ?_)
        · obtain rfl : b = 5 := of_decide_eq_true y
          have eB : rdB bs g 5 a = strR bs (a + 1) := by
            unfold rdB strR
            cases rdW bs (a + 1) <;> rfl
          refine ⟨_, rfl, rd, dx, _, rfl, r2.at_, rfl, rd, dx, q, bs, a + 1, rfl, r2, fun t h v H3 e b3 e3 rp => k'.1 t h v H3 (by show rdB bs g 5 a = _; rw [eB, e]) b3 e3 (.atom ?_), fun p dd H3 e b3 e3 => k'.2 p dd H3 (by show rdB bs g 5 a = _; rw [eB, e]) b3 e3⟩
          exact rp
        refine ⟨_, rfl, rfl, _, rfl, ?_⟩
        rw [dint]
        refine ite2 (fun y => ?_) (fun y6 => ?_)
        · obtain rfl : b = 6 := of_decide_eq_true y
          have d0 : 0 < d := by
            refine Nat.pos_of_ne_zero fun z => ok6 ⟨rfl, decide_eq_true z⟩
          have eB : rdB bs g 6 a = tupR bs (d - 1) (a + 1) := by
            unfold rdB tupR
            cases rdW bs (a + 1) with
            | none => rfl
            | some p => exact eg d0 _ _
          refine ⟨_, rfl, rd, dx, _, rfl, r2.at_, rfl, _, rfl, _, _, rfl, rfl, d0, rd, dx, q, bs, a + 1, ?_, r2, fun t h v H3 e b3 e3 rp => k'.1 t h v H3 (by show rdB bs g 6 a = _; rw [eB, e]) b3 e3 ?_, fun p dd H3 e b3 e3 => k'.2 p dd H3 (by show rdB bs g 6 a = _; rw [eB, e]) b3 e3⟩
          · show [V.ref rd, V.int ((d : Int) - 1)] = _
            rw [show ((d : Int) - 1) = ((d - 1 : Nat) : Int) by omega]
          · rw [show d - 1 + 1 = d by omega] at rp
            exact rp
        have n3 : b ≠ 3 := fun z => y3 (decide_eq_true z)
        have n4 : b ≠ 4 := fun z => y4 (decide_eq_true z)
        have n5 : b ≠ 5 := fun z => y5 (decide_eq_true z)
        have n6 : b ≠ 6 := fun z => y6 (decide_eq_true z)
        rcases (show b = 0 ∨ b = 1 ∨ b = 2 by omega) with rfl | rfl | rfl
        · exact ⟨_, rfl, aB, _, 0, .non, rfl, rfl, kB.sq _, atI_nat (j := 0) rfl, k'.1 .non (a + 1) _ _ rfl .rf r2.at_ (Rep.atom (t := .non) (v := .non) rfl)⟩
        · exact ⟨_, rfl, aB, _, 1, .bl false, rfl, rfl, kB.sq _, atI_nat (j := 1) rfl, k'.1 (.bl false) (a + 1) _ _ rfl .rf r2.at_ (Rep.atom (t := .bl false) (v := .bl false) rfl)⟩
        · exact ⟨_, rfl, aB, _, 2, .bl true, rfl, rfl, kB.sq _, atI_nat (j := 2) rfl, k'.1 (.bl true) (a + 1) _ _ rfl .rf r2.at_ (Rep.atom (t := .bl true) (v := .bl true) rfl)⟩
  intro d
  induction d with
  | zero => exact main 0 ⟨fun vs H Q E h => absurd h.1 (by decide), fun A outer s H args us vs Q E hr e0 hb r h => absurd h.1 (by decide)⟩
  | succ d ih => exact main (d + 1) ((ok_rt T M B BT ih).imp fun vs H Q E h => h.2)
end
end Q

namespace Q
open PySem L2 QR
abbrev sRAll : Stmt := top 36
abbrev sUns : Stmt := top 9999
theorem lay_ints : ∀ l : List Int, PyData.canLayAll0 (l.map PyData.int) = true
  | [] => by simp [PyData.canLayAll0]
  | a :: r => by
    have ih := lay_ints r
    simp only [List.map_cons, PyData.canLayAll0, PyData.canLay0, ih, Bool.and_self]
theorem eqv_ints : ∀ x y : List Int, PyData.eqvAll (x.map PyData.int) (y.map PyData.int) = decide (x = y)
  | [], [] => by simp [PyData.eqvAll]
  | [], _ :: _ => by simp [PyData.eqvAll]
  | _ :: _, [] => by simp [PyData.eqvAll]
  | a :: x, b :: y => by
    have ih := eqv_ints x y
    simp only [List.map_cons, PyData.eqvAll, PyData.eqv, ih]
    by_cases c : a = b
    · subst c
      simp
    · simp [c]
theorem dp_ints {K : PySem.W.Frag} {H : Hp} : ∀ l : List Int, DpAll K H (l.map V.int) (l.map PyData.int)
  | [] => .nil
  | a :: r => .cons (.int a) (dp_ints r)
theorem depth_ints : ∀ l : List Int, PyData.depthAll (l.map PyData.int) = 0
  | [] => by simp [PyData.depthAll]
  | a :: r => by
    have ih := depth_ints r
    rw [List.map_cons]
    simp only [PyData.depthAll, PyData.depth, ih]
    rfl
theorem shaped_ints (l : List Int) : SeqAt.shaped (.tuple (l.map PyData.int)) = true := by
  unfold SeqAt.shaped
  have h := depth_ints l
  refine Bool.and_eq_true_iff.mpr ⟨?_, decide_eq_true ?_⟩
  · simp only [PyData.canLay0, lay_ints]
  · simp only [PyData.depth, h]
    decide
/-- t == u, t != u: tuples of whole numbers -/
def rEqI (f : Bool → Bool) : R2 := fun x y H Q => ∃ (a b : Addr) (ns ms : List Int), x = .ref a ∧ y = .ref b ∧ H a = some (.tup (ns.map V.int)) ∧ H b = some (.tup (ms.map V.int)) ∧ Q (.bl (f (decide (ns = ms)))) H
theorem op_neI {X : Cx} (hu : X.A.units + 64 < cLine) : OpR X (compareOp .NotEq) (rEqI fun b => !b) := by
  intro pins s σ H x y v u Q I rx ry h
  obtain ⟨a, b, ns, ms, rfl, rfl, ha, hb, k⟩ := h
  refine op_neD hu pins s σ H _ _ v u Q I rx ry ⟨_, _, .tup (SqT.of ha) (dp_ints ns), .tup (SqT.of hb) (dp_ints ms), shaped_ints ns, shaped_ints ms, ?_⟩
  simp only [PyData.eqv, eqv_ints]
  exact k
theorem op_eqI {X : Cx} (hu : X.A.units + 64 < cLine) : OpR X (compareOp .Eq) (rEqI fun b => b) := by
  intro pins s σ H x y v u Q I rx ry h
  obtain ⟨a, b, ns, ms, rfl, rfl, ha, hb, k⟩ := h
  refine op_eqD hu pins s σ H _ _ v u Q I rx ry ⟨_, _, .tup (SqT.of ha) (dp_ints ns), .tup (SqT.of hb) (dp_ints ms), shaped_ints ns, shaped_ints ms, ?_⟩
  simp only [PyData.eqv, eqv_ints]
  exact k
theorem cut_h4 (xs : List V) : cutV xs none (some (-4)) = xs.take (xs.length - 4) := by
  have e : HT.sIx xs.length xs.length (some (-4)) = xs.length - 4 := by
    show (if (-4 : Int) < 0 then ((-4 : Int) + (xs.length : Int)).toNat else min (-4 : Int).toNat xs.length) = _
    rw [if_pos (by decide)]
    omega
  unfold cutV
  rw [HT.sIx_none, e, List.drop_zero, Nat.sub_zero]
theorem cut_t4 (xs : List V) : cutV xs (some (-4)) none = xs.drop (xs.length - 4) := by
  have e : HT.sIx xs.length 0 (some (-4)) = xs.length - 4 := by
    show (if (-4 : Int) < 0 then ((-4 : Int) + (xs.length : Int)).toNat else min (-4 : Int).toNat xs.length) = _
    rw [if_pos (by decide)]
    omega
  unfold cutV
  rw [HT.sIx_none, e, List.take_of_length_le (by rw [List.length_drop]; omega)]
theorem RowAt.sub {H : Hp} {q : Addr} {bs cs : List Int} (h : ∀ b ∈ bs, 0 ≤ b ∧ b < 256) (l : bs.length ≤ 9000) (e : H q = some (.tup (cs.map V.int))) (s : ∀ b ∈ cs, b ∈ bs) (k : cs.length ≤ bs.length) : RowAt H q cs := ⟨e, fun b hb => h b (s b hb), by omega⟩
def spRAll (CB : Addr) : Sp := fun vs H Q E => ∃ (q : Addr) (bs : List Int), vs = [.ref q] ∧ RowAt H q bs ∧ (∀ t h v H', rdAll bs = .ok t h → Same H H' → Rep H' 20 t v → Q v H') ∧ ∀ p d H', rdAll bs = .no p → Same H H' → H' d = some (xdB (p : Int)) → E (.ref CB) (some d) H'
/-- what unsealed is asked of -/
def UnsIn (K : PySem.W.Frag) (H : Hp) (v : V) (t : T) : Prop := (∃ q bs, v = .ref q ∧ RowAt H q bs ∧ t = unsT bs) ∨ (∃ q xs, v = .ref q ∧ H q = some (.tup xs) ∧ xs.length ≤ 9000 ∧ (∀ x ∈ xs, Sc x) ∧ xs.all isB = false ∧ t = .tup []) ∨
  (∃ ty, TyX K H v ty ∧ PySem.W.kitOne K ty (.type "tuple") = some false ∧ t = .tup [])
def spUns (K : PySem.W.Frag) : Sp := fun vs H Q _ => ∃ (v : V) (t : T), vs = [v] ∧ UnsIn K H v t ∧ ∀ u H', Same H H' → Rep H' 22 t u → Q u H'
theorem rep_nil {H : Hp} {a : Addr} {d : Nat} (h : H a = some (.tup [])) : Rep H (d + 1) (.tup []) (.ref a) := ⟨a, [], rfl, h, rfl, Nat.zero_le _, fun i x t hx => by simp at hx⟩
theorem rep_one {H : Hp} {a : Addr} {d : Nat} {t : T} {v : V} (h : H a = some (.tup [v])) (r : Rep H d t v) : Rep H (d + 1) (.tup [t]) (.ref a) := ⟨a, [v], rfl, h, rfl, (by show 1 ≤ 9000; decide), fun i x t' hx ht => by
  cases i with
  | zero =>
    cases hx
    cases ht
    exact r
  | succ i => simp at hx⟩
section
variable {P : Program} {w : World} {K : PySem.W.Frag} {mg : Str → Option Value} {base : Heap}
theorem scRAll : FnScope ["row", "reader", "parcel"] ["row"] (defScope sRAll) := ⟨rfl, rfl, rfl, by decide +kernel, rfl, by decide +kernel, by decide +kernel⟩
theorem ok_rall {f CR CB fB fS fG : Addr} {fd dB dS dG : FuncData} (D : Df K mg "read_whole_row" sRAll ["row"] f fd) (T : RTxt K mg CR) (M : RDefs K CR) (B : Bts mg) (C : Cst mg) (BA : Bare K mg) (BT : BTxt K mg CB fB dB) (DS : Df K mg "is_sign" sIsSg ["number"] fS dS) (DG : Df K mg "sign_of" sSgOf ["number"] fG dG) : FnOk P w K mg base (L2.CX P w) 46 f fd ["row"] (spRAll CB) := by
  have GI : FnOk P w K mg base CX0 1 fB dB ["self", "place"] (spPlace CB) := ok_place BT
  have GN : FnOk P w K mg base CX0 1 M.fI M.dI ["self", "row"] (spRInit CR) := ok_rinit T M
  have GP : FnOk P w K mg base (L2.CX P w) 45 M.fP M.dP ["self", "deep"] (spRP CB CR 20) := ok_rp T M B C BA BT DS DG 20
  obtain ⟨t1, h1⟩ := C.deep
  refine D.F.okX scRAll (fun vs H Q E h => ?_) (fun cdv A outer s H vs Q E hr h => ?_)
  · obtain ⟨q, bs, rfl, _⟩ := h
    rfl
  · obtain ⟨q, bs, rfl, hq, k1, k2⟩ := h
    have nd := scRAll.nd
    have hr2 : Room 2 _ := hr.mono (by decide)
    refine ⟨_, pss_cons (ps_set (i := 1) nd rfl (.inl rfl) (pe_make M.mM GN hr2 rfl T.mgC M.bI .nil pass0 (pa_cons (pv 0) pa_nil)))
      (pss_cons (ps_set (i := 2) nd rfl (.inl rfl) (pe_meth (pv 1) T.cl M.mP GP hr M.bP .nil (passes_call (takes_of rfl rfl rfl rfl) fun _ _ _ _ h => h) (pa_cons (pe_glob (v := .int 20) rfl h1 ⟨_, rfl⟩) pa_nil)))
      (pss_cons (ps_if (pt_cmpR op_lt (pe_fld (pv 1) rfl) (pe_callB call_len_seq (by rfl) B.len PySem.boot_len (pa_cons (pv 0) pa_nil)) (nomark _)) (pss_one (ps_raise rfl (takes_of rfl rfl rfl rfl) (pmk_oex BT.ox BT.iC BT.tI GI hr2 BT.b .nil pass0 rfl BT.g (pa_cons (pe_fld (pv 1) rfl) pa_nil)))) pss_nil)
      (pss_one (ps_ret (pv 2))))), ?_⟩
    refine ⟨_, rfl, fun rd dx nr ndx nex => ?_⟩
    have s0 : Same H (upd (upd H dx (.own rd)) rd (.ins CR dx [])) := sNew (sNew sR ndx) nr
    refine ⟨rd, dx, q, rfl, upd_same, fun H1 b1 e1 => ⟨rfl, ?_⟩⟩
    have s1 : Same H H1 := fun b o e => b1 b o (s0 b o e) (ne_of_none e nr)
    have ri : RdIn CR H1 rd dx q bs 0 := ⟨e1, hq.same s1, Nat.zero_le _⟩
    refine ⟨_, rfl, rd, dx, _, rfl, e1, rfl, rd, dx, q, bs, 0, rfl, ri, fun t h v H2 e b2 e2 rp => ?_, fun p d H2 e b2 e2 => ?_⟩
    · obtain ⟨f1, f2⟩ := rdP_fwd 20 0 t h e
      have s2 : Same H H2 := fun b o e => b2 b o (s1 b o e) (ne_of_none e nr)
      refine ⟨_, rfl, rd, CR, dx, _, _, rfl, e2, T.cl, T.nA, rfl, _, rfl, q, _, rfl, .inr (SqT.of (s2 _ _ hq.at_)), _, _, rfl, rfl, _, rfl, ?_⟩
      rw [List.length_map]
      have eA : rdAll bs = if h = bs.length then .ok t h else .no h := by
        unfold rdAll
        rw [e]
      refine ite2 (fun c => ?_) (fun c => ?_)
      · have c : (h : Int) < (bs.length : Int) := of_decide_eq_true c
        rw [if_neg (by omega)] at eA
        exact ⟨_, rfl, rd, CR, dx, _, _, rfl, e2, T.cl, T.nA, rfl, bad_raise fun d H' s e => k2 h d H' eA (sT s2 s) e⟩
      · have c : ¬ (h : Int) < (bs.length : Int) := fun z => c (decide_eq_true z)
        rw [if_pos (by omega)] at eA
        exact ⟨_, rfl, k1 t h v H2 eA s2 rp⟩
    · have s2 : Same H H2 := fun b o e => b2 b o (s1 b o e) (ne_of_none e nr)
      refine k2 p d H2 ?_ s2 e2
      unfold rdAll
      rw [e]
end
end Q

namespace Q
open PySem L2 QR
abbrev sPool : Stmt := top 42
abbrev sDraw : Stmt := top 43
abbrev sIs : Stmt := top 55
abbrev sLW : Stmt := top 46
abbrev sLB : Stmt := top 47
abbrev sLNum : Stmt := top 48
abbrev sLPar : Stmt := top 49
abbrev sSame : Stmt := top 51
theorem sq_same {K : PySem.W.Frag} {H H' : Hp} {a : Addr} {xs : List V} (h : SqL K H a xs) (s : Same H H') : SqL K H' a xs :=
  h.elim (fun h => .inl (h.elim (fun h => .inl (s _ _ h)) fun ⟨o, h⟩ => .inr ⟨o, s _ _ h⟩)) fun h => .inr h
/-- the drawing pool at p, its great numbers at l -/
structure PoolX (H : Hp) (p l : Addr) (seed cnt : Int) (cs : List Int) : Prop where
  at_ : H p = some (.lst [.int seed, .int cnt, .ref l])
  lst : H l = some (.lst (cs.map V.int))
  ne : l ≠ p
  s0 : 0 ≤ seed
  s1 : seed < 2147483647
def PoolAt (H : Hp) (p l : Addr) : Prop := ∃ seed cnt cs, PoolX H p l seed cnt cs
/-- all stands but the pool -/
def Kp (p l : Addr) (H H' : Hp) : Prop := ∀ b o, H b = some o → b ≠ p → b ≠ l → H' b = some o
theorem Kp.rf {p l : Addr} {H : Hp} : Kp p l H H := fun _ _ e _ _ => e
theorem Kp.tr {p l : Addr} {H H1 H2 : Hp} (h : Kp p l H H1) (g : Kp p l H1 H2) : Kp p l H H2 := fun b o e n m => g b o (h b o e n m) n m
theorem Kp.st {p l : Addr} {H H1 H2 : Hp} (h : Kp p l H H1) (s : Same H1 H2) : Kp p l H H2 := fun b o e n m => s b o (h b o e n m)
theorem Kp.of {p l : Addr} {H H1 : Hp} (s : Same H H1) : Kp p l H H1 := fun b o e _ _ => s b o e
theorem Kp.atp {p l : Addr} {H H1 : Hp} {o : HO} (h : Kp p l H H1) : Kp p l H (upd H1 p o) := fun b u e n m => by rw [upd_ne n]; exact h b u e n m
theorem Kp.atl {p l : Addr} {H H1 : Hp} {o : HO} (h : Kp p l H H1) : Kp p l H (upd H1 l o) := fun b u e n m => by rw [upd_ne m]; exact h b u e n m
/-- over a thing that is new -/
theorem Kp.new {p l q : Addr} {H H1 : Hp} {o : HO} (h : Kp p l H H1) (n : H q = none) : Kp p l H (upd H1 q o) := fun b u e n1 n2 => by
  rw [upd_ne (ne_of_none e n)]
  exact h b u e n1 n2
theorem PoolAt.tk {H H' : Hp} {p l : Addr} (g : PoolAt H p l) (k : Kp p l H H') : Tk H H' := fun b xs e => by
  obtain ⟨seed, cnt, cs, x⟩ := g
  exact k b _ e (ne_of e x.at_ (fun z => by cases z)) (ne_of e x.lst (fun z => by cases z))
theorem PoolAt.same {H H' : Hp} {p l : Addr} (g : PoolAt H p l) (s : Same H H') : PoolAt H' p l := by
  obtain ⟨seed, cnt, cs, x⟩ := g
  exact ⟨seed, cnt, cs, s _ _ x.at_, s _ _ x.lst, x.ne, x.s0, x.s1⟩
theorem PoolAt.none {H : Hp} {p l q : Addr} (g : PoolAt H p l) (n : H q = Option.none) : q ≠ p ∧ q ≠ l := by
  obtain ⟨seed, cnt, cs, x⟩ := g
  exact ⟨fun e => (by rw [e, x.at_] at n; cases n), fun e => (by rw [e, x.lst] at n; cases n)⟩
theorem PoolAt.upd {H : Hp} {p l q : Addr} {o : HO} (g : PoolAt H p l) (n1 : q ≠ p) (n2 : q ≠ l) : PoolAt (L2.upd H q o) p l := by
  obtain ⟨seed, cnt, cs, x⟩ := g
  exact ⟨seed, cnt, cs, by rw [upd_ne n1.symm]; exact x.at_, by rw [upd_ne n2.symm]; exact x.lst, x.ne, x.s0, x.s1⟩
def spPool (K : PySem.W.Frag) : Sp := fun vs H Q _ => ∃ (a : Addr) (ns : List Int), vs = [.ref a] ∧ SqL K H a (ns.map V.int) ∧ ns.length ≤ 63 ∧ ∀ (p l : Addr) H', PoolAt H' p l → Same H H' → H p = none → H l = none → Q (.ref p) H'
def spDraw : Sp := fun vs H Q _ => ∃ (p l : Addr) (m : Int), vs = [.ref p, .int m] ∧ PoolAt H p l ∧ 0 < m ∧ m < 1099511627776 ∧ ∀ (d : Int) H', 0 ≤ d → d < m → PoolAt H' p l → Kp p l H H' → Q (.int d) H'
def spIs : Sp := fun vs H Q _ => ∃ i : Int, vs = [.int i, .int i] ∧ i.natAbs.log2 < 1920 ∧ Q (.bl true) H
def spLW : Sp := fun vs H Q _ => ∃ n : Int, vs = [.int n] ∧ 0 ≤ n ∧ (vlq n.toNat).length ≤ 8000 ∧ ∀ z H', Same H H' → H' z = some (.lst ((vlq n.toNat).map V.int)) → Q (.ref z) H'
def spLB (d : Nat) : Sp := fun vs H Q _ => ∃ (t : T) (v : V), vs = [v] ∧ Rep H d t v ∧ OkT d t ∧ (enc d t).length ≤ 8000 ∧ ∀ z H', Same H H' → H' z = some (.lst ((enc d t).map V.int)) → Q (.ref z) H'
def spLNum : Sp := fun vs H Q _ => ∃ (p l : Addr), vs = [.ref p] ∧ PoolAt H p l ∧ ∀ (i : Int) H', PoolAt H' p l → Kp p l H H' → i.natAbs < 2 ^ 55 → Q (.int i) H'
def bnd : Nat → Nat
  | 0 => 30
  | d + 1 => 4 * bnd d + 30
def spLPar (d : Nat) : Sp := fun vs H Q _ => ∃ (p l : Addr), vs = [.ref p, .int (d : Int)] ∧ PoolAt H p l ∧ ∀ (t : T) (v : V) H', PoolAt H' p l → Kp p l H H' → Rep H' d t v → OkT d t → (enc d t).length ≤ bnd d → Q v H'
def spSame (d : Nat) : Sp := fun vs H Q _ => ∃ (t : T) (u v : V), vs = [u, v] ∧ Rep H d t u ∧ Rep H d t v ∧ ∀ H', Same H H' → Q (.bl true) H'
theorem cut_map (ns : List Int) (n : Nat) : cutV (ns.map V.int) none (some (n : Int)) = (ns.take n).map V.int := by
  unfold cutV
  rw [HT.sIx_none, HT.sIx_nat, List.drop_zero, Nat.sub_zero, List.map_take]
  rcases Nat.le_total n (ns.map V.int).length with c | c
  · rw [Nat.min_eq_left c]
  · rw [Nat.min_eq_right c, List.take_length, List.take_of_length_le c]
theorem at_in {α : Type} (xs : List α) {d : Int} (h0 : 0 ≤ d) (h1 : d < xs.length) : ∃ v, v ∈ xs ∧ atI xs d = some v := by
  obtain ⟨n, rfl⟩ : ∃ n : Nat, d = (n : Int) := ⟨d.toNat, by omega⟩
  have hn : n < xs.length := by omega
  exact ⟨xs[n], List.getElem_mem _, atI_nat (List.getElem?_eq_getElem hn)⟩
theorem ix0 {n : Nat} (h : 0 < n) : ixN n 0 = some 0 := by
  unfold ixN
  rw [if_pos (by decide), if_pos (by omega)]
  rfl
section
variable {P : Program} {w : World} {K : PySem.W.Frag} {mg : Str → Option Value} {base : Heap}
theorem scPool : FnScope ["script", "seed", "cell"] ["script"] (defScope sPool) := ⟨rfl, rfl, rfl, by decide +kernel, rfl, by decide +kernel, by decide +kernel⟩
theorem ok_pool {f : Addr} {fd : FuncData} (D : Df K mg "_law_pool" sPool ["script"] f fd) (B : Bts mg) : FnOk P w K mg base CX0 1 f fd ["script"] (spPool K) := by
  refine D.F.ok scPool (fun vs H Q E h => ?_) (fun cdv A outer s H vs Q E hr h => ?_)
  · obtain ⟨a, ns, rfl, _⟩ := h
    rfl
  · obtain ⟨a, ns, rfl, hS, hlen, k⟩ := h
    have nd := scPool.nd
    refine ⟨_, pss_cons (ps_set (i := 1) nd rfl (.inl rfl) (pe_op op_add (pe_op op_add (pe_op op_mod (pe_callTy call_int1 (by rfl) B.int PyProof.Rows.boot_int (pa_cons (pe_callB (cr_sum rfl) (by rfl) B.sum PyProof.Rows.boot_sum (pa_cons (pe_slice sl_list (pv 0) po_none (po_some pe_int)) pa_nil)) pa_nil)) pe_int) (pe_callB call_len_seq (by rfl) B.len PySem.boot_len (pa_cons (pv 0) pa_nil))) pe_int))
      (pss_cons (ps_for PassesOwn.never rfl (pi_list (pe_slice sl_list (pv 0) po_none (po_some pe_int))) (pg_name (i := 2) nd rfl (.inl rfl))
        (pss_one (ps_set (i := 1) nd rfl (.inl rfl) (pe_op op_mod (pe_callTy call_int1 (by rfl) B.int PyProof.Rows.boot_int (pa_cons (pe_op op_add (pe_op op_add (pe_op op_mul (pv 1) pe_int) (pe_op op_mod (pe_callTy call_int1 (by rfl) B.int PyProof.Rows.boot_int (pa_cons (pv 2) pa_nil)) pe_int)) pe_int) pa_nil)) pe_int))))
      (pss_one (ps_ret (pe_lst (pa_cons (pv 1) (pa_cons pe_int (pa_cons (pe_lc (own := [("cell", 2)]) (g := gName 2) (tt := _) rfl nd (pi_list (pe_slice sl_list (pv 0) po_none (po_some pe_int)))
        (blkOk_by (N := ["script", "seed", "cell"]) (sc := defScope sPool) (by decide +kernel)) (fun _ _ _ _ _ => pg_name (i := 2) nd rfl (.inl rfl))
        (fun _ _ _ _ _ => pts_one (pt_cmpR op_ge (pe_callB call_abs (by rfl) B.abs (by decide +kernel) (pa_cons (pv 2) pa_nil)) (pe_op op_pow pe_int pe_int) (nomark _)))
        (fun _ _ _ _ _ => pe_callB call_abs (by rfl) B.abs (by decide +kernel) (pa_cons (pv 2) pa_nil))) pa_nil))))))), ?_⟩
    have e63 : ns.take 63 = ns := List.take_of_length_le hlen
    have c63 : cutV (ns.map V.int) none (some 63) = ns.map V.int := by rw [show (63 : Int) = ((63 : Nat) : Int) by decide, cut_map, e63]
    have c1 : cutV (ns.map V.int) none (some 1) = (ns.take 1).map V.int := cut_map ns 1
    refine ⟨_, rfl, _, rfl, a, _, rfl, hS, fun q1 hq1 => ?_⟩
    rw [c1]
    have s1 := sN (o := .lst ((ns.take 1).map V.int)) hq1
    refine ⟨q1, ns.take 1, rfl, SqL.of upd_same, .inl ⟨_, rfl, _, _, rfl, rfl, (by decide : (0 : Int) < 1000003), _, rfl, a, _, rfl, .inl (sq_same hS s1), _, _, rfl, rfl, _, _, rfl, rfl, ?_⟩⟩
    rw [List.length_map]
    have m0 : 0 ≤ (ns.take 1).sum % 1000003 := Int.emod_nonneg _ (by decide)
    have m1 : (ns.take 1).sum % 1000003 < 1000003 := Int.emod_lt_of_pos _ (by decide)
    refine ⟨_, rfl, _, rfl, a, _, rfl, sq_same hS s1, fun q2 hq2 => ?_⟩
    rw [c63]
    have s2 := sT s1 (sN (o := .lst (ns.map V.int)) hq2)
    have e2 : (upd (upd H q1 (.lst ((ns.take 1).map V.int))) q2 (.lst (ns.map V.int))) q2 = some (.lst (ns.map V.int)) := upd_same
    revert s2 e2
    generalize (upd (upd H q1 (.lst ((ns.take 1).map V.int))) q2 (.lst (ns.map V.int))) = H2
    intro s2 e2
    refine ⟨q2, rfl, ⟨_, SqL.of e2⟩, for_list (K := K) (a := q2) (xs := ns.map V.int) (fun i σ H' => ∃ (sd : Int) (x2 : Option V), σ = [some (.ref a), some (.int sd), x2] ∧ H' = H2 ∧ 0 ≤ sd ∧ sd < 2147483647) ?_ ?_ ?_ ?_⟩
    · exact ⟨_, none, rfl, rfl, by omega, by omega⟩
    · rintro i σ H' hi ⟨sd, x2, rfl, rfl, _⟩
      exact SqL.of e2
    · rintro i x σ H' hx ⟨sd, x2, rfl, rfl, h0, h1⟩
      obtain ⟨b, hb, rfl⟩ := at_ints hx
      refine ⟨_, rfl, _, _, rfl, rfl, .inr ⟨by decide, by decide⟩, _, rfl, .inl ⟨_, rfl, _, _, rfl, rfl, (by decide : (0 : Int) < 2147483629), _, _, rfl, rfl, _, _, rfl, rfl, .inl ⟨_, rfl, _, _, rfl, rfl, (by decide : (0 : Int) < 2147483647), _, some (.int b), rfl, rfl, Int.emod_nonneg _ (by decide), Int.emod_lt_of_pos _ (by decide)⟩⟩⟩
    · rintro σ H' ⟨sd, x2, rfl, rfl, h0, h1⟩
      refine ⟨_, rfl, _, rfl, _, rfl, a, _, rfl, sq_same hS s2, fun q3 hq3 => ?_⟩
      rw [c63]
      have s3 := sT s2 (sN (o := .lst (ns.map V.int)) hq3)
      have e3 : (upd H' q3 (.lst (ns.map V.int))) q3 = some (.lst (ns.map V.int)) := upd_same
      revert s3 e3
      generalize (upd H' q3 (.lst (ns.map V.int))) = H3
      intro s3 e3
      refine ⟨q3, rfl, ⟨_, SqL.of e3⟩, fun D hD => lc_list (K := K) (a := q3) (xs := ns.map V.int) (fun i H' => (∃ cs : List Int, H' D = some (.lst (cs.map V.int)) ∧ cs.length ≤ i) ∧ Same H3 H') ?_ ?_ ?_ ?_⟩
      · exact ⟨⟨[], upd_same, Nat.le_refl _⟩, sN hD⟩
      · rintro i H4 hi ⟨_, s4⟩
        exact SqL.of (s4 _ _ e3)
      · rintro i x H4 hx ⟨⟨cs, e4, hc⟩, s4⟩
        obtain ⟨b, hb, rfl⟩ := at_ints hx
        have hi := (List.getElem?_eq_some_iff.mp hb).1
        refine ⟨rfl, _, rfl, _, rfl, _, _, rfl, rfl, ⟨by decide, by decide, by decide⟩, _, _, rfl, rfl, _, rfl, ?_⟩
        refine ite2 (fun _ => ?_) (fun _ => ⟨⟨cs, e4, by omega⟩, s4⟩)
        refine ⟨_, rfl, _, rfl, _, e4, ?_, ⟨cs ++ [if b < 0 then -b else b], ?_, ?_⟩, sNew s4 hD⟩
        · rw [List.length_map]
          exact size_ok (by omega)
        · rw [upd_same, List.map_append]
          rfl
        · rw [List.length_append]
          show _ + 1 ≤ _
          omega
      · rintro H4 ⟨⟨cs, e4, _⟩, s4⟩
        refine ⟨(by show 3 ≤ sizeLine; decide), fun p hp => k p D _ ⟨sd, 0, cs, upd_same, ?_, ?_, h0, h1⟩ (sT s3 (sT s4 (sN hp))) (sNo (sT s3 s4) hp) (sNo s3 hD)⟩
        · rw [upd_ne (ne_of_none e4 hp)]
          exact e4
        · exact ne_of_none e4 hp
theorem scDraw : FnScope ["pool", "many", "cells", "digit", "mixed"] ["pool", "many"] (defScope sDraw) := ⟨rfl, rfl, rfl, by decide +kernel, rfl, by decide +kernel, by decide +kernel⟩
theorem ok_draw {f : Addr} {fd : FuncData} (D : Df K mg "_law_draw" sDraw ["pool", "many"] f fd) (B : Bts mg) : FnOk P w K mg base CX0 1 f fd ["pool", "many"] spDraw := by
  refine D.F.ok scDraw (fun vs H Q E h => ?_) (fun cdv A outer s H vs Q E hr h => ?_)
  · obtain ⟨p, l, m, rfl, _⟩ := h
    rfl
  · obtain ⟨p, l, m, rfl, ⟨seed, cnt, cs, x⟩, hm0, hm1, k⟩ := h
    have nd := scDraw.nd
    refine ⟨_, pss_cons (ps_asg (pe_op op_add (pe_ix ix_list (pv 0) pe_int (fun _ _ => rfl)) pe_int) (pg_sub (pv 0) pe_int set_list))
      (pss_cons (ps_set (i := 2) nd rfl (.inl rfl) (pe_ix ix_list (pv 0) pe_int (fun _ _ => rfl)))
      (pss_cons (ps_if (pt_cmpR op_gt (pe_callB call_len_seq (by rfl) B.len PySem.boot_len (pa_cons (pv 2) pa_nil)) pe_int (nomark _))
          (pss_cons (ps_set (i := 3) nd rfl (.inl rfl) (pe_op op_mod (pe_callTy call_int1 (by rfl) B.int PyProof.Rows.boot_int (pa_cons (pe_ix ix_list (pv 2) pe_int (fun _ _ => rfl)) pa_nil)) (pv 1)))
          (pss_cons (ps_asg (pe_op op_fdivW (pe_callTy call_int1 (by rfl) B.int PyProof.Rows.boot_int (pa_cons (pe_ix ix_list (pv 2) pe_int (fun _ _ => rfl)) pa_nil)) (pv 1)) (pg_sub (pv 2) pe_int set_list))
          (pss_cons (ps_if (pt_cmpR op_eq (pe_ix ix_list (pv 2) pe_int (fun _ _ => rfl)) pe_int (nomark _))
            (pss_one (ps_expr (pe_bm PySem.F.plainAttrs_list PySem.F.slot_list_pop PySem.F.type_list_pop mt_popAt (pv 2) (pa_cons pe_int pa_nil)))) pss_nil)
          (pss_one (ps_ret (pv 3)))))) pss_nil)
      (pss_cons (ps_set (i := 4) nd rfl (.inl rfl) (pe_op op_mod (pe_callTy call_int1 (by rfl) B.int PyProof.Rows.boot_int (pa_cons (pe_op op_mul (pe_op op_add (pe_ix ix_list (pv 0) pe_int (fun _ _ => rfl)) (pe_op op_mul pe_int (pe_ix ix_list (pv 0) pe_int (fun _ _ => rfl)))) pe_int) pa_nil)) pe_int))
      (pss_cons (ps_set (i := 4) nd rfl (.inl rfl) (pe_op op_mod (pe_callTy call_int1 (by rfl) B.int PyProof.Rows.boot_int (pa_cons (pe_op op_mul (pv 4) (pe_op op_add (pe_op op_fdiv (pv 4) pe_int) pe_int)) pa_nil)) pe_int))
      (pss_cons (ps_set (i := 4) nd rfl (.inl rfl) (pe_op op_mod (pe_callTy call_int1 (by rfl) B.int PyProof.Rows.boot_int (pa_cons (pe_op op_mul (pv 4) (pe_op op_add (pe_op op_fdiv (pv 4) pe_int) pe_int)) pa_nil)) pe_int))
      (pss_one (ps_ret (pe_op op_mod (pe_callTy call_int1 (by rfl) B.int PyProof.Rows.boot_int (pa_cons (pe_op op_fdiv (pv 4) pe_int) pa_nil)) (pv 1))))))))), ?_⟩
    refine ⟨_, rfl, p, _, 1, _, rfl, rfl, SqL.of x.at_, atI_nat (j := 1) rfl, _, _, rfl, rfl, _, rfl, p, _, 1, 1, rfl, rfl, x.at_, rfl, ?_⟩
    have k1 : Kp p l H (upd H p (.lst [.int seed, .int (cnt + 1), .ref l])) := Kp.rf.atp
    have x1 : PoolX (upd H p (.lst [.int seed, .int (cnt + 1), .ref l])) p l seed (cnt + 1) cs := ⟨upd_same, by rw [upd_ne x.ne]; exact x.lst, x.ne, x.s0, x.s1⟩
    show tSeq _ _ _ _ (upd H p (.lst [.int seed, .int (cnt + 1), .ref l]))
    revert k1 x1
    generalize upd H p (.lst [.int seed, .int (cnt + 1), .ref l]) = H1
    intro k1 x1
    refine ⟨_, rfl, p, _, 2, _, rfl, rfl, SqL.of x1.at_, atI_nat (j := 2) rfl, ?_⟩
    refine ⟨_, rfl, l, _, rfl, .inl (SqL.of x1.lst), _, _, rfl, rfl, _, rfl, ?_⟩
    refine ite2 (fun c => ?_) (fun _ => ?_)
    · have c : 0 < cs.length := by
        have z : (0 : Int) < ((cs.map V.int).length : Nat) := of_decide_eq_true c
        rw [List.length_map] at z
        omega
      obtain ⟨c0, cr, rfl⟩ : ∃ c0 cr, cs = c0 :: cr := by
        cases cs with
        | nil => simp at c
        | cons c0 cr => exact ⟨c0, cr, rfl⟩
      have a0 : ∀ (y : Int), atI ((y :: cr).map V.int) 0 = some (V.int y) := fun y => atI_nat (j := 0) rfl
      refine ⟨_, rfl, l, _, 0, _, rfl, rfl, SqL.of x1.lst, a0 c0, .inl ⟨_, rfl, _, rfl, _, _, rfl, rfl, hm0, ?_⟩⟩
      refine ⟨_, rfl, l, _, 0, _, rfl, rfl, SqL.of x1.lst, a0 c0, .inl ⟨_, rfl, _, rfl, _, _, rfl, rfl, wide_div (b := 40) hm0 (by omega) (by decide) (by decide), _, rfl, l, _, 0, 0, rfl, rfl, x1.lst, ix0 (by simp), ?_⟩⟩
      have k2 : Kp p l H (upd H1 l (.lst ((c0 / m :: cr).map V.int))) := k1.atl
      have x2 : PoolX (upd H1 l (.lst ((c0 / m :: cr).map V.int))) p l seed (cnt + 1) (c0 / m :: cr) := ⟨by rw [upd_ne x.ne.symm]; exact x1.at_, upd_same, x.ne, x.s0, x.s1⟩
      show tSeq _ _ _ _ (upd H1 l (.lst ((c0 / m :: cr).map V.int)))
      revert k2 x2
      generalize upd H1 l (.lst ((c0 / m :: cr).map V.int)) = H2
      intro k2 x2
      have d0 : 0 ≤ c0 % m := Int.emod_nonneg _ (by omega)
      have d1 : c0 % m < m := Int.emod_lt_of_pos _ hm0
      refine ⟨_, rfl, l, _, 0, _, rfl, rfl, SqL.of x2.lst, a0 _, rfl, _, rfl, ite2 (fun _ => ?_) (fun _ => ?_)⟩
      · refine ⟨_, rfl, .inl ⟨rfl, _, SqL.of x2.lst⟩, l, _, 0, 0, _, rfl, rfl, x2.lst, by decide, by decide, ?_, rfl, ?_⟩
        · rw [PySem.seqIndex_of (by decide) (by rw [List.length_map, List.length_cons]; omega)]
          rfl
        · exact ⟨_, rfl, k _ _ d0 d1 ⟨seed, cnt + 1, cr, by rw [upd_ne x.ne.symm]; exact x2.at_, upd_same, x.ne, x.s0, x.s1⟩ k2.atl⟩
      · exact ⟨_, rfl, k _ _ d0 d1 ⟨_, _, _, x2⟩ k2⟩
    · refine ⟨_, rfl, p, _, 0, _, rfl, rfl, SqL.of x1.at_, atI_nat (j := 0) rfl, _, rfl, p, _, 1, _, rfl, rfl, SqL.of x1.at_, atI_nat (j := 1) rfl, _, _, rfl, rfl, .inl ⟨by decide, by decide⟩, _, _, rfl, rfl, _, _, rfl, rfl, .inr ⟨by decide, by decide⟩, .inl ⟨_, rfl, _, _, rfl, rfl, (by decide : (0 : Int) < 2147483647), ?_⟩⟩
      have z0 : 0 ≤ (seed + 7919 * (cnt + 1)) * 48271 % 2147483647 := Int.emod_nonneg _ (by decide)
      have z1 : (seed + 7919 * (cnt + 1)) * 48271 % 2147483647 < 2147483647 := Int.emod_lt_of_pos _ (by decide)
      revert z0 z1
      generalize (seed + 7919 * (cnt + 1)) * 48271 % 2147483647 = s2
      intro z0 z1
      refine ⟨_, rfl, _, rfl, _, _, rfl, rfl, ⟨by decide, by decide⟩, _, _, rfl, rfl, _, _, rfl, rfl, .inl ⟨by omega, by omega⟩, .inl ⟨_, rfl, _, _, rfl, rfl, (by decide : (0 : Int) < 2147483647), ?_⟩⟩
      have q0 : 0 ≤ (s2 * (s2 / 1009 + 69621)) % 2147483647 := Int.emod_nonneg _ (by decide)
      have q1 : (s2 * (s2 / 1009 + 69621)) % 2147483647 < 2147483647 := Int.emod_lt_of_pos _ (by decide)
      revert q0 q1
      generalize (s2 * (s2 / 1009 + 69621)) % 2147483647 = n1
      intro q0 q1
      refine ⟨_, rfl, _, rfl, _, _, rfl, rfl, ⟨by decide, by decide⟩, _, _, rfl, rfl, _, _, rfl, rfl, .inl ⟨by omega, by omega⟩, .inl ⟨_, rfl, _, _, rfl, rfl, (by decide : (0 : Int) < 2147483399), ?_⟩⟩
      refine ⟨_, rfl, _, _, rfl, rfl, ⟨by decide, by decide⟩, .inl ⟨_, rfl, _, rfl, _, _, rfl, rfl, hm0, ?_⟩⟩
      exact k _ _ (Int.emod_nonneg _ (by omega)) (Int.emod_lt_of_pos _ hm0) ⟨_, _, _, x1⟩ k1
theorem scIs : FnScope ["told", "due"] ["told", "due"] (defScope sIs) := ⟨rfl, rfl, rfl, by decide +kernel, rfl, by decide +kernel, by decide +kernel⟩
theorem ok_is {f : Addr} {fd : FuncData} (D : Df K mg "_law_is" sIs ["told", "due"] f fd) (B : Bts mg) : FnOk P w K mg base CX0 1 f fd ["told", "due"] spIs := by
  refine D.F.ok scIs (fun vs H Q E h => ?_) (fun cdv A outer s H vs Q E hr h => ?_)
  · obtain ⟨i, rfl, _⟩ := h
    rfl
  · obtain ⟨i, rfl, hl, k⟩ := h
    refine ⟨_, pss_one (ps_ret (pe_cmpR op_eq (pe_callB SkE.call_repr_int (by rfl) B.repr PyProof.Rows.boot_repr (pa_cons (pv 0) pa_nil)) (pe_callB SkE.call_repr_int (by rfl) B.repr PyProof.Rows.boot_repr (pa_cons (pv 1) pa_nil)) (nomark _))), ?_⟩
    refine ⟨_, rfl, i, rfl, hl, _, rfl, i, rfl, hl, rfl, ?_⟩
    rw [decide_eq_true rfl]
    exact k
theorem scLW : FnScope ["number", "found"] ["number"] (defScope sLW) := ⟨rfl, rfl, rfl, by decide +kernel, rfl, by decide +kernel, by decide +kernel⟩
theorem ok_lw {f : Addr} {fd : FuncData} (D : Df K mg "_law_whole" sLW ["number"] f fd) : FnOk P w K mg base CX0 1 f fd ["number"] spLW := by
  refine D.F.ok scLW (fun vs H Q E h => ?_) (fun cdv A outer s H vs Q E hr h => ?_)
  · obtain ⟨n, rfl, _⟩ := h
    rfl
  · obtain ⟨n, rfl, n0, few, k⟩ := h
    have nd := scLW.nd
    refine ⟨_, pss_cons (ps_set (i := 1) nd rfl (.inl rfl) (pe_lst pa_nil))
      (pss_cons (ps_while PassesOwn.never (pt_cmpR op_gt (pv 0) pe_int (nomark _))
        (pss_cons (ps_expr (pe_bm PySem.F.plainAttrs_list PySem.F.slot_list_append PySem.F.type_list_append mt_append (pv 1) (pa_cons (pe_op op_add (pe_op op_mod (pv 0) pe_int) pe_int) pa_nil)))
        (pss_one (ps_set (i := 0) nd rfl (.inl rfl) (pe_op op_fdiv (pv 0) pe_int)))))
      (pss_one (ps_ret (pe_op op_cat (pv 1) (pe_lst (pa_cons (pv 0) pa_nil)))))), ?_⟩
    refine ⟨Nat.zero_le _, fun l hl => ?_⟩
    have W0 : ∀ {a b : List Int}, a ++ b = vlq n.toNat → a.length ≤ 8000 := fun {a b} e => by
      have := congrArg List.length e
      rw [List.length_append] at this
      omega
    refine ⟨fun m σ H' => ∃ acc : List Int, σ = [some (.int (m : Int)), some (.ref l)] ∧ H' l = some (.lst (acc.map V.int)) ∧ Same H H' ∧ acc ++ vlq m = vlq n.toNat, ⟨n.toNat, [], ?_, upd_same, sN hl, rfl⟩, ?_⟩
    · rw [Int.toNat_of_nonneg n0]
      rfl
    · rintro m σ H' ⟨acc, rfl, el, s1, e⟩
      refine ⟨_, rfl, _, _, rfl, rfl, _, rfl, ite2 (fun c => ?_) (fun c => ?_)⟩
      · have c : ¬ m < 128 := by
          have c : (127 : Int) < (m : Int) := of_decide_eq_true c
          omega
        refine ⟨fun σ' H' => ∃ acc : List Int, σ' = [some (.int ((m / 128 : Nat) : Int)), some (.ref l)] ∧ H' l = some (.lst (acc.map V.int)) ∧ Same H H' ∧ acc ++ vlq (m / 128) = vlq n.toNat, fun σ' H' h => ⟨m / 128, by omega, h⟩, ?_⟩
        refine ⟨_, rfl, .inl ⟨rfl, _, SqL.of el⟩, _, rfl, _, _, rfl, rfl, (by decide : (0 : Int) < 128), _, _, rfl, rfl, l, _, _, rfl, rfl, el, by rw [List.length_map]; exact size_ok (by have := W0 e; omega), ?_⟩
        refine ⟨_, rfl, _, _, rfl, rfl, ⟨by decide, by decide⟩, acc ++ [(m : Int) % 128 + 128], ?_, ?_, sNew s1 hl, ?_⟩
        · show [some (V.int ((m : Int) / 128)), some (V.ref l)] = _
          rw [show ((m : Int) / 128) = ((m / 128 : Nat) : Int) by omega]
        · rw [upd_same, List.map_append]
          rfl
        · rw [vlq_ge c] at e
          rw [List.append_assoc, ← e, show ((m : Int) % 128 + 128) = ((128 + m % 128 : Nat) : Int) by omega]
          rfl
      · have c : m < 128 := by
          have c : ¬ (127 : Int) < (m : Int) := fun z => c (decide_eq_true z)
          omega
        rw [vlq_lt c] at e
        refine ⟨_, rfl, _, rfl, (by show 1 ≤ sizeLine; decide), fun b hb => ?_⟩
        have elb : upd H' b (.lst [.int (m : Int)]) l = some (.lst (acc.map V.int)) := by
          rw [upd_ne (ne_of_none el hb)]
          exact el
        refine ⟨l, b, _, _, rfl, rfl, elb, upd_same, ?_, fun z hz => ?_⟩
        · rw [List.length_map]
          exact Nat.le_of_lt (size_ok (by have := W0 e; show _ + 1 ≤ _; omega))
        · refine k z _ (sT s1 (sT (sN hb) (sN hz))) ?_
          rw [upd_same, ← e, List.map_append]
          rfl
end
end Q

namespace Q
open PySem L2 QR
theorem walk_zipT {K : PySem.W.Frag} {a b : Addr} {xs ys : List V} {n : Nat} (hn : n = min xs.length ys.length) : Walk (RZ.ItzT K a b) n (fun H => SqT K H a xs ∧ SqT K H b ys) (YPair (fun i => xs[i]?) (fun i => ys[i]?)) := by
  subst hn
  refine ⟨fun i H hi q => ?_, fun H q => ⟨xs, ys, q.1, q.2, by omega⟩, fun i H v H' hi q y => ?_⟩
  · have h1 : i < xs.length := Nat.lt_of_lt_of_le hi (Nat.min_le_left _ _)
    have h2 : i < ys.length := Nat.lt_of_lt_of_le hi (Nat.min_le_right _ _)
    exact ⟨xs, ys, _, _, q.1, q.2, List.getElem?_eq_getElem h1, List.getElem?_eq_getElem h2⟩
  · obtain ⟨T, x, z, e1, e2, e3, e4, e5⟩ := y
    exact ⟨T, x, z, e1, e2, e3, e4 xs q.1, e5 ys q.2⟩
theorem rep_true (n : Nat) : (List.replicate n true).all id = true := by
  rw [List.all_eq_true]
  intro x hx
  rw [(List.mem_replicate.mp hx).2]
  rfl
theorem isI (a b : Nat) : decide (V.bl (decide (a = b)) = V.bl (decide (a = b))) = true := decide_eq_true rfl
section
variable {P : Program} {w : World} {K : PySem.W.Frag} {mg : Str → Option Value} {base : Heap}
theorem scLB : FnScope ["parcel", "found", "part", "sign"] ["parcel"] (defScope sLB) := ⟨rfl, rfl, rfl, by decide +kernel, rfl, by decide +kernel, by decide +kernel⟩
theorem ok_lb {f fW : Addr} {fd fdW : FuncData} (D : Df K mg "_law_bytes" sLB ["parcel"] f fd) (B : Bts mg) (DW : Df K mg "_law_whole" sLW ["number"] fW fdW) : ∀ d, FnOk P w K mg base CX0 (d + 2) f fd ["parcel"] (spLB d) := by
  have GW : FnOk P w K mg base CX0 1 fW fdW ["number"] spLW := ok_lw DW
  have main : ∀ d, FnOk P w K mg base CX0 (d + 1) f fd ["parcel"] (fun vs H Q E => 0 < d ∧ spLB (d - 1) vs H Q E) → FnOk P w K mg base CX0 (d + 2) f fd ["parcel"] (spLB d) := by
    intro d IH
    refine D.F.ok scLB (fun vs H Q E h => ?_) (fun cdv A outer s H vs Q E hr h => ?_)
    · obtain ⟨t, v, rfl, _⟩ := h
      rfl
    · obtain ⟨t, v, rfl, rep, ok, few, k⟩ := h
      have nd := scLB.nd
      have hr1 : Room 1 _ := hr.mono (by omega)
      refine ⟨_, pss_cons (ps_if (pt_cmp (pc_isN (pv 0))) (pss_one (ps_ret (pe_lst (pa_cons pe_int pa_nil)))) pss_nil)
        (pss_cons (ps_if (pt_val (pe_callB call_isi (by rfl) B.isinstance PyProof.Rows.boot_isinstance (pa_cons (pv 0) (pa_cons (pe_bltn (v := .ty "bool") rfl B.bool (by decide +kernel) rfl) pa_nil)))) (pss_one (ps_ret (pe_lst (pa_cons (pe_op op_add pe_int (pe_callTy call_int1 (by rfl) B.int PyProof.Rows.boot_int (pa_cons (pv 0) pa_nil))) pa_nil)))) pss_nil)
        (pss_cons (ps_if (pt_val (pe_callB call_isi (by rfl) B.isinstance PyProof.Rows.boot_isinstance (pa_cons (pv 0) (pa_cons (pe_bltn (v := .ty "int") rfl B.int PyProof.Rows.boot_int rfl) pa_nil)))) (pss_one (ps_ret (pe_ifExp (pt_cmpR op_ge (pv 0) pe_int (nomark _))
            (pe_op op_cat (pe_lst (pa_cons pe_int pa_nil)) (pe_call GW hr1 rfl DW.m DW.k DW.b .nil pass0 (pa_cons (pv 0) pa_nil)))
            (pe_op op_cat (pe_lst (pa_cons pe_int pa_nil)) (pe_call GW hr1 rfl DW.m DW.k DW.b .nil pass0 (pa_cons (pe_op op_sub (pe_op op_sub pe_int pe_int) (pv 0)) pa_nil)))))) pss_nil)
        (pss_cons (ps_if (pt_val (pe_callB call_isi (by rfl) B.isinstance PyProof.Rows.boot_isinstance (pa_cons (pv 0) (pa_cons (pe_bltn (v := .ty "str") rfl B.str PyProof.Rows.boot_str rfl) pa_nil)))) (pss_one (ps_ret (pe_op op_cat (pe_op op_cat (pe_lst (pa_cons pe_int pa_nil)) (pe_call GW hr1 rfl DW.m DW.k DW.b .nil pass0 (pa_cons (pe_callB call_len_str (by rfl) B.len PySem.boot_len (pa_cons (pv 0) pa_nil)) pa_nil)))
            (pe_lc (own := [("sign", 3)]) (g := gName 3) (tt := tYes) rfl nd (pi_str (pv 0)) (blkOk_by (N := ["parcel", "found", "part", "sign"]) (sc := defScope sLB) (by decide +kernel)) (fun _ _ _ _ _ => pg_name (i := 3) nd rfl (.inl rfl)) (fun _ _ _ _ _ => pts_nil)
              (fun _ _ _ _ _ => pe_callB call_ord (by rfl) B.ord (by decide +kernel) (pa_cons (pv 3) pa_nil)))))) pss_nil)
        (pss_cons (ps_set (i := 1) nd rfl (.inl rfl) (pe_op op_cat (pe_lst (pa_cons pe_int pa_nil)) (pe_call GW hr1 rfl DW.m DW.k DW.b .nil pass0 (pa_cons (pe_callB call_len_seq (by rfl) B.len PySem.boot_len (pa_cons (pv 0) pa_nil)) pa_nil))))
        (pss_cons (ps_for PassesOwn.never rfl (pi_tup (pv 0)) (pg_name (i := 2) nd rfl (.inl rfl)) (pss_one (ps_expr (pe_bm PySem.F.plainAttrs_list PySem.F.slot_list_extend PySem.F.type_list_extend mt_extend (pv 1) (pa_cons (pe_call IH hr rfl D.m D.k D.b .nil pass0 (pa_cons (pv 2) pa_nil)) pa_nil)))))
        (pss_one (ps_ret (pv 1)))))))), ?_⟩
      rcases rep.cases with ⟨rfl, rfl⟩ | ⟨b, rfl, rfl⟩ | ⟨i, rfl, rfl⟩ | ⟨z, rfl, rfl, zl⟩ | ⟨d', ls, a, xs, rfl, rfl, rfl, ha, hll, lfew, hk⟩
      · rw [enc_atom (t := .non) trivial] at few k
        exact ⟨_, rfl, _, rfl, iteT ⟨(by show 1 ≤ sizeLine; decide), fun z hz => k z _ (sN hz) upd_same⟩⟩
      · rw [enc_atom (t := .bl b) trivial] at few k
        refine ⟨_, rfl, _, rfl, iteF ?_⟩
        refine ⟨_, rfl, .bl b, .ty "bool", .type "bool", .type "bool", true, rfl, .ty _, .base (.bl _), kit_ty (by decide +kernel), _, rfl, iteT ?_⟩
        refine ⟨_, rfl, .inr ⟨b, rfl, _, _, rfl, rfl, (by show 1 ≤ sizeLine; decide), fun z hz => k z _ (sN hz) ?_⟩⟩
        rw [upd_same]
        cases b <;> rfl
      · rw [enc_atom (t := .int i) trivial] at few k
        refine ⟨_, rfl, _, rfl, iteF ?_⟩
        refine ⟨_, rfl, .int i, .ty "bool", .type "int", .type "bool", false, rfl, .ty _, .base (.int _), kit_ty (by decide +kernel), _, rfl, iteF ?_⟩
        refine ⟨_, rfl, .int i, .ty "int", .type "int", .type "int", true, rfl, .ty _, .base (.int _), kit_ty (by decide +kernel), _, rfl, iteT ?_⟩
        refine ⟨_, rfl, _, _, rfl, rfl, _, rfl, ite2 (fun c => ?_) (fun c => ?_)⟩
        · have c : 0 ≤ i := of_decide_eq_true c
          rw [encA_int c] at few k
          rw [List.length_cons] at few
          refine ⟨(by show 1 ≤ sizeLine; decide), fun z hz => ⟨_, rfl, i, rfl, c, by omega, fun y H2 s2 hy => ⟨z, y, _, _, rfl, rfl, s2 _ _ upd_same, hy, ?_, fun x hx => k x _ (sT (sN hz) (sT s2 (sN hx))) upd_same⟩⟩⟩
          rw [List.length_map]
          exact Nat.le_of_lt (size_ok (by show 1 + _ ≤ _; omega))
        · have c : ¬ 0 ≤ i := fun z => c (decide_eq_true z)
          rw [encA_neg c] at few k
          rw [List.length_cons] at few
          refine ⟨(by show 1 ≤ sizeLine; decide), fun z hz => ⟨_, _, rfl, rfl, _, rfl, _, _, rfl, rfl, -1 - i, rfl, by omega, by omega, fun y H2 s2 hy => ⟨z, y, _, _, rfl, rfl, s2 _ _ upd_same, hy, ?_, fun x hx => k x _ (sT (sN hz) (sT s2 (sN hx))) upd_same⟩⟩⟩
          rw [List.length_map]
          exact Nat.le_of_lt (size_ok (by show 1 + _ ≤ _; omega))
      · have okz := okT_atom ok
        rw [enc_atom okz] at few k
        have ee : encA (.str z) = 5 :: (vlq z.length ++ z.map fun c : Nat => (c : Int)) := rfl
        rw [ee] at few k
        rw [List.length_cons, List.length_append, List.length_map] at few
        have ez := sOf_len z
        refine ⟨_, rfl, _, rfl, iteF ?_⟩
        refine ⟨_, rfl, .str (sOf z), .ty "bool", .type "str", .type "bool", false, rfl, .ty _, .base (.str _), kit_ty (by decide +kernel), _, rfl, iteF ?_⟩
        refine ⟨_, rfl, .str (sOf z), .ty "int", .type "str", .type "int", false, rfl, .ty _, .base (.str _), kit_ty (by decide +kernel), _, rfl, iteF ?_⟩
        refine ⟨_, rfl, .str (sOf z), .ty "str", .type "str", .type "str", true, rfl, .ty _, .base (.str _), kit_ty (by decide +kernel), _, rfl, iteT ?_⟩
        refine ⟨(by show 1 ≤ sizeLine; decide), fun q hq => ⟨_, rfl, sOf z, rfl, by rw [ez]; exact Nat.le_of_lt (size_ok (by omega)), (z.length : Int), by rw [ez]; rfl, by omega, by rw [Int.toNat_natCast]; omega, fun y H2 s2 hy => ?_⟩⟩
        rw [Int.toNat_natCast] at hy
        refine ⟨q, y, _, _, rfl, rfl, s2 _ _ upd_same, hy, ?_, fun x hx => ?_⟩
        · rw [List.length_map]
          exact Nat.le_of_lt (size_ok (by show 1 + _ ≤ _; omega))
        have s3 := sT (sN hq) (sT s2 (sN (o := .lst ([.int 5] ++ (vlq z.length).map V.int)) hx))
        have e3 : (upd H2 x (.lst ([.int 5] ++ (vlq z.length).map V.int))) x = some (.lst ([.int 5] ++ (vlq z.length).map V.int)) := upd_same
        revert s3 e3
        generalize (upd H2 x (.lst ([.int 5] ++ (vlq z.length).map V.int))) = H3
        intro s3 e3
        refine ⟨_, rfl, sOf z, rfl, fun D hD => lc_it (walk_str (z := sOf z)) (fun i H' => H' D = some (.lst ((z.take i).map fun c => V.int ((c : Nat) : Int))) ∧ i ≤ z.length ∧ Same H3 H') ?_ ?_ ?_ ?_⟩
        · exact ⟨upd_same, Nat.zero_le _, sN hD⟩
        · rintro i H' hi _
          trivial
        · rintro i x' H1 H' hi ⟨eD, il, s1⟩ ⟨rfl, c, hc, rfl⟩
          have hc := sOf_at hc
          refine ⟨rfl, ?_⟩
          refine ⟨_, rfl, _, rfl, rfl, _, eD, ?_, ?_, (List.getElem?_eq_some_iff.mp hc).1, sNew s1 hD⟩
          · rw [List.length_map, List.length_take]
            exact size_ok (by omega)
          · rw [upd_same, take_more hc, List.map_append]
            rfl
        · rintro H4 ⟨eD, _, s4⟩
          have esz : (sOf z).cps.size = z.length := ez
          rw [esz, List.take_length] at eD
          refine ⟨x, D, _, _, rfl, rfl, s4 _ _ e3, eD, ?_, fun y2 hy2 => k y2 _ (sT s3 (sT s4 (sN hy2))) ?_⟩
          · simp only [List.length_append, List.length_map, List.length_singleton]
            exact Nat.le_of_lt (size_ok (by omega))
          · rw [upd_same]
            simp only [List.map_cons, List.map_append, List.append_assoc, List.cons_append, List.nil_append, List.map_map]
            rfl
      · have okl : ∀ t ∈ ls, OkT d' t := ok
        have ee : enc (d' + 1) (.tup ls) = 6 :: (vlq ls.length ++ (ls.map (enc d')).flatten) := rfl
        rw [ee] at few k
        rw [List.length_cons, List.length_append] at few
        refine ⟨_, rfl, _, rfl, iteF ?_⟩
        refine ⟨_, rfl, .ref a, .ty "bool", .type "tuple", .type "bool", false, rfl, .ty _, .base (.tup ha), kit_ty (by decide +kernel), _, rfl, iteF ?_⟩
        refine ⟨_, rfl, .ref a, .ty "int", .type "tuple", .type "int", false, rfl, .ty _, .base (.tup ha), kit_ty (by decide +kernel), _, rfl, iteF ?_⟩
        refine ⟨_, rfl, .ref a, .ty "str", .type "tuple", .type "str", false, rfl, .ty _, .base (.tup ha), kit_ty (by decide +kernel), _, rfl, iteF ?_⟩
        refine ⟨(by show 1 ≤ sizeLine; decide), fun q hq => ⟨_, rfl, a, xs, rfl, .inr (SqT.of (sN hq _ _ ha)), (ls.length : Int), by rw [hll]; rfl, by omega, by rw [Int.toNat_natCast]; omega, fun y H2 s2 hy => ?_⟩⟩
        rw [Int.toNat_natCast] at hy
        refine ⟨q, y, _, _, rfl, rfl, s2 _ _ upd_same, hy, ?_, fun l hl => ?_⟩
        · rw [List.length_map]
          exact Nat.le_of_lt (size_ok (by show 1 + _ ≤ _; omega))
        have s20 := sT (sN hq) s2
        have s3 := sT s20 (sN (o := .lst ([.int 6] ++ (vlq ls.length).map V.int)) hl)
        have e3 : (upd H2 l (.lst ([.int 6] ++ (vlq ls.length).map V.int))) l = some (.lst ([.int 6] ++ (vlq ls.length).map V.int)) := upd_same
        have nl : H l = none := sNo s20 hl
        revert s3 e3
        generalize (upd H2 l (.lst ([.int 6] ++ (vlq ls.length).map V.int))) = H3
        intro s3 e3
        refine ⟨_, rfl, a, rfl, ⟨_, SqT.of (s3 _ _ ha)⟩, for_tup (K := K) (a := a) (xs := xs) (fun i σ H' => ∃ x2 x3, σ = [some (.ref a), some (.ref l), x2, x3] ∧ Same H H' ∧ H' l = some (.lst ([.int 6] ++ (vlq ls.length).map V.int ++ (((ls.take i).map (enc d')).flatten).map V.int))) ?_ ?_ ?_ ?_⟩
        · refine ⟨none, none, rfl, s3, ?_⟩
          rw [e3]
          simp
        · rintro i σ H' hi ⟨x2, x3, rfl, s, e⟩
          exact SqT.of (s _ _ ha)
        · rintro i x σ H' hx ⟨x2, x3, rfl, s, e⟩
          have hi := (List.getElem?_eq_some_iff.mp hx).1
          have hil : i < ls.length := by omega
          have ht : ls[i]? = some ls[i] := List.getElem?_eq_getElem hil
          have ft := flat_take (d := d') ls (i + 1)
          rw [take_more ht, List.map_append, List.flatten_append, List.length_append] at ft
          have e1 : (([ls[i]].map (enc d')).flatten) = enc d' ls[i] := by simp
          rw [e1] at ft
          refine ⟨_, rfl, .inl ⟨rfl, _, SqL.of e⟩, _, rfl, by omega, ls[i], x, rfl, (hk i x _ hx ht).same s, okl _ (List.mem_of_getElem? ht), ?_, fun y4 H4 s4 hy4 => ⟨l, y4, _, _, rfl, rfl, s4 _ _ e, hy4, ?_, _, x3, rfl, sNew (sT s s4) nl, ?_⟩⟩
          · simp only [Nat.add_sub_cancel]
            omega
          · simp only [List.length_append, List.length_map, List.length_singleton, Nat.add_sub_cancel]
            exact Nat.le_of_lt (size_ok (by omega))
          · rw [upd_same, take_more ht, List.map_append, List.flatten_append, e1, List.map_append, ← List.append_assoc]
            rfl
        · rintro σ H' ⟨x2, x3, rfl, s, e⟩
          refine ⟨_, rfl, k l H' s ?_⟩
          rw [e, hll, List.take_length]
          simp only [List.map_cons, List.map_append, List.append_assoc, List.cons_append, List.nil_append]
  intro d
  induction d with
  | zero => exact main 0 ⟨fun vs H Q E h => absurd h.1 (by decide), fun A outer s H args us vs Q E hr e0 hb r h => absurd h.1 (by decide)⟩
  | succ d ih => exact main (d + 1) (ih.imp fun vs H Q E h => h.2)
theorem scSame : FnScope ["one", "other", "first", "later"] ["one", "other"] (defScope sSame) := ⟨rfl, rfl, rfl, by decide +kernel, rfl, by decide +kernel, by decide +kernel⟩
theorem ok_same {f : Addr} {fd : FuncData} (D : Df K mg "_law_same" sSame ["one", "other"] f fd) (B : Bts mg) : ∀ d, FnOk P w K mg base CX0 (d + 1) f fd ["one", "other"] (spSame d) := by
  have main : ∀ d, FnOk P w K mg base CX0 d f fd ["one", "other"] (fun vs H Q E => 0 < d ∧ spSame (d - 1) vs H Q E) → FnOk P w K mg base CX0 (d + 1) f fd ["one", "other"] (spSame d) := by
    intro d IH
    refine D.F.ok scSame (fun vs H Q E h => ?_) (fun cdv A outer s H vs Q E hr h => ?_)
    · obtain ⟨t, u, v, rfl, _⟩ := h
      rfl
    · obtain ⟨t, u, v, rfl, ru, rv, k⟩ := h
      have nd := scSame.nd
      refine ⟨_, pss_cons (ps_if (PW.pt (pw_or (pt_val (pe_callB call_isi (by rfl) B.isinstance PyProof.Rows.boot_isinstance (pa_cons (pv 0) (pa_cons (pe_bltn (v := .ty "tuple") rfl B.tuple PyProof.Rows.boot_tuple rfl) pa_nil)))) (pw_or1 (pt_val (pe_callB call_isi (by rfl) B.isinstance PyProof.Rows.boot_isinstance (pa_cons (pv 1) (pa_cons (pe_bltn (v := .ty "tuple") rfl B.tuple PyProof.Rows.boot_tuple rfl) pa_nil)))))))
          (pss_cons (ps_if (PW.pt (pw_or (pt_not (pt_val (pe_callB call_isi (by rfl) B.isinstance PyProof.Rows.boot_isinstance (pa_cons (pv 0) (pa_cons (pe_bltn (v := .ty "tuple") rfl B.tuple PyProof.Rows.boot_tuple rfl) pa_nil))))) (pw_or (pt_not (pt_val (pe_callB call_isi (by rfl) B.isinstance PyProof.Rows.boot_isinstance (pa_cons (pv 1) (pa_cons (pe_bltn (v := .ty "tuple") rfl B.tuple PyProof.Rows.boot_tuple rfl) pa_nil)))))
            (pw_or1 (pt_cmpR op_ne (pe_callB call_len_seq (by rfl) B.len PySem.boot_len (pa_cons (pv 0) pa_nil)) (pe_callB call_len_seq (by rfl) B.len PySem.boot_len (pa_cons (pv 1) pa_nil)) (nomark _)))))) pss_never pss_nil)
          (pss_one (ps_ret (pe_callB (cr_all rfl) (by rfl) B.all PyProof.Rows.boot_all (pa_cons (pe_lc (own := [("first", 2), ("later", 3)]) (g := gTup K 2 (gCons (gName 2) (gCons (gName 3) gNil))) (tt := tYes) rfl nd (RZ.pi_zipA rfl B.zip (pa_cons (pv 0) (pa_cons (pv 1) pa_nil)))
            (blkOk_by (N := ["one", "other", "first", "later"]) (sc := defScope sSame) (by decide +kernel)) (fun _ _ _ _ _ => pg_tup rfl (pgs_cons (pg_name (i := 2) nd rfl (.inl rfl)) (pgs_cons (pg_name (i := 3) nd rfl (.inl rfl)) pgs_nil))) (fun _ _ _ _ _ => pts_nil)
            (fun _ _ _ _ _ => pe_call IH hr rfl D.m D.k D.b .nil pass0 (pa_cons (pv 2) (pa_cons (pv 3) pa_nil)))) pa_nil))))) pss_nil)
        (pss_cons (ps_if (PW.pt (pw_or (pt_cmpR op_ne (pe_callB call_isi (by rfl) B.isinstance PyProof.Rows.boot_isinstance (pa_cons (pv 0) (pa_cons (pe_bltn (v := .ty "bool") rfl B.bool (by decide +kernel) rfl) pa_nil))) (pe_callB call_isi (by rfl) B.isinstance PyProof.Rows.boot_isinstance (pa_cons (pv 1) (pa_cons (pe_bltn (v := .ty "bool") rfl B.bool (by decide +kernel) rfl) pa_nil))) (nomark _))
          (pw_or1 (pt_cmpR op_ne (pe_callB call_isi (by rfl) B.isinstance PyProof.Rows.boot_isinstance (pa_cons (pv 0) (pa_cons (pe_bltn (v := .ty "str") rfl B.str PyProof.Rows.boot_str rfl) pa_nil))) (pe_callB call_isi (by rfl) B.isinstance PyProof.Rows.boot_isinstance (pa_cons (pv 1) (pa_cons (pe_bltn (v := .ty "str") rfl B.str PyProof.Rows.boot_str rfl) pa_nil))) (nomark _))))) pss_never pss_nil)
        (pss_one (ps_ret (pe_cmpR op_eq (pv 0) (pv 1) (nomark _))))), ?_⟩
      have atom : ∀ (v : V) (ty : String), TyX K H v (.type ty) → kitB ty "tuple" = some false → ∀ (b1 b2 : Bool), kitB ty "bool" = some b1 → kitB ty "str" = some b2 → scal v v = true → True := fun _ _ _ _ _ _ _ _ _ => trivial
      clear atom
      have fals : ∀ b : Bool, (!decide (V.bl b = V.bl b)) = false := fun b => by rw [decide_eq_true rfl]; rfl
      rcases ru.cases with ⟨rfl, rfl⟩ | ⟨b, rfl, rfl⟩ | ⟨i, rfl, rfl⟩ | ⟨z, rfl, rfl, zl⟩ | ⟨d', ls, a, xs, rfl, rfl, rfl, ha, hll, lfew, hk⟩
      · obtain rfl : v = .non := by cases d <;> exact rv
        refine ⟨_, rfl, .non, .ty "tuple", .type "NoneType", .type "tuple", false, rfl, .ty _, .base .non, kit_ty (by decide +kernel), _, rfl, iteF ?_⟩
        refine ⟨_, rfl, .non, .ty "tuple", .type "NoneType", .type "tuple", false, rfl, .ty _, .base .non, kit_ty (by decide +kernel), _, rfl, iteF ?_⟩
        refine ⟨_, rfl, .non, .ty "bool", .type "NoneType", .type "bool", false, rfl, .ty _, .base .non, kit_ty (by decide +kernel), _, rfl, .non, .ty "bool", .type "NoneType", .type "bool", false, rfl, .ty _, .base .non, kit_ty (by decide +kernel), rfl, _, rfl, ?_⟩
        rw [fals]
        refine iteF ⟨_, rfl, .non, .ty "str", .type "NoneType", .type "str", false, rfl, .ty _, .base .non, kit_ty (by decide +kernel), _, rfl, .non, .ty "str", .type "NoneType", .type "str", false, rfl, .ty _, .base .non, kit_ty (by decide +kernel), rfl, _, rfl, ?_⟩
        rw [fals]
        refine iteF ⟨_, rfl, _, rfl, rfl, ?_⟩
        rw [decide_eq_true rfl]
        exact k _ sR
      · obtain rfl : v = .bl b := by cases d <;> exact rv
        refine ⟨_, rfl, .bl b, .ty "tuple", .type "bool", .type "tuple", false, rfl, .ty _, .base (.bl _), kit_ty (by decide +kernel), _, rfl, iteF ?_⟩
        refine ⟨_, rfl, .bl b, .ty "tuple", .type "bool", .type "tuple", false, rfl, .ty _, .base (.bl _), kit_ty (by decide +kernel), _, rfl, iteF ?_⟩
        refine ⟨_, rfl, .bl b, .ty "bool", .type "bool", .type "bool", true, rfl, .ty _, .base (.bl _), kit_ty (by decide +kernel), _, rfl, .bl b, .ty "bool", .type "bool", .type "bool", true, rfl, .ty _, .base (.bl _), kit_ty (by decide +kernel), rfl, _, rfl, ?_⟩
        rw [fals]
        refine iteF ⟨_, rfl, .bl b, .ty "str", .type "bool", .type "str", false, rfl, .ty _, .base (.bl _), kit_ty (by decide +kernel), _, rfl, .bl b, .ty "str", .type "bool", .type "str", false, rfl, .ty _, .base (.bl _), kit_ty (by decide +kernel), rfl, _, rfl, ?_⟩
        rw [fals]
        refine iteF ⟨_, rfl, _, rfl, rfl, ?_⟩
        rw [decide_eq_true rfl]
        exact k _ sR
      · obtain rfl : v = .int i := by cases d <;> exact rv
        refine ⟨_, rfl, .int i, .ty "tuple", .type "int", .type "tuple", false, rfl, .ty _, .base (.int _), kit_ty (by decide +kernel), _, rfl, iteF ?_⟩
        refine ⟨_, rfl, .int i, .ty "tuple", .type "int", .type "tuple", false, rfl, .ty _, .base (.int _), kit_ty (by decide +kernel), _, rfl, iteF ?_⟩
        refine ⟨_, rfl, .int i, .ty "bool", .type "int", .type "bool", false, rfl, .ty _, .base (.int _), kit_ty (by decide +kernel), _, rfl, .int i, .ty "bool", .type "int", .type "bool", false, rfl, .ty _, .base (.int _), kit_ty (by decide +kernel), rfl, _, rfl, ?_⟩
        rw [fals]
        refine iteF ⟨_, rfl, .int i, .ty "str", .type "int", .type "str", false, rfl, .ty _, .base (.int _), kit_ty (by decide +kernel), _, rfl, .int i, .ty "str", .type "int", .type "str", false, rfl, .ty _, .base (.int _), kit_ty (by decide +kernel), rfl, _, rfl, ?_⟩
        rw [fals]
        refine iteF ⟨_, rfl, _, rfl, rfl, ?_⟩
        rw [decide_eq_true rfl]
        exact k _ sR
      · obtain ⟨rfl, _⟩ : v = .str (sOf z) ∧ z.length ≤ 9000 := by cases d <;> exact rv
        refine ⟨_, rfl, .str (sOf z), .ty "tuple", .type "str", .type "tuple", false, rfl, .ty _, .base (.str _), kit_ty (by decide +kernel), _, rfl, iteF ?_⟩
        refine ⟨_, rfl, .str (sOf z), .ty "tuple", .type "str", .type "tuple", false, rfl, .ty _, .base (.str _), kit_ty (by decide +kernel), _, rfl, iteF ?_⟩
        refine ⟨_, rfl, .str (sOf z), .ty "bool", .type "str", .type "bool", false, rfl, .ty _, .base (.str _), kit_ty (by decide +kernel), _, rfl, .str (sOf z), .ty "bool", .type "str", .type "bool", false, rfl, .ty _, .base (.str _), kit_ty (by decide +kernel), rfl, _, rfl, ?_⟩
        rw [fals]
        refine iteF ⟨_, rfl, .str (sOf z), .ty "str", .type "str", .type "str", true, rfl, .ty _, .base (.str _), kit_ty (by decide +kernel), _, rfl, .str (sOf z), .ty "str", .type "str", .type "str", true, rfl, .ty _, .base (.str _), kit_ty (by decide +kernel), rfl, _, rfl, ?_⟩
        rw [fals]
        refine iteF ⟨_, rfl, _, rfl, rfl, ?_⟩
        rw [decide_eq_true rfl]
        exact k _ sR
      · obtain ⟨b, ys, rfl, hb, hl2, lf2, hk2⟩ : ∃ b ys, v = .ref b ∧ H b = some (.tup ys) ∧ ys.length = ls.length ∧ ys.length ≤ 9000 ∧ ∀ (i : Nat) (x : V) (t : QR.T), ys[i]? = some x → ls[i]? = some t → Rep H d' t x := rv
        refine ⟨_, rfl, .ref a, .ty "tuple", .type "tuple", .type "tuple", true, rfl, .ty _, .base (.tup ha), kit_ty (by decide +kernel), _, rfl, iteT ?_⟩
        refine ⟨_, rfl, .ref a, .ty "tuple", .type "tuple", .type "tuple", true, rfl, .ty _, .base (.tup ha), kit_ty (by decide +kernel), _, rfl, iteF ?_⟩
        refine ⟨_, rfl, .ref b, .ty "tuple", .type "tuple", .type "tuple", true, rfl, .ty _, .base (.tup hb), kit_ty (by decide +kernel), _, rfl, iteF ?_⟩
        refine ⟨_, rfl, a, xs, rfl, .inr (SqT.of ha), _, rfl, b, ys, rfl, .inr (SqT.of hb), rfl, _, rfl, ?_⟩
        rw [hll, hl2, decide_eq_true (rfl : V.int (ls.length : Int) = V.int (ls.length : Int))]
        refine iteF ?_
        refine ⟨_, rfl, _, rfl, a, b, xs, ys, rfl, .inr ⟨SqT.of ha, SqT.of hb, fun D hD => lc_it (walk_zipT (K := K) (a := a) (b := b) (xs := xs) (ys := ys) (n := ls.length) (by omega)) (fun i H' => H' D = some (.lst ((List.replicate i true).map V.bl)) ∧ i ≤ ls.length ∧ Same H H') ?_ ?_ ?_ ?_⟩⟩
        · exact ⟨upd_same, Nat.zero_le _, sN hD⟩
        · rintro i H3 hi ⟨_, _, s3⟩
          exact ⟨SqT.of (s3 _ _ ha), SqT.of (s3 _ _ hb)⟩
        · rintro i v H3 H4 hi ⟨eD, _, s3⟩ ⟨T, x, y, rfl, hT, rfl, hx, hy⟩
          have ht : ls[i]? = some ls[i] := List.getElem?_eq_getElem hi
          have s4 := sN (o := .tup [x, y]) hT
          refine ⟨T, _, rfl, SqT.of upd_same, rfl, _, _, rfl, _, _, rfl, rfl, rfl, ?_⟩
          refine ⟨_, rfl, _, rfl, by omega, ls[i], x, y, rfl, (hk i x _ hx ht).same (sT s3 s4), (hk2 i y _ hy ht).same (sT s3 s4), fun H5 s5 => ⟨_, s5 _ _ (s4 _ _ eD), ?_, ?_, hi, sNew (sT s3 (sT s4 s5)) hD⟩⟩
          · rw [List.length_map, List.length_replicate]
            exact size_ok (by omega)
          · rw [upd_same, List.replicate_succ', List.map_append]
            rfl
        · rintro H3 ⟨eD, _, s3⟩
          refine ⟨D, _, rfl, SqL.of eD, ?_⟩
          rw [rep_true]
          exact k _ s3
  intro d
  induction d with
  | zero => exact main 0 ⟨fun vs H Q E h => absurd h.1 (by decide), fun A outer s H args us vs Q E hr e0 hb r h => absurd h.1 (by decide)⟩
  | succ d ih => exact main (d + 1) (ih.imp fun vs H Q E h => h.2)
end
end Q

namespace Q
open PySem L2 QR
abbrev sLSg : Stmt := top 56
abbrev sLMk : Stmt := top 9999
abbrev sLSl : Stmt := top 9999
abbrev sLRW : Stmt := top 57
theorem bnd_ge : ∀ d, 30 ≤ bnd d
  | 0 => Nat.le_refl _
  | d + 1 => by
    show 30 ≤ 4 * bnd d + 30
    omega
theorem enc_int {d : Nat} {i : Int} (h : i.natAbs < 2 ^ 55) : (enc d (.int i)).length ≤ 9 := by
  rw [enc_atom (t := .int i) trivial]
  by_cases c : 0 ≤ i
  · rw [encA_int c, List.length_cons]
    have := vlq_small 7 i.toNat (Nat.lt_of_lt_of_le (show i.toNat < 2 ^ 55 by omega) (by decide))
    omega
  · rw [encA_neg c, List.length_cons]
    have := vlq_small 7 (-1 - i).toNat (Nat.lt_of_lt_of_le (show (-1 - i).toNat < 2 ^ 55 by omega) (by decide))
    omega
theorem okT_at {d : Nat} {t : T} (h : okA t) : OkT d t := by
  cases d with
  | zero => exact h
  | succ d => cases t with
    | tup l => exact h.elim
    | _ => exact h
theorem flat_bnd {d : Nat} {B : Nat} : ∀ {l : List T}, (∀ t ∈ l, (enc d t).length ≤ B) → ((l.map (enc d)).flatten).length ≤ l.length * B
  | [], _ => by simp
  | t :: l, h => by
    have := flat_bnd (l := l) fun x hx => h x (List.mem_cons_of_mem _ hx)
    have := h t List.mem_cons_self
    rw [List.map_cons, List.flatten_cons, List.length_append, List.length_cons, Nat.add_mul]
    omega
def drS : Str := " ~a0Zb'"
theorem drS_ok : ∀ c ∈ drS.cps.toList, isSg (c : Int) = true := by decide +kernel
theorem drS_len : drS.cps.toList.length = 7 := by decide +kernel
def lsA : Str := " !\"#$&'()*+,-./0123456789:;<=>?@ABCDEFGHIJKLMNOPQRSTUVWXYZ[\\]^_"
def lsB : Str := "`abcdefghijklmnopqrstuvwxyz{|}~"
theorem ls_at : ∀ k : Nat, k < 94 → (lsA ++ lsB).cps.toList[k]? = some (if k < 5 then 32 + k else 33 + k) := by decide +kernel
def spLSg : Sp := fun vs H Q _ => ∃ b : Int, vs = [.int b] ∧ isSg b = true ∧ Q (.str (sOf [b.toNat])) H
def spLMk (K : PySem.W.Frag) : Sp := fun vs H Q _ => ∃ (q : Addr) (bs : List Int), vs = [.ref q] ∧ H q = some (.tup (bs.map V.int)) ∧ Q (.int (mkF bs)) H
def spLSl : Sp := fun vs H Q _ => ∃ (q : Addr) (bs : List Int), vs = [.ref q] ∧ H q = some (.tup (bs.map V.int)) ∧ bs.length ≤ 9000 ∧ ∀ z H', Same H H' → H' z = some (.tup ((bs ++ sealL bs).map V.int)) → Q (.ref z) H'
def spLRW : Sp := fun vs H Q _ => ∃ (q : Addr) (bs : List Int) (a : Nat), vs = [.ref q, .int (a : Int)] ∧ RowAt H q bs ∧ a ≤ bs.length ∧ (∀ n h z H', rdW bs a = some (n, h) → Same H H' → H' z = some (.tup [.int n, .int ((h : Nat) : Int)]) → Q (.ref z) H') ∧ (rdW bs a = none → ∀ z H', Same H H' → H' z = some (.tup [.non, .int (a : Int)]) → Q (.ref z) H')
section
variable {P : Program} {w : World} {K : PySem.W.Frag} {mg : Str → Option Value} {base : Heap}
theorem scLNum : FnScope ["pool", "kind", "found", "turn"] ["pool"] (defScope sLNum) := ⟨rfl, rfl, rfl, by decide +kernel, rfl, by decide +kernel, by decide +kernel⟩
theorem ok_lnum {f fD : Addr} {fd fdD : FuncData} (D : Df K mg "_law_number" sLNum ["pool"] f fd) (B : Bts mg) (DD : Df K mg "_law_draw" sDraw ["pool", "many"] fD fdD) : FnOk P w K mg base CX0 2 f fd ["pool"] spLNum := by
  have GD : FnOk P w K mg base CX0 1 fD fdD ["pool", "many"] spDraw := ok_draw DD B
  refine D.F.ok scLNum (fun vs H Q E h => ?_) (fun cdv A outer s H vs Q E hr h => ?_)
  · obtain ⟨p, l, rfl, _⟩ := h
    rfl
  · obtain ⟨p, l, rfl, g0, k⟩ := h
    have nd := scLNum.nd
    refine ⟨_, pss_cons (ps_set (i := 1) nd rfl (.inl rfl) (pe_call GD hr rfl DD.m DD.k DD.b .nil pass0 (pa_cons (pv 0) (pa_cons pe_int pa_nil))))
      (pss_cons (ps_if (pt_cmpR op_lt (pv 1) pe_int (nomark _)) (pss_one (ps_ret (pe_ix ix_list (pe_lst (pa_cons pe_int (pa_cons pe_int (pa_cons (pe_un un_neg pe_int) (pa_cons pe_int (pa_cons pe_int (pa_cons (pe_un un_neg pe_int) (pa_cons (pe_un un_neg pe_int) (pa_cons pe_int (pa_cons pe_int (pa_cons pe_int (pa_cons (pe_un un_neg pe_int) pa_nil))))))))))))
          (pe_call GD hr rfl DD.m DD.k DD.b .nil pass0 (pa_cons (pv 0) (pa_cons pe_int pa_nil))) (fun _ _ => rfl)))) pss_nil)
      (pss_cons (ps_set (i := 2) nd rfl (.inl rfl) (pe_call GD hr rfl DD.m DD.k DD.b .nil pass0 (pa_cons (pv 0) (pa_cons pe_int pa_nil))))
      (pss_cons (ps_for PassesOwn.never rfl (pi_range1 rfl B.range (pa_cons (pe_call GD hr rfl DD.m DD.k DD.b .nil pass0 (pa_cons (pv 0) (pa_cons pe_int pa_nil))) pa_nil)) (pg_name (i := 3) nd rfl (.inl rfl))
        (pss_one (ps_set (i := 2) nd rfl (.inl rfl) (pe_op op_add (pe_op op_mul (pv 2) pe_int) (pe_call GD hr rfl DD.m DD.k DD.b .nil pass0 (pa_cons (pv 0) (pa_cons pe_int pa_nil)))))))
      (pss_one (ps_ret (pe_ifExp (pt_cmpR op_lt (pv 1) pe_int (nomark _)) (pv 2) (pe_op op_sub pe_int (pv 2)))))))), ?_⟩
    refine ⟨_, rfl, p, l, 7, rfl, g0, by decide, by decide, fun kd H1 kd0 kd1 g1 k1 => ?_⟩
    refine ⟨_, rfl, _, _, rfl, rfl, _, rfl, ite2 (fun _ => ?_) (fun _ => ?_)⟩
    · refine ⟨_, rfl, _, rfl, _, rfl, _, rfl, (by show 11 ≤ sizeLine; decide), fun q hq => ?_⟩
      have g2 := g1.same (sN (o := .lst [.int 0, .int 1, .int (-1), .int 127, .int 128, .int (-128), .int (-129), .int 300, .int 16383, .int 16384, .int (-16385)]) hq)
      refine ⟨_, rfl, p, l, 11, rfl, g2, by decide, by decide, fun d H2 d0 d1 g3 k3 => ?_⟩
      obtain ⟨n1, n2⟩ := g1.none hq
      obtain ⟨v, hv, ev⟩ := at_in ([.int 0, .int 1, .int (-1), .int 127, .int 128, .int (-128), .int (-129), .int 300, .int 16383, .int 16384, .int (-16385)] : List V) d0 d1
      have fin : ∀ i : Int, v = .int i → i.natAbs < 2 ^ 55 → Q v H2 := fun i e hi => by
        rw [e]
        exact k i H2 g3 ((k1.tr (Kp.of (sN hq))).tr k3) hi
      refine ⟨q, _, d, v, rfl, rfl, SqL.of (k3 _ _ upd_same n1 n2), ev, ?_⟩
      simp only [List.mem_cons, List.not_mem_nil, or_false] at hv
      rcases hv with e | e | e | e | e | e | e | e | e | e | e <;> exact fin _ e (by decide)
    · refine ⟨_, rfl, p, l, 1000, rfl, g1, by decide, by decide, fun fo H2 fo0 fo1 g2 k2 => ?_⟩
      refine ⟨_, rfl, p, l, 5, rfl, g2, by decide, by decide, fun tn H3 tn0 tn1 g3 k3 => ?_⟩
      refine ⟨tn, rfl, by omega, by omega, for_range (lo := 0) (n := tn.toNat) (fun i σ H' => ∃ (fo : Int) (x3 : Option V), σ = [some (.ref p), some (.int kd), some (.int fo), x3] ∧ 0 ≤ fo ∧ fo < 1000 ^ (i + 1) ∧ PoolAt H' p l ∧ Kp p l H H') ?_ ?_ ?_⟩
      · exact ⟨fo, none, rfl, fo0, fo1, g3, (k1.tr k2).tr k3⟩
      · rintro i σ H4 hi ⟨fo, x3, rfl, f0, f1, g4, k4⟩
        refine ⟨_, rfl, _, _, rfl, rfl, .inr ⟨by decide, by decide⟩, _, rfl, p, l, 1000, rfl, g4, by decide, by decide, fun d H5 d0 d1 g5 k5 => ⟨_, _, rfl, rfl, _, _, rfl, by omega, ?_, g5, k4.tr k5⟩⟩
        rw [show (1000 : Int) ^ (i + 1 + 1) = 1000 ^ (i + 1) * 1000 from Int.pow_succ _ _]
        omega
      · rintro σ H4 ⟨fo, x3, rfl, f0, f1, g4, k4⟩
        have fb : fo < 1000 ^ 5 := by
          refine Int.lt_of_lt_of_le f1 ?_
          have h5 : tn.toNat + 1 ≤ 5 := by omega
          revert h5
          generalize tn.toNat + 1 = n
          intro h5
          rcases (show n = 0 ∨ n = 1 ∨ n = 2 ∨ n = 3 ∨ n = 4 ∨ n = 5 by omega) with rfl | rfl | rfl | rfl | rfl | rfl <;> decide
        have fb : fo < 1000000000000000 := fb
        refine ⟨_, rfl, _, _, rfl, rfl, _, rfl, ite2 (fun _ => ?_) (fun _ => ?_)⟩
        · exact ⟨_, rfl, k fo H4 g4 k4 (by omega)⟩
        · exact ⟨_, rfl, _, _, rfl, rfl, k (0 - fo) H4 g4 k4 (by omega)⟩
theorem scLPar : FnScope ["pool", "deep", "kind", "many", "at", "turn"] ["pool", "deep"] (defScope sLPar) := ⟨rfl, rfl, rfl, by decide +kernel, rfl, by decide +kernel, by decide +kernel⟩
theorem ok_lpar {f fD fN : Addr} {fd fdD fdN : FuncData} (D : Df K mg "_law_parcel" sLPar ["pool", "deep"] f fd) (B : Bts mg) (DD : Df K mg "_law_draw" sDraw ["pool", "many"] fD fdD) (DN : Df K mg "_law_number" sLNum ["pool"] fN fdN) : ∀ d, FnOk P w K mg base CX0 (d + 3) f fd ["pool", "deep"] (spLPar d) := by
  have GD : FnOk P w K mg base CX0 1 fD fdD ["pool", "many"] spDraw := ok_draw DD B
  have GN : FnOk P w K mg base CX0 2 fN fdN ["pool"] spLNum := ok_lnum DN B DD
  have main : ∀ d, FnOk P w K mg base CX0 (d + 2) f fd ["pool", "deep"] (fun vs H Q E => 0 < d ∧ spLPar (d - 1) vs H Q E) → FnOk P w K mg base CX0 (d + 3) f fd ["pool", "deep"] (spLPar d) := by
    intro d IH
    refine D.F.ok scLPar (fun vs H Q E h => ?_) (fun cdv A outer s H vs Q E hr h => ?_)
    · obtain ⟨p, l, rfl, _⟩ := h
      rfl
    · obtain ⟨p, l, rfl, g0, k⟩ := h
      have nd := scLPar.nd
      have hr1 : Room 1 _ := hr.mono (by omega)
      have hr2 : Room 2 _ := hr.mono (by omega)
      have bd := bnd_ge d
      refine ⟨_, pss_cons (ps_set (i := 2) nd rfl (.inl rfl) (pe_call GD hr1 rfl DD.m DD.k DD.b .nil pass0 (pa_cons (pv 0) (pa_cons pe_int pa_nil))))
        (pss_cons (ps_if (pt_cmpR op_lt (pv 2) pe_int (nomark _)) (pss_one (ps_ret (pe_ix ix_list (pe_lst (pa_cons pe_non (pa_cons pe_bl (pa_cons pe_bl pa_nil)))) (pv 2) (fun _ _ => rfl)))) pss_nil)
        (pss_cons (ps_if (pt_cmpR op_lt (pv 2) pe_int (nomark _)) (pss_one (ps_ret (pe_call GN hr2 rfl DN.m DN.k DN.b .nil pass0 (pa_cons (pv 0) pa_nil)))) pss_nil)
        (pss_cons (ps_if (pt_cmpR op_lt (pv 2) pe_int (nomark _))
          (pss_cons (ps_set (i := 3) nd rfl (.inl rfl) (pe_ifExp (pt_cmpR op_eq (pe_call GD hr1 rfl DD.m DD.k DD.b .nil pass0 (pa_cons (pv 0) (pa_cons pe_int pa_nil))) pe_int (nomark _)) pe_int (pe_op op_add pe_int (pe_call GD hr1 rfl DD.m DD.k DD.b .nil pass0 (pa_cons (pv 0) (pa_cons pe_int pa_nil))))))
          (pss_one (ps_ret (pe_join pe_str (pe_lc (own := [("at", 4)]) (g := gName 4) (tt := tYes) rfl nd (pi_range1 rfl B.range (pa_cons (pv 3) pa_nil)) (blkOk_by (N := ["pool", "deep", "kind", "many", "at", "turn"]) (sc := defScope sLPar) (by decide +kernel)) (fun _ _ _ _ _ => pg_name (i := 4) nd rfl (.inl rfl)) (fun _ _ _ _ _ => pts_nil)
            (fun _ _ _ _ _ => pe_ix ix_str pe_str (pe_call GD hr1 rfl DD.m DD.k DD.b .nil pass0 (pa_cons (pv 0) (pa_cons pe_int pa_nil))) (fun _ _ => rfl))))))) pss_nil)
        (pss_cons (ps_if (pt_cmpR op_eq (pv 1) pe_int (nomark _)) (pss_one (ps_ret pe_int)) pss_nil)
        (pss_one (ps_ret (pe_callTy call_tuple_of (by rfl) B.tuple PyProof.Rows.boot_tuple (pa_cons (pe_lc (own := [("turn", 5)]) (g := gName 5) (tt := tYes) rfl nd (pi_range1 rfl B.range (pa_cons (pe_call GD hr1 rfl DD.m DD.k DD.b .nil pass0 (pa_cons (pv 0) (pa_cons pe_int pa_nil))) pa_nil)) (blkOk_by (N := ["pool", "deep", "kind", "many", "at", "turn"]) (sc := defScope sLPar) (by decide +kernel)) (fun _ _ _ _ _ => pg_name (i := 5) nd rfl (.inl rfl)) (fun _ _ _ _ _ => pts_nil)
          (fun _ _ _ _ _ => pe_call IH hr rfl D.m D.k D.b .nil pass0 (pa_cons (pv 0) (pa_cons (pe_op op_sub (pv 1) pe_int) pa_nil)))) pa_nil)))))))), ?_⟩
      refine ⟨_, rfl, p, l, 10, rfl, g0, by decide, by decide, fun kd H1 kd0 kd1 g1 k1 => ?_⟩
      have atm : ∀ (t : QR.T) (v : V) H', PoolAt H' p l → Kp p l H H' → RepA t v → okA t → (encA t).length ≤ 30 → Q v H' := fun t v H' g kk ra oa le => k t v H' g kk (.atom ra) (okT_at oa) (by rw [enc_atom oa]; omega)
      refine ⟨_, rfl, _, _, rfl, rfl, _, rfl, ite2 (fun c => ?_) (fun c3 => ?_)⟩
      · have c : kd < 3 := of_decide_eq_true c
        refine ⟨(by show 3 ≤ sizeLine; decide), fun q hq => ?_⟩
        have s2 := sN (o := .lst [.non, .bl true, .bl false]) hq
        rcases (show kd = 0 ∨ kd = 1 ∨ kd = 2 by omega) with rfl | rfl | rfl
        · exact ⟨_, rfl, q, _, 0, .non, rfl, rfl, SqL.of upd_same, atI_nat (j := 0) rfl, atm .non _ _ (g1.same s2) (k1.st s2) rfl trivial (by decide)⟩
        · exact ⟨_, rfl, q, _, 1, .bl true, rfl, rfl, SqL.of upd_same, atI_nat (j := 1) rfl, atm (.bl true) _ _ (g1.same s2) (k1.st s2) rfl trivial (by decide)⟩
        · exact ⟨_, rfl, q, _, 2, .bl false, rfl, rfl, SqL.of upd_same, atI_nat (j := 2) rfl, atm (.bl false) _ _ (g1.same s2) (k1.st s2) rfl trivial (by decide)⟩
      refine ⟨_, rfl, _, _, rfl, rfl, _, rfl, ite2 (fun c => ?_) (fun c5 => ?_)⟩
      · refine ⟨_, rfl, p, l, rfl, g1, fun i H2 g2 k2 hi => k (.int i) (.int i) H2 g2 (k1.tr k2) (Rep.atom (t := .int i) (v := .int i) rfl) (okT_at (t := .int i) trivial) (by have := enc_int (d := d) hi; omega)⟩
      refine ⟨_, rfl, _, _, rfl, rfl, _, rfl, ite2 (fun c => ?_) (fun c7 => ?_)⟩
      · -- a string
        refine ⟨_, rfl, p, l, 8, rfl, g1, by decide, by decide, fun d8 H2 e0 e1 g2 k2 => ⟨rfl, _, rfl, ?_⟩⟩
        refine ite2 (fun _ => ?t1) (fun _ => ?t2)
        case' t1 =>
          obtain ⟨m, H3, em, m1, m20, g3, k3⟩ : ∃ (m : Int) (H3 : Hp), (20 = m ∧ H3 = H2) ∧ 1 ≤ m ∧ m ≤ 20 ∧ PoolAt H3 p l ∧ Kp p l H H3 := ⟨20, H2, ⟨rfl, rfl⟩, by decide, by decide, g2, k1.tr k2⟩
          obtain ⟨em, rfl⟩ := em
          rw [em]
        case' t2 =>
          refine ⟨_, rfl, p, l, 6, rfl, g2, by decide, by decide, fun d6 H3 f0 f1 g3 k3' => ⟨_, _, rfl, rfl, ?_⟩⟩
          have k3 := (k1.tr k2).tr k3'
          obtain ⟨m, em, m1, m20⟩ : ∃ m : Int, 1 + d6 = m ∧ 1 ≤ m ∧ m ≤ 20 := ⟨_, rfl, by omega, by omega⟩
          have em2 : (fun i j : Int => V.int (i + j)) 1 d6 = V.int m := by rw [← em]
          rw [em2]
        all_goals
          refine ⟨⟨_, rfl⟩, _, rfl, m, rfl, by omega, by omega, fun D hD => ?_⟩
          obtain ⟨nD1, nD2⟩ := g3.none hD
          refine lc_range (lo := 0) (n := m.toNat) (fun i H' => ∃ zs : List Nat, H' D = some (.lst (zs.map fun c => V.str (sOf [c]))) ∧ zs.length = i ∧ (∀ c ∈ zs, isSg (c : Int) = true) ∧ PoolAt H' p l ∧ Kp p l H H') ?_ ?_ ?_
          · exact ⟨[], upd_same, rfl, fun c hc => by simp at hc, g3.same (sN hD), k3.st (sN hD)⟩
          · rintro i H' hi ⟨zs, eD, lz, sg, g4, k4⟩
            refine ⟨rfl, _, rfl, p, l, 7, rfl, g4, by decide, by decide, fun d7 H5 a0 a1 g5 k5 => ?_⟩
            obtain ⟨c, hc, ec⟩ := at_in drS.cps.toList a0 (by rw [drS_len]; exact a1)
            refine ⟨drS, d7, c, rfl, rfl, by decide +kernel, ec, _, k5 _ _ eD nD1 nD2, ?_, zs ++ [c], ?_, ?_, ?_, g5.upd nD1 nD2, ?_⟩
            · rw [List.length_map]
              exact size_ok (by omega)
            · rw [upd_same, List.map_append]
              rfl
            · rw [List.length_append, lz]
              rfl
            · intro x hx
              rcases List.mem_append.mp hx with hx | hx
              · exact sg x hx
              · rw [List.mem_singleton.mp hx]
                exact drS_ok c hc
            · intro b o e n1 n2
              have hb := k4 b o e n1 n2
              have hb3 := k3 b o e n1 n2
              rw [upd_ne (ne_of_none hb3 hD)]
              exact k5 b o hb n1 n2
          · rintro H' ⟨zs, eD, lz, sg, g4, k4⟩
            refine ⟨SX.S [], D, zs.map fun c => sOf [c], rfl, rfl, .inl (SqL.of (by rw [eD, List.map_map]; rfl)), ?_, ?_⟩
            · rw [lens1, List.length_map]
              show zs.length + zs.length * 0 ≤ _
              omega
            · rw [join_sOf]
              refine atm (.str zs) _ H' g4 k4 ⟨rfl, by omega⟩ ⟨by omega, by omega, sg⟩ ?_
              show (5 :: (vlq zs.length ++ zs.map fun c : Nat => (c : Int))).length ≤ 30
              rw [List.length_cons, List.length_append, List.length_map, vlq_lt (by omega)]
              show 1 + _ + 1 ≤ 30
              omega
      refine ⟨_, rfl, rfl, _, rfl, ite2 (fun c => ?_) (fun c0 => ?_)⟩
      · exact atm (.int 7) _ _ g1 k1 rfl trivial (by rw [encA_int (by decide), vlq_lt (by decide)]; decide)
      · have d0 : 0 < d := by
          refine Nat.pos_of_ne_zero fun z => c0 (decide_eq_true ?_)
          rw [z]
          rfl
        refine ⟨_, rfl, p, l, 5, rfl, g1, by decide, by decide, fun tn H2 t0 t1 g2 k2 => ?_⟩
        refine ⟨tn, rfl, by omega, by omega, fun D hD => ?_⟩
        obtain ⟨nD1, nD2⟩ := g2.none hD
        have k02 := k1.tr k2
        refine lc_range (lo := 0) (n := tn.toNat) (fun i H' => ∃ (xs : List V) (ts : List QR.T), H' D = some (.lst xs) ∧ xs.length = i ∧ ts.length = i ∧ (∀ (j : Nat) (x : V) (t : QR.T), xs[j]? = some x → ts[j]? = some t → Rep H' (d - 1) t x) ∧ (∀ t ∈ ts, OkT (d - 1) t) ∧ (∀ t ∈ ts, (enc (d - 1) t).length ≤ bnd (d - 1)) ∧ PoolAt H' p l ∧ Kp p l H H') ?_ ?_ ?_
        · exact ⟨[], [], upd_same, rfl, rfl, fun j x t hx => by simp at hx, fun t ht => by simp at ht, fun t ht => by simp at ht, g2.same (sN hD), k02.st (sN hD)⟩
        · rintro i H' hi ⟨xs, ts, eD, lx, lt, reps, oks, bds, g4, k4⟩
          refine ⟨rfl, _, rfl, _, rfl, _, _, rfl, rfl, d0, p, l, ?_, g4, fun t v H5 g5 k5 rp ok bd5 => ?_⟩
          · show [V.ref p, V.int ((d : Int) - 1)] = _
            rw [show ((d : Int) - 1) = ((d - 1 : Nat) : Int) by omega]
          have eD5 := k5 _ _ eD nD1 nD2
          have tk5 : Tk H5 (upd H5 D (.lst (xs ++ [v]))) := fun c ys e => by
            rw [upd_ne (ne_of e eD5 (fun z => by cases z))]
            exact e
          refine ⟨xs, eD5, by rw [lx]; exact size_ok (by omega), xs ++ [v], ts ++ [t], upd_same, by rw [List.length_append, lx]; rfl, by rw [List.length_append, lt]; rfl, fun j x t' hx ht => ?_, fun t' ht => ?_, fun t' ht => ?_, g5.upd nD1 nD2, fun b o e n1 n2 => ?_⟩
          · by_cases hj : j < xs.length
            · rw [List.getElem?_append_left hj] at hx
              rw [List.getElem?_append_left (by omega)] at ht
              exact ((reps j x t' hx ht).tk (g4.tk k5)).tk tk5
            · rw [List.getElem?_append_right (by omega)] at hx
              rw [List.getElem?_append_right (by omega)] at ht
              have z1 : j - xs.length = 0 := by
                have := (List.getElem?_eq_some_iff.mp hx).1
                have : j - xs.length < 1 := this
                omega
              rw [z1] at hx
              rw [show j - ts.length = 0 by omega] at ht
              cases hx
              cases ht
              exact rp.tk tk5
          · rcases List.mem_append.mp ht with ht | ht
            · exact oks t' ht
            · rw [List.mem_singleton.mp ht]
              exact ok
          · rcases List.mem_append.mp ht with ht | ht
            · exact bds t' ht
            · rw [List.mem_singleton.mp ht]
              exact bd5
          · have hb := k4 b o e n1 n2
            have hb2 := k02 b o e n1 n2
            rw [upd_ne (ne_of_none hb2 hD)]
            exact k5 b o hb n1 n2
        · rintro H' ⟨xs, ts, eD, lx, lt, reps, oks, bds, g4, k4⟩
          refine ⟨D, xs, rfl, .inl ⟨SqL.of eD, fun z hz => ?_⟩⟩
          have s5 := sN (o := .tup xs) hz
          obtain ⟨d', rfl⟩ : ∃ d', d = d' + 1 := ⟨d - 1, by omega⟩
          refine k (.tup ts) _ _ (g4.same s5) (k4.st s5) ⟨z, xs, rfl, upd_same, by omega, by omega, fun j x t hx ht => (reps j x t hx ht).same s5⟩ oks ?_
          show (6 :: (vlq ts.length ++ (ts.map (enc d')).flatten)).length ≤ 4 * bnd d' + 30
          have fb := flat_bnd (d := d') (B := bnd d') bds
          rw [List.length_cons, List.length_append, vlq_lt (by omega)]
          have l4 : ts.length ≤ 4 := by omega
          have m4 : ts.length * bnd d' ≤ 4 * bnd d' := Nat.mul_le_mul_right _ l4
          show 1 + _ + 1 ≤ _
          omega
  intro d
  induction d with
  | zero => exact main 0 ⟨fun vs H Q E h => absurd h.1 (by decide), fun A outer s H args us vs Q E hr e0 hb r h => absurd h.1 (by decide)⟩
  | succ d ih => exact main (d + 1) (ih.imp fun vs H Q E h => h.2)
end
end Q

/-! t[::-1] of a tuple -/
namespace HT
open PySem PySem.Calls PySem.W PyProof.Rows
theorem adjust_back (n : Nat) : Builtin.Slice.sliceAdjust none none (-1) (n : Int) = ((n : Int) - 1, -1) := by
  unfold Builtin.Slice.sliceAdjust
  rfl
theorem places_back (n : Nat) : Builtin.Slice.slicePlaces ((n : Int) - 1) (-1) (-1) = n := by
  unfold Builtin.Slice.slicePlaces
  have h1 : ¬ ((-1 : Int) > 0) := by decide
  rw [if_neg h1]
  by_cases c : (n : Int) - 1 > -1
  · rw [if_pos c, show (- -1 : Int) = 1 by decide, Int.ediv_one]
    omega
  · rw [if_neg c]
    omega
theorem fm_congr {α β : Type} {f g : α → Option β} : ∀ {l : List α}, (∀ x ∈ l, f x = g x) → l.filterMap f = l.filterMap g
  | [], _ => rfl
  | a :: l, h => by
    rw [List.filterMap_cons, List.filterMap_cons, h a List.mem_cons_self, fm_congr fun x hx => h x (List.mem_cons_of_mem _ hx)]
theorem pick_back (xs : Array Value) : (List.range xs.size).filterMap (fun (k : Nat) => xs[((xs.size : Int) - 1 + (k : Int) * (-1)).toNat]?) = xs.toList.reverse := by
  have e : (List.range xs.size).filterMap (fun (k : Nat) => xs[((xs.size : Int) - 1 + (k : Int) * (-1)).toNat]?) = ((List.range xs.size).map fun k => xs.size - 1 - k).filterMap (xs[·]?) := by
    rw [List.filterMap_map]
    refine fm_congr fun k hk => ?_
    have := List.mem_range.mp hk
    show xs[((xs.size : Int) - 1 + (k : Int) * (-1)).toNat]? = xs[xs.size - 1 - k]?
    rw [show ((xs.size : Int) - 1 + (k : Int) * (-1)).toNat = xs.size - 1 - k by omega]
  rw [e, PySem.W.krv_range, List.filterMap_reverse, PySem.W.krv_all]
section
variable {prog : Program} {w : World} {A : Around} {E : Value → Shared → Prop} {s : Shared}
theorem sliceApplied_back {sl : Addr} {vs : Value} {n : Nat} {Q : Int × Int × Nat → Shared → Prop} (hs : s.heap.IsSliceOf sl .none .none vs) (ps : IsPart vs (some (-1)))
    (h : Q ((n : Int) - 1, -1, n) s) : wpAny (model prog w) A (Builtin.Slice.sliceApplied (.ref sl) (pure (n : Int))) Q E s := by
  obtain ⟨os, hos, hcs, hds⟩ := id hs
  unfold Builtin.Slice.sliceApplied Builtin.Slice.sliceFields
  refine wpAny_bind (wpAny_bind (wpAny_field hos hds (x := .none) rfl (wpAny_bind (wpAny_field hos hds (x := .none) rfl (wpAny_bind (wpAny_field hos hds (x := vs) rfl (wpAny_pure ?_)))))))
  refine wpAny_bind (slicePart_ ps ?_)
  show wpAny _ _ (if ((-1 : Int) == 0) = true then _ else _) _ _ s
  rw [if_neg (by decide)]
  refine wpAny_bind (slicePart_ .none (wpAny_bind (slicePart_ .none (wpAny_bind (wpAny_pure ?_)))))
  show wpAny _ _ (match Builtin.Slice.sliceAdjust none none (-1) (n : Int) with | (lo, hi) => pure (lo, (-1 : Int), Builtin.Slice.slicePlaces lo hi (-1))) _ _ s
  rw [adjust_back n]
  show wpAny _ _ (pure ((n : Int) - 1, (-1 : Int), Builtin.Slice.slicePlaces ((n : Int) - 1) (-1) (-1))) _ _ s
  rw [places_back]
  exact wpAny_pure h
theorem getItem_tuple_back {t sl : Addr} {items : Array Value} {vs : Value} {Q : Value → Shared → Prop} (ht : IsTup s.heap t items) (hs : s.heap.IsSliceOf sl .none .none vs) (ps : IsPart vs (some (-1)))
    (h : Q (.ref s.heap.objs.size) { s with heap := s.heap.push { cls := .type "tuple", data := .seq items.toList.reverse.toArray } }) (hsz : items.size ≤ sizeLine) : wpAny (model prog w) A (getItem (.ref t) (.ref sl)) Q E s := by
  have fits : sizeOk (.seq items.toList.reverse.toArray) := by
    show items.toList.reverse.toArray.size ≤ sizeLine
    rw [List.size_toArray, List.length_reverse, Array.length_toList]
    exact hsz
  obtain ⟨os, hos, hcs, hds⟩ := id hs
  have hTs : s.TypeIs (.ref sl) "slice" := ⟨os, hos, hcs⟩
  unfold getItem
  try with_reducible refine wpAny_holding ?_
  first | refine wpAny_bind (wpAny_pure ?_) | skip
  refine wpAny_bind (wpAny_sequenceKey ht.typeIs (by decide) ?_)
  refine wpAny_bind (wpAny_callSpecial?_slot (name := Str.ofString "__getitem__") ht.typeIs PyProof.Rows.slot_tuple_getitem
    (wpAny_call_entry PyProof.Rows.slot_tuple_getitem ht.typeIs entry_tuple_getitem ?_ (args_tuple_getitem _ _)))
  show wpAny _ _ (Builtin.Tuple.tupleItemsOf (.ref t) >>= _) _ _ s
  refine wpAny_bind (tupleItemsOf_ ht ?_)
  refine wpAny_bind (wpAny_typeOf hTs ?_)
  rw [if_pos (by decide)]
  refine wpAny_bind (sliceApplied_back hs ps ?_)
  have no : ¬ ((((items.size : Int) - 1) == 0 && (-1 : Int) == 1 && items.size == items.size) = true) := by
    intro q
    rw [Bool.and_eq_true, Bool.and_eq_true] at q
    exact absurd q.1.2 (by decide)
  show wpAny _ _ (if (((items.size : Int) - 1) == 0 && (-1 : Int) == 1 && items.size == items.size) = true then _ else _) _ _ s
  rw [if_neg no, pick_back]
  first
    | exact wpAny_bind (m := Builtin.Tuple.tupleExact _) (wpAny_newObj_type (wpAny_pure ⟨_, rfl, wpAny_pure h⟩) fits)
    | exact wpAny_bind (m := Builtin.Tuple.tupleExact _) (wpAny_newObj_type (wpAny_bind (wpAny_pure (wpAny_pure ⟨_, rfl, wpAny_pure h⟩))) fits)
    | exact wpAny_bind (wpAny_bind (m := Builtin.Tuple.tupleExact _) (wpAny_newObj_type (wpAny_pure (wpAny_pure ⟨_, rfl, wpAny_pure h⟩)) fits))
    | exact wpAny_bind (wpAny_bind (m := Builtin.Tuple.tupleExact _) (wpAny_newObj_type (wpAny_pure ⟨_, rfl, wpAny_pure h⟩) fits))
end
end HT
namespace L2
open PySem PySem.Spec PyProof.Rows HT
section
variable {X : Cx}
/-- t[::-1], the items turned about -/
def tRevT (K : PySem.W.Frag) (te : TE) : TE := fun σ H Q => te σ H fun x H1 => ∃ a xs, x = .ref a ∧ SqT K H1 a xs ∧ ∀ p, H1 p = none → Q (.ref p) (upd H1 p (.tup xs.reverse))
theorem pe_revT {e : Expr} {te : TE} {k : Nat} {p1 p2 p3 pos : Pos} (he : PE X e te) : PE X (.Subscript e (.Slice none none (some (.UnaryOp .USub (.Constant (.int 1) k p1) p2)) p3) pos) (tRevT X.K te) := by
  refine ⟨fun pins s σ H Q I h => Subscript_ (thn (he.run pins s σ H _ I h) fun v s1 ⟨x, H1, I1, r1, q1⟩ => ?_)⟩
  obtain ⟨a, xs, rfl, hx, q⟩ := q1
  cases r1
  have hst : PO X (some (.UnaryOp .USub (.Constant (.int 1) k p1) p2)) (tPart (tUn (rU fun i => .int (-i)) (tC (.int 1)))) := po_some (pe_un un_neg pe_int)
  refine wpAny_Slice (thn (po_none.run pins s1 σ H1 (fun o H2 => o = none ∧ H2 = H1) I1 ⟨rfl, rfl⟩) fun vl s2 ⟨l, H2, I2, pl, el, e2⟩ => ?_)
  subst el e2
  refine thn (po_none.run pins s2 σ H2 (fun o H3 => o = none ∧ H3 = H2) I2 ⟨rfl, rfl⟩) fun vu s3 ⟨u, H3, I3, pu, eu, e3⟩ => ?_
  subst eu e3
  refine thn (hst.run pins s3 σ H3 (fun o H4 => o = some (-1) ∧ H4 = H3) I3 ⟨1, rfl, -1, rfl, rfl, rfl⟩) fun vs s4 ⟨o, H4, I4, ps, eo, e4⟩ => ?_
  subst eo e4
  have I5 : Inv X pins σ H4 { s4 with heap := s4.heap.push { cls := .type "slice", data := .fields #[vl, vu, vs] } } := I4.kept (t' := s4.toks) fun b ob q => Heap.get?_push_of_some _ q
  obtain ⟨its, r, ht, hz⟩ := I5.tuple hx
  have hlen := r.length
  cases pl
  cases pu
  show wpAny (model X.prog X.w) X.A (subscriptTail e (.Slice none none (some (.UnaryOp .USub (.Constant (.int 1) k p1) p2)) p3) (.ref a) (.ref s4.heap.objs.size)) (EP X pins σ Q) X.xe _
  refine tail_any (ops := [.ref a, .ref s4.heap.objs.size]) ht.typeIs PyProof.Rows.slot_tuple_getitem.lookup ?_ (by with_unfolding_all rfl)
  refine getItem_tuple_back ht (Heap.IsSliceOf.new _ .none .none vs) ps ?_ (by rw [List.size_toArray]; omega)
  refine ⟨.ref _, _, I5.laid (t' := s4.toks) (o := .tup xs.reverse) (fun b ob q => Heap.get?_push_of_some _ q) (Nat.le_refl _) ?_, rfl, q _ (I5.hok.fresh (Nat.le_refl _))⟩
  exact ⟨by rw [List.length_reverse]; exact hz, _, r.reverse, IsTup.new _ _⟩
end
end L2

namespace Q
open PySem L2 QR
abbrev sLR : Stmt := top 58
abbrev sLRS : Stmt := top 59
abbrev sTold : Stmt := top 60
abbrev sOpen : Stmt := top 9999
/-- what the law's reader tells: (None, p) or ((t,), h) -/
def OutL (D : Nat) (x : R) (H : Hp) (Q : VK) : Prop :=
  (∀ t h v w z H', x = .ok t h → Same H H' → H' w = some (.tup [v]) → Rep H' D t v → H' z = some (.tup [.ref w, .int ((h : Nat) : Int)]) → Q (.ref z) H') ∧ ∀ p z H', x = .no p → Same H H' → H' z = some (.tup [.non, .int ((p : Nat) : Int)]) → Q (.ref z) H'
theorem OutL.from {D : Nat} {x : R} {H H1 : Hp} {Q : VK} (h : OutL D x H Q) (s : Same H H1) : OutL D x H1 Q :=
  ⟨fun t h' v w z H' e s' a b c => h.1 t h' v w z H' e (sT s s') a b c, fun p z H' e s' a => h.2 p z H' e (sT s s') a⟩
def strL (bs : List Int) (a : Nat) (n : Int) (h : Nat) : R := if 1 ≤ n ∧ n ≤ 20 then rdS bs n.toNat h [] else .no a
def spLRS : Sp := fun vs H Q _ => ∃ (q : Addr) (bs : List Int) (a h : Nat) (n : Int), vs = [.ref q, .int (a : Int), .int n, .int (h : Int)] ∧ RowAt H q bs ∧ h ≤ bs.length ∧ OutL 0 (strL bs a n h) H Q
def spLR (d : Nat) : Sp := fun vs H Q _ => ∃ (q : Addr) (bs : List Int) (a : Nat), vs = [.ref q, .int (a : Int), .int (d : Int)] ∧ RowAt H q bs ∧ a ≤ bs.length ∧ OutL d (rdP bs d a) H Q
def spTold : Sp := fun vs H Q _ => ∃ (q : Addr) (bs : List Int), vs = [.ref q] ∧ RowAt H q bs ∧ (∀ t h v w H', rdAll bs = .ok t h → Same H H' → H' w = some (.tup [v]) → Rep H' 20 t v → Q (.ref w) H') ∧ ∀ p H', rdAll bs = .no p → Same H H' → Q (.int ((p : Nat) : Int)) H'
def spOpen : Sp := fun vs H Q _ => ∃ (q : Addr) (bs : List Int), vs = [.ref q] ∧ RowAt H q bs ∧ ∀ u H', Same H H' → Rep H' 22 (unsT bs) u → Q u H'
theorem at_k {m : Int} {q : Addr} {bs : List Int} {i : Int} {a : Nat} {b : Int} (e : i = (a : Int)) (h : bs[a]? = some b) : atI (bs.map V.int) i = some (V.int b) := by
  rw [e]
  exact at_row h
theorem rdS_go {bs : List Int} : ∀ (m h : Nat) (acc : List Nat), (∀ i, i < m → ∃ b, bs[h + i]? = some b ∧ isSg b = true) → rdS bs m h acc = .ok (.str (acc ++ ((bs.drop h).take m).map Int.toNat)) (h + m)
  | 0, h, acc, _ => by simp [rdS]
  | m + 1, h, acc, k => by
    obtain ⟨b, e, sg⟩ := k 0 (by omega)
    have e : bs[h]? = some b := e
    rw [rdS_at e, if_pos sg, rdS_go m (h + 1) (acc ++ [b.toNat]) (fun i hi => by
      obtain ⟨c, e2, s2⟩ := k (i + 1) (by omega)
      exact ⟨c, by rw [← e2]; congr 1; omega, s2⟩)]
    obtain ⟨l1, e1⟩ := List.getElem?_eq_some_iff.mp e
    rw [List.drop_eq_getElem_cons l1, List.take_succ_cons, e1, List.map_cons, List.append_assoc]
    show R.ok _ _ = R.ok _ _
    congr 1
    omega
theorem rdS_stop {bs : List Int} : ∀ (i m h : Nat) (acc : List Nat), i < m → (∀ j, j < i → ∃ b, bs[h + j]? = some b ∧ isSg b = true) → (∀ b, bs[h + i]? = some b → isSg b = false) → rdS bs m h acc = .no (h + i)
  | 0, m + 1, h, acc, _, _, k => by
    cases e : bs[h]? with
    | none => exact rdS_no e
    | some b => rw [rdS_at e, k b e, if_neg Bool.false_ne_true]; rfl
  | i + 1, m + 1, h, acc, hi, g, k => by
    obtain ⟨b, e, sg⟩ := g 0 (by omega)
    have e : bs[h]? = some b := e
    rw [rdS_at e, if_pos sg, rdS_stop i m (h + 1) (acc ++ [b.toNat]) (by omega) (fun j hj => by
      obtain ⟨c, e2, s2⟩ := g (j + 1) (by omega)
      exact ⟨c, by rw [← e2]; congr 1; omega, s2⟩) (fun b hb => k b (by rw [← hb]; congr 1; omega))]
    congr 1
    omega
theorem dint (i j : Int) : decide (V.int i = V.int j) = decide (i = j) := by
  by_cases c : i = j
  · rw [c, decide_eq_true rfl, decide_eq_true rfl]
  · rw [decide_eq_false c, decide_eq_false fun z => c (V.int.inj z)]
section
variable {P : Program} {w : World} {K : PySem.W.Frag} {mg : Str → Option Value} {base : Heap}
theorem scLSg : FnScope ["byte", "signs"] ["byte"] (defScope sLSg) := ⟨rfl, rfl, rfl, by decide +kernel, rfl, by decide +kernel, by decide +kernel⟩
theorem ok_lsg {f : Addr} {fd : FuncData} (D : Df K mg "_law_sign" sLSg ["byte"] f fd) (B : Bts mg) : FnOk P w K mg base CX0 1 f fd ["byte"] spLSg := by
  refine D.F.ok scLSg (fun vs H Q E h => ?_) (fun cdv A outer s H vs Q E hr h => ?_)
  · obtain ⟨b, rfl, _⟩ := h
    rfl
  · obtain ⟨b, rfl, sg, k⟩ := h
    have nd := scLSg.nd
    obtain ⟨b1, b2, b3⟩ := sg_b sg
    refine ⟨_, pss_cons (ps_set (i := 1) nd rfl (.inl rfl) pe_str)
      (pss_cons (ps_set (i := 1) nd rfl (.inl rfl) (pe_op op_add_str (pv 1) pe_str))
      (pss_one (ps_ret (pe_ix ix_str (pv 1) (pe_op op_sub (pe_op op_sub (pv 0) pe_int) (pe_callTy call_int1 (by rfl) B.int PyProof.Rows.boot_int (pa_cons (pe_cmpR op_gt (pv 0) pe_int (nomark _)) pa_nil))) (fun _ _ => rfl))))), ?_⟩
    refine ⟨_, rfl, lsA, lsB, rfl, rfl, by decide +kernel, _, rfl, _, rfl, _, _, rfl, rfl, _, rfl, _, _, rfl, rfl, .inr ⟨_, rfl, _, _, rfl, rfl, ?_⟩⟩
    refine ⟨lsA ++ lsB, _, b.toNat, rfl, rfl, by decide +kernel, ?_, k⟩
    by_cases c : 37 < b
    · rw [decide_eq_true c, if_pos rfl, show b - 32 - 1 = ((b.toNat - 33 : Nat) : Int) by omega]
      refine atI_nat ?_
      rw [ls_at _ (by omega), if_neg (by omega), show 33 + (b.toNat - 33) = b.toNat by omega]
    · rw [decide_eq_false c, if_neg Bool.false_ne_true, show b - 32 - 0 = ((b.toNat - 32 : Nat) : Int) by omega]
      refine atI_nat ?_
      rw [ls_at _ (by omega), if_pos (by omega), show 32 + (b.toNat - 32) = b.toNat by omega]
theorem scLRW : FnScope ["row", "at", "behind", "found", "byte"] ["row", "at"] (defScope sLRW) := ⟨rfl, rfl, rfl, by decide +kernel, rfl, by decide +kernel, by decide +kernel⟩
theorem ok_lrw {f : Addr} {fd : FuncData} (D : Df K mg "_law_read_whole" sLRW ["row", "at"] f fd) (B : Bts mg) : FnOk P w K mg base CX0 1 f fd ["row", "at"] spLRW := by
  refine D.F.ok scLRW (fun vs H Q E h => ?_) (fun cdv A outer s H vs Q E hr h => ?_)
  · obtain ⟨q, bs, a, rfl, _⟩ := h
    rfl
  · obtain ⟨q, bs, a, rfl, hq, al, k1, k2⟩ := h
    have nd := scLRW.nd
    have few := hq.few
    refine ⟨_, pss_cons (ps_for PassesOwn.never rfl (pi_range2 rfl B.range (pa_cons (pe_op op_add (pv 1) pe_int) (pa_cons (pe_op op_add (pe_callB call_len_seq (by rfl) B.len PySem.boot_len (pa_cons (pv 0) pa_nil)) pe_int) pa_nil))) (pg_name (i := 2) nd rfl (.inl rfl))
        (pss_one (ps_if (pt_cmpR op_lt (pe_ix ix_tup (pv 0) (pe_op op_sub (pv 2) pe_int) (fun _ _ => rfl)) pe_int (nomark _))
          (pss_cons (ps_if (PW.pt (pw_and (pt_cmpR op_eq (pe_ix ix_tup (pv 0) (pe_op op_sub (pv 2) pe_int) (fun _ _ => rfl)) pe_int (nomark _)) (pw_and1 (pt_cmpR op_gt (pe_op op_sub (pv 2) (pv 1)) pe_int (nomark _))))) (pss_one (ps_ret (pe_tup (pa_cons pe_non (pa_cons (pv 1) pa_nil))))) pss_nil)
          (pss_cons (ps_set (i := 3) nd rfl (.inl rfl) pe_int)
          (pss_cons (ps_for PassesOwn.never rfl (pi_tup (pe_revT (pe_slice sl_X (pv 0) (po_some (pv 1)) (po_some (pv 2))))) (pg_name (i := 4) nd rfl (.inl rfl))
            (pss_one (ps_set (i := 3) nd rfl (.inl rfl) (pe_op op_add (pe_op op_mul (pv 3) pe_int) (pe_op op_mod (pe_callTy call_int1 (by rfl) B.int PyProof.Rows.boot_int (pa_cons (pv 4) pa_nil)) pe_int)))))
          (pss_one (ps_ret (pe_tup (pa_cons (pv 3) (pa_cons (pv 2) pa_nil)))))))) pss_nil)))
      (pss_one (ps_ret (pe_tup (pa_cons pe_non (pa_cons (pv 1) pa_nil))))), ?_⟩
    refine ⟨_, rfl, _, _, rfl, rfl, _, rfl, q, _, rfl, .inr (SqT.of hq.at_), _, _, rfl, rfl, ?_⟩
    rw [List.length_map]
    refine ⟨_, _, rfl, ⟨by omega, by omega, by omega, by omega⟩, for_range (lo := (a : Int) + 1) (n := ((bs.length : Int) + 1 - ((a : Int) + 1)).toNat) (fun i σ H' => ∃ x2, σ = [some (.ref q), some (.int (a : Int)), x2, none, none] ∧ Same H H' ∧ i ≤ scan (bs.drop a)) ?_ ?_ ?_⟩
    · exact ⟨none, rfl, sR, Nat.zero_le _⟩
    · rintro i σ H1 hi ⟨x2, rfl, s1, hs⟩
      have lt : a + i < bs.length := by omega
      have eb : bs[a + i]? = some bs[a + i] := List.getElem?_eq_getElem lt
      revert eb
      generalize bs[a + i] = b
      intro eb
      have h1 := s1 _ _ hq.at_
      have ea : atI (bs.map V.int) ((a : Int) + 1 + (i : Int) - 1) = some (V.int b) := at_k (m := 0) (q := q) (by omega) eb
      refine ⟨_, rfl, _, rfl, _, _, rfl, rfl, q, _, _, _, rfl, rfl, SqT.of h1, ea, _, _, rfl, rfl, _, rfl, ite2 (fun c => ?_) (fun c => ?_)⟩
      · have c : b < 128 := of_decide_eq_true c
        have ei : i = scan (bs.drop a) := by
          rcases Nat.lt_or_ge i (scan (bs.drop a)) with z | z
          · obtain ⟨b', e', c'⟩ := scan_big z
            rw [List.getElem?_drop, eb] at e'
            cases e'
            omega
          · omega
        have wr : rdW bs a = if b = 0 ∧ 0 < i then none else some (val ((bs.drop a).take (i + 1)), a + i + 1) := by
          unfold rdW
          rw [← ei, eb]
        refine ⟨_, rfl, _, rfl, _, _, rfl, rfl, q, _, _, _, rfl, rfl, SqT.of h1, ea, rfl, _, rfl, ?_⟩
        rw [dint]
        refine ite2 (fun z => ?u1) (fun z => ?u2)
        case' u1 =>
          have z : b = 0 := of_decide_eq_true z
          refine ⟨_, rfl, _, rfl, _, _, rfl, rfl, _, _, rfl, rfl, _, rfl, ?_⟩
          refine ite2 (fun z2 => ?u3) (fun z2 => ?u4)
          case' u3 =>
            have z2 : (1 : Int) < (a : Int) + 1 + (i : Int) - (a : Int) := of_decide_eq_true z2
            exact ⟨_, rfl, (by show 2 ≤ sizeLine; decide), fun y hy => k2 (by rw [wr, if_pos ⟨z, by omega⟩]) y _ (sT s1 (sN hy)) upd_same⟩
          case' u4 => have nb : ¬ (b = 0 ∧ 0 < i) := fun y => z2 (decide_eq_true (by omega))
        case' u2 => have nb : ¬ (b = 0 ∧ 0 < i) := fun y => z (decide_eq_true y.1)
        all_goals
          rw [if_neg nb] at wr
          have lc : ((bs.map V.int).drop a).take (a + i + 1 - a) = ((bs.drop a).take (i + 1)).map V.int := by
            rw [← List.map_drop, ← List.map_take, show a + i + 1 - a = i + 1 by omega]
          refine ⟨_, rfl, _, rfl, _, rfl, _, rfl, _, rfl, q, _, rfl, h1, fun y H3 s3 hy => ?_⟩
          rw [show ((a : Int) + 1 + (i : Int)) = ((a + i + 1 : Nat) : Int) by omega, cut_nat _ (by omega) (by rw [List.length_map]; omega), lc] at hy
          refine ⟨y, _, rfl, SqT.of hy, fun y2 hy2 => ?_⟩
          have s4 := sT s1 (sT s3 (sN (o := .tup ((((bs.drop a).take (i + 1)).map V.int).reverse)) hy2))
          have e4 : (upd H3 y2 (.tup ((((bs.drop a).take (i + 1)).map V.int).reverse))) y2 = some (.tup ((((bs.drop a).take (i + 1)).map V.int).reverse)) := upd_same
          revert s4 e4
          generalize (upd H3 y2 (.tup ((((bs.drop a).take (i + 1)).map V.int).reverse))) = H4
          intro s4 e4
          have ln : (((bs.drop a).take (i + 1)).map V.int).reverse.length = i + 1 := by
            rw [List.length_reverse, List.length_map, List.length_take, List.length_drop]
            omega
          refine ⟨y2, rfl, ⟨_, SqT.of e4⟩, for_tup (K := K) (a := y2) (xs := (((bs.drop a).take (i + 1)).map V.int).reverse) (fun j σ H' => ∃ x4, σ = [some (.ref q), some (.int (a : Int)), some (.int ((a : Int) + 1 + (i : Int))), some (.int (val (((bs.drop a).take (i + 1)).drop (i + 1 - j)))), x4] ∧ H' = H4) ?_ ?_ ?_ ?_⟩
          · refine ⟨none, ?_, rfl⟩
            rw [Nat.sub_zero, List.drop_eq_nil_of_le (by rw [List.length_take]; omega)]
            rfl
          · rintro j σ H' hj ⟨x4, rfl, rfl⟩
            exact SqT.of e4
          · rintro j x σ H' hx ⟨x4, rfl, rfl⟩
            have hj := (List.getElem?_eq_some_iff.mp hx).1
            rw [ln] at hj
            rw [List.getElem?_reverse (by rw [List.length_map, List.length_take, List.length_drop]; omega)] at hx
            have l2 : (((bs.drop a).take (i + 1)).map V.int).length = i + 1 := by rw [← List.length_reverse]; exact ln
            rw [l2] at hx
            obtain ⟨b', hb', rfl⟩ := at_ints hx
            refine ⟨_, rfl, _, _, rfl, rfl, .inr ⟨by decide, by decide⟩, _, rfl, .inl ⟨_, rfl, _, _, rfl, rfl, (by decide : (0 : Int) < 128), _, _, rfl, rfl, some (.int b'), ?_, rfl⟩⟩
            have e1 : ((bs.drop a).take (i + 1)).drop (i + 1 - (j + 1)) = b' :: ((bs.drop a).take (i + 1)).drop (i + 1 - j) := by
              obtain ⟨l1, e1⟩ := List.getElem?_eq_some_iff.mp hb'
              rw [show i + 1 - (j + 1) = i + 1 - 1 - j by omega, List.drop_eq_getElem_cons l1, e1, show i + 1 - 1 - j + 1 = i + 1 - j by omega]
            rw [e1, val_cons]
            rfl
          · rintro σ H' ⟨x4, rfl, rfl⟩
            rw [ln, Nat.sub_self, List.drop_zero]
            refine ⟨_, rfl, _, rfl, (by show 2 ≤ sizeLine; decide), fun y5 hy5 => k1 _ _ y5 _ wr (sT s4 (sN hy5)) ?_⟩
            rw [upd_same, show ((a : Int) + 1 + (i : Int)) = ((a + i + 1 : Nat) : Int) by omega]
      · have c : ¬ b < 128 := fun z => c (decide_eq_true z)
        refine ⟨_, rfl, s1, ?_⟩
        rcases Nat.lt_or_ge i (scan (bs.drop a)) with z | z
        · omega
        · have ei : i = scan (bs.drop a) := by omega
          have := scan_at (l := bs.drop a) (b := b) (by rw [List.getElem?_drop, ← ei]; exact eb)
          omega
    · rintro σ H1 ⟨x2, rfl, s1, hs⟩
      have sl := scan_le (bs.drop a)
      rw [List.length_drop] at sl
      refine ⟨_, rfl, (by show 2 ≤ sizeLine; decide), fun y hy => k2 ?_ y _ (sT s1 (sN hy)) upd_same⟩
      unfold rdW
      rw [List.getElem?_eq_none (by omega)]
end
end Q

namespace Q
open PySem L2 QR
section
variable {P : Program} {w : World} {K : PySem.W.Frag} {mg : Str → Option Value} {base : Heap}
theorem scLRS : FnScope ["row", "begin", "many", "here", "at", "byte"] ["row", "begin", "many", "here"] (defScope sLRS) := ⟨rfl, rfl, rfl, by decide +kernel, rfl, by decide +kernel, by decide +kernel⟩
theorem ok_lrs {f fS : Addr} {fd fdS : FuncData} (D : Df K mg "_law_read_string" sLRS ["row", "begin", "many", "here"] f fd) (B : Bts mg) (DS : Df K mg "_law_sign" sLSg ["byte"] fS fdS) : FnOk P w K mg base CX0 2 f fd ["row", "begin", "many", "here"] spLRS := by
  have GS : FnOk P w K mg base CX0 1 fS fdS ["byte"] spLSg := ok_lsg DS B
  refine D.F.ok scLRS (fun vs H Q E h => ?_) (fun cdv A outer s H vs Q E hr h => ?_)
  · obtain ⟨q, bs, a, h, n, rfl, _⟩ := h
    rfl
  · obtain ⟨q, bs, a, h, n, rfl, hq, hl, k⟩ := h
    have nd := scLRS.nd
    have few := hq.few
    refine ⟨_, pss_cons (ps_if (pt_not (pt_chain op_le op_le pe_int (pv 2) pe_int)) (pss_one (ps_ret (pe_tup (pa_cons pe_non (pa_cons (pv 1) pa_nil))))) pss_nil)
      (pss_cons (ps_for PassesOwn.never rfl (pi_range2 rfl B.range (pa_cons (pv 3) (pa_cons (pe_op op_add (pv 3) (pv 2)) pa_nil))) (pg_name (i := 4) nd rfl (.inl rfl))
        (pss_one (ps_if (PW.pt (pw_or (pt_cmpR op_ge (pv 4) (pe_callB call_len_seq (by rfl) B.len PySem.boot_len (pa_cons (pv 0) pa_nil)) (nomark _)) (pw_or (pt_not (pt_chain op_le op_le pe_int (pe_ix ix_tup (pv 0) (pv 4) (fun _ _ => rfl)) pe_int)) (pw_or1 (pt_cmpR op_eq (pe_ix ix_tup (pv 0) (pv 4) (fun _ _ => rfl)) pe_int (nomark _))))))
          (pss_one (ps_ret (pe_tup (pa_cons pe_non (pa_cons (pe_callB (call_min2 rfl) (by rfl) B.min (by decide +kernel) (pa_cons (pv 4) (pa_cons (pe_callB call_len_seq (by rfl) B.len PySem.boot_len (pa_cons (pv 0) pa_nil)) pa_nil))) pa_nil))))) pss_nil)))
      (pss_one (ps_ret (pe_tup (pa_cons (pe_tup (pa_cons (pe_join pe_str (pe_lc (own := [("byte", 5)]) (g := gName 5) (tt := tYes) rfl nd (pi_tup (pe_slice sl_X (pv 0) (po_some (pv 3)) (po_some (pe_op op_add (pv 3) (pv 2))))) (blkOk_by (N := ["row", "begin", "many", "here", "at", "byte"]) (sc := defScope sLRS) (by decide +kernel)) (fun _ _ _ _ _ => pg_name (i := 5) nd rfl (.inl rfl)) (fun _ _ _ _ _ => pts_nil)
        (fun _ _ _ _ _ => pe_call GS hr rfl DS.m DS.k DS.b .nil pass0 (pa_cons (pv 5) pa_nil)))) pa_nil)) (pa_cons (pe_op op_add (pv 3) (pv 2)) pa_nil)))))), ?_⟩
    refine ⟨_, rfl, _, _, rfl, rfl, _, rfl, ?_⟩
    have no : ¬ (1 ≤ n ∧ n ≤ 20) → ∀ y, H y = none → Q (.ref y) (upd H y (.tup [.non, .int (a : Int)])) := fun c y hy => k.2 a y _ (by unfold strL; rw [if_neg c]) (sN hy) upd_same
    by_cases c : 1 ≤ n ∧ n ≤ 20
    · have eR : strL bs a n h = rdS bs n.toNat h [] := if_pos c
      rw [eR] at k
      refine ite2 (fun _ => ?_) (fun z => absurd (decide_eq_true c.1) z)
      refine ⟨_, _, rfl, rfl, _, rfl, ite2 (fun z => ?_) (fun _ => ?_)⟩
      · rw [decide_eq_true c.2] at z
        cases z
      refine ⟨_, rfl, _, rfl, _, rfl, _, _, rfl, rfl, _, _, rfl, ⟨by omega, by omega, by omega, by omega⟩, for_range (lo := (h : Int)) (n := ((h : Int) + n - (h : Int)).toNat) (fun i σ H' => ∃ x4, σ = [some (.ref q), some (.int (a : Int)), some (.int n), some (.int (h : Int)), x4, none] ∧ H' = H ∧ ∀ j, j < i → ∃ b, bs[h + j]? = some b ∧ isSg b = true) ?_ ?_ ?_⟩
      · exact ⟨none, rfl, rfl, fun j hj => by omega⟩
      · rintro i σ H1 hi ⟨x4, rfl, rfl, ok⟩
        have hin : i < n.toNat := by omega
        have le : h + i ≤ bs.length := by
          rcases Nat.eq_zero_or_pos i with z | z
          · omega
          · obtain ⟨b, e, _⟩ := ok (i - 1) (by omega)
            have := (List.getElem?_eq_some_iff.mp e).1
            omega
        have stop : (∀ b, bs[h + i]? = some b → isSg b = false) → ∀ y, H1 y = none → Q (.ref y) (upd H1 y (.tup [.non, .int (if ((bs.length : Nat) : Int) < (h : Int) + (i : Int) then ((bs.length : Nat) : Int) else (h : Int) + (i : Int))])) := fun z y hy => by
          refine k.2 (h + i) y _ (rdS_stop i n.toNat h [] hin ok z) (sN hy) ?_
          rw [upd_same, if_neg (by omega)]
          rfl
        refine ⟨_, rfl, _, rfl, q, _, rfl, .inr (SqT.of hq.at_), _, _, rfl, rfl, _, rfl, ?_⟩
        rw [List.length_map]
        refine ite2 (fun z => ?_) (fun z => ?_)
        · have z : ((bs.length : Nat) : Int) ≤ (h : Int) + (i : Int) := of_decide_eq_true z
          refine ⟨_, rfl, _, rfl, q, _, rfl, .inr (SqT.of hq.at_), _, _, rfl, (by show 2 ≤ sizeLine; decide), fun y hy => ?_⟩
          rw [List.length_map]
          exact stop (fun b e => by have := (List.getElem?_eq_some_iff.mp e).1; omega) y hy
        · have z : ¬ ((bs.length : Nat) : Int) ≤ (h : Int) + (i : Int) := fun y => z (decide_eq_true y)
          have eb : bs[h + i]? = some bs[h + i] := List.getElem?_eq_getElem (by omega)
          revert eb
          generalize bs[h + i] = b
          intro eb
          have ea : atI (bs.map V.int) ((h : Int) + (i : Int)) = some (V.int b) := at_k (m := 0) (q := q) (by omega) eb
          have tl : isSg b = false → ∀ y, H1 y = none → Q (.ref y) (upd H1 y (.tup [.non, .int (if ((bs.length : Nat) : Int) < (h : Int) + (i : Int) then ((bs.length : Nat) : Int) else (h : Int) + (i : Int))])) := fun sg => stop fun b' e => by
            rw [eb] at e
            cases e
            exact sg
          have sgE : isSg b = (decide (32 ≤ b) && decide (b ≤ 126) && !decide (b = 37)) := rfl
          refine ⟨_, rfl, _, rfl, q, _, _, _, rfl, rfl, SqT.of hq.at_, ea, _, _, rfl, rfl, _, rfl, ?_⟩
          by_cases c1 : (32 : Int) ≤ b
          · rw [decide_eq_true c1]
            refine iteT ⟨_, _, rfl, rfl, _, rfl, ?_⟩
            by_cases c2 : b ≤ 126
            · rw [decide_eq_true c2]
              refine iteF ⟨_, rfl, _, rfl, q, _, _, _, rfl, rfl, SqT.of hq.at_, ea, rfl, _, rfl, ?_⟩
              rw [dint]
              refine ite2 (fun c3 => ?_) (fun c3 => ?_)
              · refine ⟨_, rfl, _, rfl, q, _, rfl, .inr (SqT.of hq.at_), _, _, rfl, (by show 2 ≤ sizeLine; decide), fun y hy => ?_⟩
                rw [List.length_map]
                exact tl (by rw [sgE, c3]; simp) y hy
              · refine ⟨_, rfl, rfl, fun j hj => ?_⟩
                rcases Nat.lt_or_ge j i with y | y
                · exact ok j y
                · obtain rfl : j = i := by omega
                  refine ⟨b, eb, ?_⟩
                  rw [sgE, decide_eq_true c1, decide_eq_true c2, decide_eq_false fun y => c3 (decide_eq_true y)]
                  rfl
            · rw [decide_eq_false c2]
              refine iteT ?_
              refine ⟨_, rfl, _, rfl, q, _, rfl, .inr (SqT.of hq.at_), _, _, rfl, (by show 2 ≤ sizeLine; decide), fun y hy => ?_⟩
              rw [List.length_map]
              exact tl (by rw [sgE, decide_eq_false c2]; simp) y hy
          · rw [decide_eq_false c1]
            refine iteF ⟨_, rfl, iteT ?_⟩
            refine ⟨_, rfl, _, rfl, q, _, rfl, .inr (SqT.of hq.at_), _, _, rfl, (by show 2 ≤ sizeLine; decide), fun y hy => ?_⟩
            rw [List.length_map]
            exact tl (by rw [sgE, decide_eq_false c1]; simp) y hy
      · rintro σ H1 ⟨x4, rfl, rfl, ok⟩
        have ok : ∀ j, j < n.toNat → ∃ b, bs[h + j]? = some b ∧ isSg b = true := fun j hj => ok j (by omega)
        have le : h + n.toNat ≤ bs.length := by
          obtain ⟨b, e, _⟩ := ok (n.toNat - 1) (by omega)
          have := (List.getElem?_eq_some_iff.mp e).1
          omega
        have tgt := rdS_go n.toNat h [] ok
        rw [List.nil_append] at tgt
        refine ⟨⟨_, rfl⟩, _, rfl, _, rfl, _, rfl, _, rfl, _, rfl, _, _, rfl, rfl, _, rfl, q, _, rfl, hq.at_, fun y H2 s2 hy => ?_⟩
        have lc : ((bs.map V.int).drop h).take (h + n.toNat - h) = ((bs.drop h).take n.toNat).map V.int := by
          rw [← List.map_drop, ← List.map_take, show h + n.toNat - h = n.toNat by omega]
        rw [show ((h : Int) + n) = ((h + n.toNat : Nat) : Int) by omega, cut_nat _ (by omega) (by rw [List.length_map]; omega), lc] at hy
        refine ⟨y, rfl, ⟨_, SqT.of hy⟩, fun D hD => lc_tup (K := K) (a := y) (xs := ((bs.drop h).take n.toNat).map V.int) (fun i H' => H' D = some (.lst ((((bs.drop h).take n.toNat).take i).map fun b => V.str (sOf [b.toNat]))) ∧ Same H2 H') ?_ ?_ ?_ ?_⟩
        · exact ⟨upd_same, sN hD⟩
        · rintro i H3 hi ⟨_, s3⟩
          exact SqT.of (s3 _ _ hy)
        · rintro i x H3 hx ⟨eD, s3⟩
          obtain ⟨b, hb, rfl⟩ := at_ints hx
          have hi := (List.getElem?_eq_some_iff.mp hb).1
          rw [List.length_take, List.length_drop] at hi
          have hb2 : bs[h + i]? = some b := by
            rw [List.getElem?_take, if_pos (by omega), List.getElem?_drop] at hb
            exact hb
          obtain ⟨b', e', sg⟩ := ok i (by omega)
          rw [hb2] at e'
          cases e'
          refine ⟨rfl, _, rfl, b, rfl, sg, _, eD, ?_, ?_, sNew s3 hD⟩
          · rw [List.length_map, List.length_take]
            exact size_ok (by omega)
          · rw [upd_same, take_more hb, List.map_append]
            rfl
        · rintro H3 ⟨eD, s3⟩
          rw [List.length_map, List.take_length] at eD
          have lz : (((bs.drop h).take n.toNat).map Int.toNat).length = n.toNat := by
            rw [List.length_map, List.length_take, List.length_drop]
            omega
          refine ⟨SX.S [], D, (((bs.drop h).take n.toNat).map Int.toNat).map fun c => sOf [c], rfl, rfl, .inl (SqL.of (by rw [eD, List.map_map, List.map_map]; rfl)), ?_, ?_⟩
          · have l5 : ((((bs.drop h).take n.toNat).map Int.toNat).map fun c => sOf [c]).length = n.toNat := by rw [List.length_map, lz]
            rw [lens1, l5, lz]
            show n.toNat + n.toNat * 0 ≤ _
            omega
          · rw [join_sOf]
            refine ⟨(by show 1 ≤ sizeLine; decide), fun t1 ht1 => ⟨_, rfl, _, rfl, _, _, rfl, rfl, (by show 2 ≤ sizeLine; decide), fun t2 ht2 => ?_⟩⟩
            have s4 := sN (o := .tup [.str (sOf (((bs.drop h).take n.toNat).map Int.toNat))]) ht1
            refine k.1 _ (h + n.toNat) (.str (sOf (((bs.drop h).take n.toNat).map Int.toNat))) t1 t2 _ tgt (sT s2 (sT s3 (sT s4 (sN ht2)))) (sN ht2 _ _ upd_same) ⟨rfl, by omega⟩ ?_
            rw [upd_same]
            show some (HO.tup [V.ref t1, V.int ((h : Int) + n)]) = _
            rw [show ((h : Int) + n) = ((h + n.toNat : Nat) : Int) by omega]
    · by_cases c1 : 1 ≤ n
      · refine ite2 (fun _ => ?_) (fun z => absurd (decide_eq_true c1) z)
        refine ⟨_, _, rfl, rfl, _, rfl, ite2 (fun z => ?_) (fun z => ?_)⟩
        · exact ⟨_, rfl, (by show 2 ≤ sizeLine; decide), no c⟩
        · rw [decide_eq_false (show ¬ n ≤ 20 by omega)] at z
          exact absurd rfl z
      · refine ite2 (fun z => absurd (of_decide_eq_true z) c1) (fun _ => ?_)
        exact ⟨_, rfl, iteT ⟨_, rfl, (by show 2 ≤ sizeLine; decide), no c⟩⟩
theorem scLR : FnScope ["row", "at", "left", "sort", "number", "here", "found", "part"] ["row", "at", "left"] (defScope sLR) := ⟨rfl, rfl, rfl, by decide +kernel, rfl, by decide +kernel, by decide +kernel⟩
theorem ok_lr {f fW fS fG : Addr} {fd fdW fdS fdG : FuncData} (D : Df K mg "_law_read" sLR ["row", "at", "left"] f fd) (B : Bts mg) (DW : Df K mg "_law_read_whole" sLRW ["row", "at"] fW fdW) (DS : Df K mg "_law_read_string" sLRS ["row", "begin", "many", "here"] fS fdS) (DG : Df K mg "_law_sign" sLSg ["byte"] fG fdG) : ∀ d, FnOk P w K mg base CX0 (d + 3) f fd ["row", "at", "left"] (spLR d) := by
  have GW : FnOk P w K mg base CX0 1 fW fdW ["row", "at"] spLRW := ok_lrw DW B
  have GS : FnOk P w K mg base CX0 2 fS fdS ["row", "begin", "many", "here"] spLRS := ok_lrs DS B DG
  have main : ∀ d, FnOk P w K mg base CX0 (d + 2) f fd ["row", "at", "left"] (fun vs H Q E => 0 < d ∧ spLR (d - 1) vs H Q E) → FnOk P w K mg base CX0 (d + 3) f fd ["row", "at", "left"] (spLR d) := by
    intro d IH
    refine D.F.ok scLR (fun vs H Q E h => ?_) (fun cdv A outer s H vs Q E hr h => ?_)
    · obtain ⟨q, bs, a, rfl, _⟩ := h
      rfl
    · obtain ⟨q, bs, a, rfl, hq, al, k⟩ := h
      have nd := scLR.nd
      have few := hq.few
      have hr1 : Room 1 _ := hr.mono (by omega)
      have hr2 : Room 2 _ := hr.mono (by omega)
      refine ⟨_, pss_cons (ps_if (pt_cmpR op_ge (pv 1) (pe_callB call_len_seq (by rfl) B.len PySem.boot_len (pa_cons (pv 0) pa_nil)) (nomark _)) (pss_one (ps_ret (pe_tup (pa_cons pe_non (pa_cons (pe_callB call_len_seq (by rfl) B.len PySem.boot_len (pa_cons (pv 0) pa_nil)) pa_nil))))) pss_nil)
        (pss_cons (ps_set (i := 3) nd rfl (.inl rfl) (pe_ix ix_tup (pv 0) (pv 1) (fun _ _ => rfl)))
        (pss_cons (ps_if (PW.pt (pw_or (pt_cmpR op_gt (pv 3) pe_int (nomark _)) (pw_or1 (PW.pt (pw_and (pt_cmpR op_eq (pv 3) pe_int (nomark _)) (pw_and1 (pt_cmpR op_eq (pv 2) pe_int (nomark _)))))))) (pss_one (ps_ret (pe_tup (pa_cons pe_non (pa_cons (pv 1) pa_nil))))) pss_nil)
        (pss_cons (ps_if (pt_cmpR op_lt (pv 3) pe_int (nomark _)) (pss_one (ps_ret (pe_tup (pa_cons (pe_tup (pa_cons (pe_ix ix_list (pe_lst (pa_cons pe_non (pa_cons pe_bl (pa_cons pe_bl pa_nil)))) (pv 3) (fun _ _ => rfl)) pa_nil)) (pa_cons (pe_op op_add (pv 1) pe_int) pa_nil))))) pss_nil)
        (pss_cons (ps_asg (pe_call GW hr1 rfl DW.m DW.k DW.b .nil pass0 (pa_cons (pv 0) (pa_cons (pe_op op_add (pv 1) pe_int) pa_nil))) (pg_tup rfl (pgs_cons (pg_name (i := 4) nd rfl (.inl rfl)) (pgs_cons (pg_name (i := 5) nd rfl (.inl rfl)) pgs_nil))))
        (pss_cons (ps_if (pt_cmp (pc_isN (pv 4))) (pss_one (ps_ret (pe_tup (pa_cons pe_non (pa_cons (pv 5) pa_nil))))) pss_nil)
        (pss_cons (ps_if (pt_cmpR op_lt (pv 3) pe_int (nomark _)) (pss_one (ps_ret (pe_tup (pa_cons (pe_tup (pa_cons (pe_ifExp (pt_cmpR op_eq (pv 3) pe_int (nomark _)) (pv 4) (pe_op op_sub (pe_op op_sub pe_int pe_int) (pv 4))) pa_nil)) (pa_cons (pv 5) pa_nil))))) pss_nil)
        (pss_cons (ps_if (pt_cmpR op_eq (pv 3) pe_int (nomark _)) (pss_one (ps_ret (pe_call GS hr2 rfl DS.m DS.k DS.b .nil pass0 (pa_cons (pv 0) (pa_cons (pe_op op_add (pv 1) pe_int) (pa_cons (pv 4) (pa_cons (pv 5) pa_nil))))))) pss_nil)
        (pss_cons (ps_set (i := 6) nd rfl (.inl rfl) (pe_lst pa_nil))
        (pss_cons (ps_while PassesOwn.never (pt_cmpR op_lt (pe_callB call_len_seq (by rfl) B.len PySem.boot_len (pa_cons (pv 6) pa_nil)) (pv 4) (nomark _))
          (pss_cons (ps_asg (pe_call IH hr rfl D.m D.k D.b .nil pass0 (pa_cons (pv 0) (pa_cons (pv 5) (pa_cons (pe_op op_sub (pv 2) pe_int) pa_nil)))) (pg_tup rfl (pgs_cons (pg_name (i := 7) nd rfl (.inl rfl)) (pgs_cons (pg_name (i := 5) nd rfl (.inl rfl)) pgs_nil))))
          (pss_cons (ps_if (pt_cmp (pc_isN (pv 7))) (pss_one (ps_ret (pe_tup (pa_cons pe_non (pa_cons (pv 5) pa_nil))))) pss_nil)
          (pss_one (ps_expr (pe_bm PySem.F.plainAttrs_list PySem.F.slot_list_append PySem.F.type_list_append mt_append (pv 6) (pa_cons (pe_ix ix_tup (pv 7) pe_int (fun _ _ => rfl)) pa_nil)))))))
        (pss_one (ps_ret (pe_tup (pa_cons (pe_tup (pa_cons (pe_callTy call_tuple_of (by rfl) B.tuple PyProof.Rows.boot_tuple (pa_cons (pv 6) pa_nil)) pa_nil)) (pa_cons (pv 5) pa_nil)))))))))))))), ?_⟩
      have eP : ∃ g : Nat → Nat → R, rdP bs d a = rdG bs g (decide (d = 0)) a ∧ (0 < d → ∀ n h, g n h = rdL (rdP bs (d - 1)) (bs.length + 1) n h []) := by
        cases d with
        | zero => exact ⟨_, rfl, fun z => absurd z (by decide)⟩
        | succ d => exact ⟨_, rfl, fun _ n h => rfl⟩
      obtain ⟨g, eP, eg⟩ := eP
      rw [eP] at k
      -- what is told of an atom
      have told : ∀ {H1 : Hp} (t : QR.T) (v : V) (h : Nat) (hi : Int), Same H H1 → rdG bs g (decide (d = 0)) a = .ok t h → Rep H1 d t v → hi = (h : Int) → ∀ y, H1 y = none → ∀ z, upd H1 y (.tup [v]) z = none → Q (.ref z) (upd (upd H1 y (.tup [v])) z (.tup [.ref y, .int hi])) := fun t v h hi s e r ei y hy z hz => by
        have s1 := sN (o := .tup [v]) hy
        refine k.1 t h v y z _ e (sT s (sT s1 (sN hz))) (sN hz _ _ upd_same) ((r.same s1).same (sN hz)) ?_
        rw [upd_same, ei]
      refine ⟨_, rfl, _, rfl, q, _, rfl, .inr (SqT.of hq.at_), _, _, rfl, rfl, _, rfl, ?_⟩
      rw [List.length_map]
      refine ite2 (fun c => ?_) (fun c => ?_)
      · have c : a = bs.length := by
          have c : ((bs.length : Nat) : Int) ≤ (a : Int) := of_decide_eq_true c
          omega
        refine ⟨_, rfl, q, _, rfl, .inr (SqT.of hq.at_), (by show 2 ≤ sizeLine; decide), fun y hy => k.2 a y _ ?_ (sN hy) ?_⟩
        · unfold rdG
          rw [List.getElem?_eq_none (by omega)]
        · rw [upd_same, List.length_map, c]
      have lt : a < bs.length := by
        have c : ¬ ((bs.length : Nat) : Int) ≤ (a : Int) := fun z => c (decide_eq_true z)
        omega
      clear c
      have eb : bs[a]? = some bs[a] := List.getElem?_eq_getElem lt
      revert eb
      generalize bs[a] = b
      intro eb
      obtain ⟨b0, b256⟩ := hq.b b (List.mem_of_getElem? eb)
      have eG : rdG bs g (decide (d = 0)) a = if 6 < b ∨ (b = 6 ∧ decide (d = 0) = true) then .no a else if b = 0 then .ok .non (a + 1) else if b = 1 then .ok (.bl false) (a + 1) else if b = 2 then .ok (.bl true) (a + 1) else rdB bs g b a := by
        unfold rdG
        rw [eb]
      have bad : (6 < b ∨ (b = 6 ∧ decide (d = 0) = true)) → ∀ y, H y = none → Q (.ref y) (upd H y (.tup [.non, .int (a : Int)])) := fun c y hy => k.2 a y _ (by rw [eG, if_pos c]) (sN hy) upd_same
      refine ⟨_, rfl, _, rfl, q, _, _, _, rfl, rfl, SqT.of hq.at_, at_row eb, ?_⟩
      refine ⟨_, rfl, _, _, rfl, rfl, _, rfl, ?_⟩
      refine ite2 (fun c => ?_) (fun c => ?_)
      · exact ⟨_, rfl, (by show 2 ≤ sizeLine; decide), bad (.inl (of_decide_eq_true c))⟩
      have c6 : ¬ 6 < b := fun z => c (decide_eq_true z)
      clear c
      refine ⟨_, rfl, rfl, _, rfl, ?_⟩
      rw [dint]
      refine ite2 (fun c => ?v1) (fun c => ?v2)
      case' v1 =>
        refine ⟨_, rfl, rfl, _, rfl, ?_⟩
        rw [dint]
        refine ite2 (fun c2 => ?v3) (fun c2 => ?v4)
        case' v3 =>
          have c2 : (d : Int) = 0 := of_decide_eq_true c2
          exact ⟨_, rfl, (by show 2 ≤ sizeLine; decide), bad (.inr ⟨of_decide_eq_true c, decide_eq_true (by omega)⟩)⟩
        case' v4 => have ok6 : ¬ (b = 6 ∧ decide (d = 0) = true) := fun y => c2 (decide_eq_true (by have := of_decide_eq_true y.2; omega))
      case' v2 => have ok6 : ¬ (b = 6 ∧ decide (d = 0) = true) := fun y => c (decide_eq_true y.1)
      all_goals
        rw [if_neg (show ¬ (6 < b ∨ (b = 6 ∧ decide (d = 0) = true)) from fun y => y.elim c6 ok6)] at eG
        refine ⟨_, rfl, _, _, rfl, rfl, _, rfl, ite2 (fun c3 => ?_) (fun c3 => ?_)⟩
        · have c3 : b < 3 := of_decide_eq_true c3
          refine ⟨(by show 3 ≤ sizeLine; decide), fun l hl => ?_⟩
          have s1 := sN (o := .lst [.non, .bl false, .bl true]) hl
          rcases (show b = 0 ∨ b = 1 ∨ b = 2 by omega) with rfl | rfl | rfl
          · exact ⟨_, rfl, l, _, 0, .non, rfl, rfl, SqL.of upd_same, atI_nat (j := 0) rfl, (by show 1 ≤ sizeLine; decide), fun y hy => ⟨_, rfl, _, _, rfl, rfl, (by show 2 ≤ sizeLine; decide), told .non .non (a + 1) _ s1 eG (Rep.atom (t := .non) (v := .non) rfl) (by omega) y hy⟩⟩
          · exact ⟨_, rfl, l, _, 1, .bl false, rfl, rfl, SqL.of upd_same, atI_nat (j := 1) rfl, (by show 1 ≤ sizeLine; decide), fun y hy => ⟨_, rfl, _, _, rfl, rfl, (by show 2 ≤ sizeLine; decide), told (.bl false) (.bl false) (a + 1) _ s1 eG (Rep.atom (t := .bl false) (v := .bl false) rfl) (by omega) y hy⟩⟩
          · exact ⟨_, rfl, l, _, 2, .bl true, rfl, rfl, SqL.of upd_same, atI_nat (j := 2) rfl, (by show 1 ≤ sizeLine; decide), fun y hy => ⟨_, rfl, _, _, rfl, rfl, (by show 2 ≤ sizeLine; decide), told (.bl true) (.bl true) (a + 1) _ s1 eG (Rep.atom (t := .bl true) (v := .bl true) rfl) (by omega) y hy⟩⟩
        have n3 : ¬ b < 3 := fun z => c3 (decide_eq_true z)
        rw [if_neg (by omega), if_neg (by omega), if_neg (by omega)] at eG
        refine ⟨_, rfl, _, rfl, _, _, rfl, rfl, q, bs, a + 1, ?_, hq, by omega, fun n h z H1 wr s1 hz => ?_, fun wr z H1 s1 hz => ?_⟩
        · show [V.ref q, V.int ((a : Int) + 1)] = _
          rw [show ((a : Int) + 1) = ((a + 1 : Nat) : Int) by omega]
        · obtain ⟨n0, ah, hl⟩ := rdW_nn wr
          refine ⟨z, _, rfl, SqT.of hz, rfl, _, _, rfl, _, _, rfl, rfl, ?_⟩
          refine ⟨_, rfl, _, rfl, iteF ?_⟩
          have hq1 := hq.same s1
          refine ⟨_, rfl, _, _, rfl, rfl, _, rfl, ite2 (fun c5 => ?_) (fun c5 => ?_)⟩
          · have c5 : b < 5 := of_decide_eq_true c5
            refine ⟨_, rfl, rfl, _, rfl, ?_⟩
            rw [dint]
            refine ite2 (fun e3 => ?_) (fun e3 => ?_)
            · obtain rfl : b = 3 := of_decide_eq_true e3
              have eB : rdG bs g (decide (d = 0)) a = .ok (.int n) h := by
                rw [eG]
                unfold rdB
                rw [wr]
                rfl
              exact ⟨_, rfl, (by show 1 ≤ sizeLine; decide), fun y hy => ⟨_, rfl, (by show 2 ≤ sizeLine; decide), told (.int n) (.int n) h _ s1 eB (Rep.atom (t := .int n) (v := .int n) rfl) rfl y hy⟩⟩
            · obtain rfl : b = 4 := by
                have : ¬ b = 3 := fun z => e3 (decide_eq_true z)
                omega
              have eB : rdG bs g (decide (d = 0)) a = .ok (.int (-1 - n)) h := by
                rw [eG]
                unfold rdB
                rw [wr]
                rfl
              exact ⟨_, _, rfl, rfl, _, rfl, _, _, rfl, rfl, (by show 1 ≤ sizeLine; decide), fun y hy => ⟨_, rfl, (by show 2 ≤ sizeLine; decide), told (.int (-1 - n)) (.int (-1 - n)) h _ s1 eB (Rep.atom (t := .int (-1 - n)) (v := .int (-1 - n)) rfl) rfl y hy⟩⟩
          · have n5 : ¬ b < 5 := fun z => c5 (decide_eq_true z)
            refine ⟨_, rfl, rfl, _, rfl, ?_⟩
            rw [dint]
            refine ite2 (fun e5 => ?_) (fun e5 => ?_)
            · obtain rfl : b = 5 := of_decide_eq_true e5
              have eB : rdG bs g (decide (d = 0)) a = strL bs (a + 1) n h := by
                rw [eG]
                unfold rdB strL
                rw [wr]
                rfl
              rw [eB] at k
              refine ⟨_, rfl, _, rfl, _, _, rfl, rfl, _, rfl, _, rfl, q, bs, a + 1, h, n, ?_, hq1, hl, fun t h2 v w z2 H2 e s2 a1 a2 a3 => k.1 t h2 v w z2 H2 e (sT s1 s2) a1 (.atom a2) a3, fun p z2 H2 e s2 a1 => k.2 p z2 H2 e (sT s1 s2) a1⟩
              show [V.ref q, V.int ((a : Int) + 1), V.int n, V.int (h : Int)] = _
              rw [show ((a : Int) + 1) = ((a + 1 : Nat) : Int) by omega]
            · obtain rfl : b = 6 := by
                have : ¬ b = 5 := fun z => e5 (decide_eq_true z)
                omega
              have d0 : 0 < d := Nat.pos_of_ne_zero fun z => ok6 ⟨rfl, decide_eq_true z⟩
              have eB : rdG bs g (decide (d = 0)) a = rdL (rdP bs (d - 1)) (bs.length + 1) n.toNat h [] := by
                rw [eG]
                unfold rdB
                rw [wr]
                exact eg d0 _ _
              rw [eB] at k
              clear told eB eG e5 n5 c5 n3 c3 ok6 c6 bad
              have kk := OutL.from k s1
              refine ⟨Nat.zero_le _, fun l hl0 => ?_⟩
              have nl : H l = none := sNo s1 hl0
              refine ⟨fun m σ H' => ∃ (h' fu : Nat) (ts : List QR.T) (xs : List V) (x7 : Option V), σ = [some (.ref q), some (.int (a : Int)), some (.int (d : Int)), some (.int 6), some (.int n), some (.int ((h' : Nat) : Int)), some (.ref l), x7] ∧ Same H H' ∧ H' l = some (.lst xs) ∧ xs.length = ts.length ∧ (∀ (i : Nat) (x : V) (t : QR.T), xs[i]? = some x → ts[i]? = some t → Rep H' (d - 1) t x) ∧
                ts.length ≤ n.toNat ∧ ts.length ≤ h' ∧ h' ≤ bs.length ∧ bs.length + 1 ≤ fu + h' ∧ rdL (rdP bs (d - 1)) fu (n.toNat - ts.length) h' ts = rdL (rdP bs (d - 1)) (bs.length + 1) n.toNat h [] ∧ m = bs.length - h', ⟨_, h, bs.length + 1, [], [], none, rfl, sNew s1 nl, upd_same, rfl, fun i x t hx => by simp at hx, Nat.zero_le _, Nat.zero_le _, hl, by omega, rfl, rfl⟩, ?_⟩
              rintro m σ H3 ⟨h', fu, ts, xs, x7, rfl, s3, e3, lx, reps, tn, th, hb, fl, tgt, rfl⟩
              have hq3 := hq.same s3
              refine ⟨_, rfl, l, _, rfl, .inl (SqL.of e3), _, rfl, _, _, rfl, rfl, _, rfl, ite2 (fun c => ?_) (fun c => ?_)⟩
              · have c : ts.length < n.toNat := by
                  have c : ((xs.length : Nat) : Int) < n := of_decide_eq_true c
                  omega
                refine ⟨fun σ' H' => ∃ (h2 fu : Nat) (ts : List QR.T) (xs : List V) (x7 : Option V), σ' = [some (.ref q), some (.int (a : Int)), some (.int (d : Int)), some (.int 6), some (.int n), some (.int ((h2 : Nat) : Int)), some (.ref l), x7] ∧ Same H H' ∧ H' l = some (.lst xs) ∧ xs.length = ts.length ∧ (∀ (i : Nat) (x : V) (t : QR.T), xs[i]? = some x → ts[i]? = some t → Rep H' (d - 1) t x) ∧
                  ts.length ≤ n.toNat ∧ ts.length ≤ h2 ∧ h2 ≤ bs.length ∧ bs.length + 1 ≤ fu + h2 ∧ rdL (rdP bs (d - 1)) fu (n.toNat - ts.length) h2 ts = rdL (rdP bs (d - 1)) (bs.length + 1) n.toNat h [] ∧ h' < h2, fun σ' H' ⟨h2, fu, ts, xs, x7, z1, z2, z3, z4, z5, z6, z7, z8, z9, z10, z11⟩ => ⟨bs.length - h2, by omega, h2, fu, ts, xs, x7, z1, z2, z3, z4, z5, z6, z7, z8, z9, z10, rfl⟩, ?_⟩
                obtain ⟨fu, rfl⟩ : ∃ f0, fu = f0 + 1 := ⟨fu - 1, by omega⟩
                have un : rdL (rdP bs (d - 1)) (fu + 1) (n.toNat - ts.length) h' ts = match rdP bs (d - 1) h' with
                  | .no p => .no p
                  | .ok t h2 => rdL (rdP bs (d - 1)) fu (n.toNat - (ts.length + 1)) h2 (ts ++ [t]) := by
                  rw [show n.toNat - ts.length = (n.toNat - (ts.length + 1)) + 1 by omega]
                  rfl
                rw [un] at tgt
                refine ⟨_, rfl, _, rfl, _, rfl, _, _, rfl, rfl, d0, q, bs, h', ?_, hq3, hb, fun t h2 v wv z2 H4 e4 s4 w4 rp z4 => ?_, fun p z2 H4 e4 s4 z4 => ?_⟩
                · show [V.ref q, V.int ((h' : Nat) : Int), V.int ((d : Int) - 1)] = _
                  rw [show ((d : Int) - 1) = ((d - 1 : Nat) : Int) by omega]
                · obtain ⟨f1, f2⟩ := rdP_fwd (d - 1) h' t h2 e4
                  rw [e4] at tgt
                  refine ⟨z2, _, rfl, SqT.of z4, rfl, _, _, rfl, _, _, rfl, rfl, ?_⟩
                  refine ⟨_, rfl, _, rfl, iteF ?_⟩
                  have l4 := s4 _ _ e3
                  refine ⟨_, rfl, .inl ⟨rfl, _, SqL.of l4⟩, _, rfl, wv, _, 0, v, rfl, rfl, SqT.of w4, atI_nat (j := 0) rfl, l, _, _, rfl, rfl, l4, by rw [lx]; exact size_ok (by omega), ?_⟩
                  have tk5 : Tk H4 (upd H4 l (.lst (xs ++ [v]))) := fun c ys e => by
                    rw [upd_ne (ne_of e l4 (fun z => by cases z))]
                    exact e
                  refine ⟨h2, fu, ts ++ [t], xs ++ [v], _, rfl, sNew (sT s3 s4) nl, upd_same, by rw [List.length_append, List.length_append, lx]; rfl, fun i x t' hx ht => ?_, by rw [List.length_append]; show _ + 1 ≤ _; omega, by rw [List.length_append]; show _ + 1 ≤ _; omega, f2, by omega, by rw [List.length_append]; exact tgt, f1⟩
                  by_cases hi : i < xs.length
                  · rw [List.getElem?_append_left hi] at hx
                    rw [List.getElem?_append_left (by omega)] at ht
                    exact ((reps i x t' hx ht).same s4).tk tk5
                  · rw [List.getElem?_append_right (by omega)] at hx
                    rw [List.getElem?_append_right (by omega)] at ht
                    have z1 : i - xs.length = 0 := by
                      have := (List.getElem?_eq_some_iff.mp hx).1
                      have : i - xs.length < 1 := this
                      omega
                    rw [z1] at hx
                    rw [← lx, z1] at ht
                    cases hx
                    cases ht
                    exact rp.tk tk5
                · rw [e4] at tgt
                  refine ⟨z2, _, rfl, SqT.of z4, rfl, _, _, rfl, _, _, rfl, rfl, ?_⟩
                  refine ⟨_, rfl, _, rfl, iteT ?_⟩
                  exact ⟨_, rfl, (by show 2 ≤ sizeLine; decide), fun y hy => k.2 p y _ tgt.symm (sT s3 (sT s4 (sN hy))) upd_same⟩
              · have c : n.toNat - ts.length = 0 := by
                  have c : ¬ ((xs.length : Nat) : Int) < n := fun z => c (decide_eq_true z)
                  omega
                rw [c] at tgt
                have tgt : R.ok (.tup ts) h' = rdL (rdP bs (d - 1)) (bs.length + 1) n.toNat h [] := by
                  rw [← tgt]
                  cases fu <;> rfl
                refine ⟨_, rfl, l, _, rfl, .inl ⟨SqL.of e3, fun t0 ht0 => ⟨(by show 1 ≤ sizeLine; decide), fun t1 ht1 => ⟨_, rfl, (by show 2 ≤ sizeLine; decide), fun t2 ht2 => ?_⟩⟩⟩⟩
                have s4 := sN (o := .tup xs) ht0
                have s5 := sN (o := .tup [.ref t0]) ht1
                have s6 := sN (o := .tup [.ref t1, .int ((h' : Nat) : Int)]) ht2
                have s456 := sT s4 (sT s5 s6)
                refine k.1 (.tup ts) h' (.ref t0) t1 t2 _ tgt.symm (sT s3 s456) (s6 _ _ upd_same) ?_ upd_same
                obtain ⟨d', rfl⟩ : ∃ d', d = d' + 1 := ⟨d - 1, by omega⟩
                exact ⟨t0, xs, rfl, s6 _ _ (s5 _ _ upd_same), lx, by omega, fun i x t hx ht => (reps i x t hx ht).same s456⟩
        · have eB : rdG bs g (decide (d = 0)) a = .no (a + 1) := by
            rw [eG]
            unfold rdB
            rw [wr]
          refine ⟨z, _, rfl, SqT.of hz, rfl, _, _, rfl, _, _, rfl, rfl, ?_⟩
          refine ⟨_, rfl, _, rfl, iteT ?_⟩
          exact ⟨_, rfl, (by show 2 ≤ sizeLine; decide), fun y hy => k.2 (a + 1) y _ eB (sT s1 (sN hy)) upd_same⟩
  intro d
  induction d with
  | zero => exact main 0 ⟨fun vs H Q E h => absurd h.1 (by decide), fun A outer s H args us vs Q E hr e0 hb r h => absurd h.1 (by decide)⟩
  | succ d ih => exact main (d + 1) (ih.imp fun vs H Q E h => h.2)
theorem scTold : FnScope ["row", "found", "here"] ["row"] (defScope sTold) := ⟨rfl, rfl, rfl, by decide +kernel, rfl, by decide +kernel, by decide +kernel⟩
theorem ok_told {f fR fW fS fG : Addr} {fd fdR fdW fdS fdG : FuncData} (D : Df K mg "_law_told" sTold ["row"] f fd) (B : Bts mg) (DR : Df K mg "_law_read" sLR ["row", "at", "left"] fR fdR) (DW : Df K mg "_law_read_whole" sLRW ["row", "at"] fW fdW) (DS : Df K mg "_law_read_string" sLRS ["row", "begin", "many", "here"] fS fdS) (DG : Df K mg "_law_sign" sLSg ["byte"] fG fdG) : FnOk P w K mg base CX0 24 f fd ["row"] spTold := by
  have GR : FnOk P w K mg base CX0 23 fR fdR ["row", "at", "left"] (spLR 20) := ok_lr DR B DW DS DG 20
  refine D.F.ok scTold (fun vs H Q E h => ?_) (fun cdv A outer s H vs Q E hr h => ?_)
  · obtain ⟨q, bs, rfl, _⟩ := h
    rfl
  · obtain ⟨q, bs, rfl, hq, k1, k2⟩ := h
    have nd := scTold.nd
    refine ⟨_, pss_cons (ps_asg (pe_call GR hr rfl DR.m DR.k DR.b .nil pass0 (pa_cons (pv 0) (pa_cons pe_int (pa_cons pe_int pa_nil)))) (pg_tup rfl (pgs_cons (pg_name (i := 1) nd rfl (.inl rfl)) (pgs_cons (pg_name (i := 2) nd rfl (.inl rfl)) pgs_nil))))
      (pss_cons (ps_if (pt_cmp (pc_isN (pv 1))) (pss_one (ps_ret (pv 2))) pss_nil)
      (pss_one (ps_ret (pe_ifExp (pt_cmpR op_eq (pv 2) (pe_callB call_len_seq (by rfl) B.len PySem.boot_len (pa_cons (pv 0) pa_nil)) (nomark _)) (pv 1) (pv 2))))), ?_⟩
    refine ⟨_, rfl, q, bs, 0, rfl, hq, Nat.zero_le _, fun t h v wv z H1 e s1 hw rp hz => ?_, fun p z H1 e s1 hz => ?_⟩
    · refine ⟨z, _, rfl, SqT.of hz, rfl, _, _, rfl, _, _, rfl, rfl, ?_⟩
      refine ⟨_, rfl, _, rfl, iteF ?_⟩
      have eA : rdAll bs = if h = bs.length then .ok t h else .no h := by
        unfold rdAll
        rw [e]
      refine ⟨_, rfl, _, rfl, q, _, rfl, .inr (SqT.of (s1 _ _ hq.at_)), rfl, _, rfl, ?_⟩
      rw [List.length_map, dint]
      refine ite2 (fun c => ?_) (fun c => ?_)
      · have c : ((h : Nat) : Int) = (bs.length : Int) := of_decide_eq_true c
        rw [if_pos (by omega)] at eA
        exact ⟨_, rfl, k1 t h v wv H1 eA s1 hw rp⟩
      · have c : ¬ ((h : Nat) : Int) = (bs.length : Int) := fun z => c (decide_eq_true z)
        rw [if_neg (by omega)] at eA
        exact ⟨_, rfl, k2 h H1 eA s1⟩
    · refine ⟨z, _, rfl, SqT.of hz, rfl, _, _, rfl, _, _, rfl, rfl, ?_⟩
      refine ⟨_, rfl, _, rfl, iteT ⟨_, rfl, k2 p H1 ?_ s1⟩⟩
      unfold rdAll
      rw [e]
end
end Q

/-! an own error over ValueError whose __init__ says super().__init__() alone -/
namespace QS
open PySem PySem.W PySem.Calls PyProof.Rows PySem.HandSPX L2
/-- the body super().__init__() -/
def supB (q1 q2 q3 q4 q5 : Pos) : List Stmt := [.Expr (.Call (.Attribute (.Call (.Name "super" q1) [] [] q2) "__init__" q3) [] [] q4) q5]
def supSc : Scope := { kind := .function, names := [("self", .local), ("__class__", .free), ("super", .globalImplicit)], isGenerator := false, isCoroutine := false, more := [] }
def supAr (p : Pos) : Arguments := { posonlyargs := [], args := [{ arg := "self", annotation := none, pos := p }], vararg := none, kwonlyargs := [], kw_defaults := [], kwarg := none, defaults := [] }
theorem supSc_cell : ∀ x ∈ supSc.names, x.2 ≠ .cell := by decide
theorem supSc_loc (v : Value) : ∀ y ∈ [(("self" : Str), v)], supSc.names.lookup y.1 = some .local := fun y hy => by
  rw [List.mem_singleton.mp hy]
  show supSc.names.lookup ("self" : Str) = some .local
  decide
theorem he_sup {o : Expr} {env : Env} {q3 q4 : Pos} (hl : (q3.endLine == q4.line) = true) : eval (.Call (.Attribute o "__init__" q3) [] [] q4) env = (do
    let ov ← attributeBase o "__init__" env (eval o env)
    standAt q3.atName
    let (f, first) ← holding [ov] (getMethod ov "__init__" (do return (← importBound o env).getD true))
    callWith q4 f first (backTo q4 (starEach [] env)) []) := by
  rw [arm_eval_Call]
  have hp : methodCallPos true o env q3 q4 = pure q4 := by unfold methodCallPos; simp [hl]
  have hf : methodCallForm (([] : List Expr).length + ([] : List Keyword).length) (backTo q4 (starEach [] env)) (backToKw q4 (keywordEach [] env)) = true := rfl
  unfold methodCall
  rw [hf, hp]
  unfold calleeOf
  simp only [if_true, pure_bind]
  rfl
/-- what the written part says of such a class -/
structure SupC (prog : Program) (K : Frag) (mg : Str → Option Value) (C fI : Addr) (qual : Str) : Prop where
  cls : ∃ nm q N bs bm sn sub ab col dd k0 k1 k2 k3 k5, K.lookup C = some (excClassObj nm q C N bs bm true sn sub ab col dd k0 k1 k2 k3 k5 "ValueError.__new__") ∧ refsVE bm = true
  iC : findIn K (.ref C) "__init__" = some (some (.ref fI))
  tI : typeIn K (.ref fI) = some (.type "function")
  kC : keepIn K (.ref C) = true
  exC : subIn K (.ref C) (.type "BaseException") = some true
  veC : subIn K (.ref C) (.type "ValueError") = some true
  tyC : typeIn K (.ref C) = some (.type "type")
  me : mroIn K C (.ref C) = some true
  noS : mg "super" = none
  op : nsIn K cStatics "thirdparty.any" = some none
  al : ks_superIn K C C "__init__" = some (some (.builtin "ValueError.__init__"))
  top : (prog.main.scope.names.lookup ("super" : Str)).isSome = false
  fn : ∃ (oc : Value) (od : Option Addr) (doc pm : Value) (an : Option Addr) (cda cc : Addr) (ct : Value) (osl : Array (Option Value)) (p q1 q2 q3 q4 q5 : Pos) (ccl cl : Value) (cdd cld : Option Addr) (ccs csl : Array (Option Value)) (vs : Array Value) (file : Str) (tf : Tok),
    K.lookup fI = some ⟨oc, od, .func (ksFn "__init__" qual (supAr p) (supB q1 q2 q3 q4 q5) supSc .none .none doc pm an (.ref cda) ct cc), osl⟩ ∧ codeIn K (.ref cda) qual = true ∧ K.lookup cda = some ⟨ccl, cdd, .fields vs, ccs⟩ ∧ vs[2]? = some (.str file tf) ∧
      ((prog.main.file : Str) == file) = true ∧ K.lookup cc = some ⟨cl, cld, .cell (some (.ref C)), csl⟩ ∧ (q3.endLine == q4.line) = true
section
variable {prog : Program} {w : World} {A : Around} {E : Value → Shared → Prop} {R : Result → Shared → Prop} {s : Shared} {K : Frag} {mg : Str → Option Value} {C fI : Addr} {qual : Str} {base : Heap}
theorem sup_init (T : SupC prog K mg C fI qual) (M : Mod K mg base) (hk : ∀ b o, base.get? b = some o → s.heap.get? b = some o) {x t0 : Addr} (hx : s.heap.get? x = some (excO C t0)) (hroom : A.depth < recursionLimit)
    (hq : ∀ h' tk t1, (∀ b o, b ≠ x → s.heap.get? b = some o → h'.get? b = some o) → h'.get? x = some (excO C t1) → R (.ok (.ret .none)) { s with heap := h', toks := tk }) :
    codeAny (model prog w) A (.call (.ref fI) ⟨[.ref x], []⟩) R s := by
  have X : K.In s.heap := M.kin.keeps hk
  obtain ⟨oc, od, doc, pm, an, cda, cc, ct, osl, p, q1, q2, q3, q4, q5, ccl, cl, cdd, cld, ccs, csl, vs, file, tf, lk, hcd, hcode, hvs, hfile, hcell, hline⟩ := T.fn
  obtain ⟨nm, q, N, bs, bm, sn, sub, ab, col, dd, k0, k1, k2, k3, k5, hC, hbm⟩ := T.cls
  refine ks_codeAny_call_defAt (binds := [("self", .ref x)]) hroom (X _ _ lk) rfl (M.nolimit.keeps hk) (codeRec_of X hcd) rfl (BindsTo.of_eq (by first | rfl | with_unfolding_all rfl)) supSc_cell (supSc_loc _) (fun h1 hns kp => ?_) rfl rfl rfl
  have X1 : K.In h1 := X.keeps kp
  have b1 : ∀ b o, base.get? b = some o → h1.get? b = some o := fun b o e => kp b o (hk b o e)
  have hx1 := kp _ _ hx
  obtain ⟨mb, hmb, hbv⟩ := M.blt
  obtain ⟨hp, g, d, t, os⟩ := s
  show _root_.PySem.wpAt _ _ _ (execs (supB q1 q2 q3 q4 q5) (ksEnv qual supSc hp.objs.size fI (.ref cda) cc)) _ _ _
  refine ks_wpAt_execs_cons (ks_wpAt_Expr_any (ks_wpAt_MethodCall ?_ (he_sup hline)))
  refine ks_wpAt_super_base (env := ksEnv qual supSc hp.objs.size fI (.ref cda) cc) rfl rfl (by decide) rfl (X1 _ _ lk) rfl rfl rfl (X1 _ _ hcode) rfl hvs hfile T.top ?_
  refine ks_loadName_global rfl rfl (loadGlobal_builtin (M.glob.keeps b1) T.noS (hmb.keeps b1) ((hbv _ (by decide)).trans (by decide +kernel)) ⟨rfl, ?_⟩)
  refine wpAny_loadName_free rfl rfl rfl ⟨_, X1 _ _ hcell, rfl⟩ ?_
  refine wpAny_loadName_local rfl rfl hns rfl ?_
  have hC1 := X1 _ _ hC
  refine ks_wpAny_isType_cls hC1 rfl ⟨rfl, ?_⟩
  refine ks_wpAny_call_super hC1 rfl hx1 rfl (fun c e => nomatch e) (looks_mroIn X1 T.me) (fun h2 e2 k2 => ?_)
  have X2 : K.In h2 := X1.keeps k2
  have hx2 := k2 _ _ hx1
  have hC2 := X2 _ _ hC
  have hcl : clsIn K C = some { name := nm, bases := bs, mro := .ref C :: bm, ns := N, qualname := q, hasDict := true, slotNames := sn, subclasses := sub, abstract := ab, collection := col, hasDel := false } := by unfold clsIn; rw [hC] <;> rfl
  have hal : alongIn K "__init__" (((Value.ref C :: bm).dropWhile (· != .ref C)).drop 1) = some (some (.builtin "ValueError.__init__")) := by
    have z := T.al
    unfold ks_superIn at z
    rw [hcl] at z
    exact z
  have nxC : x ≠ C := fun e => by
    rw [e, hC1] at hx1
    cases hx1
  have hI : Looks (model prog w) h2 (isInstance (.ref x) (.type "ValueError")) true := by
    have I : InstAt h2 x (excO C t0) C none := ⟨hx2, rfl, rfl, trivial⟩
    exact I.type.andThen (looks_subIn X2 T.veC)
  refine kxs_getMethod kxs_ValueError e2 (looks_opaque X2 T.op) (l₀ := .ref C :: bm) ?_ rfl X2 hal hI nxC (by decide) ?_
  · exact fun A Q E s k q => wpAny_bind ((looks_clsIn X2 hcl) A _ E s k (wpAny_pure q))
  have k3 : ∀ b o, h2.get? b = some o → (h2.push (kxs_mw "ValueError.__init__" x)).get? b = some o := fun b o e => Heap.get?_push_of_some _ e
  refine kxs_callWith (i := "ValueError.__init__") (u := h2.objs.size) (x := x) rfl (evalArgs_empty ⟨Heap.get?_push_at rfl rfl, ?_⟩)
  refine wpAny_call (codeAny_of_tree ?_)
  show wpAny _ _ (callAny (.ref h2.objs.size) ⟨[], []⟩) _ _ _
  simp only [callAny]
  refine wpAny_bind (wpAny_load (Heap.get?_push_at rfl rfl) ?_)
  simp only [kxs_mw, show (Value.type "method-wrapper" == Value.type "method" || Value.type "method-wrapper" == Value.type "builtin_function_or_method" || Value.type "method-wrapper" == Value.type "method-wrapper") = true by decide, if_true]
  refine KFB.if_so (by decide) ?_
  refine wpAny_bind (check_bound_init F.excBase_ValueError.toExcCallFacts (k3 _ _ hC2) (k3 _ _ hx2) rfl ?_)
  refine wpAny_bind (wpAny_pure (wpAny_pure ?_))
  refine ⟨plainId_quiet F.excBase_ValueError.init.plain _, codeAny_builtin F.excBase_ValueError.initEntry ?_⟩
  refine exc_init_tree (cls := .ref C) (t0 := t0) (dv := none) (c2 := .none) (c3 := .none) (b4 := .bool false) (k3 _ _ hx2) (Nat.zero_le _) (fun h4 k4 e4 _ => ?_)
  show _root_.PySem.wpAt _ _ _ (execs [] _) _ _ _
  refine wpAt_of_wpAny (wpAny_execs_nil ?_)
  exact hq h4 _ _ (fun b o hb e => k4 b o hb (k3 b o (k2 b o (kp b o e)))) e4
end
section
variable {X : Cx} {p pos : Pos} {x : Str} {C fI : Addr} {k : Nat} {qual : Str}
/-- raise C(): a new error of the class at C, without a dict -/
theorem pmk_sup (T : SupC X.prog X.K X.mg C fI qual) (hr : Room k X.A) (hg : Gl X x) (hm : X.mg x = some (.ref C)) (hdb : (x == ("__debug__" : Str)) = false := by decide) :
    PMk X (.Call (.Name x p) [] [] pos) (fun _ H Q => Q (.ref C) none H) := by
  intro pins s σ H Q I h
  obtain ⟨nm, q, N, bs, bm, sn, sub, ab, col, dd, k0, k1, k2, k3, k5, hC, hbm⟩ := T.cls
  refine wpAny_Call_Name_kw (ld_glob I hg hm ?_ hdb)
  refine PySem.W.callWith_K0 I.kIn T.kC ?_
  show wpAny _ _ (call (.ref C) []) _ _ _
  have hdp := hr.dp
  have hbk := I.bk
  obtain ⟨hp, g, dr, tk, os⟩ := s
  have kk : ∀ b o, hp.get? b = some o → ((hp.push (kdv_tup [])).push (excO C hp.objs.size)).get? b = some o := fun b o e => Heap.get?_push_of_some _ (Heap.get?_push_of_some _ e)
  have hget : ((hp.push (kdv_tup [])).push (excO C hp.objs.size)).get? (hp.objs.size + 1) = some (excO C hp.objs.size) := by heap_get
  have hdep : (X.A.under (.builtin "type.__call__" ⟨[.ref C], []⟩)).depth < recursionLimit := by
    rw [make_depth]
    omega
  refine wpAny_call (call_own F.excBase_ValueError (fun Y => refsVE_contains Y bm hbm) (I.kIn _ _ hC) (looks_findIn I.kIn T.iC) (fun self => bind_fn I.kIn self T.tI) (Nat.zero_le _)
    (sup_init T I.ok.mod (fun b o e => kk b o (hbk b o e)) hget hdep fun h' tk' t1 k4 e4 => ⟨rfl, ?_⟩))
  obtain ⟨G, r1, r2⟩ := restrict h' fun b => decide (b ≠ hp.objs.size + 1)
  have gk : ∀ b, b ≠ hp.objs.size + 1 → G.get? b = h'.get? b := fun b hb => r1 b (decide_eq_true hb)
  have ge : G.get? (hp.objs.size + 1) = none := r2 _ (by simp)
  have old : ∀ b o, hp.get? b = some o → G.get? b = some o := fun b o e => by
    have hb : b ≠ hp.objs.size + 1 := Nat.ne_of_lt (Nat.lt_succ_of_lt (Heap.lt_size e))
    rw [gk b hb]
    exact k4 b o hb (kk b o e)
  have J : Inv X pins σ H ⟨G, g, dr, tk', os⟩ := I.kept (t' := tk') old
  refine ⟨hp.objs.size + 1, _, _, ⟨G, g, dr, tk', os⟩, H, .ref C, none, rfl, J, fun b o e => ?_, ge, e4, ⟨rfl, rfl⟩, rfl, rfl, I.hok.fresh (Nat.le_succ _), rfl, I.bare, raises_own T.exC T.tyC, h⟩
  by_cases hb : b = hp.objs.size + 1
  · have e' : G.get? b = some o := e
    rw [hb, ge] at e'
    cases e'
  · exact (gk b hb).symm.trans e
end
end QS

namespace Q
open PySem L2 QR
abbrev sLaw : Stmt := top 65
def spLaw (K : PySem.W.Frag) : Sp := fun vs H Q _ => ∃ (a : Addr) (ns : List Int), vs = [.ref a] ∧ SqL K H a (ns.map V.int) ∧ ns.length ≤ 63 ∧ ∀ H', Q (.bl true) H'
/-- a row of few bytes -/
def Br (H : Hp) (v : V) (n : Nat) : Prop := ∃ (q : Addr) (bs : List Int), v = .ref q ∧ H q = some (.tup (bs.map V.int)) ∧ (∀ b ∈ bs, 0 ≤ b ∧ b < 256) ∧ bs.length ≤ n
theorem Br.tk {H H' : Hp} {v : V} {n : Nat} (h : Br H v n) (k : Tk H H') : Br H' v n := by
  obtain ⟨q, bs, e, a, b, c⟩ := h
  exact ⟨q, bs, e, k _ _ a, b, c⟩
theorem Br.same {H H' : Hp} {v : V} {n : Nat} (h : Br H v n) (s : Same H H') : Br H' v n := h.tk (.of s)
theorem Br.row {H : Hp} {v : V} {n : Nat} (h : Br H v n) (l : n ≤ 9000) : ∃ q bs, v = .ref q ∧ RowAt H q bs := by
  obtain ⟨q, bs, e, a, b, c⟩ := h
  exact ⟨q, bs, e, a, b, by omega⟩
theorem Br.up {H : Hp} {v : V} {n m : Nat} (h : Br H v n) (l : n ≤ m) : Br H v m := by
  obtain ⟨q, bs, e, a, b, c⟩ := h
  exact ⟨q, bs, e, a, b, by omega⟩
theorem cut_ints (bs : List Int) (lo hi : Option Int) : ∃ cs : List Int, cutV (bs.map V.int) lo hi = cs.map V.int ∧ (∀ b ∈ cs, b ∈ bs) ∧ cs.length ≤ bs.length := by
  unfold cutV
  rw [← List.map_drop, ← List.map_take]
  refine ⟨_, rfl, fun b hb => List.mem_of_mem_drop (List.mem_of_mem_take hb), ?_⟩
  rw [List.length_take, List.length_drop]
  omega
theorem Br.cut {H H' : Hp} {q z : Addr} {bs : List Int} {lo hi : Option Int} (h : RowAt H q bs) {n : Nat} (l : bs.length ≤ n) (e : H' z = some (.tup (cutV (bs.map V.int) lo hi))) : Br H' (.ref z) n := by
  obtain ⟨cs, e1, e2, e3⟩ := cut_ints bs lo hi
  rw [e1] at e
  exact ⟨z, cs, rfl, e, fun b hb => h.b b (e2 b hb), by omega⟩
theorem Br.one {H : Hp} {z : Addr} {b : Int} (e : H z = some (.tup [.int b])) (h0 : 0 ≤ b) (h1 : b < 256) : Br H (.ref z) 1 := ⟨z, [b], rfl, e, fun x hx => by rw [List.mem_singleton.mp hx]; exact ⟨h0, h1⟩, Nat.le_refl _⟩
/-- a sum of rows, read -/
theorem cat_br {H : Hp} {x y : V} {n m : Nat} {Q : VK} (a : Br H x n) (b : Br H y m) (l : n + m ≤ 20000) (k : ∀ z H', Same H H' → Br H' z (n + m) → Q z H') : rCatS x y H Q := by
  obtain ⟨q, bs, rfl, h1, h2, h3⟩ := a
  obtain ⟨r, cs, rfl, g1, g2, g3⟩ := b
  refine ⟨q, r, _, _, rfl, rfl, h1, g1, ?_, fun z H' s e => k _ H' s ⟨z, bs ++ cs, rfl, by rw [List.map_append]; exact e, fun x hx => ?_, by rw [List.length_append]; omega⟩⟩
  · rw [List.length_map, List.length_map]
    exact Nat.le_of_lt (size_ok (by omega))
  · exact (List.mem_append.mp hx).elim (h2 x) (g2 x)
/-- what is no row -/
def OddV (p l : Addr) (H : Hp) (v : V) : Prop := v = .non ∨ (∃ z, v = .str z) ∨ (∃ i, v = .int i) ∨ (∃ q xs, v = .ref q ∧ H q = some (.lst xs) ∧ q ≠ p ∧ q ≠ l) ∨ (∃ q, v = .ref q ∧ H q = some (.dK []) ∧ q ≠ p ∧ q ≠ l) ∨
  (∃ q, v = .ref q ∧ H q = some (.tup [])) ∨ ∃ q xs, v = .ref q ∧ H q = some (.tup xs) ∧ xs.length ≤ 9000 ∧ (∀ x ∈ xs, Sc x) ∧ xs.all isB = false
theorem OddV.kp {p l : Addr} {H H' : Hp} {v : V} (h : OddV p l H v) (g : PoolAt H p l) (k : Kp p l H H') : OddV p l H' v := by
  rcases h with h | h | h | ⟨q, xs, e, a, n1, n2⟩ | ⟨q, e, a, n1, n2⟩ | ⟨q, e, a⟩ | ⟨q, xs, e, a, r⟩
  · exact .inl h
  · exact .inr (.inl h)
  · exact .inr (.inr (.inl h))
  · exact .inr (.inr (.inr (.inl ⟨q, xs, e, k _ _ a n1 n2, n1, n2⟩)))
  · exact .inr (.inr (.inr (.inr (.inl ⟨q, e, k _ _ a n1 n2, n1, n2⟩))))
  · exact .inr (.inr (.inr (.inr (.inr (.inl ⟨q, e, g.tk k _ _ a⟩)))))
  · exact .inr (.inr (.inr (.inr (.inr (.inr ⟨q, xs, e, g.tk k _ _ a, r⟩)))))
theorem OddV.same {p l : Addr} {H H' : Hp} {v : V} (h : OddV p l H v) (s : Same H H') : OddV p l H' v := by
  rcases h with h | h | h | ⟨q, xs, e, a, n⟩ | ⟨q, e, a, n⟩ | ⟨q, e, a⟩ | ⟨q, xs, e, a, r⟩
  · exact .inl h
  · exact .inr (.inl h)
  · exact .inr (.inr (.inl h))
  · exact .inr (.inr (.inr (.inl ⟨q, xs, e, s _ _ a, n⟩)))
  · exact .inr (.inr (.inr (.inr (.inl ⟨q, e, s _ _ a, n⟩))))
  · exact .inr (.inr (.inr (.inr (.inr (.inl ⟨q, e, s _ _ a⟩)))))
  · exact .inr (.inr (.inr (.inr (.inr (.inr ⟨q, xs, e, s _ _ a, r⟩)))))
theorem OddV.uns {K : PySem.W.Frag} {p l : Addr} {H : Hp} {v : V} (h : OddV p l H v) : UnsIn K H v (.tup []) := by
  rcases h with rfl | ⟨z, rfl⟩ | ⟨i, rfl⟩ | ⟨q, xs, rfl, a, _⟩ | ⟨q, rfl, a, _⟩ | ⟨q, rfl, a⟩ | ⟨q, xs, rfl, a, r1, r2, r3⟩
  · exact .inr (.inr ⟨_, .base .non, kit_ty (by decide +kernel), rfl⟩)
  · exact .inr (.inr ⟨_, .base (.str _), kit_ty (by decide +kernel), rfl⟩)
  · exact .inr (.inr ⟨_, .base (.int _), kit_ty (by decide +kernel), rfl⟩)
  · exact .inr (.inr ⟨_, .base (.lst a), kit_ty (by decide +kernel), rfl⟩)
  · exact .inr (.inr ⟨_, .base (.dK a), kit_ty (by decide +kernel), rfl⟩)
  · refine .inl ⟨q, [], rfl, ⟨a, fun b hb => by simp at hb, Nat.zero_le _⟩, ?_⟩
    unfold unsT
    rw [if_neg fun z => absurd z.1 (by decide)]
  · exact .inr (.inl ⟨q, xs, rfl, a, r1, r2, r3, rfl⟩)
/-- a row and one more that is no byte -/
theorem odd_cat {p l : Addr} {H : Hp} {x : V} {n : Nat} {y : V} {b : Addr} {Q : VK} (a : Br H x n) (hb : H b = some (.tup [y])) (sc : Sc y) (nb : isB y = false) (ln : n ≤ 8000) (k : ∀ z H', Same H H' → OddV p l H' z → Q z H') : rCatS x (.ref b) H Q := by
  obtain ⟨q, bs, rfl, h1, h2, h3⟩ := a
  refine ⟨q, b, _, _, rfl, rfl, h1, hb, ?_, fun z H' s e => k _ H' s (.inr (.inr (.inr (.inr (.inr (.inr ⟨z, _, rfl, e, ?_, fun x hx => ?_, ?_⟩))))))⟩
  · rw [List.length_map]
    exact Nat.le_of_lt (size_ok (by show _ + 1 ≤ _; omega))
  · rw [List.length_append, List.length_map]
    show _ + 1 ≤ _
    omega
  · rcases List.mem_append.mp hx with hx | hx
    · exact sc_ints bs x hx
    · rw [List.mem_singleton.mp hx]
      exact sc
  · rw [List.all_append]
    show (_ && ([y].all isB)) = false
    rw [show [y].all isB = false by show (isB y && true) = false; rw [nb]; rfl, Bool.and_false]
end Q

/-! what is no parcel, and what is asked of a caught error -/
namespace L2
open PySem PySem.Spec PyProof.Rows
/-- isinstance(e, C) of a caught error, with or without a dict of its own -/
def rIsX (K : PySem.W.Frag) (D a : Addr) (cls : Value) (d : Option Addr) : List V → Hp → VK → Prop := fun xs H Q => cls = .ref D ∧ (∀ dd, d = some dd → ∃ fs, H dd = some (.xd fs)) ∧ ∃ (c : V) (cv : Value) (b : Bool), xs = [.ref a, c] ∧ (∀ u, RelV c u → u = cv) ∧ PySem.W.kitOne K (.ref D) cv = some b ∧ Q (.bl b) H
theorem call_isX {X : Cx} {a D : Addr} {oe : Obj} {cls : Value} {d : Option Addr} {pn : List (Addr × Obj)} (C : ExcC X.K D) (hc : PySem.W.isClsIn X.K D = true) (hz : Zc cls d oe) (hf : ∃ vs, oe.data = .fields vs) : CallR (X.suite a ((a, oe) :: pn)) (.builtin "isinstance") (rIsX X.K D a cls d) := by
  intro pins s σ H xs us Q I r h
  obtain ⟨rfl, hd, c, cv, b, rfl, hcv, e, q⟩ := h
  cases r with
  | cons rx rr =>
    cases rr with
    | cons rt r0 =>
      cases r0
      cases rx
      have ec := hcv _ rt
      subst ec
      obtain ⟨hget, hn, _⟩ := I.pin (a, oe) (List.mem_append.mpr (.inl List.mem_cons_self))
      obtain ⟨vs, hv⟩ := hf
      have nc : PySem.W.notCls oe = true := by
        unfold PySem.W.notCls
        rw [hv]
      have main : ∀ od, PySem.W.InstAt s.heap a oe D od → wpAny (model (X.suite a ((a, oe) :: pn)).prog (X.suite a ((a, oe) :: pn)).w) (X.suite a ((a, oe) :: pn)).A (call (.builtin "isinstance") [.ref a, _]) (EP (X.suite a ((a, oe) :: pn)) pins σ Q) (X.suite a ((a, oe) :: pn)).xe s := fun od J =>
        PySem.W.kia_one (PySem.W.kitx_exc (x := a) (ox := oe) (od := od) hc C.hg C.hk C.hs C.ha C.hn C.ht C.hm) I.kIn J e (by intro z; cases z) (fun tk => ⟨.bl b, H, I.tok tk, rfl, q⟩)
      cases d with
      | none => exact main none ⟨hget, hz.1, nc, by rw [hz.2]; trivial⟩
      | some dd =>
        obtain ⟨fs, hfs⟩ := hd dd rfl
        have hok := I.hok dd _ hfs
        obtain ⟨o, ho⟩ : ∃ o, s.heap.get? dd = some o := by
          obtain ⟨es, hA, _⟩ := hok
          obtain ⟨e1, _, _, e4, _⟩ := hA
          exact ⟨e1, e4⟩
        exact main (some o) ⟨hget, hz.1, nc, by rw [hz.2]; exact ho⟩
end L2
namespace Q
open PySem L2 QR
/-- what never raises may be called where something is caught -/
theorem fn_up {P : Program} {w : World} {K : PySem.W.Frag} {mg : Str → Option Value} {base : Heap} {k : Nat} {f : Addr} {fd : FuncData} {ps : List Str} {sp : Sp} {CX : CXT} (F : FnOk P w K mg base CX0 k f fd ps sp) : FnOk P w K mg base CX k f fd ps sp :=
  ⟨F.len, fun A outer s H args us vs Q E hr he hb hv hs => codeAny_mono (F.run A outer s H args us vs Q E hr he hb hv hs) fun r s' h => by
    match r, h with
    | .ok (.ret u), h => exact h
    | .error e, h => exact h.elim⟩
/-- strings that are none -/
def badZ (z : List Nat) : Prop := z = [] ∨ 20 < z.length ∨ (1 ≤ z.length ∧ z.length ≤ 20 ∧ ∃ c ∈ z, c < 32)
def PG (H : Hp) (d : Nat) (v : V) : Prop := ∃ t, Rep H d t v ∧ OkT d t
/-- a list, a dict, a string of other signs -/
def BadA (p l : Addr) (H : Hp) (v : V) : Prop := (∃ a, v = .ref a ∧ ((∃ xs, H a = some (.lst xs)) ∨ H a = some (.dK [])) ∧ a ≠ p ∧ a ≠ l) ∨ ∃ z : List Nat, v = .str (sOf z) ∧ z.length ≤ 9000 ∧ badZ z
/-- no parcel within d -/
def BadU (p l : Addr) (H : Hp) : Nat → V → Prop
  | 0, v => BadA p l H v ∨ ∃ a xs, v = .ref a ∧ H a = some (.tup xs)
  | d + 1, v => BadA p l H v ∨ ∃ a xs, v = .ref a ∧ H a = some (.tup xs) ∧ xs.length ≤ 9000 ∧ (∀ x ∈ xs, PG H d x ∨ BadU p l H d x) ∧ ∃ x ∈ xs, BadU p l H d x
/-- all stands but the pool, tuples too -/
structure Fm (p l : Addr) (H H' : Hp) : Prop where
  tk : Tk H H'
  kp : Kp p l H H'
theorem Fm.of {p l : Addr} {H H' : Hp} (s : Same H H') : Fm p l H H' := ⟨.of s, .of s⟩
theorem Fm.kpg {p l : Addr} {H H' : Hp} (g : PoolAt H p l) (k : Kp p l H H') : Fm p l H H' := ⟨g.tk k, k⟩
theorem PG.tk {H H' : Hp} {d : Nat} {v : V} (h : PG H d v) (k : Tk H H') : PG H' d v := h.imp fun t h => ⟨h.1.tk k, h.2⟩
theorem BadA.fm {p l : Addr} {H H' : Hp} {v : V} (h : BadA p l H v) (f : Fm p l H H') : BadA p l H' v := by
  rcases h with ⟨a, e, h, n1, n2⟩ | h
  · exact .inl ⟨a, e, h.elim (fun ⟨xs, h⟩ => .inl ⟨xs, f.kp _ _ h n1 n2⟩) (fun h => .inr (f.kp _ _ h n1 n2)), n1, n2⟩
  · exact .inr h
theorem BadU.fm {p l : Addr} {H H' : Hp} (f : Fm p l H H') : ∀ {d : Nat} {v : V}, BadU p l H d v → BadU p l H' d v
  | 0, v, h => by
    rcases h with h | ⟨a, xs, e, h⟩
    · exact .inl (h.fm f)
    · exact .inr ⟨a, xs, e, f.tk _ _ h⟩
  | d + 1, v, h => by
    rcases h with h | ⟨a, xs, e, h, n, al, x, hx, b⟩
    · exact .inl (h.fm f)
    · exact .inr ⟨a, xs, e, f.tk _ _ h, n, fun x hx => (al x hx).elim (fun g => .inl (g.tk f.tk)) (fun g => .inr (BadU.fm f g)), x, hx, BadU.fm f b⟩
theorem BadU.atom {p l : Addr} {H : Hp} {d : Nat} {v : V} (h : BadA p l H v) : BadU p l H d v := by
  cases d with
  | zero => exact .inl h
  | succ d => exact .inl h
/-- b tells whether v is a parcel within d -/
def Dec (p l : Addr) (H : Hp) (d : Nat) (v : V) (b : Bool) : Prop := (b = true ∧ PG H d v) ∨ (b = false ∧ BadU p l H d v)
theorem Dec.fm {p l : Addr} {H H' : Hp} {d : Nat} {v : V} {b : Bool} (f : Fm p l H H') (h : Dec p l H d v b) : Dec p l H' d v b := h.elim (fun h => .inl ⟨h.1, h.2.tk f.tk⟩) fun h => .inr ⟨h.1, h.2.fm f⟩
theorem Dec.same {p l : Addr} {H H' : Hp} {d : Nat} {v : V} {b : Bool} (h : Dec p l H d v b) (s : Same H H') : Dec p l H' d v b := h.fm (.of s)
theorem Dec.ex {p l : Addr} {H : Hp} {d : Nat} {v : V} (h : PG H d v ∨ BadU p l H d v) : ∃ b, Dec p l H d v b := h.elim (fun h => ⟨true, .inl ⟨rfl, h⟩⟩) fun h => ⟨false, .inr ⟨rfl, h⟩⟩
/-- what is asked of it -/
def DecS (H : Hp) (v : V) (b : Bool) : Prop := (∃ z : List Nat, v = .str (sOf z) ∧ z.length ≤ 9000 ∧ ((b = true ∧ okA (.str z)) ∨ (b = false ∧ badZ z))) ∨ (b = false ∧ ∃ a, v = .ref a ∧ ((∃ xs, H a = some (.lst xs)) ∨ H a = some (.dK [])))
theorem Dec.cases {p l : Addr} {H : Hp} {d : Nat} {v : V} {b : Bool} (h : Dec p l H d v b) : (v = .non ∧ b = true) ∨ (∃ c, v = .bl c ∧ b = true) ∨ (∃ i, v = .int i ∧ b = true) ∨ DecS H v b ∨
    ∃ a xs, v = .ref a ∧ H a = some (.tup xs) ∧ ((d = 0 ∧ b = false) ∨ (xs.length ≤ 9000 ∧ ∃ d', d = d' + 1 ∧ ∃ B : V → Bool, (∀ x ∈ xs, Dec p l H d' x (B x)) ∧ xs.all B = b)) := by
  rcases h with ⟨rfl, t, rep, ok⟩ | ⟨rfl, h⟩
  · rcases rep.cases with ⟨rfl, rfl⟩ | ⟨b, rfl, rfl⟩ | ⟨i, rfl, rfl⟩ | ⟨z, rfl, rfl, zl⟩ | ⟨d', ls, a, xs, rfl, rfl, rfl, ha, hl, few, hk⟩
    · exact .inl ⟨rfl, rfl⟩
    · exact .inr (.inl ⟨_, rfl, rfl⟩)
    · exact .inr (.inr (.inl ⟨_, rfl, rfl⟩))
    · exact .inr (.inr (.inr (.inl (.inl ⟨z, rfl, zl, .inl ⟨rfl, okT_atom ok⟩⟩))))
    · have okl : ∀ t ∈ ls, OkT d' t := ok
      refine .inr (.inr (.inr (.inr ⟨a, xs, rfl, ha, .inr ⟨few, d', rfl, fun _ => true, fun x hx => ?_, ?_⟩⟩)))
      · obtain ⟨i, hi⟩ := List.mem_iff_getElem?.mp hx
        have hil := (List.getElem?_eq_some_iff.mp hi).1
        have ht : ls[i]? = some (ls[i]'(by omega)) := List.getElem?_eq_getElem (by omega)
        exact .inl ⟨rfl, _, hk i x _ hi ht, okl _ (List.mem_of_getElem? ht)⟩
      · rw [List.all_eq_true]
        intro _ _
        rfl
  · have at_ : BadA p l H v → DecS H v false := fun h => by
      rcases h with ⟨a, e, h, _⟩ | ⟨z, e, n, b⟩
      · exact .inr ⟨rfl, a, e, h⟩
      · exact .inl ⟨z, e, n, .inr ⟨rfl, b⟩⟩
    cases d with
    | zero =>
      rcases h with h | ⟨a, xs, e, h⟩
      · exact .inr (.inr (.inr (.inl (at_ h))))
      · exact .inr (.inr (.inr (.inr ⟨a, xs, e, h, .inl ⟨rfl, rfl⟩⟩)))
    | succ d =>
      rcases h with h | ⟨a, xs, e, h, n, al, x, hx, b⟩
      · exact .inr (.inr (.inr (.inl (at_ h))))
      · refine .inr (.inr (.inr (.inr ⟨a, xs, e, h, .inr ⟨n, d, rfl, ?_⟩⟩)))
        have dc : ∀ y : V, ∃ c : Bool, (y ∈ xs → Dec p l H d y c) ∧ (BadU p l H d y → c = false) := fun y => by
          by_cases u : BadU p l H d y
          · exact ⟨false, fun _ => .inr ⟨rfl, u⟩, fun _ => rfl⟩
          · exact ⟨true, fun hy => (al y hy).elim (fun g => .inl ⟨rfl, g⟩) (fun g => absurd g u), fun z => absurd z u⟩
        refine ⟨fun y => Classical.choose (dc y), fun y hy => (Classical.choose_spec (dc y)).1 hy, ?_⟩
        rw [List.all_eq_false]
        refine ⟨x, hx, ?_⟩
        rw [(Classical.choose_spec (dc x)).2 b]
        decide
def spIsStr2 : Sp := fun vs H Q _ => ∃ (v : V) (b : Bool), vs = [v] ∧ DecS H v b ∧ ∀ H', Same H H' → Q (.bl b) H'
def spIPW2 (d : Nat) : Sp := fun vs H Q _ => ∃ (p l : Addr) (v : V) (b : Bool), vs = [.int (d : Int), v] ∧ Dec p l H d v b ∧ ∀ H', Same H H' → Q (.bl b) H'
def spIsPar2 : Sp := fun vs H Q _ => ∃ (p l : Addr) (v : V) (b : Bool), vs = [v] ∧ Dec p l H 20 v b ∧ ∀ H', Same H H' → Q (.bl b) H'
theorem all_map_id {α : Type} (B : α → Bool) (xs : List α) : (xs.map B).all id = xs.all B := by
  rw [List.all_map]
  rfl
theorem noSg {c : Nat} (h : c < 32) : isSg (c : Int) = false := by
  cases e : isSg (c : Int) with
  | false => rfl
  | true => exact absurd (sg_b e).1 (by omega)
section
variable {P : Program} {w : World} {K : PySem.W.Frag} {mg : Str → Option Value} {base : Heap}
theorem DecS.ty {H : Hp} {v : V} {b : Bool} (h : DecS H v b) (n : ∀ z : List Nat, v ≠ .str (sOf z)) : b = false ∧ ∃ t, TyX K H v t ∧ PySem.W.kitOne K t (.type "str") = some false ∧ PySem.W.kitOne K t (.type "tuple") = some false ∧ PySem.W.kitOne K t (.type "int") = some false := by
  rcases h with ⟨z, rfl, _⟩ | ⟨rfl, a, rfl, ⟨xs, h⟩ | h⟩
  · exact absurd rfl (n z)
  · exact ⟨rfl, _, .base (.lst h), kit_ty (by decide +kernel), kit_ty (by decide +kernel), kit_ty (by decide +kernel)⟩
  · exact ⟨rfl, _, .base (.dK h), kit_ty (by decide +kernel), kit_ty (by decide +kernel), kit_ty (by decide +kernel)⟩
theorem ok_isstr2 {f fS : Addr} {fd fdS : FuncData} (D : Df K mg "is_string" sIsStr ["thing"] f fd) (B : Bts mg) (C : Cst mg) (DS : Df K mg "is_sign" sIsSg ["number"] fS fdS) : FnOk P w K mg base CX0 2 f fd ["thing"] spIsStr2 := by
  have GS : FnOk P w K mg base CX0 1 fS fdS ["number"] spIsSg := ok_issg DS C
  obtain ⟨t1, h1⟩ := C.signs
  refine D.F.ok scIsStr (fun vs H Q E h => ?_) (fun cdv A outer s H vs Q E hr h => ?_)
  · obtain ⟨v, b, rfl, _⟩ := h
    rfl
  · obtain ⟨v, b, rfl, dec, k⟩ := h
    have nd := scIsStr.nd
    refine ⟨_, pss_cons (ps_if (PW.pt (pw_or (pt_not (pt_val (pe_callB call_isi (by rfl) B.isinstance PyProof.Rows.boot_isinstance (pa_cons (pv 0) (pa_cons (pe_bltn (v := .ty "str") rfl B.str PyProof.Rows.boot_str rfl) pa_nil)))))
        (pw_or1 (pt_not (pt_chain op_le op_le pe_int (pe_callB call_len_str (by rfl) B.len PySem.boot_len (pa_cons (pv 0) pa_nil)) (pe_glob (v := .int 20) rfl h1 ⟨_, rfl⟩)))))) (pss_one (ps_ret pe_bl)) pss_nil)
      (pss_one (ps_ret (pe_callB (cr_all rfl) (by rfl) B.all PyProof.Rows.boot_all (pa_cons (pe_lc (own := [("sign", 1)]) (g := gName 1) (tt := tYes) rfl nd (pi_str (pv 0))
        (blkOk_by (N := ["thing", "sign"]) (sc := defScope sIsStr) (by decide +kernel)) (fun _ _ _ _ _ => pg_name (i := 1) nd rfl (.inl rfl)) (fun _ _ _ _ _ => pts_nil)
        (fun _ _ _ _ _ => pe_call GS hr rfl DS.m DS.k DS.b .nil pass0 (pa_cons (pe_callB call_ord (by rfl) B.ord (by decide +kernel) (pa_cons (pv 1) pa_nil)) pa_nil))) pa_nil)))), ?_⟩
    by_cases st : ∃ z : List Nat, v = .str (sOf z)
    · obtain ⟨z, rfl⟩ := st
      obtain ⟨zl, dz⟩ : z.length ≤ 9000 ∧ ((b = true ∧ okA (.str z)) ∨ (b = false ∧ badZ z)) := by
        rcases dec with ⟨y, e, n, h⟩ | ⟨_, a, e, _⟩
        · have e1 := V.str.inj e
          have e2 : z.toArray = y.toArray := congrArg Str.cps e1
          have e3 : z = y := by have := congrArg Array.toList e2; simpa using this
          subst e3
          exact ⟨n, h⟩
        · cases e
      have ez := sOf_len z
      refine ⟨_, rfl, .str (sOf z), .ty "str", .type "str", .type "str", true, rfl, .ty _, .base (.str _), kit_ty (by decide +kernel), _, rfl, iteF ?_⟩
      refine ⟨_, rfl, sOf z, rfl, by rw [ez]; exact Nat.le_of_lt (size_ok (by omega)), _, _, rfl, rfl, _, rfl, ?_⟩
      rw [ez]
      have short : ¬ (1 ≤ z.length ∧ z.length ≤ 20) → b = false := fun n => by
        rcases dz with ⟨_, h⟩ | ⟨h, _⟩
        · exact absurd ⟨h.1, h.2.1⟩ n
        · exact h
      refine ite2 (fun c1 => ?_) (fun c1 => ?_)
      case refine_2 =>
        refine ⟨_, rfl, iteT ?_⟩
        have : ¬ (1 : Int) ≤ (z.length : Int) := fun y => c1 (decide_eq_true y)
        have e := short (by omega)
        subst e
        exact k _ sR
      have c1 : (1 : Int) ≤ (z.length : Int) := of_decide_eq_true c1
      refine ⟨_, _, rfl, rfl, _, rfl, ite2 (fun c => ?_) (fun c => ?_)⟩
      · have : ¬ (z.length : Int) ≤ 20 := fun y => by
          rw [decide_eq_true y] at c
          cases c
        have e := short (by omega)
        subst e
        exact k _ sR
      have c2 : (z.length : Int) ≤ 20 := by
        by_cases y : (z.length : Int) ≤ 20
        · exact y
        · rw [decide_eq_false y] at c
          exact absurd rfl c
      refine ⟨_, rfl, sOf z, rfl, fun D hD => lc_it (walk_str (z := sOf z)) (fun i H' => H' D = some (.lst (((z.take i).map fun c : Nat => isSg (c : Int)).map V.bl)) ∧ i ≤ z.length ∧ Same H H') ?_ ?_ ?_ ?_⟩
      · exact ⟨upd_same, Nat.zero_le _, sN hD⟩
      · rintro i H' hi _
        trivial
      · rintro i x H1 H' hi ⟨eD, il, s1⟩ ⟨rfl, c, hc, rfl⟩
        have hc := sOf_at hc
        refine ⟨rfl, ?_⟩
        refine ⟨_, rfl, _, rfl, rfl, (c : Int), rfl, ?_⟩
        refine ⟨_, eD, ?_, ?_, (List.getElem?_eq_some_iff.mp hc).1, sNew s1 hD⟩
        · rw [List.length_map, List.length_map, List.length_take]
          exact size_ok (by omega)
        · rw [upd_same, take_more hc, List.map_append, List.map_append]
          rfl
      · rintro H' ⟨eD, _, s1⟩
        rw [show (sOf z).cps.size = z.length from ez, List.take_length] at eD
        refine ⟨D, _, rfl, SqL.of eD, ?_⟩
        have e : (z.map fun c : Nat => isSg (c : Int)).all id = b := by
          rw [all_map_id]
          rcases dz with ⟨rfl, _, _, zs⟩ | ⟨rfl, h | h | ⟨_, _, c, hc, lt⟩⟩
          · rw [List.all_eq_true]
            exact zs
          · rw [h] at c1
            exact absurd c1 (by decide)
          · omega
          · rw [List.all_eq_false]
            exact ⟨c, hc, by rw [noSg lt]; decide⟩
        rw [e]
        exact k _ s1
    · obtain ⟨rfl, t, ty, kt, _⟩ := dec.ty (K := K) fun z e => st ⟨z, e⟩
      exact ⟨_, rfl, v, .ty "str", t, .type "str", false, rfl, .ty _, ty, kt, _, rfl, iteT (k _ sR)⟩
theorem ok_ipw2 {f fT fS : Addr} {fd fdT fdS : FuncData} (D : Df K mg "is_parcel_within" sIPW ["deep", "thing"] f fd) (B : Bts mg) (C : Cst mg) (DT : Df K mg "is_string" sIsStr ["thing"] fT fdT) (DS : Df K mg "is_sign" sIsSg ["number"] fS fdS) : ∀ d, FnOk P w K mg base CX0 (d + 3) f fd ["deep", "thing"] (spIPW2 d) := by
  have GT : FnOk P w K mg base CX0 2 fT fdT ["thing"] spIsStr2 := ok_isstr2 DT B C DS
  have main : ∀ d, (∀ d', d = d' + 1 → FnOk P w K mg base CX0 (d' + 3) f fd ["deep", "thing"] (spIPW2 d')) → FnOk P w K mg base CX0 (d + 3) f fd ["deep", "thing"] (spIPW2 d) := by
    intro d IH
    have IH' : FnOk P w K mg base CX0 (d + 2) f fd ["deep", "thing"] (fun vs H Q E => 0 < d ∧ spIPW2 (d - 1) vs H Q E) := by
      cases d with
      | zero => exact ⟨fun vs H Q E h => absurd h.1 (by decide), fun A outer s H args us vs Q E hr e0 hb r h => absurd h.1 (by decide)⟩
      | succ d => exact (IH d rfl).imp fun vs H Q E h => h.2
    refine D.F.ok scIPW (fun vs H Q E h => ?_) (fun cdv A outer s H vs Q E hr h => ?_)
    · obtain ⟨p, l, v, b, rfl, _⟩ := h
      rfl
    · obtain ⟨p, l, v, b, rfl, dec, k⟩ := h
      have nd := scIPW.nd
      have hr2 : Room 2 _ := hr.mono (by omega)
      refine ⟨_, pss_cons (ps_if (pt_val (pe_callB call_isi (by rfl) B.isinstance PyProof.Rows.boot_isinstance (pa_cons (pv 1) (pa_cons (pe_bltn (v := .ty "tuple") rfl B.tuple PyProof.Rows.boot_tuple rfl) pa_nil))))
          (pss_one (ps_ret (pe_and (pe_cmpR op_gt (pv 0) pe_int (nomark _)) (pe_one (pe_callB (cr_all rfl) (by rfl) B.all PyProof.Rows.boot_all (pa_cons (pe_lc (own := [("part", 2)]) (g := gName 2) (tt := tYes) rfl nd (pi_tup (pv 1))
            (blkOk_by (N := ["deep", "thing", "part"]) (sc := defScope sIPW) (by decide +kernel)) (fun _ _ _ _ _ => pg_name (i := 2) nd rfl (.inl rfl)) (fun _ _ _ _ _ => pts_nil)
            (fun _ _ _ _ _ => pe_call IH' hr rfl D.m D.k D.b .nil pass0 (pa_cons (pe_op op_sub (pv 0) pe_int) (pa_cons (pv 2) pa_nil)))) pa_nil)))))) pss_nil)
        (pss_one (ps_ret (pe_or (pe_cmp (pc_isN (pv 1)) rfl) (pe_or (pe_callB call_isi (by rfl) B.isinstance PyProof.Rows.boot_isinstance (pa_cons (pv 1) (pa_cons (pe_bltn (v := .ty "int") rfl B.int PyProof.Rows.boot_int rfl) pa_nil)))
          (pe_one (pe_call GT hr2 rfl DT.m DT.k DT.b .nil pass0 (pa_cons (pv 1) pa_nil))))))), ?_⟩
      rcases dec.cases with ⟨rfl, rfl⟩ | ⟨c, rfl, rfl⟩ | ⟨i, rfl, rfl⟩ | ds | ⟨a, xs, rfl, ha, hh⟩
      · refine ⟨_, rfl, .non, .ty "tuple", .type "NoneType", .type "tuple", false, rfl, .ty _, .base .non, kit_ty (by decide +kernel), _, rfl, iteF ?_⟩
        exact ⟨_, rfl, _, rfl, iteT (k _ sR)⟩
      · refine ⟨_, rfl, .bl c, .ty "tuple", .type "bool", .type "tuple", false, rfl, .ty _, .base (.bl _), kit_ty (by decide +kernel), _, rfl, iteF ?_⟩
        refine ⟨_, rfl, _, rfl, iteF ?_⟩
        exact ⟨_, rfl, .bl c, .ty "int", .type "bool", .type "int", true, rfl, .ty _, .base (.bl _), kit_ty (by decide +kernel), _, rfl, iteT (k _ sR)⟩
      · refine ⟨_, rfl, .int i, .ty "tuple", .type "int", .type "tuple", false, rfl, .ty _, .base (.int _), kit_ty (by decide +kernel), _, rfl, iteF ?_⟩
        refine ⟨_, rfl, _, rfl, iteF ?_⟩
        exact ⟨_, rfl, .int i, .ty "int", .type "int", .type "int", true, rfl, .ty _, .base (.int _), kit_ty (by decide +kernel), _, rfl, iteT (k _ sR)⟩
      · obtain ⟨t, ty, kt, ki, nn⟩ : ∃ t, TyX K H v t ∧ PySem.W.kitOne K t (.type "tuple") = some false ∧ PySem.W.kitOne K t (.type "int") = some false ∧ v ≠ .non := by
          by_cases st : ∃ z : List Nat, v = .str (sOf z)
          · obtain ⟨z, rfl⟩ := st
            exact ⟨_, .base (.str _), kit_ty (by decide +kernel), kit_ty (by decide +kernel), fun z => by cases z⟩
          · obtain ⟨rfl, t, ty, k1, k2, k3⟩ := ds.ty (K := K) fun z e => st ⟨z, e⟩
            refine ⟨t, ty, k2, k3, fun e => ?_⟩
            rcases ds with ⟨z, e2, _⟩ | ⟨_, a, e2, _⟩ <;> (rw [e] at e2; cases e2)
        refine ⟨_, rfl, v, .ty "tuple", t, .type "tuple", false, rfl, .ty _, ty, kt, _, rfl, iteF ?_⟩
        refine ⟨_, rfl, _, rfl, ?_⟩
        rw [decide_eq_false nn]
        refine iteF ?_
        refine ⟨_, rfl, v, .ty "int", t, .type "int", false, rfl, .ty _, ty, ki, _, rfl, iteF ?_⟩
        exact ⟨_, rfl, v, b, rfl, ds, k⟩
      · refine ⟨_, rfl, .ref a, .ty "tuple", .type "tuple", .type "tuple", true, rfl, .ty _, .base (.tup ha), kit_ty (by decide +kernel), _, rfl, iteT ?_⟩
        rcases hh with ⟨rfl, rfl⟩ | ⟨few, d', rfl, BB, hB, eB⟩
        · exact ⟨_, rfl, _, _, rfl, rfl, _, rfl, iteF (k _ sR)⟩
        refine ⟨_, rfl, _, _, rfl, rfl, _, rfl, ite2 (fun _ => ?_) (fun c => absurd (decide_eq_true (by omega)) c)⟩
        refine ⟨_, rfl, a, rfl, ⟨_, SqT.of ha⟩, fun D hD => lc_tup (K := K) (a := a) (xs := xs) (fun i H' => H' D = some (.lst (((xs.take i).map BB).map V.bl)) ∧ Same H H') ?_ ?_ ?_ ?_⟩
        · exact ⟨upd_same, sN hD⟩
        · rintro i H' hi ⟨_, s1⟩
          exact SqT.of (s1 _ _ ha)
        · rintro i x H' hx ⟨eD, s1⟩
          have hi := (List.getElem?_eq_some_iff.mp hx).1
          refine ⟨rfl, ?_⟩
          refine ⟨_, rfl, _, _, rfl, rfl, _, rfl, by omega, p, l, x, BB x, ?_, (hB x (List.mem_of_getElem? hx)).same s1, fun H2 s2 => ⟨_, s2 _ _ eD, ?_, ?_, sNew (sT s1 s2) hD⟩⟩
          · show [V.int (((d' + 1 : Nat) : Int) - 1), x] ++ [] = [V.int ((d' + 1 - 1 : Nat) : Int), x]
            rw [show (((d' + 1 : Nat) : Int) - 1) = ((d' + 1 - 1 : Nat) : Int) by omega]
            rfl
          · rw [List.length_map, List.length_map, List.length_take]
            exact size_ok (by omega)
          · rw [upd_same, take_more hx, List.map_append, List.map_append]
            rfl
        · rintro H' ⟨eD, s1⟩
          rw [List.take_length] at eD
          refine ⟨D, _, rfl, SqL.of eD, ?_⟩
          rw [all_map_id, eB]
          exact k _ s1
  intro d
  induction d with
  | zero => exact main 0 fun d' e => by omega
  | succ d ih =>
    refine main (d + 1) fun d' e => ?_
    obtain rfl : d' = d := by omega
    exact ih
theorem ok_ispar2 {f fI fT fS : Addr} {fd fdI fdT fdS : FuncData} (D : Df K mg "is_parcel" sIsPar ["thing"] f fd) (B : Bts mg) (C : Cst mg) (DI : Df K mg "is_parcel_within" sIPW ["deep", "thing"] fI fdI) (DT : Df K mg "is_string" sIsStr ["thing"] fT fdT) (DS : Df K mg "is_sign" sIsSg ["number"] fS fdS) : FnOk P w K mg base CX0 24 f fd ["thing"] spIsPar2 := by
  have GI : FnOk P w K mg base CX0 23 fI fdI ["deep", "thing"] (spIPW2 20) := ok_ipw2 DI B C DT DS 20
  obtain ⟨t1, h1⟩ := C.deep
  refine D.F.ok scIsPar (fun vs H Q E h => ?_) (fun cdv A outer s H vs Q E hr h => ?_)
  · obtain ⟨p, l, v, b, rfl, _⟩ := h
    rfl
  · obtain ⟨p, l, v, b, rfl, dec, k⟩ := h
    refine ⟨_, pss_one (ps_ret (pe_call GI hr rfl DI.m DI.k DI.b .nil pass0 (pa_cons (pe_glob (v := .int 20) rfl h1 ⟨_, rfl⟩) (pa_cons (pv 0) pa_nil)))), ?_⟩
    exact ⟨_, rfl, p, l, v, b, rfl, dec, k⟩
end
end Q

namespace Q
open PySem L2 QR
abbrev sParOf : Stmt := top 37
abbrev sLDeep : Stmt := top 44
abbrev sFlag : Stmt := top 45
abbrev sNest : Stmt := top 50
abbrev sLIsP : Stmt := top 52
abbrev sWord : Stmt := top 53
abbrev sRBy : Stmt := top 61
/-- what is raised, what is caught -/
structure XTxt (P : Program) (K : PySem.W.Frag) (mg : Str → Option Value) (CE CN fN CB : Addr) : Prop where
  sup : QS.SupC P K mg CN fN "NoParcel.__init__"
  gN : mg "NoParcel" = some (.ref CN)
  gE : mg "RoundError" = some (.ref CE)
  exN : PySem.W.exmOne K (.ref CN) (.ref CE) = some true
  eN : ExcC K CN
  eB : ExcC K CB
  cN : PySem.W.isClsIn K CN = true
  cB : PySem.W.isClsIn K CB = true
  nN : PySem.W.kitOne K (.ref CN) (.ref CN) = some true
  nV : PySem.W.kitOne K (.ref CN) (.type "ValueError") = some true
  bE : PySem.W.kitOne K (.ref CB) (.ref CE) = some true
  bV : PySem.W.kitOne K (.ref CB) (.type "ValueError") = some true
  noV : mg "ValueError" = none
def spRowX (CN : Addr) : Sp := fun vs H Q E => ∃ (p l : Addr) (v : V) (b : Bool), vs = [v] ∧ Dec p l H 20 v b ∧ (∀ t, b = true → Rep H 20 t v → OkT 20 t → (enc 20 t).length ≤ 8000 ∧ ∀ q H', Same H H' → RowAt H' q (enc 20 t) → Q (.ref q) H') ∧ (b = false → ∀ H', Same H H' → E (.ref CN) none H')
def spWd (CN : Addr) : Sp := fun vs H Q E => ∃ (p l : Addr) (v : V) (b : Bool), vs = [v] ∧ Dec p l H 20 v b ∧ (∀ t, b = true → Rep H 20 t v → OkT 20 t → (enc 20 t).length ≤ 8000) ∧ (b = true → ∀ u H', Same H H' → Q u H') ∧ (b = false → ∀ H', Same H H' → E (.ref CN) none H')
def wordS (b : Bool) : Str := if b then "let" else "parcel"
def spWord : Sp := fun vs H Q _ => ∃ (p l : Addr) (n : Int) (v : V) (b : Bool), vs = [.int n, v] ∧ Dec p l H 20 v b ∧ (∀ t, b = true → Rep H 20 t v → OkT 20 t → (enc 20 t).length ≤ 8000) ∧ ∀ H', Same H H' → Q (.str (wordS b)) H'
def spLIsP (d : Nat) : Sp := fun vs H Q _ => ∃ (p l : Addr) (v : V) (b : Bool), vs = [v, .int (d : Int)] ∧ Dec p l H d v b ∧ ∀ H', Same H H' → Q (.bl b) H'
def spFlag : Sp := fun vs H Q _ => ∃ b c : Bool, vs = [.bl b, .bl c] ∧ Q (.bl (decide (b = c))) H
/-- a tuple within tuples -/
def nestAt (H : Hp) (x : V) : Nat → V → Prop
  | 0, v => v = x
  | n + 1, v => ∃ a u, v = .ref a ∧ H a = some (.tup [u]) ∧ nestAt H x n u
theorem nestAt.same {H H' : Hp} {x : V} (s : Same H H') : ∀ {n : Nat} {v : V}, nestAt H x n v → nestAt H' x n v
  | 0, v, h => h
  | n + 1, v, ⟨a, u, e, h, g⟩ => ⟨a, u, e, s _ _ h, nestAt.same s g⟩
def spNest : Sp := fun vs H Q _ => ∃ (n : Nat) (x : V), vs = [.int (n : Int), x] ∧ n ≤ 1000 ∧ ∀ v H', Same H H' → nestAt H' x n v → Q v H'
def spLDeep : Sp := fun vs H Q _ => vs = [] ∧ ∀ a xs H', Same H H' → H' a = some (.lst xs) → H a = none → Q (.ref a) H'
def spRBy : Sp := fun vs H Q _ => ∃ (q : Addr) (bs : List Int), vs = [.ref q] ∧ RowAt H q bs ∧ (∀ t h v a H', rdAll bs = .ok t h → Same H H' → H' a = some (.tup [v]) → Rep H' 20 t v → Q (.ref a) H') ∧ ∀ p H', rdAll bs = .no p → Same H H' → Q (.int (p : Int)) H'
section
variable {P : Program} {w : World} {K : PySem.W.Frag} {mg : Str → Option Value} {base : Heap}
theorem ok_rowX {f fP fI fT fS fV fW CE CN fN CB : Addr} {fd fdP fdI fdT fdS fdV fdW : FuncData} (D : Df K mg "row_of" sRowOf ["parcel"] f fd) (B : Bts mg) (C : Cst mg) (BA : Bare K mg) (XT : XTxt P K mg CE CN fN CB) (DP : Df K mg "is_parcel" sIsPar ["thing"] fP fdP) (DI : Df K mg "is_parcel_within" sIPW ["deep", "thing"] fI fdI) (DT : Df K mg "is_string" sIsStr ["thing"] fT fdT) (DS : Df K mg "is_sign" sIsSg ["number"] fS fdS)
    (DV : Df K mg "write_parcel" sWP ["row", "parcel"] fV fdV) (DW : Df K mg "write_whole" sWW ["row", "number"] fW fdW) : FnOk P w K mg base (L2.CX P w) 25 f fd ["parcel"] (spRowX CN) := by
  have GP : FnOk P w K mg base CX0 24 fP fdP ["thing"] spIsPar2 := ok_ispar2 DP B C DI DT DS
  have GV : FnOk P w K mg base CX0 22 fV fdV ["row", "parcel"] (spWP 20) := ok_wp DV B C BA DW 20
  refine D.F.okX scRowOf (fun vs H Q E h => ?_) (fun cdv A outer s H vs Q E hr h => ?_)
  · obtain ⟨p, l, v, b, rfl, _⟩ := h
    rfl
  · obtain ⟨p, lp, v, b, rfl, dec, k1, k2⟩ := h
    have nd := scRowOf.nd
    have hr2 : Room 22 _ := hr.mono (by decide)
    refine ⟨_, pss_cons (ps_if (pt_not (pt_val (pe_call GP hr rfl DP.m DP.k DP.b .nil pass0 (pa_cons (pv 0) pa_nil)))) (pss_one (ps_raise rfl (takes_of rfl rfl rfl rfl) (QS.pmk_sup XT.sup hr rfl XT.gN))) pss_nil)
      (pss_cons (ps_set (i := 1) nd rfl (.inl rfl) (pe_lst pa_nil))
      (pss_cons (ps_expr (pe_call GV hr2 rfl DV.m DV.k DV.b .nil pass0 (pa_cons (pv 1) (pa_cons (pv 0) pa_nil))))
      (pss_one (ps_ret (pe_callTy call_tuple_of (by rfl) B.tuple PyProof.Rows.boot_tuple (pa_cons (pv 1) pa_nil)))))), ?_⟩
    refine ⟨_, rfl, p, lp, v, b, rfl, dec, fun H1 s1 => ⟨_, rfl, ?_⟩⟩
    cases b with
    | false => exact iteT (k2 rfl H1 s1)
    | true =>
      obtain ⟨t, rep, ok⟩ : PG H 20 v := dec.elim (fun h => h.2) (fun h => nomatch h.1)
      obtain ⟨few, k⟩ := k1 t rfl rep ok
      refine iteF ?_
      refine ⟨Nat.zero_le _, fun l hl => ?_⟩
      have s2 := sT s1 (sN (o := .lst []) hl)
      refine ⟨_, rfl, _, rfl, l, t, v, [], rfl, upd_same, rep.same s2, ok, by rw [List.length_nil]; omega, fun H3 b3 e3 => ?_⟩
      rw [List.nil_append] at e3
      have s3 : Same H H3 := fun b o e => b3 b o (s2 b o e) (ne_of_none e (sNo s1 hl))
      refine ⟨_, rfl, l, _, rfl, .inl ⟨SqL.of e3, fun q hq => k q _ (sT s3 (sN hq)) ⟨upd_same, enc_b ok, by omega⟩⟩⟩
theorem ok_sealX {f fR fS fM CN : Addr} {fd fdR fdS fdM : FuncData} (D : Df K mg "sealed" sSealed ["parcel"] f fd) (B : Bts mg) (C : Cst mg) (DR : Df K mg "row_of" sRowOf ["parcel"] fR fdR) (GR : FnOk P w K mg base (L2.CX P w) 25 fR fdR ["parcel"] (spRowX CN)) (DS : Df K mg "seal_of" sSeal ["row"] fS fdS) (DM : Df K mg "mark_of" sMkOf ["row"] fM fdM) : FnOk P w K mg base (L2.CX P w) 26 f fd ["parcel"] (spWd CN) := by
  have GS : FnOk P w K mg base CX0 2 fS fdS ["row"] spSeal := ok_seal DS B C DM
  refine D.F.okX scSealed (fun vs H Q E h => ?_) (fun cdv A outer s H vs Q E hr h => ?_)
  · obtain ⟨p, l, v, b, rfl, _⟩ := h
    rfl
  · obtain ⟨p, l, v, b, rfl, dec, fw, k1, k2⟩ := h
    have nd := scSealed.nd
    have hr2 : Room 2 _ := hr.mono (by decide)
    refine ⟨_, pss_cons (ps_set (i := 1) nd rfl (.inl rfl) (pe_call GR hr rfl DR.m DR.k DR.b .nil (passes_call (takes_of rfl rfl rfl rfl) fun _ _ _ _ h => h) (pa_cons (pv 0) pa_nil)))
      (pss_one (ps_ret (pe_op op_catS (pv 1) (pe_call GS hr2 rfl DS.m DS.k DS.b .nil pass0 (pa_cons (pv 1) pa_nil))))), ?_⟩
    refine ⟨_, rfl, p, l, v, b, rfl, dec, fun t eb rep ok => ⟨fw t eb rep ok, fun q H1 s1 hq => ?_⟩, k2⟩
    have few := fw t eb rep ok
    refine ⟨_, rfl, _, rfl, q, _, rfl, hq.at_, fun z H2 s2 hz => ⟨q, z, _, _, rfl, rfl, s2 _ _ hq.at_, hz, ?_, fun y H3 s3 hy => ?_⟩⟩
    · rw [List.length_map, List.length_map]
      exact Nat.le_of_lt (size_ok (by show _ + 4 ≤ _; omega))
    · exact k1 eb _ H3 (sT s1 (sT s2 s3))
theorem scParOf : FnScope ["row"] ["row"] (defScope sParOf) := ⟨rfl, rfl, rfl, by decide +kernel, rfl, by decide +kernel, by decide +kernel⟩
theorem ok_parof {f CB fR fA : Addr} {fd dR dA : FuncData} (D : Df K mg "parcel_of" sParOf ["row"] f fd) (DR : Df K mg "is_row" sIsRow ["thing"] fR dR) (GR : FnOk P w K mg base CX0 3 fR dR ["thing"] (spIsRow K)) (DA : Df K mg "read_whole_row" sRAll ["row"] fA dA) (GA : FnOk P w K mg base (L2.CX P w) 46 fA dA ["row"] (spRAll CB)) : FnOk P w K mg base (L2.CX P w) 47 f fd ["row"] (spRAll CB) := by
  refine D.F.okX scParOf (fun vs H Q E h => ?_) (fun cdv A outer s H vs Q E hr h => ?_)
  · obtain ⟨q, bs, rfl, _⟩ := h
    rfl
  · obtain ⟨q, bs, rfl, hq, k1, k2⟩ := h
    have hr3 : Room 3 _ := hr.mono (by decide)
    refine ⟨_, pss_cons (ps_if (pt_not (pt_val (pe_call GR hr3 rfl DR.m DR.k DR.b .nil pass0 (pa_cons (pv 0) pa_nil)))) pss_never pss_nil)
      (pss_one (ps_ret (pe_call GA hr rfl DA.m DA.k DA.b .nil (passes_call (takes_of rfl rfl rfl rfl) fun _ _ _ _ h => h) (pa_cons (pv 0) pa_nil)))), ?_⟩
    refine ⟨_, rfl, .ref q, rfl, .inl ⟨q, _, rfl, hq.at_, by rw [List.length_map]; exact hq.few, sc_ints bs, fun H1 s1 => ?_⟩⟩
    rw [all_isB hq.b]
    refine ⟨_, rfl, iteF ⟨_, rfl, q, bs, rfl, hq.same s1, fun t h v H' e s r => k1 t h v H' e (sT s1 s) r, fun p d H' e s ed => k2 p d H' e (sT s1 s) ed⟩⟩
theorem scLDeep : FnScope ["thing", "turn"] [] (defScope sLDeep) := ⟨rfl, rfl, rfl, by decide +kernel, rfl, by decide +kernel, by decide +kernel⟩
theorem ok_ldeep {f : Addr} {fd : FuncData} (D : Df K mg "_law_deep" sLDeep [] f fd) (B : Bts mg) : FnOk P w K mg base CX0 1 f fd [] spLDeep := by
  refine D.F.ok scLDeep (fun vs H Q E h => ?_) (fun cdv A outer s H vs Q E hr h => ?_)
  · obtain ⟨rfl, _⟩ := h
    rfl
  · obtain ⟨rfl, k⟩ := h
    have nd := scLDeep.nd
    refine ⟨_, pss_cons (ps_set (i := 0) nd rfl (.inl rfl) (pe_lst (pa_cons pe_non pa_nil)))
      (pss_cons (ps_for PassesOwn.never rfl (pi_range1 rfl B.range (pa_cons pe_int pa_nil)) (pg_name (i := 1) nd rfl (.inl rfl)) (pss_one (ps_set (i := 0) nd rfl (.inl rfl) (pe_lst (pa_cons (pv 0) pa_nil)))))
      (pss_one (ps_ret (pv 0)))), ?_⟩
    refine ⟨(by show 1 ≤ sizeLine; decide), fun a ha => ?_⟩
    refine ⟨35, rfl, by decide, by decide, for_range (lo := 0) (n := 35) (fun i σ H' => ∃ (b : Addr) (xs : List V) (x1 : Option V), σ = [some (.ref b), x1] ∧ H' b = some (.lst xs) ∧ H b = none ∧ Same H H') ?_ ?_ ?_⟩
    · exact ⟨a, _, none, rfl, upd_same, ha, sN ha⟩
    · rintro i σ H' hi ⟨b, xs, x1, rfl, e, n, s1⟩
      exact ⟨_, rfl, (by show 1 ≤ sizeLine; decide), fun c hc => ⟨c, _, _, rfl, upd_same, sNo s1 hc, sT s1 (sN hc)⟩⟩
    · rintro σ H' ⟨b, xs, x1, rfl, e, n, s1⟩
      exact ⟨_, rfl, k b xs H' s1 e n⟩
theorem scFlag : FnScope ["thing", "due"] ["thing", "due"] (defScope sFlag) := ⟨rfl, rfl, rfl, by decide +kernel, rfl, by decide +kernel, by decide +kernel⟩
theorem ok_flag {f : Addr} {fd : FuncData} (D : Df K mg "_law_flag" sFlag ["thing", "due"] f fd) (B : Bts mg) : FnOk P w K mg base CX0 1 f fd ["thing", "due"] spFlag := by
  refine D.F.ok scFlag (fun vs H Q E h => ?_) (fun cdv A outer s H vs Q E hr h => ?_)
  · obtain ⟨b, c, rfl, _⟩ := h
    rfl
  · obtain ⟨b, c, rfl, k⟩ := h
    refine ⟨_, pss_one (ps_ret (pe_and (pe_callB call_isi (by rfl) B.isinstance PyProof.Rows.boot_isinstance (pa_cons (pv 0) (pa_cons (pe_bltn (v := .ty "bool") rfl B.bool (by decide +kernel) rfl) pa_nil))) (pe_one (pe_cmpR op_eq (pv 0) (pv 1) (nomark _))))), ?_⟩
    refine ⟨_, rfl, .bl b, .ty "bool", .type "bool", .type "bool", true, rfl, .ty _, .base (.bl _), kit_ty (by decide +kernel), _, rfl, iteT ?_⟩
    refine ⟨_, rfl, _, rfl, rfl, ?_⟩
    rw [show decide (V.bl b = V.bl c) = decide (b = c) by cases b <;> cases c <;> rfl]
    exact k
theorem scNest : FnScope ["many", "inner", "found", "turn"] ["many", "inner"] (defScope sNest) := ⟨rfl, rfl, rfl, by decide +kernel, rfl, by decide +kernel, by decide +kernel⟩
theorem ok_nest {f : Addr} {fd : FuncData} (D : Df K mg "_law_nested" sNest ["many", "inner"] f fd) (B : Bts mg) : FnOk P w K mg base CX0 1 f fd ["many", "inner"] spNest := by
  refine D.F.ok scNest (fun vs H Q E h => ?_) (fun cdv A outer s H vs Q E hr h => ?_)
  · obtain ⟨n, x, rfl, _⟩ := h
    rfl
  · obtain ⟨n, x, rfl, hn, k⟩ := h
    have nd := scNest.nd
    refine ⟨_, pss_cons (ps_set (i := 2) nd rfl (.inl rfl) (pv 1))
      (pss_cons (ps_for PassesOwn.never rfl (pi_range1 rfl B.range (pa_cons (pv 0) pa_nil)) (pg_name (i := 3) nd rfl (.inl rfl)) (pss_one (ps_set (i := 2) nd rfl (.inl rfl) (pe_tup (pa_cons (pv 2) pa_nil)))))
      (pss_one (ps_ret (pv 2)))), ?_⟩
    refine ⟨_, rfl, ?_⟩
    refine ⟨_, rfl, n, rfl, by omega, by omega, for_range (lo := 0) (n := n) (fun i σ H' => ∃ (v : V) (x1 : Option V), σ = [some (.int n), some x, some v, x1] ∧ nestAt H' x i v ∧ Same H H') ?_ ?_ ?_⟩
    · exact ⟨x, none, rfl, rfl, sR⟩
    · rintro i σ H' hi ⟨v, x1, rfl, e, s1⟩
      exact ⟨_, rfl, (by show 1 ≤ sizeLine; decide), fun c hc => ⟨_, _, rfl, ⟨c, v, rfl, upd_same, e.same (sN hc)⟩, sT s1 (sN hc)⟩⟩
    · rintro σ H' ⟨v, x1, rfl, e, s1⟩
      exact ⟨_, rfl, k v H' s1 e⟩
theorem scLIsP : FnScope ["thing", "left", "part", "sign"] ["thing", "left"] (defScope sLIsP) := ⟨rfl, rfl, rfl, by decide +kernel, rfl, by decide +kernel, by decide +kernel⟩
theorem le_sg (c : Nat) : (!decide ((sOf [c]).cps.toList < (" " : Str).cps.toList)) = decide (32 ≤ c) := by
  show (!decide ([c] < [32])) = _
  by_cases h : 32 ≤ c
  · rw [decide_eq_true h, decide_eq_false]
    · rfl
    · intro z
      cases z with
      | rel h => exact absurd h (by omega)
      | cons h => cases h
  · rw [decide_eq_false h, decide_eq_true]
    · rfl
    · exact .rel (by omega)
theorem le_tl (c : Nat) : (!decide (("~" : Str).cps.toList < (sOf [c]).cps.toList)) = decide (c ≤ 126) := by
  show (!decide ([126] < [c])) = _
  by_cases h : c ≤ 126
  · rw [decide_eq_true h, decide_eq_false]
    · rfl
    · intro z
      cases z with
      | rel h => exact absurd h (by omega)
      | cons h => cases h
  · rw [decide_eq_false h, decide_eq_true]
    · rfl
    · exact .rel (by omega)
def lsg (c : Nat) : Bool := decide (32 ≤ c) && decide (c ≤ 126)
theorem ok_lisp {f : Addr} {fd : FuncData} (D : Df K mg "_law_is_parcel" sLIsP ["thing", "left"] f fd) (B : Bts mg) : ∀ d, FnOk P w K mg base CX0 (d + 2) f fd ["thing", "left"] (spLIsP d) := by
  have main : ∀ d, FnOk P w K mg base CX0 (d + 1) f fd ["thing", "left"] (fun vs H Q E => 0 < d ∧ spLIsP (d - 1) vs H Q E) → FnOk P w K mg base CX0 (d + 2) f fd ["thing", "left"] (spLIsP d) := by
    intro d IH
    refine D.F.ok scLIsP (fun vs H Q E h => ?_) (fun cdv A outer s H vs Q E hr h => ?_)
    · obtain ⟨p, l, v, b, rfl, _⟩ := h
      rfl
    · obtain ⟨p, l, v, b, rfl, dec, k⟩ := h
      have nd := scLIsP.nd
      refine ⟨_, pss_cons (ps_if (pt_val (pe_callB call_isi (by rfl) B.isinstance PyProof.Rows.boot_isinstance (pa_cons (pv 0) (pa_cons (pe_bltn (v := .ty "tuple") rfl B.tuple PyProof.Rows.boot_tuple rfl) pa_nil))))
          (pss_one (ps_ret (pe_and (pe_cmpR op_gt (pv 1) pe_int (nomark _)) (pe_one (pe_callB (cr_all rfl) (by rfl) B.all PyProof.Rows.boot_all (pa_cons (pe_lc (own := [("part", 2)]) (g := gName 2) (tt := tYes) rfl nd (pi_tup (pv 0))
            (blkOk_by (N := ["thing", "left", "part", "sign"]) (sc := defScope sLIsP) (by decide +kernel)) (fun _ _ _ _ _ => pg_name (i := 2) nd rfl (.inl rfl)) (fun _ _ _ _ _ => pts_nil)
            (fun _ _ _ _ _ => pe_call IH hr rfl D.m D.k D.b .nil pass0 (pa_cons (pv 2) (pa_cons (pe_op op_sub (pv 1) pe_int) pa_nil)))) pa_nil)))))) pss_nil)
        (pss_cons (ps_if (pt_val (pe_callB call_isi (by rfl) B.isinstance PyProof.Rows.boot_isinstance (pa_cons (pv 0) (pa_cons (pe_bltn (v := .ty "str") rfl B.str PyProof.Rows.boot_str rfl) pa_nil))))
          (pss_one (ps_ret (pe_and (pe_chain op_le op_le pe_int (pe_callB call_len_str (by rfl) B.len PySem.boot_len (pa_cons (pv 0) pa_nil)) pe_int) (pe_one (pe_callB (cr_all rfl) (by rfl) B.all PyProof.Rows.boot_all (pa_cons (pe_lc (own := [("sign", 3)]) (g := gName 3) (tt := tYes) rfl nd (pi_str (pv 0))
            (blkOk_by (N := ["thing", "left", "part", "sign"]) (sc := defScope sLIsP) (by decide +kernel)) (fun _ _ _ _ _ => pg_name (i := 3) nd rfl (.inl rfl)) (fun _ _ _ _ _ => pts_nil)
            (fun _ _ _ _ _ => pe_chain op_le_str op_le_str pe_str (pv 3) pe_str)) pa_nil)))))) pss_nil)
        (pss_one (ps_ret (pe_or (pe_cmp (pc_isN (pv 0)) rfl) (pe_one (pe_callB call_isi (by rfl) B.isinstance PyProof.Rows.boot_isinstance (pa_cons (pv 0) (pa_cons (pe_bltn (v := .ty "int") rfl B.int PyProof.Rows.boot_int rfl) pa_nil)))))))), ?_⟩
      rcases dec.cases with ⟨rfl, rfl⟩ | ⟨c, rfl, rfl⟩ | ⟨i, rfl, rfl⟩ | ds | ⟨a, xs, rfl, ha, hh⟩
      · refine ⟨_, rfl, .non, .ty "tuple", .type "NoneType", .type "tuple", false, rfl, .ty _, .base .non, kit_ty (by decide +kernel), _, rfl, iteF ?_⟩
        refine ⟨_, rfl, .non, .ty "str", .type "NoneType", .type "str", false, rfl, .ty _, .base .non, kit_ty (by decide +kernel), _, rfl, iteF ?_⟩
        exact ⟨_, rfl, _, rfl, iteT (k _ sR)⟩
      · refine ⟨_, rfl, .bl c, .ty "tuple", .type "bool", .type "tuple", false, rfl, .ty _, .base (.bl _), kit_ty (by decide +kernel), _, rfl, iteF ?_⟩
        refine ⟨_, rfl, .bl c, .ty "str", .type "bool", .type "str", false, rfl, .ty _, .base (.bl _), kit_ty (by decide +kernel), _, rfl, iteF ?_⟩
        refine ⟨_, rfl, _, rfl, iteF ?_⟩
        exact ⟨_, rfl, .bl c, .ty "int", .type "bool", .type "int", true, rfl, .ty _, .base (.bl _), kit_ty (by decide +kernel), k _ sR⟩
      · refine ⟨_, rfl, .int i, .ty "tuple", .type "int", .type "tuple", false, rfl, .ty _, .base (.int _), kit_ty (by decide +kernel), _, rfl, iteF ?_⟩
        refine ⟨_, rfl, .int i, .ty "str", .type "int", .type "str", false, rfl, .ty _, .base (.int _), kit_ty (by decide +kernel), _, rfl, iteF ?_⟩
        refine ⟨_, rfl, _, rfl, iteF ?_⟩
        exact ⟨_, rfl, .int i, .ty "int", .type "int", .type "int", true, rfl, .ty _, .base (.int _), kit_ty (by decide +kernel), k _ sR⟩
      · by_cases st : ∃ z : List Nat, v = .str (sOf z)
        · obtain ⟨z, rfl⟩ := st
          obtain ⟨zl, dz⟩ : z.length ≤ 9000 ∧ ((b = true ∧ okA (.str z)) ∨ (b = false ∧ badZ z)) := by
            rcases ds with ⟨y, e, n, h⟩ | ⟨_, a, e, _⟩
            · have e1 := V.str.inj e
              have e2 : z.toArray = y.toArray := congrArg Str.cps e1
              have e3 : z = y := by have := congrArg Array.toList e2; simpa using this
              subst e3
              exact ⟨n, h⟩
            · cases e
          have ez := sOf_len z
          refine ⟨_, rfl, .str (sOf z), .ty "tuple", .type "str", .type "tuple", false, rfl, .ty _, .base (.str _), kit_ty (by decide +kernel), _, rfl, iteF ?_⟩
          refine ⟨_, rfl, .str (sOf z), .ty "str", .type "str", .type "str", true, rfl, .ty _, .base (.str _), kit_ty (by decide +kernel), _, rfl, iteT ?_⟩
          refine ⟨_, rfl, sOf z, rfl, by rw [ez]; exact Nat.le_of_lt (size_ok (by omega)), _, _, rfl, rfl, _, rfl, ?_⟩
          rw [ez]
          have short : ¬ (1 ≤ z.length ∧ z.length ≤ 20) → b = false := fun n => by
            rcases dz with ⟨_, h⟩ | ⟨h, _⟩
            · exact absurd ⟨h.1, h.2.1⟩ n
            · exact h
          by_cases c1 : (1 : Int) ≤ (z.length : Int)
          case neg =>
            rw [decide_eq_false c1]
            have e := short (by omega)
            subst e
            exact iteF ⟨_, rfl, iteF (k _ sR)⟩
          rw [decide_eq_true c1]
          refine iteT ⟨_, _, rfl, rfl, _, rfl, ?_⟩
          by_cases c2 : (z.length : Int) ≤ 20
          case neg =>
            rw [decide_eq_false c2]
            have e := short (by omega)
            subst e
            exact iteF (k _ sR)
          rw [decide_eq_true c2]
          refine iteT ?_
          refine ⟨_, rfl, sOf z, rfl, fun D hD => lc_it (walk_str (z := sOf z)) (fun i H' => H' D = some (.lst (((z.take i).map lsg).map V.bl)) ∧ i ≤ z.length ∧ Same H H') ?_ ?_ ?_ ?_⟩
          · exact ⟨upd_same, Nat.zero_le _, sN hD⟩
          · rintro i H' hi _
            trivial
          · rintro i x H1 H' hi ⟨eD, il, s1⟩ ⟨rfl, c, hc, rfl⟩
            have hc := sOf_at hc
            refine ⟨rfl, ?_⟩
            have fin : ∀ b, b = lsg c → ∃ acc, H' D = some (.lst acc) ∧ acc.length < sizeLine ∧ (upd H' D (.lst (acc ++ [.bl b]))) D = some (.lst (((z.take (i + 1)).map lsg).map V.bl)) ∧ i + 1 ≤ z.length ∧ Same H (upd H' D (.lst (acc ++ [.bl b]))) := fun b hb => by
              refine ⟨_, eD, ?_, ?_, (List.getElem?_eq_some_iff.mp hc).1, sNew s1 hD⟩
              · rw [List.length_map, List.length_map, List.length_take]
                exact size_ok (by omega)
              · rw [upd_same, take_more hc, List.map_append, List.map_append, hb]
                rfl
            refine ⟨_, rfl, " ", sOf [c], rfl, rfl, _, rfl, ?_⟩
            rw [le_sg]
            by_cases c3 : 32 ≤ c
            · rw [decide_eq_true c3]
              refine iteT ⟨sOf [c], "~", rfl, rfl, ?_⟩
              rw [le_tl]
              exact fin _ (by unfold lsg; rw [decide_eq_true c3]; rfl)
            · rw [decide_eq_false c3]
              exact iteF (fin _ (by unfold lsg; rw [decide_eq_false c3]; rfl))
          · rintro H' ⟨eD, _, s1⟩
            rw [show (sOf z).cps.size = z.length from ez, List.take_length] at eD
            refine ⟨D, _, rfl, SqL.of eD, ?_⟩
            have e : (z.map lsg).all id = b := by
              rw [all_map_id]
              rcases dz with ⟨rfl, _, _, zs⟩ | ⟨rfl, h | h | ⟨_, _, c, hc, lt⟩⟩
              · rw [List.all_eq_true]
                intro c hc
                obtain ⟨s1, s2, _⟩ := sg_b (zs c hc)
                unfold lsg
                rw [decide_eq_true (show 32 ≤ c by omega), decide_eq_true (show c ≤ 126 by omega)]
                rfl
              · rw [h] at c1
                exact absurd c1 (by decide)
              · omega
              · rw [List.all_eq_false]
                refine ⟨c, hc, ?_⟩
                unfold lsg
                rw [decide_eq_false (show ¬ 32 ≤ c by omega)]
                show ¬ (false = true)
                decide
            rw [e]
            exact k _ s1
        · obtain ⟨rfl, t, ty, k1, k2, k3⟩ := ds.ty (K := K) fun z e => st ⟨z, e⟩
          refine ⟨_, rfl, v, .ty "tuple", t, .type "tuple", false, rfl, .ty _, ty, k2, _, rfl, iteF ?_⟩
          refine ⟨_, rfl, v, .ty "str", t, .type "str", false, rfl, .ty _, ty, k1, _, rfl, iteF ?_⟩
          have nn : v ≠ .non := fun e => by
            rcases ds with ⟨z, e2, _⟩ | ⟨_, a, e2, _⟩ <;> (rw [e] at e2; cases e2)
          refine ⟨_, rfl, _, rfl, ?_⟩
          rw [decide_eq_false nn]
          refine iteF ?_
          exact ⟨_, rfl, v, .ty "int", t, .type "int", false, rfl, .ty _, ty, k3, k _ sR⟩
      · refine ⟨_, rfl, .ref a, .ty "tuple", .type "tuple", .type "tuple", true, rfl, .ty _, .base (.tup ha), kit_ty (by decide +kernel), _, rfl, iteT ?_⟩
        rcases hh with ⟨rfl, rfl⟩ | ⟨few, d', rfl, BB, hB, eB⟩
        · exact ⟨_, rfl, _, _, rfl, rfl, _, rfl, iteF (k _ sR)⟩
        refine ⟨_, rfl, _, _, rfl, rfl, _, rfl, ite2 (fun _ => ?_) (fun c => absurd (decide_eq_true (by omega)) c)⟩
        refine ⟨_, rfl, a, rfl, ⟨_, SqT.of ha⟩, fun D hD => lc_tup (K := K) (a := a) (xs := xs) (fun i H' => H' D = some (.lst (((xs.take i).map BB).map V.bl)) ∧ Same H H') ?_ ?_ ?_ ?_⟩
        · exact ⟨upd_same, sN hD⟩
        · rintro i H' hi ⟨_, s1⟩
          exact SqT.of (s1 _ _ ha)
        · rintro i x H' hx ⟨eD, s1⟩
          have hi := (List.getElem?_eq_some_iff.mp hx).1
          refine ⟨rfl, ?_⟩
          refine ⟨_, rfl, _, rfl, _, _, rfl, rfl, by omega, p, l, x, BB x, ?_, (hB x (List.mem_of_getElem? hx)).same s1, fun H2 s2 => ⟨_, s2 _ _ eD, ?_, ?_, sNew (sT s1 s2) hD⟩⟩
          · show [x, V.int (((d' + 1 : Nat) : Int) - 1)] ++ [] = [x, V.int ((d' + 1 - 1 : Nat) : Int)]
            rw [show (((d' + 1 : Nat) : Int) - 1) = ((d' + 1 - 1 : Nat) : Int) by omega]
            rfl
          · rw [List.length_map, List.length_map, List.length_take]
            exact size_ok (by omega)
          · rw [upd_same, take_more hx, List.map_append, List.map_append]
            rfl
        · rintro H' ⟨eD, s1⟩
          rw [List.take_length] at eD
          refine ⟨D, _, rfl, SqL.of eD, ?_⟩
          rw [all_map_id, eB]
          exact k _ s1
  intro d
  induction d with
  | zero => exact main 0 ⟨fun vs H Q E h => absurd h.1 (by decide), fun A outer s H args us vs Q E hr e0 hb r h => absurd h.1 (by decide)⟩
  | succ d ih => exact main (d + 1) (ih.imp fun vs H Q E h => h.2)
theorem scWord : FnScope ["which", "thing", "word", "e"] ["which", "thing"] (defScope sWord) := ⟨rfl, rfl, rfl, by decide +kernel, rfl, by decide +kernel, by decide +kernel⟩
theorem ok_word {f fR fS CE CN fN CB : Addr} {fd dR dS : FuncData} (D : Df K mg "_law_word" sWord ["which", "thing"] f fd) (B : Bts mg) (XT : XTxt P K mg CE CN fN CB) (DR : Df K mg "row_of" sRowOf ["parcel"] fR dR) (GR : FnOk P w K mg base (L2.CX P w) 25 fR dR ["parcel"] (spRowX CN)) (DS : Df K mg "sealed" sSealed ["parcel"] fS dS) (GS : FnOk P w K mg base (L2.CX P w) 26 fS dS ["parcel"] (spWd CN)) : FnOk P w K mg base CX0 27 f fd ["which", "thing"] spWord := by
  have GR' : FnOk P w K mg base (L2.CX P w) 25 fR dR ["parcel"] (spWd CN) := GR.imp fun vs H Q E ⟨p, l, v, b, e, dec, fw, k1, k2⟩ => ⟨p, l, v, b, e, dec, fun t eb r o => ⟨fw t eb r o, fun q H' s _ => k1 eb _ H' s⟩, k2⟩
  refine D.F.ok scWord (fun vs H Q E h => ?_) (fun cdv A outer s H vs Q E hr h => ?_)
  · obtain ⟨p, l, n, v, b, rfl, _⟩ := h
    rfl
  · obtain ⟨p, l, n, v, b, rfl, dec, fw, k⟩ := h
    have nd := scWord.nd
    have hr25 : Room 25 _ := hr.mono (by decide)
    refine ⟨_, pss_cons (ps_set (i := 2) nd rfl (.inl rfl) pe_str)
      (pss_cons (ps_try_as (i := 3) (tb := fun W => tIfS (tTest (tOp rEq (tVar 0) (tC (.int 0)))) (tDrop (tCallS (spWd CN) (WE W) (tCons (tVar 1) tNil))) (tDrop (tCallS (spWd CN) (WE W) (tCons (tVar 1) tNil))))
        (ts := fun a cls d => tAsg (tIf (tAnd (tB (tCB (rIsX K CN a cls d) (tCons (tVar 3) (tCons (tC (.ref CN)) tNil)))) (tB (tCB (rIsX K CN a cls d) (tCons (tVar 3) (tCons (tC (.ty "ValueError")) tNil))))) (tC (.str "parcel")) (tC (.str "other"))) (gName 2)) rfl rfl nd rfl rfl ⟨rfl, by decide, .inl XT.gE⟩ takes0
        (fun W pn xe tk _ => pss_one (ps_if (pt_cmpR op_eq (pv 0) pe_int (nomark _)) (pss_one (ps_expr (by exact (pe_callS GR' hr25 rfl DR.m DR.k DR.b (fun σ => passAt tk σ) (by exact (pa_cons (pv 1) pa_nil)))))) (pss_one (ps_expr (by exact (pe_callS GS hr rfl DS.m DS.k DS.b (fun σ => passAt tk σ) (by exact (pa_cons (pv 1) pa_nil))))))))
        (fun a oe cls d pn hz hf => pss_one (ps_set (i := 2) nd rfl (.inl rfl) (pe_ifExp (PW.pt (pw_and (pt_val (pe_callB (call_isX XT.eN XT.cN hz hf) (by rfl) B.isinstance PyProof.Rows.boot_isinstance (pa_cons (pv 3) (pa_cons (pe_glob (v := .ref CN) rfl XT.gN rfl) pa_nil))))
          (pw_and1 (pt_val (pe_callB (call_isX XT.eN XT.cN hz hf) (by rfl) B.isinstance PyProof.Rows.boot_isinstance (pa_cons (pv 3) (pa_cons (pe_bltn (v := .ty "ValueError") rfl XT.noV (by decide +kernel) rfl) pa_nil))))))) pe_str pe_str))))
      (pss_one (ps_ret (pv 2)))), ?_⟩
    have gd : b = true → ∀ H', Same H H' → Q (.str "let") H' := fun e H' s => by
      subst e
      exact k H' s
    refine ⟨_, rfl, rfl, _, rfl, ite2 (fun _ => ?_) (fun _ => ?_)⟩
    all_goals
      refine ⟨_, rfl, p, l, v, b, rfl, dec, fw, fun eb u H' s => ⟨_, rfl, gd eb H' s⟩, fun eb H' s => ⟨true, XT.exN, fun _ a ha => ?_, fun q => nomatch q⟩⟩
      subst eb
      refine ⟨_, rfl, rfl, (fun dd z => nomatch z), .ref CN, .ref CN, true, rfl, fun u hu => hu, XT.nN, _, rfl, iteT ?_⟩
      refine ⟨_, rfl, rfl, (fun dd z => nomatch z), .ty "ValueError", .type "ValueError", true, rfl, fun u hu => hu, XT.nV, _, rfl, iteT ?_⟩
      exact ⟨_, rfl, k H' s⟩
theorem place_look (y : V) : List.lookup ("place" : Str) ([(("place" : Str), y)] : List (Str × V)) = some y := by
  show (match (("place" : Str) == ("place" : Str)) with | true => some y | false => List.lookup ("place" : Str) []) = some y
  rw [show (("place" : Str) == ("place" : Str)) = true by decide]
theorem scRBy : FnScope ["row", "found", "e"] ["row"] (defScope sRBy) := ⟨rfl, rfl, rfl, by decide +kernel, rfl, by decide +kernel, by decide +kernel⟩
theorem ok_rby {f CE CN fN CB fB fP : Addr} {fd dB dP : FuncData} (D : Df K mg "_law_read_by" sRBy ["row"] f fd) (B : Bts mg) (XT : XTxt P K mg CE CN fN CB) (BT : BTxt K mg CB fB dB) (DP : Df K mg "parcel_of" sParOf ["row"] fP dP) (GP : FnOk P w K mg base (L2.CX P w) 47 fP dP ["row"] (spRAll CB)) : FnOk P w K mg base CX0 48 f fd ["row"] spRBy := by
  refine D.F.ok scRBy (fun vs H Q E h => ?_) (fun cdv A outer s H vs Q E hr h => ?_)
  · obtain ⟨q, bs, rfl, _⟩ := h
    rfl
  · obtain ⟨q, bs, rfl, hq, k1, k2⟩ := h
    have nd := scRBy.nd
    refine ⟨_, pss_cons (ps_set (i := 1) nd rfl (.inl rfl) pe_non)
      (pss_cons (ps_try_as (i := 2) (tb := fun W => tAsg (tTup (tCons (tCallS (spRAll CB) (WE W) (tCons (tVar 0) tNil)) tNil)) (gName 1))
        (ts := fun a cls d => tAsg (tIf (tAnd (tB (tCB (rIsX K CB a cls d) (tCons (tVar 2) (tCons (tC (.ref CE)) tNil)))) (tB (tCB (rIsX K CB a cls d) (tCons (tVar 2) (tCons (tC (.ty "ValueError")) tNil))))) (tXf a cls d CB "place" (tVar 2)) (tC .non)) (gName 1)) rfl rfl nd rfl rfl ⟨rfl, by decide, .inl BT.g⟩ takes0
        (fun W pn xe tk _ => pss_one (ps_set (i := 1) nd rfl (.inl rfl) (pe_tup (pa_cons (by exact (pe_callS GP hr rfl DP.m DP.k DP.b (fun σ => passAt tk σ) (by exact (pa_cons (pv 0) pa_nil)))) pa_nil))))
        (fun a oe cls d pn hz hf => pss_one (ps_set (i := 1) nd rfl (.inl rfl) (pe_ifExp (PW.pt (pw_and (pt_val (pe_callB (call_isX XT.eB XT.cB hz hf) (by rfl) B.isinstance PyProof.Rows.boot_isinstance (pa_cons (pv 2) (pa_cons (pe_glob (v := .ref CE) rfl XT.gE rfl) pa_nil))))
          (pw_and1 (pt_val (pe_callB (call_isX XT.eB XT.cB hz hf) (by rfl) B.isinstance PyProof.Rows.boot_isinstance (pa_cons (pv 2) (pa_cons (pe_bltn (v := .ty "ValueError") rfl XT.noV (by decide +kernel) rfl) pa_nil))))))) (pe_xf BT.xf BT.no hz hf (pv 2)) pe_non))))
      (pss_one (ps_ret (pv 1)))), ?_⟩
    refine ⟨_, rfl, q, bs, rfl, hq, fun t h v H1 e s1 rp => ⟨(by show 1 ≤ sizeLine; decide), fun a ha => ?_⟩, fun p d H1 e s1 ed => ⟨true, BT.ex, fun _ a ha => ?_, fun q => nomatch q⟩⟩
    · exact ⟨_, rfl, k1 t h v a _ e (sT s1 (sN ha)) upd_same (rp.same (sN ha))⟩
    · have hd : ∀ dd, some d = some dd → ∃ fs, H1 dd = some (.xd fs) := fun dd z => by
        cases z
        exact ⟨_, ed⟩
      refine ⟨_, rfl, rfl, hd, .ref CE, .ref CE, true, rfl, fun u hu => hu, XT.bE, _, rfl, iteT ?_⟩
      refine ⟨_, rfl, rfl, hd, .ty "ValueError", .type "ValueError", true, rfl, fun u hu => hu, XT.bV, _, rfl, iteT ?_⟩
      refine ⟨_, rfl, rfl, rfl, d, _, _, rfl, ed, place_look _, ?_⟩
      exact ⟨_, rfl, k2 p H1 e s1⟩
end
end Q

namespace Q
open PySem L2 QR
abbrev sSpoil : Stmt := top 62
abbrev sRight : Stmt := top 63
abbrev sFirst : Stmt := top 54
abbrev sSecond : Stmt := top 64
/-! "a" * n -/
theorem int_rmul_str (a : Int) (t : Tok) (z : Str) (u : Tok) : Gives (Builtin.«int.__rmul__» { pos := [.int a t, .str z u] }) (.val .notImplemented) := .of_wp fun M A E s Q q => by
  have f1 := AutoSeq1.idx_int
  unfold Builtin.«int.__rmul__»
  wp_walk
  exact ⟨_, rfl, q⟩
theorem op_repS {X : Cx} : OpR X (binaryOp .Mult) (fun x y H Q => ∃ (k : Int), x = .str "a" ∧ y = .int k ∧ (k = 20 ∨ k = 21) ∧ Q (.str (sOf (List.replicate k.toNat 97))) H) := by
  intro pins s σ H x y v u Q I rx ry h
  obtain ⟨k, rfl, rfl, hk, q⟩ := h
  obtain ⟨t, rfl⟩ := rx
  obtain ⟨r, rfl⟩ := ry
  refine wpAny_binaryOp_repeat (T := "str") (U := "int") (by decide) (fun s' => typeIs_str s' _ t) (fun s' => typeIs_int s' k r) noFill_str_mul F.fills_int_mul F.slot_int_rmul repeat_str F.slot_int_index.lookup ?_
  refine call_gives F.slot_int_rmul (typeIs_int s k r) F.entry_int_rmul (F.args_int_rmul_2 _ _) (int_rmul_str k r _ t) ?_
  refine ⟨rfl, ?_⟩
  rcases hk with rfl | rfl
  · refine call_gives F.slot_str_mul (typeIs_str s _ t) F.entry_str_mul (F.args_str_mul_2 _ _) (gives_str_mul ("a") 20 t r (by decide) (fun _ _ => by decide) (fun _ _ => by decide)) ?_
    rw [if_neg (by decide), if_neg (by decide)]
    exact ⟨by decide, .str (sOf (List.replicate 20 97)), H, I.tok _, ⟨_, rfl⟩, q⟩
  · refine call_gives F.slot_str_mul (typeIs_str s _ t) F.entry_str_mul (F.args_str_mul_2 _ _) (gives_str_mul ("a") 21 t r (by decide) (fun _ _ => by decide) (fun _ _ => by decide)) ?_
    rw [if_neg (by decide), if_neg (by decide)]
    exact ⟨by decide, .str (sOf (List.replicate 21 97)), H, I.tok _, ⟨_, rfl⟩, q⟩
/-- a call that never raises, of what may -/
theorem passF {P : Program} {w : World} {X : Cx} : Passes (L2.CX P w) X (fun _ _ _ => False) := fun pins σ H s e s' I h => by
  obtain ⟨_, _, _, _, _, _, _, _, _, _, _, _, hF⟩ := h
  exact hF.elim
/-! one tree stands at a place -/
theorem sOf_inj {z y : List Nat} (e : sOf z = sOf y) : z = y := by
  have e2 : z.toArray = y.toArray := congrArg Str.cps e
  have := congrArg Array.toList e2
  simpa using this
theorem rep_eq {H : Hp} : ∀ {d : Nat} {t t' : T} {v : V}, Rep H d t v → Rep H d t' v → t = t' := by
  have key : ∀ d, (∀ d', d = d' + 1 → ∀ t t' v, Rep H d' t v → Rep H d' t' v → t = t') → ∀ t t' v, Rep H d t v → Rep H d t' v → t = t' := by
    intro d IH t t' v r r'
    rcases r.cases with ⟨rfl, rfl⟩ | ⟨b, rfl, rfl⟩ | ⟨i, rfl, rfl⟩ | ⟨z, rfl, rfl, _⟩ | ⟨d1, l, a, xs, e1, rfl, rfl, ha, hl, _, hk⟩
    all_goals rcases r'.cases with ⟨rfl, e⟩ | ⟨b', rfl, e⟩ | ⟨i', rfl, e⟩ | ⟨z', rfl, e, _⟩ | ⟨d2, l', a', xs', e2, rfl, e, ha', hl', _, hk'⟩
    all_goals first
      | rfl
      | (cases V.bl.inj e; rfl)
      | (cases V.int.inj e; rfl)
      | (cases sOf_inj (V.str.inj e); rfl)
      | (exact V.noConfusion e)
      | skip
    cases V.ref.inj e
    rw [ha] at ha'
    cases ha'
    obtain rfl : d1 = d2 := by omega
    refine congrArg T.tup (List.ext_getElem? fun i => ?_)
    by_cases h : i < l.length
    · have hx : xs[i]? = some (xs[i]'(by omega)) := List.getElem?_eq_getElem (by omega)
      have h1 : l[i]? = some (l[i]'h) := List.getElem?_eq_getElem h
      have h2 : l'[i]? = some (l'[i]'(by omega)) := List.getElem?_eq_getElem (by omega)
      rw [h1, h2, IH d1 e1 _ _ _ (hk i _ _ hx h1) (hk' i _ _ hx h2)]
    · rw [List.getElem?_eq_none (by omega), List.getElem?_eq_none (by omega)]
  intro d
  induction d with
  | zero =>
    intro t t' v
    exact key 0 (fun d' e => by omega) t t' v
  | succ d ih =>
    intro t t' v
    refine key (d + 1) (fun d' e t t' v => ?_) t t' v
    obtain rfl : d' = d := by omega
    exact ih
theorem reps_of {H : Hp} {d : Nat} : ∀ {xs : List V}, (∀ x ∈ xs, PG H d x) → ∃ ts : List QR.T, xs.length = ts.length ∧ (∀ (i : Nat) (x : V) (t : QR.T), xs[i]? = some x → ts[i]? = some t → Rep H d t x) ∧ ∀ t ∈ ts, OkT d t
  | [], _ => ⟨[], rfl, fun i x t hx => by simp at hx, fun t ht => by simp at ht⟩
  | x :: xs, h => by
    obtain ⟨ts, l, r, o⟩ := reps_of (xs := xs) fun y hy => h y (List.mem_cons_of_mem _ hy)
    obtain ⟨t, rt, ot⟩ := h x List.mem_cons_self
    refine ⟨t :: ts, by rw [List.length_cons, List.length_cons, l], fun i y u hy hu => ?_, fun u hu => ?_⟩
    · cases i with
      | zero =>
        cases hy
        cases hu
        exact rt
      | succ i => exact r i y u hy hu
    · rcases List.mem_cons.mp hu with rfl | hu
      · exact ot
      · exact o u hu
theorem pg_tup' {H : Hp} {d : Nat} {a : Addr} {xs : List V} (ha : H a = some (.tup xs)) (few : xs.length ≤ 9000) (h : ∀ x ∈ xs, PG H d x) : PG H (d + 1) (.ref a) := by
  obtain ⟨ts, l, r, o⟩ := reps_of h
  exact ⟨.tup ts, ⟨a, xs, rfl, ha, l, few, r⟩, o⟩
theorem mem_at {α : Type} {xs : List α} {x : α} (h : x ∈ xs) : ∃ i : Nat, xs[i]? = some x := List.mem_iff_getElem?.mp h
/-- one less deep -/
theorem dn {p l : Addr} {H : Hp} : ∀ d, (∀ v, PG H (d + 1) v → PG H d v ∨ BadU p l H d v) ∧ ∀ v, BadU p l H (d + 1) v → BadU p l H d v := by
  have key : ∀ d, (∀ d', d = d' + 1 → (∀ v, PG H (d' + 1) v → PG H d' v ∨ BadU p l H d' v) ∧ ∀ v, BadU p l H (d' + 1) v → BadU p l H d' v) → (∀ v, PG H (d + 1) v → PG H d v ∨ BadU p l H d v) ∧ ∀ v, BadU p l H (d + 1) v → BadU p l H d v := by
    intro d IH
    refine ⟨fun v h => ?_, fun v h => ?_⟩
    · obtain ⟨t, rep, ok⟩ := h
      rcases rep.cases with ⟨rfl, rfl⟩ | ⟨b, rfl, rfl⟩ | ⟨i, rfl, rfl⟩ | ⟨z, rfl, rfl, zl⟩ | ⟨d1, ls, a, xs, e1, rfl, rfl, ha, hl, few, hk⟩
      · exact .inl ⟨.non, Rep.atom (t := .non) rfl, okT_at (t := .non) trivial⟩
      · exact .inl ⟨.bl b, Rep.atom (t := .bl b) rfl, okT_at (t := .bl b) trivial⟩
      · exact .inl ⟨.int i, Rep.atom (t := .int i) rfl, okT_at (t := .int i) trivial⟩
      · exact .inl ⟨.str z, Rep.atom (t := .str z) ⟨rfl, zl⟩, okT_at (okT_atom ok)⟩
      · obtain rfl : d = d1 := by omega
        have okl : ∀ t ∈ ls, OkT d t := ok
        have items : ∀ x ∈ xs, PG H d x := fun x hx => by
          obtain ⟨i, hi⟩ := mem_at hx
          have hil := (List.getElem?_eq_some_iff.mp hi).1
          have ht : ls[i]? = some (ls[i]'(by omega)) := List.getElem?_eq_getElem (by omega)
          exact ⟨_, hk i x _ hi ht, okl _ (List.mem_of_getElem? ht)⟩
        cases d with
        | zero => exact .inr (.inr ⟨a, xs, rfl, ha⟩)
        | succ d =>
          obtain ⟨i1, i2⟩ := IH d rfl
          by_cases al : ∀ x ∈ xs, PG H d x
          · exact .inl (pg_tup' ha few al)
          · obtain ⟨x, hx⟩ := Classical.not_forall.mp al
            obtain ⟨hx, nx⟩ := Classical.not_imp.mp hx
            exact .inr (.inr ⟨a, xs, rfl, ha, few, fun y hy => i1 y (items y hy), x, hx, (i1 x (items x hx)).elim (fun g => absurd g nx) id⟩)
    · rcases h with h | ⟨a, xs, e, h, n, al, x, hx, b⟩
      · exact .atom h
      · cases d with
        | zero => exact .inr ⟨a, xs, e, h⟩
        | succ d =>
          obtain ⟨i1, i2⟩ := IH d rfl
          exact .inr ⟨a, xs, e, h, n, fun y hy => (al y hy).elim (i1 y) (fun b => .inr (i2 y b)), x, hx, i2 x b⟩
  intro d
  induction d with
  | zero => exact key 0 fun d' e => by omega
  | succ d ih =>
    refine key (d + 1) fun d' e => ?_
    obtain rfl : d' = d := by omega
    exact ih
theorem no_badA {p l : Addr} {H : Hp} {d : Nat} {t : T} {v : V} (r : Rep H d t v) (o : OkT d t) (b : BadA p l H v) : False := by
  rcases b with ⟨a, rfl, h, _⟩ | ⟨z, rfl, n, bz⟩
  · rcases r.cases with ⟨_, e⟩ | ⟨_, _, e⟩ | ⟨_, _, e⟩ | ⟨_, _, e, _⟩ | ⟨d', ls, a', xs', e, rfl, e2, ha, hl, few, hk⟩
    · cases e
    · cases e
    · cases e
    · cases e
    · cases V.ref.inj e2
      rcases h with ⟨xs, h⟩ | h <;> (rw [h] at ha; cases ha)
  · rcases r.cases with ⟨_, e⟩ | ⟨_, _, e⟩ | ⟨_, _, e⟩ | ⟨y, rfl, e, _⟩ | ⟨d', ls, a', xs', e, rfl, e2, ha, hl, few, hk⟩
    · cases e
    · cases e
    · cases e
    · cases sOf_inj (V.str.inj e)
      obtain ⟨o1, o2, o3⟩ := okT_atom o
      rcases bz with h | h | ⟨_, _, c, hc, lt⟩
      · rw [h] at o1
        exact absurd o1 (by decide)
      · omega
      · have := (sg_b (o3 c hc)).1
        omega
    · cases e2
/-- not both -/
theorem no_bad {p l : Addr} {H : Hp} : ∀ {d : Nat} {t : T} {v : V}, Rep H d t v → OkT d t → BadU p l H d v → False
  | 0, t, v, r, o, b => by
    have at_ : BadA p l H v → False := fun h => no_badA r o h
    rcases b with h | ⟨a, xs, rfl, h⟩
    · exact at_ h
    · rcases r.cases with ⟨_, e⟩ | ⟨_, _, e⟩ | ⟨_, _, e⟩ | ⟨_, _, e, _⟩ | ⟨_, _, _, _, e, _⟩ <;> cases e
  | d + 1, t, v, r, o, b => by
    rcases b with h | ⟨a, xs, rfl, h, n, al, x, hx, bx⟩
    · exact no_badA r o h
    · rcases r.cases with ⟨_, e⟩ | ⟨_, _, e⟩ | ⟨_, _, e⟩ | ⟨_, _, e, _⟩ | ⟨d', ls, a', xs', e, rfl, e2, ha, hl, few, hk⟩
      · cases e
      · cases e
      · cases e
      · cases e
      · cases V.ref.inj e2
        rw [h] at ha
        cases ha
        obtain rfl : d = d' := by omega
        have okl : ∀ t ∈ ls, OkT d t := o
        obtain ⟨i, hi⟩ := mem_at hx
        have hil := (List.getElem?_eq_some_iff.mp hi).1
        have ht : ls[i]? = some (ls[i]'(by omega)) := List.getElem?_eq_getElem (by omega)
        exact no_bad (hk i x _ hi ht) (okl _ (List.mem_of_getElem? ht)) bx
def Sz (H : Hp) (v : V) (n : Nat) : Prop := ∀ t, Rep H 20 t v → OkT 20 t → (enc 20 t).length ≤ n
theorem Sz.of {H : Hp} {v : V} {n : Nat} {t : T} (r : Rep H 20 t v) (h : (enc 20 t).length ≤ n) : Sz H v n := fun t' r' _ => by
  rw [rep_eq r' r]
  exact h
/-- it is told whether it is a parcel, and one of few bytes -/
def DecZ (p l : Addr) (H : Hp) (v : V) (n : Nat) : Prop := ∃ b, Dec p l H 20 v b ∧ (b = true → Sz H v n)
theorem DecZ.fm {p l : Addr} {H H' : Hp} {v : V} {n : Nat} (f : Fm p l H H') (h : DecZ p l H v n) : DecZ p l H' v n := by
  obtain ⟨b, dec, s⟩ := h
  refine ⟨b, dec.fm f, fun e => ?_⟩
  rcases dec with ⟨_, t, rep, ok⟩ | ⟨e2, _⟩
  · exact .of (rep.tk f.tk) (s e t rep ok)
  · rw [e] at e2
    cases e2
theorem DecZ.good {p l : Addr} {H : Hp} {v : V} {n : Nat} {t : T} (r : Rep H 20 t v) (ok : OkT 20 t) (h : (enc 20 t).length ≤ n) : DecZ p l H v n := ⟨true, .inl ⟨rfl, t, r, ok⟩, fun _ => .of r h⟩
theorem DecZ.bad {p l : Addr} {H : Hp} {v : V} {n : Nat} (h : BadU p l H 20 v) : DecZ p l H v n := ⟨false, .inr ⟨rfl, h⟩, fun e => nomatch e⟩
theorem DecZ.up {p l : Addr} {H : Hp} {v : V} {n m : Nat} (h : DecZ p l H v n) (le : n ≤ m) : DecZ p l H v m := by
  obtain ⟨b, dec, s⟩ := h
  exact ⟨b, dec, fun e t r o => Nat.le_trans (s e t r o) le⟩
/-- a pair -/
theorem DecZ.pair {p l c : Addr} {H : Hp} {x y : V} {n m : Nat} (hc : H c = some (.tup [x, y])) (hx : DecZ p l H x n) (hy : DecZ p l H y m) : DecZ p l H (.ref c) (n + m + 2) := by
  have d19 : ∀ {v : V} {k : Nat}, DecZ p l H v k → PG H 19 v ∨ BadU p l H 19 v := fun h => by
    obtain ⟨b, dec, _⟩ := h
    rcases dec with ⟨_, g⟩ | ⟨_, g⟩
    · exact (dn 19).1 _ g
    · exact .inr ((dn 19).2 _ g)
  by_cases al : ∀ z ∈ [x, y], PG H 19 z
  · have px := al x List.mem_cons_self
    have py := al y (List.mem_cons_of_mem _ List.mem_cons_self)
    obtain ⟨t1, r1, o1⟩ := px
    obtain ⟨t2, r2, o2⟩ := py
    have sz : ∀ {v : V} {k : Nat} {t : T}, DecZ p l H v k → Rep H 19 t v → OkT 19 t → (enc 19 t).length ≤ k := fun {v k t} h r o => by
      obtain ⟨b, dec, s⟩ := h
      have e := (o.up 1).2
      rw [← e]
      rcases dec with ⟨rfl, _⟩ | ⟨_, g⟩
      · exact s rfl t r.more (o.up 1).1
      · exact absurd g (fun g => no_bad (r.more) (o.up 1).1 g)
    refine .good (t := .tup [t1, t2]) ⟨c, [x, y], rfl, hc, rfl, (by show 2 ≤ 9000; decide), fun i z t hz ht => ?_⟩ (fun t ht => ?_) ?_
    · match i with
      | 0 => cases hz; cases ht; exact r1
      | 1 => cases hz; cases ht; exact r2
      | i + 2 => simp at hz
    · simp only [List.mem_cons, List.not_mem_nil, or_false] at ht
      rcases ht with rfl | rfl
      · exact o1
      · exact o2
    · have s1 := sz hx r1 o1
      have s2 := sz hy r2 o2
      show (6 :: (vlq 2 ++ [enc 19 t1, enc 19 t2].flatten)).length ≤ _
      rw [List.length_cons, List.length_append, vlq_lt (by decide)]
      simp only [List.flatten_cons, List.flatten_nil, List.length_append, List.length_nil, List.length_cons]
      omega
  · obtain ⟨z, hz⟩ := Classical.not_forall.mp al
    obtain ⟨hz, nz⟩ := Classical.not_imp.mp hz
    have each : ∀ z ∈ [x, y], PG H 19 z ∨ BadU p l H 19 z := fun z hz => by
      simp only [List.mem_cons, List.not_mem_nil, or_false] at hz
      rcases hz with rfl | rfl
      · exact d19 hx
      · exact d19 hy
    exact .bad (.inr ⟨c, [x, y], rfl, hc, (by show 2 ≤ 9000; decide), each, z, hz, (each z hz).elim (fun g => absurd g nz) id⟩)
end Q

namespace Q
open PySem L2 QR
/-! the wrong place lies in the row, or right behind it -/
def Nb (r : List Int) (x : R) : Prop := ∀ p, x = .no p → p ≤ r.length
theorem rdS_nb {r : List Int} : ∀ (m h : Nat) (acc : List Nat), h ≤ r.length → Nb r (rdS r m h acc)
  | 0, h, acc, h2 => fun p e => by cases e
  | m + 1, h, acc, h2 => by
    unfold rdS
    split
    · exact fun p e => by cases e; exact h2
    · rename_i b hb
      have := (List.getElem?_eq_some_iff.mp hb).1
      split
      · exact rdS_nb m (h + 1) _ (by omega)
      · exact fun p e => by cases e; exact h2
theorem rdL_nb {r : List Int} {f : Nat → R} (hw : ∀ a, Fwd r a (f a)) (hf : ∀ a, a ≤ r.length → Nb r (f a)) : ∀ (k m h : Nat) (acc : List QR.T), h ≤ r.length → Nb r (rdL f k m h acc)
  | k, 0, h, acc, h2 => fun p e => by
    have e : R.ok (.tup acc) h = .no p := by cases k <;> exact e
    cases e
  | 0, m + 1, h, acc, h2 => fun p e => by cases e; exact h2
  | k + 1, m + 1, h, acc, h2 => by
    unfold rdL
    split
    · rename_i q e
      exact fun p e2 => by cases e2; exact hf h h2 q e
    · rename_i t h' e
      exact rdL_nb hw hf k m h' _ (hw h t h' e).2
theorem rdG_nb {r : List Int} {g : Nat → Nat → R} {z : Bool} {a : Nat} (ha : a ≤ r.length) (hg : ∀ n h, h ≤ r.length → Nb r (g n h)) : Nb r (rdG r g z a) := by
  unfold rdG
  split
  · exact fun p e => by cases e; exact ha
  · rename_i s hs
    have hl := (List.getElem?_eq_some_iff.mp hs).1
    split
    · exact fun p e => by cases e; exact ha
    split
    · exact fun p e => by cases e
    split
    · exact fun p e => by cases e
    split
    · exact fun p e => by cases e
    unfold rdB
    split
    · exact fun p e => by cases e; exact hl
    · rename_i n h hw
      obtain ⟨w1, w2, w3⟩ := rdW_nn hw
      split
      · exact fun p e => by cases e
      split
      · exact fun p e => by cases e
      split
      · split
        · exact rdS_nb _ _ _ w3
        · exact fun p e => by cases e; exact hl
      · exact hg _ _ w3
theorem rdP_nb {r : List Int} : ∀ (d a : Nat), a ≤ r.length → Nb r (rdP r d a)
  | 0, a, ha => rdG_nb ha fun n h h2 p e => by cases e; exact h2
  | d + 1, a, ha => rdG_nb ha fun n h h2 => rdL_nb (rdP_fwd d) (rdP_nb d) _ _ _ _ h2
theorem rdle (bs : List Int) (p : Nat) (e : rdAll bs = .no p) : p ≤ bs.length := by
  unfold rdAll at e
  split at e
  · rename_i t h eh
    split at e
    · cases e
    · cases e
      exact (rdP_fwd 20 0 t _ eh).2
  · rename_i q eq
    cases e
    exact rdP_nb 20 0 (Nat.zero_le _) _ eq
/-! tuples within tuples -/
theorem nest_rep {H : Hp} {x : V} {d : Nat} {t : T} (r : Rep H d t x) (o : OkT d t) : ∀ {n : Nat} {v : V}, nestAt H x n v → ∃ t', Rep H (d + n) t' v ∧ OkT (d + n) t' ∧ (enc (d + n) t').length = (enc d t).length + 2 * n
  | 0, v, h => by
    obtain rfl : v = x := h
    exact ⟨t, r, o, rfl⟩
  | n + 1, v, h => by
    obtain ⟨a, u, rfl, ha, g⟩ := h
    obtain ⟨t', r', o', e'⟩ := nest_rep r o g
    refine ⟨.tup [t'], rep_one ha r', fun y hy => by rw [List.mem_singleton.mp hy]; exact o', ?_⟩
    show (6 :: (vlq 1 ++ [enc (d + n) t'].flatten)).length = _
    rw [List.length_cons, List.length_append, vlq_lt (by decide)]
    simp only [List.flatten_cons, List.flatten_nil, List.length_append, List.length_nil, List.length_cons]
    omega
theorem nest_bad {p l : Addr} {H : Hp} {x : V} {d : Nat} (b : BadU p l H d x) : ∀ {n : Nat} {v : V}, nestAt H x n v → BadU p l H (d + n) v
  | 0, v, h => by
    obtain rfl : v = x := h
    exact b
  | n + 1, v, h => by
    obtain ⟨a, u, rfl, ha, g⟩ := h
    have ih := nest_bad b g
    exact .inr ⟨a, [u], rfl, ha, (by show 1 ≤ 9000; decide), fun y hy => .inr (by rw [List.mem_singleton.mp hy]; exact ih), u, List.mem_cons_self, ih⟩
/-- more than so many -/
theorem nest_deep {p l : Addr} {H : Hp} {x : V} : ∀ {d n : Nat} {v : V}, d < n → nestAt H x n v → BadU p l H d v
  | d, 0, v, h, _ => absurd h (Nat.not_lt_zero _)
  | 0, n + 1, v, h, g => by
    obtain ⟨a, u, rfl, ha, g⟩ := g
    exact .inr ⟨a, _, rfl, ha⟩
  | d + 1, n + 1, v, h, g => by
    obtain ⟨a, u, rfl, ha, g⟩ := g
    have ih : BadU p l H d u := nest_deep (Nat.lt_of_succ_lt_succ h) g
    exact .inr ⟨a, [u], rfl, ha, (by show 1 ≤ 9000; decide), fun y hy => .inr (by rw [List.mem_singleton.mp hy]; exact ih), u, List.mem_cons_self, ih⟩
theorem nest_up {H : Hp} {x v : V} {d n k m : Nat} {t : T} (r : Rep H d t x) (o : OkT d t) (h : nestAt H x n v) (e : d + n + k = m) : ∃ t', Rep H m t' v ∧ OkT m t' ∧ (enc m t').length = (enc d t).length + 2 * n := by
  obtain ⟨t', r', o', e'⟩ := nest_rep r o h
  subst e
  exact ⟨t', r'.up k, (o'.up k).1, by rw [(o'.up k).2]; exact e'⟩
/-- the defs of rows -/
structure PDefs (K : PySem.W.Frag) (mg : Str → Option Value) where
  f1 : Addr
  d1 : FuncData
  D1 : Df K mg "is_plain_int" sPlain ["thing"] f1 d1
  f2 : Addr
  d2 : FuncData
  D2 : Df K mg "is_number_below" sNum ["limit", "thing"] f2 d2
  f3 : Addr
  d3 : FuncData
  D3 : Df K mg "is_row" sIsRow ["thing"] f3 d3
  f4 : Addr
  d4 : FuncData
  D4 : Df K mg "is_sign" sIsSg ["number"] f4 d4
  f5 : Addr
  d5 : FuncData
  D5 : Df K mg "sign_of" sSgOf ["number"] f5 d5
  f6 : Addr
  d6 : FuncData
  D6 : Df K mg "is_string" sIsStr ["thing"] f6 d6
  f7 : Addr
  d7 : FuncData
  D7 : Df K mg "is_parcel_within" sIPW ["deep", "thing"] f7 d7
  f8 : Addr
  d8 : FuncData
  D8 : Df K mg "is_parcel" sIsPar ["thing"] f8 d8
  f9 : Addr
  d9 : FuncData
  D9 : Df K mg "write_whole" sWW ["row", "number"] f9 d9
  f10 : Addr
  d10 : FuncData
  D10 : Df K mg "write_parcel" sWP ["row", "parcel"] f10 d10
  f11 : Addr
  d11 : FuncData
  D11 : Df K mg "row_of" sRowOf ["parcel"] f11 d11
  f12 : Addr
  d12 : FuncData
  D12 : Df K mg "read_whole_row" sRAll ["row"] f12 d12
  f13 : Addr
  d13 : FuncData
  D13 : Df K mg "mark_of" sMkOf ["row"] f13 d13
  f15 : Addr
  d15 : FuncData
  D15 : Df K mg "seal_of" sSeal ["row"] f15 d15
  f16 : Addr
  d16 : FuncData
  D16 : Df K mg "sealed" sSealed ["parcel"] f16 d16
  f17 : Addr
  d17 : FuncData
  D17 : Df K mg "parcel_of" sParOf ["row"] f17 d17
/-- the law's own defs -/
structure LDefs (K : PySem.W.Frag) (mg : Str → Option Value) where
  f1 : Addr
  d1 : FuncData
  D1 : Df K mg "_law_pool" sPool ["script"] f1 d1
  f2 : Addr
  d2 : FuncData
  D2 : Df K mg "_law_draw" sDraw ["pool", "many"] f2 d2
  f3 : Addr
  d3 : FuncData
  D3 : Df K mg "_law_is" sIs ["told", "due"] f3 d3
  f4 : Addr
  d4 : FuncData
  D4 : Df K mg "_law_whole" sLW ["number"] f4 d4
  f5 : Addr
  d5 : FuncData
  D5 : Df K mg "_law_bytes" sLB ["parcel"] f5 d5
  f6 : Addr
  d6 : FuncData
  D6 : Df K mg "_law_number" sLNum ["pool"] f6 d6
  f7 : Addr
  d7 : FuncData
  D7 : Df K mg "_law_parcel" sLPar ["pool", "deep"] f7 d7
  f8 : Addr
  d8 : FuncData
  D8 : Df K mg "_law_same" sSame ["one", "other"] f8 d8
  f9 : Addr
  d9 : FuncData
  D9 : Df K mg "_law_sign" sLSg ["byte"] f9 d9
  f10 : Addr
  d10 : FuncData
  D10 : Df K mg "_law_read_whole" sLRW ["row", "at"] f10 d10
  f11 : Addr
  d11 : FuncData
  D11 : Df K mg "_law_read" sLR ["row", "at", "left"] f11 d11
  f12 : Addr
  d12 : FuncData
  D12 : Df K mg "_law_read_string" sLRS ["row", "begin", "many", "here"] f12 d12
  f13 : Addr
  d13 : FuncData
  D13 : Df K mg "_law_told" sTold ["row"] f13 d13
  f14 : Addr
  d14 : FuncData
  D14 : Df K mg "_law_deep" sLDeep [] f14 d14
  f15 : Addr
  d15 : FuncData
  D15 : Df K mg "_law_flag" sFlag ["thing", "due"] f15 d15
  f16 : Addr
  d16 : FuncData
  D16 : Df K mg "_law_nested" sNest ["many", "inner"] f16 d16
  f17 : Addr
  d17 : FuncData
  D17 : Df K mg "_law_is_parcel" sLIsP ["thing", "left"] f17 d17
  f18 : Addr
  d18 : FuncData
  D18 : Df K mg "_law_word" sWord ["which", "thing"] f18 d18
  f19 : Addr
  d19 : FuncData
  D19 : Df K mg "_law_read_by" sRBy ["row"] f19 d19
  f20 : Addr
  d20 : FuncData
  D20 : Df K mg "_law_spoilt" sSpoil ["pool", "row"] f20 d20
  f21 : Addr
  d21 : FuncData
  D21 : Df K mg "_law_right" sRight ["row"] f21 d21
theorem cut_from (ns : List Int) (n : Nat) : cutV (ns.map V.int) (some (n : Int)) none = (ns.drop n).map V.int := by
  unfold cutV
  rw [HT.sIx_none, HT.sIx_nat, List.take_of_length_le (by rw [List.length_drop]; omega), List.map_drop]
  rcases Nat.le_total n (ns.map V.int).length with c | c
  · rw [Nat.min_eq_left c]
  · rw [Nat.min_eq_right c, List.drop_of_length_le (Nat.le_refl _), List.drop_of_length_le c]
theorem cut_suc (ns : List Int) (n : Nat) : cutV (ns.map V.int) (some ((n : Int) + 1)) none = (ns.drop (n + 1)).map V.int := cut_from ns (n + 1)
/-- a sum of rows, as it is -/
theorem cat_ex {H : Hp} {q r : Addr} {bs cs : List Int} {Q : VK} (a : H q = some (.tup (bs.map V.int))) (b : H r = some (.tup (cs.map V.int))) (n : bs.length ≤ 9000) (m : cs.length ≤ 9000) (k : ∀ z H', Same H H' → H' z = some (.tup ((bs ++ cs).map V.int)) → Q (.ref z) H') : rCatS (.ref q) (.ref r) H Q := by
  refine ⟨q, r, _, _, rfl, rfl, a, b, ?_, fun z H' s e => k z H' s (by rw [List.map_append]; exact e)⟩
  rw [List.length_map, List.length_map]
  exact Nat.le_of_lt (size_ok (by omega))
def spSpoil : Sp := fun vs H Q _ => ∃ (p l r : Addr) (bs : List Int) (n : Nat), vs = [.ref p, .ref r] ∧ PoolAt H p l ∧ RowAt H r bs ∧ bs.length ≤ n ∧ n ≤ 4000 ∧ ∀ v H', PoolAt H' p l → Kp p l H H' → Br H' v (n + 1) → Q v H'
def spRight : Sp := fun vs H Q _ => ∃ (q : Addr) (bs : List Int), vs = [.ref q] ∧ RowAt H q bs ∧ bs.length ≤ 7000 ∧ ∀ H', Same H H' → Q (.bl true) H'
section
variable {P : Program} {w : World} {K : PySem.W.Frag} {mg : Str → Option Value} {base : Heap}
theorem scSpoil : FnScope ["pool", "row", "at", "byte", "some"] ["pool", "row"] (defScope sSpoil) := ⟨rfl, rfl, rfl, by decide +kernel, rfl, by decide +kernel, by decide +kernel⟩
theorem ok_spoil {f fD : Addr} {fd dD : FuncData} (D : Df K mg "_law_spoilt" sSpoil ["pool", "row"] f fd) (B : Bts mg) (DD : Df K mg "_law_draw" sDraw ["pool", "many"] fD dD) : FnOk P w K mg base CX0 2 f fd ["pool", "row"] spSpoil := by
  have GD : FnOk P w K mg base CX0 1 fD dD ["pool", "many"] spDraw := ok_draw DD B
  refine D.F.ok scSpoil (fun vs H Q E h => ?_) (fun cdv A outer s H vs Q E hr h => ?_)
  · obtain ⟨p, l, r, bs, n, rfl, _⟩ := h
    rfl
  · obtain ⟨p, l, r, X, n, rfl, g0, hq, ln, n4, k⟩ := h
    have nd := scSpoil.nd
    refine ⟨_, pss_cons (ps_set (i := 2) nd rfl (.inl rfl) (pe_call GD hr rfl DD.m DD.k DD.b .nil pass0 (pa_cons (pv 0) (pa_cons (pe_op op_add (pe_callB call_len_seq (by rfl) B.len PySem.boot_len (pa_cons (pv 1) pa_nil)) pe_int) pa_nil))))
      (pss_cons (ps_set (i := 3) nd rfl (.inl rfl) (pe_ix ix_list (pe_lst (pa_cons pe_int (pa_cons pe_int (pa_cons pe_int (pa_cons pe_int (pa_cons pe_int (pa_cons pe_int (pa_cons pe_int (pa_cons pe_int (pa_cons pe_int (pa_cons pe_int (pa_cons pe_int (pa_cons pe_int (pa_cons pe_int (pa_cons pe_int (pa_cons pe_int (pa_cons pe_int pa_nil))))))))))))))))) (pe_call GD hr rfl DD.m DD.k DD.b .nil pass0 (pa_cons (pv 0) (pa_cons pe_int pa_nil))) (fun _ _ => rfl)))
      (pss_cons (ps_set (i := 4) nd rfl (.inl rfl) (pe_lst (pa_cons (pe_slice sl_X (pv 1) po_none (po_some (pv 2))) (pa_cons (pe_op op_catS (pe_op op_catS (pe_slice sl_X (pv 1) po_none (po_some (pv 2))) (pe_tup (pa_cons (pv 3) pa_nil))) (pe_slice sl_X (pv 1) (po_some (pv 2)) po_none))
        (pa_cons (pe_op op_catS (pe_op op_catS (pe_slice sl_X (pv 1) po_none (po_some (pv 2))) (pe_tup (pa_cons (pv 3) pa_nil))) (pe_slice sl_X (pv 1) (po_some (pe_op op_add (pv 2) pe_int)) po_none)) pa_nil)))))
      (pss_cons (ps_set (i := 4) nd rfl (.inl rfl) (pe_op op_cat (pv 4) (pe_lst (pa_cons (pe_op op_catS (pe_slice sl_X (pv 1) po_none (po_some (pv 2))) (pe_slice sl_X (pv 1) (po_some (pe_op op_add (pv 2) pe_int)) po_none)) (pa_cons (pe_op op_catS (pv 1) (pe_tup (pa_cons (pv 3) pa_nil))) pa_nil)))))
      (pss_one (ps_ret (pe_ix ix_list (pv 4) (pe_call GD hr rfl DD.m DD.k DD.b .nil pass0 (pa_cons (pv 0) (pa_cons pe_int pa_nil))) (fun _ _ => rfl))))))), ?_⟩
    have sz : ∀ {n : Nat}, n.ble 20 = true → n ≤ sizeLine := fun h => Nat.le_of_lt (size_ok (Nat.le_trans (Nat.le_of_ble_eq_true h) (by decide)))
    refine ⟨_, rfl, _, rfl, r, _, rfl, .inr (SqT.of hq.at_), _, _, rfl, rfl, p, l, _, rfl, g0, by rw [List.length_map]; omega, by rw [List.length_map]; omega, fun at' H1 a0 a1 g1 k1 => ?_⟩
    have hq1 := hq.tk (g0.tk k1)
    refine ⟨sz rfl, fun lb hlb => ?_⟩
    have g2 := g1.same (sN (o := .lst [.int 0, .int 1, .int 3, .int 4, .int 5, .int 6, .int 7, .int 20, .int 21, .int 127, .int 128, .int 129, .int 255, .int 32, .int 31, .int 37]) hlb)
    refine ⟨_, rfl, p, l, 16, rfl, g2, by decide, by decide, fun d H3 d0 d1 g3 k3 => ?_⟩
    obtain ⟨m1, m2⟩ := g1.none hlb
    obtain ⟨v, hv, ev⟩ := at_in ([.int 0, .int 1, .int 3, .int 4, .int 5, .int 6, .int 7, .int 20, .int 21, .int 127, .int 128, .int 129, .int 255, .int 32, .int 31, .int 37] : List V) d0 d1
    obtain ⟨by', rfl, b0, b1⟩ : ∃ i : Int, v = .int i ∧ 0 ≤ i ∧ i < 256 := by
      simp only [List.mem_cons, List.not_mem_nil, or_false] at hv
      rcases hv with e | e | e | e | e | e | e | e | e | e | e | e | e | e | e | e <;> exact ⟨_, e, by decide, by decide⟩
    refine ⟨lb, _, d, .int by', rfl, rfl, SqL.of (k3 _ _ upd_same m1 m2), ev, ?_⟩
    have k03 : Kp p l H H3 := (k1.st (sN hlb)).tr k3
    have hc17 : RowAt H3 r X := hq.tk (g0.tk k03)
    have g17 := g3
    clear hv ev k3 g2 m1 m2 hlb k1 hq1 g1 d1
    obtain ⟨a, rfl⟩ : ∃ a : Nat, at' = (a : Int) := ⟨at'.toNat, by omega⟩
    have al : a ≤ X.length := by
      rw [List.length_map] at a1
      omega
    clear a1
    refine ⟨_, rfl, _, rfl, _, rfl, r, _, rfl, hc17.at_, fun z0 H4 s4 hz0 => ?_⟩
    rw [cut_map] at hz0
    have hc18 := hc17.same s4
    refine ⟨_, rfl, _, rfl, _, rfl, r, _, rfl, hc18.at_, fun z1 H18 s18 hz1 => ?_⟩
    rw [cut_map] at hz1
    refine ⟨_, rfl, sz rfl, fun t1 ht1 => ?_⟩
    refine cat_ex (bs := X.take a) (cs := [by']) (sN ht1 _ _ hz1) upd_same (by rw [List.length_take]; omega) (by show 1 ≤ 9000; decide) fun y1 H20 s20 r1 => ?_
    have S20 := sT s18 (sT (sN (o := .tup [.int by']) ht1) s20)
    have hc20 := hc18.same S20
    refine ⟨_, rfl, _, rfl, _, rfl, r, _, rfl, hc20.at_, fun z2 H21 s21 hz2 => ?_⟩
    rw [cut_from] at hz2
    refine cat_ex (s21 _ _ r1) hz2 (by rw [List.length_append, List.length_take]; show _ + 1 ≤ _; omega) (by rw [List.length_drop]; omega) fun y2 H22 s22 r2 => ?_
    have S22 := sT S20 (sT s21 s22)
    have hc22 := hc18.same S22
    refine ⟨_, rfl, _, rfl, _, rfl, r, _, rfl, hc22.at_, fun z3 H23 s23 hz3 => ?_⟩
    rw [cut_map] at hz3
    refine ⟨_, rfl, sz rfl, fun t2 ht2 => ?_⟩
    refine cat_ex (bs := X.take a) (cs := [by']) (sN ht2 _ _ hz3) upd_same (by rw [List.length_take]; omega) (by show 1 ≤ 9000; decide) fun y3 H24 s24 r3 => ?_
    have S24 := sT S22 (sT s23 (sT (sN (o := .tup [.int by']) ht2) s24))
    have hc24 := hc18.same S24
    refine ⟨_, rfl, _, rfl, _, _, rfl, rfl, _, rfl, r, _, rfl, hc24.at_, fun z4 H25 s25 hz4 => ?_⟩
    rw [cut_suc] at hz4
    refine cat_ex (s25 _ _ r3) hz4 (by rw [List.length_append, List.length_take]; show _ + 1 ≤ _; omega) (by rw [List.length_drop]; omega) fun y4 H26 s26 r4 => ?_
    have S26 := sT S24 (sT s25 s26)
    have e0 := S26 _ _ (hz0)
    have e2 := (sT s23 (sT (sN (o := .tup [.int by']) ht2) (sT s24 (sT s25 s26)))) _ _ r2
    refine ⟨sz rfl, fun l1 hl1 => ?_⟩
    have S27 := sT (sT s4 S26) (sN (o := .lst [.ref z0, .ref y2, .ref y4]) hl1)
    have e0 := sN (o := .lst [.ref z0, .ref y2, .ref y4]) hl1 _ _ e0
    have e2 := sN (o := .lst [.ref z0, .ref y2, .ref y4]) hl1 _ _ e2
    have e4 := sN (o := .lst [.ref z0, .ref y2, .ref y4]) hl1 _ _ r4
    have ll : (upd H26 l1 (.lst [.ref z0, .ref y2, .ref y4])) l1 = some (.lst [.ref z0, .ref y2, .ref y4]) := upd_same
    revert S27 e0 e2 e4 ll
    generalize (upd H26 l1 (.lst [.ref z0, .ref y2, .ref y4])) = H27
    intro S27 e0 e2 e4 ll
    clear hz1 hz2 hz3 hz4 r1 r2 r3 r4 s18 s20 s21 s22 s23 s24 s25 s26 S20 S22 S24 S26 hc18 hc20 hc22 hc24 ht1 ht2 hl1 hz0 s4
    have hc27 := hc17.same S27
    have g27 := g17.same S27
    -- some + [..2]
    refine ⟨_, rfl, _, rfl, _, rfl, _, rfl, r, _, rfl, hc27.at_, fun z5 H28 s28 hz5 => ?_⟩
    rw [cut_map] at hz5
    have hc28 := hc27.same s28
    refine ⟨_, rfl, _, rfl, _, _, rfl, rfl, _, rfl, r, _, rfl, hc28.at_, fun z6 H29 s29 hz6 => ?_⟩
    rw [cut_suc] at hz6
    refine cat_ex (s29 _ _ hz5) hz6 (by rw [List.length_take]; omega) (by rw [List.length_drop]; omega) fun y5 H30 s30 r5 => ?_
    have S30 := sT s28 (sT s29 s30)
    have hc30 := hc27.same S30
    refine ⟨_, rfl, _, rfl, sz rfl, fun t3 ht3 => ?_⟩
    refine cat_ex (bs := X) (cs := [by']) (sN ht3 _ _ hc30.at_) upd_same (by omega) (by show 1 ≤ 9000; decide) fun y6 H31 s31 r6 => ?_
    have s31' := sT (sN (o := .tup [.int by']) ht3) s31
    have S31 := sT S30 s31'
    refine ⟨sz rfl, fun l2 hl2 => ?_⟩
    have S32 := sT S31 (sN (o := .lst [.ref y5, .ref y6]) hl2)
    refine ⟨l1, l2, _, _, rfl, rfl, S32 _ _ ll, upd_same, sz rfl, fun l3 hl3 => ?_⟩
    have s33 := sT (sN (o := .lst [.ref y5, .ref y6]) hl2) (sN (o := .lst ([.ref z0, .ref y2, .ref y4] ++ [.ref y5, .ref y6])) hl3)
    have S33 := sT S31 s33
    have bX : ∀ b ∈ X, 0 ≤ b ∧ b < 256 := hq.b
    have bt : ∀ {m : Nat}, ∀ b ∈ X.take m, 0 ≤ b ∧ b < 256 := fun b hb => bX b (List.mem_of_mem_take hb)
    have bd : ∀ {m : Nat}, ∀ b ∈ X.drop m, 0 ≤ b ∧ b < 256 := fun b hb => bX b (List.mem_of_mem_drop hb)
    have b1' : ∀ b ∈ [by'], 0 ≤ b ∧ b < 256 := fun b hb => by rw [List.mem_singleton.mp hb]; exact ⟨b0, b1⟩
    have ap : ∀ {u v : List Int}, (∀ b ∈ u, 0 ≤ b ∧ b < 256) → (∀ b ∈ v, 0 ≤ b ∧ b < 256) → ∀ b ∈ u ++ v, 0 ≤ b ∧ b < 256 := fun hu hv b hb => (List.mem_append.mp hb).elim (hu b) (hv b)
    have all : ∀ x ∈ ([.ref z0, .ref y2, .ref y4] ++ [.ref y5, .ref y6] : List V), Br (upd (upd H31 l2 (.lst [.ref y5, .ref y6])) l3 (.lst ([.ref z0, .ref y2, .ref y4] ++ [.ref y5, .ref y6]))) x (n + 1) := by
      intro x hx
      simp only [List.mem_append, List.mem_cons, List.not_mem_nil, or_false] at hx
      rcases hx with (rfl | rfl | rfl) | (rfl | rfl)
      · exact ⟨z0, _, rfl, S33 _ _ e0, bt, by rw [List.length_take]; omega⟩
      · exact ⟨y2, _, rfl, S33 _ _ e2, ap (ap bt b1') bd, by simp only [List.length_append, List.length_take, List.length_drop, List.length_singleton]; omega⟩
      · exact ⟨y4, _, rfl, S33 _ _ e4, ap (ap bt b1') bd, by simp only [List.length_append, List.length_take, List.length_drop, List.length_singleton]; omega⟩
      · exact ⟨y5, _, rfl, s33 _ _ (s31' _ _ r5), ap bt bd, by simp only [List.length_append, List.length_take, List.length_drop]; omega⟩
      · exact ⟨y6, _, rfl, s33 _ _ r6, ap bX b1', by simp only [List.length_append, List.length_singleton]; omega⟩
    have g33 := g27.same S33
    have el : (upd (upd H31 l2 (.lst [.ref y5, .ref y6])) l3 (.lst ([.ref z0, .ref y2, .ref y4] ++ [.ref y5, .ref y6]))) l3 = some (.lst ([.ref z0, .ref y2, .ref y4] ++ [.ref y5, .ref y6])) := upd_same
    obtain ⟨m1, m2⟩ : l3 ≠ p ∧ l3 ≠ l := ((g27.same S31).same (sN (o := .lst [.ref y5, .ref y6]) hl2)).none hl3
    have lx : ([.ref z0, .ref y2, .ref y4] ++ [.ref y5, .ref y6] : List V).length = 5 := rfl
    have k33 := k03.st (sT S27 S33)
    clear S33 s33 S32 S31 s31' s31 S30 hc30 hc28 hc27 r5 r6 hl2 hl3 hz5 hz6 s28 s29 s30 e0 e2 e4 ll ht3 g27 S27
    revert all g33 el lx k33
    generalize (upd (upd H31 l2 (.lst [.ref y5, .ref y6])) l3 (.lst ([.ref z0, .ref y2, .ref y4] ++ [.ref y5, .ref y6]))) = H33
    generalize ([.ref z0, .ref y2, .ref y4] ++ [.ref y5, .ref y6] : List V) = xs
    intro all g33 el lx k33
    refine ⟨_, rfl, _, rfl, p, l, 5, rfl, g33, by decide, by decide, fun dd H34 d0 d1 g34 k34 => ?_⟩
    obtain ⟨x, hx, ex⟩ := at_in xs d0 (by rw [lx]; exact d1)
    exact ⟨l3, _, dd, x, rfl, rfl, SqL.of (k34 _ _ el m1 m2), ex, k x H34 g34 (k33.tr k34) ((all x hx).tk (g33.tk k34))⟩
theorem log_nat {p : Nat} (h : p ≤ 9000) : ((p : Int)).natAbs.log2 < 1920 := by
  have e : ((p : Int)).natAbs = p := rfl
  rw [e]
  refine Nat.lt_of_le_of_lt ?_ (show 14 < 1920 by decide)
  rcases Nat.eq_zero_or_pos p with z | z
  · rw [z]
    decide
  · have : p.log2 < 15 := (Nat.log2_lt (by omega)).mpr (Nat.lt_of_le_of_lt h (by decide))
    omega
theorem scRight : FnScope ["row", "due", "told"] ["row"] (defScope sRight) := ⟨rfl, rfl, rfl, by decide +kernel, rfl, by decide +kernel, by decide +kernel⟩
theorem ok_right {f fT fB fI fS fR : Addr} {fd dT dB dI dS dR : FuncData} (D : Df K mg "_law_right" sRight ["row"] f fd) (B : Bts mg) (DT : Df K mg "_law_told" sTold ["row"] fT dT) (GT : FnOk P w K mg base CX0 24 fT dT ["row"] spTold) (DB : Df K mg "_law_read_by" sRBy ["row"] fB dB) (GB : FnOk P w K mg base CX0 48 fB dB ["row"] spRBy)
    (DI : Df K mg "_law_is" sIs ["told", "due"] fI dI) (DS : Df K mg "_law_same" sSame ["one", "other"] fS dS) (DR : Df K mg "row_of" sRowOf ["parcel"] fR dR) (GR : FnOk P w K mg base CX0 25 fR dR ["parcel"] spRowOf) : FnOk P w K mg base CX0 49 f fd ["row"] spRight := by
  have GI : FnOk P w K mg base CX0 1 fI dI ["told", "due"] spIs := ok_is DI B
  have GS : FnOk P w K mg base CX0 22 fS dS ["one", "other"] (spSame 21) := ok_same DS B 21
  refine D.F.ok scRight (fun vs H Q E h => ?_) (fun cdv A outer s H vs Q E hr h => ?_)
  · obtain ⟨q, bs, rfl, _⟩ := h
    rfl
  · obtain ⟨q, bs, rfl, hq, few, k⟩ := h
    have nd := scRight.nd
    have hu := hr.units
    have hr1 : Room 1 _ := hr.mono (by decide)
    have hr22 : Room 22 _ := hr.mono (by decide)
    have hr24 : Room 24 _ := hr.mono (by decide)
    have hr25 : Room 25 _ := hr.mono (by decide)
    refine ⟨_, pss_cons (ps_par (i := 1) (j := 2) rfl nd rfl rfl (by decide) rfl rfl (pa_cons (pe_call GT hr24 rfl DT.m DT.k DT.b .nil pass0 (pa_cons (pv 0) pa_nil)) (pa_cons (pe_call GB hr rfl DB.m DB.k DB.b .nil pass0 (pa_cons (pv 0) pa_nil)) pa_nil)) rfl)
      (pss_cons (ps_if (pt_not (pt_val (pe_callB call_isi (by rfl) B.isinstance PyProof.Rows.boot_isinstance (pa_cons (pv 1) (pa_cons (pe_bltn (v := .ty "tuple") rfl B.tuple PyProof.Rows.boot_tuple rfl) pa_nil))))) (pss_one (ps_ret (pe_call GI hr1 rfl DI.m DI.k DI.b .nil pass0 (pa_cons (pv 2) (pa_cons (pv 1) pa_nil))))) pss_nil)
      (pss_one (ps_ret (pe_and (pe_callB call_isi (by rfl) B.isinstance PyProof.Rows.boot_isinstance (pa_cons (pv 2) (pa_cons (pe_bltn (v := .ty "tuple") rfl B.tuple PyProof.Rows.boot_tuple rfl) pa_nil))) (pe_and (pe_call GS hr22 rfl DS.m DS.k DS.b .nil pass0 (pa_cons (pv 2) (pa_cons (pv 1) pa_nil)))
        (pe_one (pe_cmpR (op_eqI hu) (pe_call GR hr25 rfl DR.m DR.k DR.b .nil pass0 (pa_cons (pe_ix ix_tup (pv 2) pe_int (fun _ _ => rfl)) pa_nil)) (pv 0) (nomark _)))))))), ?_⟩
    refine ⟨_, rfl, q, bs, rfl, hq, fun t h v w' H1 e s1 hw rp => ?ok, fun p H1 e s1 => ?no⟩
    case ok =>
      refine ⟨_, rfl, q, bs, rfl, hq.same s1, fun t2 h2 v2 a H2 e2 s2 ha rp2 => ?_, fun p H2 e2 s2 => ?_⟩
      · rw [e] at e2
        cases e2
        obtain ⟨ok, eb⟩ := rdAll_back hq.b e
        have hw2 := s2 _ _ hw
        refine ⟨_, _, rfl, ?_⟩
        refine ⟨_, rfl, .ref w', .ty "tuple", .type "tuple", .type "tuple", true, rfl, .ty _, .base (.tup hw2), kit_ty (by decide +kernel), _, rfl, iteF ?_⟩
        refine ⟨_, rfl, .ref a, .ty "tuple", .type "tuple", .type "tuple", true, rfl, .ty _, .base (.tup ha), kit_ty (by decide +kernel), _, rfl, iteT ?_⟩
        refine ⟨_, rfl, _, rfl, .tup [t], .ref a, .ref w', rfl, rep_one ha rp2, rep_one hw2 (rp.same s2), fun H3 s3 => ⟨_, rfl, iteT ?_⟩⟩
        refine ⟨_, rfl, a, _, 0, v2, rfl, rfl, SqT.of (s3 _ _ ha), atI_nat (j := 0) rfl, t, v2, rfl, rp2.same s3, ok, by rw [eb]; omega, fun z H4 s4 hz => ?_⟩
        have s04 := sT s1 (sT s2 (sT s3 s4))
        refine ⟨_, rfl, z, q, enc 20 t, bs, rfl, rfl, hz.at_, s04 _ _ hq.at_, ?_⟩
        rw [eb, decide_eq_true rfl]
        exact k _ s04
      · rw [e] at e2
        cases e2
    case no =>
      refine ⟨_, rfl, q, bs, rfl, hq.same s1, fun t2 h2 v2 a H2 e2 s2 ha rp2 => ?_, fun p2 H2 e2 s2 => ?_⟩
      · rw [e] at e2
        cases e2
      · rw [e] at e2
        cases e2
        refine ⟨_, _, rfl, ?_⟩
        refine ⟨_, rfl, .int p, .ty "tuple", .type "int", .type "tuple", false, rfl, .ty _, .base (.int _), kit_ty (by decide +kernel), _, rfl, iteT ?_⟩
        have pl := rdle bs p e
        exact ⟨_, rfl, _, rfl, (p : Int), rfl, log_nat (by omega), k _ (sT s1 s2)⟩
end
end Q

namespace Q
open PySem L2 QR
def spFirst (K : PySem.W.Frag) : Sp := fun vs H Q _ => ∃ (a : Addr) (ns : List Int), vs = [.ref a] ∧ SqL K H a (ns.map V.int) ∧ ns.length ≤ 63 ∧ ∀ H', SqL K H' a (ns.map V.int) → Q (.bl true) H'
theorem sq_kp {K : PySem.W.Frag} {p l a : Addr} {H0 H1 H2 : Hp} {xs : List V} (h0 : SqL K H0 a xs) (np : H0 p = none) (nl : H0 l = none) (h1 : SqL K H1 a xs) (k : Kp p l H1 H2) : SqL K H2 a xs := by
  rcases h0 with h0 | h0
  · have na : H0 a ≠ none := by
      rcases h0 with h | ⟨o, h⟩ <;> (rw [h]; exact fun e => nomatch e)
    have n1 : a ≠ p := fun e => na (by rw [e]; exact np)
    have n2 : a ≠ l := fun e => na (by rw [e]; exact nl)
    exact h1.elim (fun h => .inl (h.elim (fun h => .inl (k _ _ h n1 n2)) fun ⟨o, h⟩ => .inr ⟨o, k _ _ h n1 n2⟩)) fun h => .inr h
  · exact .inr h0
theorem tup_is {K : PySem.W.Frag} {H : Hp} {t : QR.T} {v : V} (r : Rep H 3 t v) (o : OkT 3 t) : ∃ (b : Bool) (ty : Value), TyX K H v ty ∧ PySem.W.kitOne K ty (.type "tuple") = some b ∧ (b = false → Rep H 0 t v ∧ OkT 0 t) := by
  rcases r.cases with ⟨rfl, rfl⟩ | ⟨b, rfl, rfl⟩ | ⟨i, rfl, rfl⟩ | ⟨z, rfl, rfl, zl⟩ | ⟨d', ls, a, xs, _, rfl, rfl, ha, _⟩
  · exact ⟨false, _, .base .non, kit_ty (by decide +kernel), fun _ => ⟨rfl, trivial⟩⟩
  · exact ⟨false, _, .base (.bl _), kit_ty (by decide +kernel), fun _ => ⟨rfl, trivial⟩⟩
  · exact ⟨false, _, .base (.int _), kit_ty (by decide +kernel), fun _ => ⟨rfl, trivial⟩⟩
  · exact ⟨false, _, .base (.str _), kit_ty (by decide +kernel), fun _ => ⟨⟨rfl, zl⟩, okT_atom o⟩⟩
  · exact ⟨true, _, .base (.tup ha), kit_ty (by decide +kernel), fun e => nomatch e⟩
theorem dz_bad {p l : Addr} {H : Hp} {z : List Nat} {n : Nat} (le : z.length ≤ 9000) (b : badZ z) : DecZ p l H (.str (sOf z)) n := .bad (.atom (.inr ⟨z, rfl, le, b⟩))
theorem dz_lst {p l a : Addr} {H : Hp} {xs : List V} {n : Nat} (h : H a = some (.lst xs)) (ne : a ≠ p ∧ a ≠ l) : DecZ p l H (.ref a) n := .bad (.atom (.inl ⟨a, rfl, .inl ⟨xs, h⟩, ne.1, ne.2⟩))
theorem dz_dct {p l a : Addr} {H : Hp} {n : Nat} (h : H a = some (.dK [])) (ne : a ≠ p ∧ a ≠ l) : DecZ p l H (.ref a) n := .bad (.atom (.inl ⟨a, rfl, .inr h, ne.1, ne.2⟩))
theorem dz_atom {p l : Addr} {H : Hp} {t : QR.T} {v : V} (r : RepA t v) (o : okA t) (e : (encA t).length ≤ 30) : DecZ p l H v 30 := .good (Rep.atom r) (okT_at o) (by rw [enc_atom o]; exact e)
theorem enc_a20 : (encA (.str (List.replicate 20 97))).length ≤ 30 := by
  show (5 :: (vlq 20 ++ (List.replicate 20 97).map fun c : Nat => (c : Int))).length ≤ 30
  rw [List.length_cons, List.length_append, vlq_lt (by decide), List.length_map, List.length_replicate]
  decide
theorem words_eq {K : PySem.W.Frag} {H : Hp} {a b : Addr} {c : Bool} (ha : H a = some (.lst [.str (wordS c), .str (wordS c)])) (hb : H b = some (.lst [.str (wordS c), .str (wordS c)])) {Q : VK} (k : Q (.bl false) H) : rNeD K (.ref a) (.ref b) H Q := by
  refine ⟨.list [.str (wordS c), .str (wordS c)], .list [.str (wordS c), .str (wordS c)], .lst (SqL.of ha) (.cons (.str _) (.cons (.str _) .nil)), .lst (SqL.of hb) (.cons (.str _) (.cons (.str _) .nil)), ?_, ?_, ?_⟩
  · cases c <;> decide +kernel
  · cases c <;> decide +kernel
  · have e : PyData.eqv (.list [.str (wordS c), .str (wordS c)]) (.list [.str (wordS c), .str (wordS c)]) = true := by cases c <;> decide +kernel
    rw [e]
    exact k
section
variable {P : Program} {w : World} {K : PySem.W.Frag} {mg : Str → Option Value} {base : Heap}
theorem scFirst : FnScope ["script", "pool", "turn", "parcel", "row", "odd", "thing", "one", "due", "words", "which"] ["script"] (defScope sFirst) := ⟨rfl, rfl, rfl, by decide +kernel, rfl, by decide +kernel, by decide +kernel⟩
theorem ok_first {f CR CB fB CE CN fN : Addr} {fd dB : FuncData} (D : Df K mg "_law_first" sFirst ["script"] f fd) (B : Bts mg) (C : Cst mg) (BA : Bare K mg) (T : RTxt K mg CR) (M : RDefs K CR) (BT : BTxt K mg CB fB dB) (XT : XTxt P K mg CE CN fN CB) (A : PDefs K mg) (L : LDefs K mg) : FnOk P w K mg base CX0 48 f fd ["script"] (spFirst K) := by
  have GRow : FnOk P w K mg base CX0 3 A.f3 A.d3 ["thing"] (spIsRow K) := ok_isrow A.D3 B C A.D1 A.D2
  have GRo : FnOk P w K mg base CX0 25 A.f11 A.d11 ["parcel"] spRowOf := ok_rowof A.D11 B C BA A.D8 A.D7 A.D6 A.D4 A.D10 A.D9
  have GRX : FnOk P w K mg base (L2.CX P w) 25 A.f11 A.d11 ["parcel"] (spRowX CN) := ok_rowX A.D11 B C BA XT A.D8 A.D7 A.D6 A.D4 A.D10 A.D9
  have GSX : FnOk P w K mg base (L2.CX P w) 26 A.f16 A.d16 ["parcel"] (spWd CN) := ok_sealX A.D16 B C A.D11 GRX A.D15 A.D13
  have GIP : FnOk P w K mg base CX0 24 A.f8 A.d8 ["thing"] spIsPar2 := ok_ispar2 A.D8 B C A.D7 A.D6 A.D4
  have GA : FnOk P w K mg base (L2.CX P w) 46 A.f12 A.d12 ["row"] (spRAll CB) := ok_rall A.D12 T M B C BA BT A.D4 A.D5
  have GPO : FnOk P w K mg base (L2.CX P w) 47 A.f17 A.d17 ["row"] (spRAll CB) := ok_parof A.D17 A.D3 GRow A.D12 GA
  have GP : FnOk P w K mg base CX0 1 L.f1 L.d1 ["script"] (spPool K) := ok_pool L.D1 B
  have GD : FnOk P w K mg base CX0 1 L.f2 L.d2 ["pool", "many"] spDraw := ok_draw L.D2 B
  have GB : FnOk P w K mg base CX0 22 L.f5 L.d5 ["parcel"] (spLB 20) := ok_lb L.D5 B L.D4 20
  have GPa : FnOk P w K mg base CX0 6 L.f7 L.d7 ["pool", "deep"] (spLPar 3) := ok_lpar L.D7 B L.D2 L.D6 3
  have GSm : FnOk P w K mg base CX0 21 L.f8 L.d8 ["one", "other"] (spSame 20) := ok_same L.D8 B 20
  have GDp : FnOk P w K mg base CX0 1 L.f14 L.d14 [] spLDeep := ok_ldeep L.D14 B
  have GF : FnOk P w K mg base CX0 1 L.f15 L.d15 ["thing", "due"] spFlag := ok_flag L.D15 B
  have GN : FnOk P w K mg base CX0 1 L.f16 L.d16 ["many", "inner"] spNest := ok_nest L.D16 B
  have GLP : FnOk P w K mg base CX0 22 L.f17 L.d17 ["thing", "left"] (spLIsP 20) := ok_lisp L.D17 B 20
  have GWd : FnOk P w K mg base CX0 27 L.f18 L.d18 ["which", "thing"] spWord := ok_word L.D18 B XT A.D11 GRX A.D16 GSX
  refine D.F.ok scFirst (fun vs H Q E h => ?_) (fun cdv Ar outer s H vs Q E hr h => ?_)
  · obtain ⟨a, ns, rfl, _⟩ := h
    rfl
  · obtain ⟨a, ns, rfl, hS, hlen, k⟩ := h
    have nd := scFirst.nd
    have hu := hr.units
    have hr1 : Room 1 _ := hr.mono (by decide)
    have hr6 : Room 6 _ := hr.mono (by decide)
    have hr21 : Room 21 _ := hr.mono (by decide)
    have hr22 : Room 22 _ := hr.mono (by decide)
    have hr24 : Room 24 _ := hr.mono (by decide)
    have hr25 : Room 25 _ := hr.mono (by decide)
    have hr27 : Room 27 _ := hr.mono (by decide)
    refine ⟨_, (pss_cons (ps_set (i := 1) nd rfl (.inl rfl) (pe_call GP hr1 rfl L.D1.m L.D1.k L.D1.b .nil pass0 (pa_cons (pv 0) pa_nil)))
        (pss_cons (ps_for PassesOwn.never rfl (pi_range1 rfl B.range (pa_cons pe_int pa_nil)) (pg_name (i := 2) nd rfl (.inl rfl)) (pss_cons (ps_set (i := 3) nd rfl (.inl rfl) (pe_call GPa hr6 rfl L.D7.m L.D7.k L.D7.b .nil pass0 (pa_cons (pv 1) (pa_cons pe_int pa_nil))))
        (pss_cons (ps_if (pt_cmpR op_eq (pe_call GD hr1 rfl L.D2.m L.D2.k L.D2.b .nil pass0 (pa_cons (pv 1) (pa_cons pe_int pa_nil))) pe_int (nomark _)) (pss_one (ps_set (i := 3) nd rfl (.inl rfl) (pe_call GN hr1 rfl L.D16.m L.D16.k L.D16.b .nil pass0 (pa_cons (pe_op op_sub (pe_ix ix_list (pe_lst (pa_cons pe_int (pa_cons pe_int (pa_cons pe_int pa_nil)))) (pe_call GD hr1 rfl L.D2.m L.D2.k L.D2.b .nil pass0 (pa_cons (pv 1) (pa_cons pe_int pa_nil))) (fun _ _ => rfl)) (pe_op op_mul (pe_callTy call_int1 (by rfl) B.int PyProof.Rows.boot_int (pa_cons (pe_callB call_isi (by rfl) B.isinstance PyProof.Rows.boot_isinstance (pa_cons (pv 3) (pa_cons (pe_bltn (v := .ty "tuple") rfl B.tuple PyProof.Rows.boot_tuple rfl) pa_nil))) pa_nil)) pe_int)) (pa_cons (pv 3) pa_nil))))) pss_nil)
        (pss_cons (ps_set (i := 4) nd rfl (.inl rfl) (pe_call GRo hr25 rfl A.D11.m A.D11.k A.D11.b .nil pass0 (pa_cons (pv 3) pa_nil)))
        (pss_cons (ps_if (PW.pt (pw_or (pt_cmpR (op_neI hu) (pv 4) (pe_callTy call_tuple_of (by rfl) B.tuple PyProof.Rows.boot_tuple (pa_cons (pe_call GB hr22 rfl L.D5.m L.D5.k L.D5.b .nil pass0 (pa_cons (pv 3) pa_nil)) pa_nil)) (nomark _)) (pw_or (pt_not (pt_val (pe_callB call_isi (by rfl) B.isinstance PyProof.Rows.boot_isinstance (pa_cons (pv 4) (pa_cons (pe_bltn (v := .ty "tuple") rfl B.tuple PyProof.Rows.boot_tuple rfl) pa_nil))))) (pw_or1 (pt_not (pt_val (pe_call GSm hr21 rfl L.D8.m L.D8.k L.D8.b .nil pass0 (pa_cons (pe_call GPO hr rfl A.D17.m A.D17.k A.D17.b .nil passF (pa_cons (pv 4) pa_nil)) (pa_cons (pv 3) pa_nil))))))))) pss_never pss_nil)
        (pss_cons (ps_set (i := 5) nd rfl (.inl rfl) (pe_lst (pa_cons pe_str (pa_cons (pe_op op_repS pe_str pe_int) (pa_cons (pe_op op_repS pe_str pe_int) (pa_cons pe_str (pa_cons (pe_lst pa_nil) (pa_cons (pe_lst (pa_cons pe_int pa_nil)) (pa_cons pe_dnewK (pa_cons (pe_call0 GDp hr1 rfl L.D14.m L.D14.k L.D14.b .nil pass0) pa_nil))))))))))
        (pss_cons (ps_set (i := 5) nd rfl (.inl rfl) (pe_op op_cat (pv 5) (pe_lst (pa_cons (pe_call GN hr1 rfl L.D16.m L.D16.k L.D16.b .nil pass0 (pa_cons pe_int (pa_cons pe_int pa_nil))) (pa_cons (pe_call GN hr1 rfl L.D16.m L.D16.k L.D16.b .nil pass0 (pa_cons pe_int (pa_cons (pe_tup pa_nil) pa_nil))) (pa_cons (pe_call GN hr1 rfl L.D16.m L.D16.k L.D16.b .nil pass0 (pa_cons pe_int (pa_cons pe_int pa_nil))) pa_nil))))))
        (pss_cons (ps_set (i := 5) nd rfl (.inl rfl) (pe_op op_cat (pv 5) (pe_lst (pa_cons (pe_tup (pa_cons pe_int (pa_cons (pe_lst pa_nil) pa_nil))) (pa_cons (pe_tup (pa_cons pe_str (pa_cons pe_int pa_nil))) pa_nil)))))
        (pss_cons (ps_set (i := 6) nd rfl (.inl rfl) (pe_ix ix_list (pv 5) (pe_call GD hr1 rfl L.D2.m L.D2.k L.D2.b .nil pass0 (pa_cons (pv 1) (pa_cons pe_int pa_nil))) (fun _ _ => rfl)))
        (pss_one (ps_for PassesOwn.never rfl (pi_list (pe_lst (pa_cons (pv 3) (pa_cons (pv 6) (pa_cons (pe_tup (pa_cons (pv 6) (pa_cons (pv 3) pa_nil))) pa_nil))))) (pg_name (i := 7) nd rfl (.inr rfl)) (pss_cons (ps_set (i := 8) nd rfl (.inl rfl) (pe_call GLP hr22 rfl L.D17.m L.D17.k L.D17.b .nil pass0 (pa_cons (pv 7) (pa_cons pe_int pa_nil))))
        (pss_cons (ps_setLc (i := 9) (own := [("which", 10)]) (g := gName 10) (tt := tYes) rfl nd rfl rfl (sw_true rfl rfl rfl (by decide +kernel)) (pi_range1 rfl B.range (pa_cons pe_int pa_nil)) (blkOk_by (N := ["script", "pool", "turn", "parcel", "row", "odd", "thing", "one", "due", "words", "which"]) (sc := defScope sFirst) (by decide +kernel)) (fun _ _ _ _ _ => pg_name (i := 10) nd rfl (.inl rfl)) (fun _ _ _ _ _ => pts_nil) (fun _ _ _ _ _ => (pe_call GWd hr27 rfl L.D18.m L.D18.k L.D18.b .nil pass0 (pa_cons (pv 10) (pa_cons (pv 7) pa_nil)))))
        (pss_one (ps_if (PW.pt (pw_or (pt_not (pt_val (pe_call GF hr1 rfl L.D15.m L.D15.k L.D15.b .nil pass0 (pa_cons (pe_call GIP hr24 rfl A.D8.m A.D8.k A.D8.b .nil pass0 (pa_cons (pv 7) pa_nil)) (pa_cons (pv 8) pa_nil))))) (pw_or1 (pt_cmpR (op_neD hu) (pv 9) (pe_op op_rep (pe_lst (pa_cons (pe_ix ix_list (pe_lst (pa_cons pe_str (pa_cons pe_str pa_nil))) (pe_callTy call_int1 (by rfl) B.int PyProof.Rows.boot_int (pa_cons (pv 8) pa_nil)) (fun _ _ => rfl)) pa_nil)) pe_int) (nomark _))))) pss_never pss_nil)))))))))))))))
        (pss_one (ps_ret pe_bl)))), ?_⟩
    have sz : ∀ {n : Nat}, n.ble 20 = true → n ≤ sizeLine := fun h => Nat.le_of_lt (size_ok (Nat.le_trans (Nat.le_of_ble_eq_true h) (by decide)))
    refine ⟨_, rfl, a, ns, rfl, hS, hlen, fun p l H1 g1 s1 np nl => ?_⟩
    have keep : ∀ {H1 H2 : Hp}, SqL K H1 a (ns.map V.int) → Kp p l H1 H2 → SqL K H2 a (ns.map V.int) := fun h kk => sq_kp hS np nl h kk
    refine ⟨4, rfl, by decide, by decide, for_range (lo := 0) (n := 4) (fun i σ H' => ∃ x2 x3 x4 x5 x6 x7 x8 x9, σ = [some (.ref a), some (.ref p), x2, x3, x4, x5, x6, x7, x8, x9, none] ∧ PoolAt H' p l ∧ SqL K H' a (ns.map V.int)) ?_ ?_ ?_⟩
    · exact ⟨none, none, none, none, none, none, none, none, rfl, g1, sq_same hS s1⟩
    · rintro i σ H0 hi ⟨x2, x3, x4, x5, x6, x7, x8, x9, rfl, g0, q0⟩
      clear g1 s1 H1
      refine ⟨_, rfl, p, l, rfl, g0, fun t v H1 g1 k1 rp ok bd => ?_⟩
      have bd : (enc 3 t).length ≤ 2550 := bd
      have q1 := keep q0 k1
      refine ⟨_, rfl, p, l, 6, rfl, g1, by decide, by decide, fun d6 H2 _ _ g2 k2 => ⟨rfl, _, rfl, ?_⟩⟩
      have rp2 := rp.tk (g1.tk k2)
      have q2 := keep q1 k2
      clear rp q1 k1 k2 g1
      refine ite2 (fun _ => ?t1) (fun _ => ?t2)
      case' t1 =>
        refine ⟨sz rfl, fun ls hls => ?_⟩
        obtain ⟨m1, m2⟩ := g2.none hls
        refine ⟨_, rfl, p, l, 3, rfl, g2.same (sN hls), by decide, by decide, fun d3 H4 e0 e1 g4 k4 => ?_⟩
        obtain ⟨nv, hnv, env⟩ := at_in ([.int 20, .int 19, .int 5] : List V) e0 e1
        have k24 := (Kp.of (sN (o := .lst [.int 20, .int 19, .int 5]) hls)).tr k4
        have rp4 := rp2.tk (g2.tk k24)
        have q4 := keep q2 k24
        obtain ⟨b, ty, hty, kty, at0⟩ := tup_is (K := K) rp4 ok
        obtain ⟨i0, rfl, hi0⟩ : ∃ i0 : Int, nv = .int i0 ∧ (i0 = 20 ∨ i0 = 19 ∨ i0 = 5) := by
          simp only [List.mem_cons, List.not_mem_nil, or_false] at hnv
          rcases hnv with rfl | rfl | rfl
          · exact ⟨_, rfl, .inl rfl⟩
          · exact ⟨_, rfl, .inr (.inl rfl)⟩
          · exact ⟨_, rfl, .inr (.inr rfl)⟩
        obtain ⟨n, d, kk, en, r', o', el, e20, n20⟩ : ∃ n d kk : Nat, i0 - (if b = true then 1 else 0) * 4 = (n : Int) ∧ Rep H4 d t v ∧ OkT d t ∧ (enc d t).length ≤ 2550 ∧ d + n + kk = 20 ∧ n ≤ 20 := by
          cases b with
          | true =>
            rcases hi0 with rfl | rfl | rfl
            · exact ⟨16, 3, 1, rfl, rp4, ok, bd, rfl, by decide⟩
            · exact ⟨15, 3, 2, rfl, rp4, ok, bd, rfl, by decide⟩
            · exact ⟨1, 3, 16, rfl, rp4, ok, bd, rfl, by decide⟩
          | false =>
            obtain ⟨r0, o0⟩ := at0 rfl
            have e3 : enc 3 t = enc 0 t := (o0.up 3).2
            rw [e3] at bd
            rcases hi0 with rfl | rfl | rfl
            · exact ⟨20, 0, 0, rfl, r0, o0, bd, rfl, by decide⟩
            · exact ⟨19, 0, 1, rfl, r0, o0, bd, rfl, by decide⟩
            · exact ⟨5, 0, 15, rfl, r0, o0, bd, rfl, by decide⟩
        refine ⟨ls, _, d3, .int i0, rfl, rfl, SqL.of (k4 _ _ upd_same m1 m2), env, ?_⟩
        refine ⟨_, rfl, v, .ty "tuple", ty, .type "tuple", b, rfl, .ty _, hty, kty, .inr ⟨b, rfl, _, _, rfl, rfl, .inr ⟨by decide, by decide⟩, _, _, rfl, rfl, ?_⟩⟩
        refine ⟨_, rfl, n, v, ?_, by omega, fun v' H5 s5 nst => ?_⟩
        · show [V.int (i0 - (if b = true then 1 else 0) * 4), v] ++ [] = _
          rw [en]
          rfl
        obtain ⟨t', rp5, ok5, en5⟩ := nest_up (r'.same s5) o' nst e20
        have en5 : (enc 20 t').length ≤ 2600 := by omega
        have g5 := g4.same s5
        have q5 := sq_same q4 s5
        clear nst r' o' el e20 hty kty at0 k24 k4 rp4 q4 g4 en env hnv hi0 m1 m2 hls rp2 q2 g2 s5
      case' t2 =>
        have rp5 := rp2.up 17
        have ok5 := (ok.up 17).1
        have en5 : (enc 20 t).length ≤ 2600 := by
          rw [(ok.up 17).2]
          omega
        have g5 := g2
        have q5 := q2
        clear rp2 q2 g2
        revert rp5 ok5 en5 g5 q5
        generalize v = v'
        generalize t = t'
        generalize H2 = H5
        intro rp5 ok5 en5 g5 q5
      all_goals
        -- its row, and what is told of it
        refine ⟨_, rfl, t', v', rfl, rp5, ok5, by omega, fun r H6 s6 hr6 => ?_⟩
        refine ⟨_, rfl, _, rfl, t', v', rfl, rp5.same s6, ok5, by omega, fun z H7 s7 hz => ?_⟩
        refine ⟨z, _, rfl, .inl ⟨SqL.of hz, fun y hy => ?_⟩⟩
        have s8 := sT s7 (sN (o := .tup ((enc 20 t').map V.int)) hy)
        refine ⟨r, y, enc 20 t', enc 20 t', rfl, rfl, s8 _ _ hr6.at_, upd_same, _, rfl, ?_⟩
        rw [decide_eq_true rfl]
        refine iteF ?_
        refine ⟨_, rfl, .ref r, .ty "tuple", .type "tuple", .type "tuple", true, rfl, .ty _, .base (.tup (s8 _ _ hr6.at_)), kit_ty (by decide +kernel), _, rfl, iteF ?_⟩
        refine ⟨_, rfl, r, enc 20 t', rfl, hr6.same s8, fun t2 h2 u H9 e9 s9 ru => ?_, fun pl d H9 e9 _ _ => (by rw [rdAll_enc ok5] at e9; cases e9)⟩
        rw [rdAll_enc ok5] at e9
        cases e9
        have s59 := sT s6 (sT s8 s9)
        refine ⟨_, rfl, t', u, v', rfl, ru, rp5.same s59, fun H10 s10 => ⟨_, rfl, iteF ?_⟩⟩
        have S10 := sT s59 s10
        have g10 := g5.same S10
        have q10 := sq_same q5 S10
        have rp10 := rp5.same S10
        clear S10 s10 s59 s9 ru s8 hz hy s7 hr6 s6 rp5 g5 q5
        -- odd = [..8]
        refine ⟨21, rfl, rfl, .inr rfl, 20, rfl, rfl, .inl rfl, ?_⟩
        refine ⟨Nat.zero_le _, fun o1 ho1 => ⟨sz rfl, fun o2 ho2 => fun o3 ho3 => ?_⟩⟩
        have S1 := sN (o := .lst []) ho1
        have S2 := sN (o := .lst [.int 1]) ho2
        have S3 := sN (o := .dK []) ho3
        have n1 := g10.none ho1
        have g11 := g10.same S1
        have n2 := g11.none ho2
        have g12 := g11.same S2
        have n3 := g12.none ho3
        have g13 := g12.same S3
        have d1 : DecZ p l (upd H10 o1 (.lst [])) (.ref o1) 100 := dz_lst upd_same n1
        have d2 : DecZ p l (upd (upd H10 o1 (.lst [])) o2 (.lst [.int 1])) (.ref o2) 100 := dz_lst upd_same n2
        have d3 : DecZ p l (upd (upd (upd H10 o1 (.lst [])) o2 (.lst [.int 1])) o3 (.dK [])) (.ref o3) 100 := dz_dct upd_same n3
        refine ⟨rfl, fun o4 xs4 H14 s14 e14 n14 => ?_⟩
        have d4 : DecZ p l H14 (.ref o4) 100 := dz_lst e14 (g13.none n14)
        have d3 := d3.fm (.of s14)
        have d2 := d2.fm (.of (sT S3 s14))
        have d1 := d1.fm (.of (sT S2 (sT S3 s14)))
        have S14 := sT S1 (sT S2 (sT S3 s14))
        have g14 := g10.same S14
        refine ⟨sz rfl, fun m1 hm1 => ?_⟩
        have s15 := sN (o := .lst [.str "", .str (sOf (List.replicate (Int.toNat 21) 97)), .str (sOf (List.replicate (Int.toNat 20) 97)), .str "a\n", .ref o1, .ref o2, .ref o3, .ref o4]) hm1
        have e15 : (upd H14 m1 (.lst [.str "", .str (sOf (List.replicate (Int.toNat 21) 97)), .str (sOf (List.replicate (Int.toNat 20) 97)), .str "a\n", .ref o1, .ref o2, .ref o3, .ref o4])) m1 = some (.lst [.str "", .str (sOf (List.replicate (Int.toNat 21) 97)), .str (sOf (List.replicate (Int.toNat 20) 97)), .str "a\n", .ref o1, .ref o2, .ref o3, .ref o4]) := upd_same
        have d1 := d1.fm (.of s15)
        have d2 := d2.fm (.of s15)
        have d3 := d3.fm (.of s15)
        have d4 := d4.fm (.of s15)
        have S15 := sT S14 s15
        clear S14 s14 s15 S3 S2 S1 g14 g13 g12 g11 e14 n14 n1 n2 n3
        revert d1 d2 d3 d4 S15 e15
        generalize (upd H14 m1 (.lst [.str "", .str (sOf (List.replicate (Int.toNat 21) 97)), .str (sOf (List.replicate (Int.toNat 20) 97)), .str "a\n", .ref o1, .ref o2, .ref o3, .ref o4])) = H15
        intro e15 d1 d2 d3 d4 S15
        have g15 := g10.same S15
        have all8 : ∀ x ∈ ([.str "", .str (sOf (List.replicate (Int.toNat 21) 97)), .str (sOf (List.replicate (Int.toNat 20) 97)), .str "a\n", .ref o1, .ref o2, .ref o3, .ref o4] : List V), DecZ p l H15 x 100 := by
          intro x hx
          simp only [List.mem_cons, List.not_mem_nil, or_false] at hx
          rcases hx with rfl | rfl | rfl | rfl | rfl | rfl | rfl | rfl
          · exact dz_bad (z := []) (Nat.zero_le _) (.inl rfl)
          · exact dz_bad (by decide) (.inr (.inl (by decide)))
          · exact (dz_atom (t := .str (List.replicate 20 97)) ⟨rfl, by decide⟩ ⟨by decide, by decide, fun c hc => by rw [(List.mem_replicate.mp hc).2]; decide⟩ enc_a20).up (by decide)
          · exact dz_bad (z := [97, 10]) (by decide) (.inr (.inr ⟨by decide, by decide, 10, by decide, by decide⟩))
          · exact d1
          · exact d2
          · exact d3
          · exact d4
        clear d1 d2 d3 d4
        -- odd + [..3]
        refine ⟨_, rfl, 21, .int 0, rfl, by decide, fun v1 H16 s16 w1 => ?_⟩
        refine ⟨Nat.zero_le _, fun e0 he0 => ?_⟩
        have s17 := sN (o := .tup []) he0
        have E0 : (upd H16 e0 (.tup [])) e0 = some (.tup []) := upd_same
        revert s17 E0
        generalize (upd H16 e0 (.tup [])) = H17
        intro s17 E0
        refine ⟨20, .ref e0, rfl, by decide, fun v2 H18 s18 w2 => ?_⟩
        refine ⟨20, .int 0, rfl, by decide, fun v3 H19 s19 w3 => ?_⟩
        have D3 : DecZ p l H19 v3 100 := by
          obtain ⟨t3, r3, o3, l3⟩ := nest_up (d := 0) (k := 0) (m := 20) (t := .int 0) (show Rep H19 0 (.int 0) (.int 0) from rfl) trivial w3 rfl
          refine .good r3 o3 ?_
          have l9 := enc_int (d := 0) (i := 0) (by decide)
          omega
        have D2 : DecZ p l H19 v2 100 := .bad (nest_bad (d := 0) (.inr ⟨e0, [], rfl, (sT s18 s19) _ _ E0⟩) (w2.same s19))
        have D1 : DecZ p l H19 v1 100 := .bad (nest_deep (by decide) (w1.same (sT s17 (sT s18 s19))))
        have S19 := sT s16 (sT s17 (sT s18 s19))
        refine ⟨sz rfl, fun m2 hm2 => ?_⟩
        have s20 := sN (o := .lst [v1, v2, v3]) hm2
        refine ⟨m1, m2, _, _, rfl, rfl, (sT S19 s20) _ _ e15, upd_same, sz rfl, fun m3 hm3 => ?_⟩
        have s21 := sT s20 (sN (o := .lst ([.str "", .str (sOf (List.replicate (Int.toNat 21) 97)), .str (sOf (List.replicate (Int.toNat 20) 97)), .str "a\n", .ref o1, .ref o2, .ref o3, .ref o4] ++ [v1, v2, v3])) hm3)
        have S21 := sT S19 s21
        have all11 : ∀ x ∈ ([.str "", .str (sOf (List.replicate (Int.toNat 21) 97)), .str (sOf (List.replicate (Int.toNat 20) 97)), .str "a\n", .ref o1, .ref o2, .ref o3, .ref o4] ++ [v1, v2, v3] : List V), DecZ p l (upd (upd H19 m2 (.lst [v1, v2, v3])) m3 (.lst ([.str "", .str (sOf (List.replicate (Int.toNat 21) 97)), .str (sOf (List.replicate (Int.toNat 20) 97)), .str "a\n", .ref o1, .ref o2, .ref o3, .ref o4] ++ [v1, v2, v3]))) x 100 := by
          intro x hx
          rcases List.mem_append.mp hx with hx | hx
          · exact (all8 x hx).fm (.of S21)
          · simp only [List.mem_cons, List.not_mem_nil, or_false] at hx
            rcases hx with rfl | rfl | rfl
            · exact D1.fm (.of s21)
            · exact D2.fm (.of s21)
            · exact D3.fm (.of s21)
        have e21 : (upd (upd H19 m2 (.lst [v1, v2, v3])) m3 (.lst ([.str "", .str (sOf (List.replicate (Int.toNat 21) 97)), .str (sOf (List.replicate (Int.toNat 20) 97)), .str "a\n", .ref o1, .ref o2, .ref o3, .ref o4] ++ [v1, v2, v3]))) m3 = some (.lst ([.str "", .str (sOf (List.replicate (Int.toNat 21) 97)), .str (sOf (List.replicate (Int.toNat 20) 97)), .str "a\n", .ref o1, .ref o2, .ref o3, .ref o4] ++ [v1, v2, v3])) := upd_same
        have lx : ([.str "", .str (sOf (List.replicate (Int.toNat 21) 97)), .str (sOf (List.replicate (Int.toNat 20) 97)), .str "a\n", .ref o1, .ref o2, .ref o3, .ref o4] ++ [v1, v2, v3] : List V).length = 11 := rfl
        have S21 := sT S15 S21
        clear all8 D1 D2 D3 S19 s20 s21 s19 s18 s17 s16 w1 w2 w3 E0 e15 S15 g15
        revert all11 e21 lx S21
        generalize (upd (upd H19 m2 (.lst [v1, v2, v3])) m3 (.lst ([.str "", .str (sOf (List.replicate (Int.toNat 21) 97)), .str (sOf (List.replicate (Int.toNat 20) 97)), .str "a\n", .ref o1, .ref o2, .ref o3, .ref o4] ++ [v1, v2, v3]))) = H21
        generalize ([.str "", .str (sOf (List.replicate (Int.toNat 21) 97)), .str (sOf (List.replicate (Int.toNat 20) 97)), .str "a\n", .ref o1, .ref o2, .ref o3, .ref o4] ++ [v1, v2, v3] : List V) = xs11
        intro all11 e21 lx S21
        have g21 := g10.same S21
        -- odd + [..2]
        refine ⟨_, rfl, Nat.zero_le _, fun o5 ho5 => ⟨sz rfl, fun t5 ht5 => ⟨sz rfl, fun t6 ht6 => ?_⟩⟩⟩
        have i1 : ∀ {H' : Hp}, DecZ p l H' (.int 1) 30 := dz_atom (t := .int 1) rfl trivial (by rw [encA_int (by decide), vlq_lt (by decide)]; decide)
        have P5 : DecZ p l (upd (upd H21 o5 (.lst [])) t5 (.tup [.int 1, .ref o5])) (.ref t5) 132 := DecZ.pair (n := 30) (m := 100) upd_same i1 ((dz_lst upd_same (g21.none ho5)).fm (.of (sN ht5)))
        have P6 : DecZ p l (upd (upd (upd H21 o5 (.lst [])) t5 (.tup [.int 1, .ref o5])) t6 (.tup [.str "", .int 1])) (.ref t6) 132 := DecZ.pair (n := 100) (m := 30) upd_same (dz_bad (z := []) (Nat.zero_le _) (.inl rfl)) i1
        have P5 := P5.fm (.of (sN (o := .tup [.str "", .int 1]) ht6))
        have s24 := sT (sN (o := .lst []) ho5) (sT (sN (o := .tup [.int 1, .ref o5]) ht5) (sN (o := .tup [.str "", .int 1]) ht6))
        revert s24 P5 P6
        generalize (upd (upd (upd H21 o5 (.lst [])) t5 (.tup [.int 1, .ref o5])) t6 (.tup [.str "", .int 1])) = H24
        intro P6 P5 s24
        refine ⟨sz rfl, fun m4 hm4 => ?_⟩
        have s25 := sN (o := .lst [.ref t5, .ref t6]) hm4
        refine ⟨m3, m4, _, _, rfl, rfl, (sT s24 s25) _ _ e21, upd_same, by rw [lx]; exact sz rfl, fun m5 hm5 => ?_⟩
        have s26 := sT s25 (sN (o := .lst (xs11 ++ [.ref t5, .ref t6])) hm5)
        have g26 := (g21.same s24).same s26
        obtain ⟨b1, b2⟩ : m5 ≠ p ∧ m5 ≠ l := ((g21.same s24).same s25).none hm5
        have e26 : (upd (upd H24 m4 (.lst [.ref t5, .ref t6])) m5 (.lst (xs11 ++ [.ref t5, .ref t6]))) m5 = some (.lst (xs11 ++ [.ref t5, .ref t6])) := upd_same
        have all13 : ∀ x ∈ (xs11 ++ [.ref t5, .ref t6] : List V), DecZ p l (upd (upd H24 m4 (.lst [.ref t5, .ref t6])) m5 (.lst (xs11 ++ [.ref t5, .ref t6]))) x 200 := by
          intro x hx
          rcases List.mem_append.mp hx with hx | hx
          · exact ((all11 x hx).fm (.of (sT s24 s26))).up (by decide)
          · simp only [List.mem_cons, List.not_mem_nil, or_false] at hx
            rcases hx with rfl | rfl
            · exact (P5.fm (.of s26)).up (by decide)
            · exact (P6.fm (.of s26)).up (by decide)
        have lx13 : (xs11 ++ [.ref t5, .ref t6] : List V).length = 13 := by
          rw [List.length_append, lx]
          rfl
        have S26 := sT S21 (sT s24 s26)
        clear P5 P6 s26 s25 s24 all11 e21 lx S21 g21 hm5 hm4
        revert all13 e26 lx13 S26 g26
        generalize (upd (upd H24 m4 (.lst [.ref t5, .ref t6])) m5 (.lst (xs11 ++ [.ref t5, .ref t6]))) = H26
        generalize (xs11 ++ [.ref t5, .ref t6] : List V) = xs13
        intro g26 e26 all13 lx13 S26
        -- the thing
        refine ⟨_, rfl, _, rfl, p, l, 13, rfl, g26, by decide, by decide, fun dd H27 d0 d1 g27 k27 => ?_⟩
        obtain ⟨x, hx, ex⟩ := at_in xs13 d0 (by rw [lx13]; exact d1)
        refine ⟨m5, _, dd, x, rfl, rfl, SqL.of (k27 _ _ e26 b1 b2), ex, ?_⟩
        have dx : DecZ p l H27 x 200 := (all13 x hx).fm (.kpg g26 k27)
        have rp27 := (rp10.same S26).tk (g26.tk k27)
        have q27 := keep (sq_same q10 S26) k27
        clear all13 e26 lx13 S26 k27 g26 rp10 q10 g10 ex hx
        refine ⟨_, rfl, _, rfl, _, rfl, _, rfl, sz rfl, fun c hc => ⟨sz rfl, fun m7 hm7 => ?_⟩⟩
        have s28 := sN (o := .tup [x, v']) hc
        have s29 := sN (o := .lst [v', x, .ref c]) hm7
        have dv : DecZ p l (upd H27 c (.tup [x, v'])) v' 2600 := .good (rp27.same s28) ok5 en5
        have dc : DecZ p l (upd H27 c (.tup [x, v'])) (.ref c) 2802 := DecZ.pair (n := 200) (m := 2600) upd_same (dx.fm (.of s28)) dv
        have all3 : ∀ y ∈ ([v', x, .ref c] : List V), DecZ p l (upd (upd H27 c (.tup [x, v'])) m7 (.lst [v', x, .ref c])) y 8000 := by
          intro y hy
          simp only [List.mem_cons, List.not_mem_nil, or_false] at hy
          rcases hy with rfl | rfl | rfl
          · exact (dv.fm (.of s29)).up (by decide)
          · exact ((dx.fm (.of s28)).fm (.of s29)).up (by decide)
          · exact (dc.fm (.of s29)).up (by decide)
        have e29 : (upd (upd H27 c (.tup [x, v'])) m7 (.lst [v', x, .ref c])) m7 = some (.lst [v', x, .ref c]) := upd_same
        have g29 := (g27.same s28).same s29
        have q29 := sq_same (sq_same q27 s28) s29
        clear dv dc dx rp27 q27 g27 s28 s29 hm7 hc
        revert all3 e29 g29 q29
        generalize (upd (upd H27 c (.tup [x, v'])) m7 (.lst [v', x, .ref c])) = H29
        generalize ([v', x, .ref c] : List V) = xs3
        intro all3 e29 g29 q29
        refine ⟨m7, rfl, ⟨_, SqL.of e29⟩, for_list (K := K) (a := m7) (xs := xs3) (fun j σ H' => ∃ x7 x8 x9, σ = [some (.ref a), some (.ref p), some (.int (0 + (i : Int))), some v', some (.ref r), some (.ref m5), some x, x7, x8, x9, none] ∧ Same H29 H') ?_ ?_ ?_ ?_⟩
        · exact ⟨_, _, _, rfl, sR⟩
        · rintro j σ H' hj ⟨x7, x8, x9, rfl, s⟩
          exact SqL.of (s _ _ e29)
        · rintro j y σ H' hy ⟨x7, x8, x9, rfl, s⟩
          obtain ⟨b, dec, szz⟩ := (all3 y (List.mem_of_getElem? hy)).fm (.of s)
          have sw : ∀ {G : Hp}, Same H' G → ∀ t, b = true → Rep G 20 t y → OkT 20 t → (enc 20 t).length ≤ 8000 := fun z t e r o => by
            rcases dec with ⟨_, t0, r0, o0⟩ | ⟨e2, _⟩
            · exact Sz.of (r0.same z) (szz e t0 r0 o0) t r o
            · rw [e] at e2
              cases e2
          refine ⟨_, rfl, p, l, y, b, rfl, dec, fun G1 z1 => ?_⟩
          refine ⟨2, rfl, by decide, by decide, fun D hD => lc_range (lo := 0) (n := 2) (fun i H' => H' D = some (.lst (List.replicate i (.str (wordS b)))) ∧ Same G1 H') ?_ ?_ ?_⟩
          · exact ⟨upd_same, sN hD⟩
          · rintro i' G2 hi' ⟨eD, z2⟩
            refine ⟨rfl, _, rfl, _, rfl, p, l, _, y, b, rfl, (dec.same z1).same z2, sw (sT z1 z2), fun G3 z3 => ⟨_, z3 _ _ eD, by rw [List.length_replicate]; exact size_ok (by omega), ?_, sNew (sT z2 z3) hD⟩⟩
            rw [upd_same, List.replicate_succ']
          · rintro G2 ⟨eD, z2⟩
            refine ⟨_, rfl, p, l, y, b, rfl, (dec.same z1).same z2, fun G3 z3 => ?_⟩
            refine ⟨_, rfl, b, b, rfl, _, rfl, ?_⟩
            rw [decide_eq_true rfl]
            refine iteF ?_
            refine ⟨_, rfl, sz rfl, fun w1 hw1 => ⟨_, rfl, .inr ⟨b, rfl, w1, _, _, .str (wordS b), rfl, rfl, SqL.of upd_same, by cases b <;> rfl, ⟨sz rfl, fun w2 hw2 => ⟨w2, 2, [.str (wordS b)], rfl, rfl, upd_same, by decide, by decide, sz rfl, fun w3 hw3 => ?_⟩⟩⟩⟩⟩
            have z4 := sT (sN hw1) (sT (sN hw2) (sN (o := .lst (List.replicate (Int.toNat 2) [V.str (wordS b)]).flatten) hw3))
            exact words_eq (c := b) ((sT z3 z4) _ _ eD) upd_same ⟨_, rfl, iteF ⟨_, _, _, rfl, sT s (sT z1 (sT z2 (sT z3 z4)))⟩⟩
        · rintro σ H30 ⟨x7, x8, x9, rfl, s30⟩
          exact ⟨_, _, _, _, _, _, _, _, rfl, g29.same s30, sq_same q29 s30⟩
    · rintro σ H' ⟨x2, x3, x4, x5, x6, x7, x8, x9, rfl, g, q⟩
      exact k H' q
end
end Q

namespace Q
open PySem L2 QR
def spSecond (K : PySem.W.Frag) : Sp := fun vs H Q _ => ∃ (a : Addr) (ns : List Int), vs = [.ref a] ∧ SqL K H a (ns.map V.int) ∧ ns.length ≤ 63 ∧ ∀ H', Q (.bl true) H'
def fewV : List V := [.int 0, .int 1, .int 2, .int 3, .int 4, .int 5, .int 6, .int 6, .int 6, .int 7, .int 65, .int 128, .int 130]
theorem few_b : ∀ x ∈ fewV, ∃ i : Int, x = .int i ∧ 0 ≤ i ∧ i < 256 := by
  intro x hx
  simp only [fewV, List.mem_cons, List.not_mem_nil, or_false] at hx
  rcases hx with e | e | e | e | e | e | e | e | e | e | e | e | e <;> exact ⟨_, e, by decide, by decide⟩
section
variable {P : Program} {w : World} {K : PySem.W.Frag} {mg : Str → Option Value} {base : Heap}
theorem scSecond : FnScope ["script", "pool", "turn", "row", "again", "few", "drawn", "deep", "at"] ["script"] (defScope sSecond) := ⟨rfl, rfl, rfl, by decide +kernel, rfl, by decide +kernel, by decide +kernel⟩
theorem ok_second {f CR CB fB CE CN fN : Addr} {fd dB : FuncData} (D : Df K mg "_law_second" sSecond ["script"] f fd) (B : Bts mg) (C : Cst mg) (BA : Bare K mg) (T : RTxt K mg CR) (M : RDefs K CR) (BT : BTxt K mg CB fB dB) (XT : XTxt P K mg CE CN fN CB) (A : PDefs K mg) (L : LDefs K mg) : FnOk P w K mg base CX0 50 f fd ["script"] (spSecond K) := by
  have GRow : FnOk P w K mg base CX0 3 A.f3 A.d3 ["thing"] (spIsRow K) := ok_isrow A.D3 B C A.D1 A.D2
  have GRo : FnOk P w K mg base CX0 25 A.f11 A.d11 ["parcel"] spRowOf := ok_rowof A.D11 B C BA A.D8 A.D7 A.D6 A.D4 A.D10 A.D9
  have GA : FnOk P w K mg base (L2.CX P w) 46 A.f12 A.d12 ["row"] (spRAll CB) := ok_rall A.D12 T M B C BA BT A.D4 A.D5
  have GPO : FnOk P w K mg base (L2.CX P w) 47 A.f17 A.d17 ["row"] (spRAll CB) := ok_parof A.D17 A.D3 GRow A.D12 GA
  have GRB : FnOk P w K mg base CX0 48 L.f19 L.d19 ["row"] spRBy := ok_rby L.D19 B XT BT A.D17 GPO
  have GT : FnOk P w K mg base CX0 24 L.f13 L.d13 ["row"] spTold := ok_told L.D13 B L.D11 L.D10 L.D12 L.D9
  have GR : FnOk P w K mg base CX0 49 L.f21 L.d21 ["row"] spRight := ok_right L.D21 B L.D13 GT L.D19 GRB L.D3 L.D8 A.D11 GRo
  have GSp : FnOk P w K mg base CX0 2 L.f20 L.d20 ["pool", "row"] spSpoil := ok_spoil L.D20 B L.D2
  have GP : FnOk P w K mg base CX0 1 L.f1 L.d1 ["script"] (spPool K) := ok_pool L.D1 B
  have GD : FnOk P w K mg base CX0 1 L.f2 L.d2 ["pool", "many"] spDraw := ok_draw L.D2 B
  have GB : FnOk P w K mg base CX0 5 L.f5 L.d5 ["parcel"] (spLB 3) := ok_lb L.D5 B L.D4 3
  have GB2 : FnOk P w K mg base CX0 25 L.f5 L.d5 ["parcel"] (spLB 23) := ok_lb L.D5 B L.D4 23
  have GPa : FnOk P w K mg base CX0 6 L.f7 L.d7 ["pool", "deep"] (spLPar 3) := ok_lpar L.D7 B L.D2 L.D6 3
  have GN : FnOk P w K mg base CX0 1 L.f16 L.d16 ["many", "inner"] spNest := ok_nest L.D16 B
  refine D.F.ok scSecond (fun vs H Q E h => ?_) (fun cdv Ar outer s H vs Q E hr h => ?_)
  · obtain ⟨a, ns, rfl, _⟩ := h
    rfl
  · obtain ⟨a, ns, rfl, hS, hlen, k⟩ := h
    have nd := scSecond.nd
    have hr1 : Room 1 _ := hr.mono (by decide)
    have hr2 : Room 2 _ := hr.mono (by decide)
    have hr5 : Room 5 _ := hr.mono (by decide)
    have hr6 : Room 6 _ := hr.mono (by decide)
    have hr25 : Room 25 _ := hr.mono (by decide)
    refine ⟨_, (pss_cons (ps_set (i := 1) nd rfl (.inr rfl) (pe_call GP hr1 rfl L.D1.m L.D1.k L.D1.b .nil pass0 (pa_cons (pv 0) pa_nil)))
        (pss_cons (ps_for PassesOwn.never rfl (pi_range1 rfl B.range (pa_cons pe_int pa_nil)) (pg_name (i := 2) nd rfl (.inl rfl)) (pss_cons (ps_set (i := 3) nd rfl (.inl rfl) (pe_callTy call_tuple_of (by rfl) B.tuple PyProof.Rows.boot_tuple (pa_cons (pe_call GB hr5 rfl L.D5.m L.D5.k L.D5.b .nil pass0 (pa_cons (pe_call GPa hr6 rfl L.D7.m L.D7.k L.D7.b .nil pass0 (pa_cons (pv 1) (pa_cons pe_int pa_nil))) pa_nil)) pa_nil)))
        (pss_cons (ps_for PassesOwn.never rfl (pi_range1 rfl B.range (pa_cons (pe_op op_add pe_int (pe_call GD hr1 rfl L.D2.m L.D2.k L.D2.b .nil pass0 (pa_cons (pv 1) (pa_cons pe_int pa_nil)))) pa_nil)) (pg_name (i := 4) nd rfl (.inl rfl)) (pss_cons (ps_if (pt_not (pt_val (pe_call GR hr rfl L.D21.m L.D21.k L.D21.b .nil pass0 (pa_cons (pv 3) pa_nil)))) pss_never pss_nil)
        (pss_one (ps_set (i := 3) nd rfl (.inl rfl) (pe_call GSp hr2 rfl L.D20.m L.D20.k L.D20.b .nil pass0 (pa_cons (pv 1) (pa_cons (pv 3) pa_nil)))))))
        (pss_cons (ps_set (i := 5) nd rfl (.inr rfl) (pe_lst (pa_cons pe_int (pa_cons pe_int (pa_cons pe_int (pa_cons pe_int (pa_cons pe_int (pa_cons pe_int (pa_cons pe_int (pa_cons pe_int (pa_cons pe_int (pa_cons pe_int (pa_cons pe_int (pa_cons pe_int (pa_cons pe_int pa_nil)))))))))))))))
        (pss_cons (ps_set (i := 6) nd rfl (.inl rfl) (pe_callTy call_tuple_of (by rfl) B.tuple PyProof.Rows.boot_tuple (pa_cons (pe_lc (own := [("at", 8)]) (g := gName 8) (tt := tYes) rfl nd (pi_range1 rfl B.range (pa_cons (pe_call GD hr1 rfl L.D2.m L.D2.k L.D2.b .nil pass0 (pa_cons (pv 1) (pa_cons pe_int pa_nil))) pa_nil)) (blkOk_by (N := ["script", "pool", "turn", "row", "again", "few", "drawn", "deep", "at"]) (sc := defScope sSecond) (by decide +kernel)) (fun _ _ _ _ _ => pg_name (i := 8) nd rfl (.inl rfl)) (fun _ _ _ _ _ => pts_nil) (fun _ _ _ _ _ => (pe_ix (show IxR _ (rIxL K) from ix_list) (pv 5) (pe_call GD hr1 rfl L.D2.m L.D2.k L.D2.b .nil pass0 (pa_cons (pv 1) (pa_cons pe_int pa_nil))) (fun _ _ => rfl)))) pa_nil)))
        (pss_cons (ps_if (PW.pt (pw_or (pt_not (pt_val (pe_call GR hr rfl L.D21.m L.D21.k L.D21.b .nil pass0 (pa_cons (pv 3) pa_nil)))) (pw_or1 (pt_not (pt_val (pe_call GR hr rfl L.D21.m L.D21.k L.D21.b .nil pass0 (pa_cons (pv 6) pa_nil))))))) pss_never pss_nil)
        (pss_cons (ps_set (i := 7) nd rfl (.inl rfl) (pe_callTy call_tuple_of (by rfl) B.tuple PyProof.Rows.boot_tuple (pa_cons (pe_call GB2 hr25 rfl L.D5.m L.D5.k L.D5.b .nil pass0 (pa_cons (pe_call GN hr1 rfl L.D16.m L.D16.k L.D16.b .nil pass0 (pa_cons (pe_op op_add pe_int (pe_call GD hr1 rfl L.D2.m L.D2.k L.D2.b .nil pass0 (pa_cons (pv 1) (pa_cons pe_int pa_nil)))) (pa_cons (pe_ix ix_list (pe_lst (pa_cons pe_int (pa_cons (pe_tup pa_nil) (pa_cons pe_str pa_nil)))) (pe_call GD hr1 rfl L.D2.m L.D2.k L.D2.b .nil pass0 (pa_cons (pv 1) (pa_cons pe_int pa_nil))) (fun _ _ => rfl)) pa_nil))) pa_nil)) pa_nil)))
        (pss_one (ps_if (PW.pt (pw_or (pt_not (pt_val (pe_call GR hr rfl L.D21.m L.D21.k L.D21.b .nil pass0 (pa_cons (pv 7) pa_nil)))) (pw_or1 (pt_not (pt_val (pe_call GR hr rfl L.D21.m L.D21.k L.D21.b .nil pass0 (pa_cons (pe_call GSp hr2 rfl L.D20.m L.D20.k L.D20.b .nil pass0 (pa_cons (pv 1) (pa_cons (pv 7) pa_nil))) pa_nil))))))) pss_never pss_nil)))))))))
        (pss_one (ps_ret (pe_call GR hr rfl L.D21.m L.D21.k L.D21.b .nil pass0 (pa_cons (pe_tup pa_nil) pa_nil)))))), ?_⟩
    have sz : ∀ {n : Nat}, n.ble 20 = true → n ≤ sizeLine := fun h => Nat.le_of_lt (size_ok (Nat.le_trans (Nat.le_of_ble_eq_true h) (by decide)))
    refine ⟨_, rfl, a, ns, rfl, hS, hlen, fun p l H1 g1 _ _ _ => ?_⟩
    refine ⟨4, rfl, by decide, by decide, for_range (lo := 0) (n := 4) (fun i σ H' => ∃ x2 x3 x4 x5 x6 x7, σ = [some (.ref a), some (.ref p), x2, x3, x4, x5, x6, x7, none] ∧ PoolAt H' p l) ?_ ?_ ?_⟩
    · exact ⟨none, none, none, none, none, none, rfl, g1⟩
    · rintro i σ H0 hi ⟨x2, x3, x4, x5, x6, x7, rfl, g0⟩
      refine ⟨_, rfl, p, l, rfl, g0, fun t v H1 g1 k1 rp ok bd => ?_⟩
      have bd : (enc 3 t).length ≤ 2550 := bd
      refine ⟨t, v, rfl, rp, ok, by omega, fun z0 H2 s2 hz0 => ?_⟩
      refine ⟨z0, _, rfl, .inl ⟨SqL.of hz0, fun r hr0 => ?_⟩⟩
      have s3 := sT s2 (sN (o := .tup ((enc 3 t).map V.int)) hr0)
      have hrw : RowAt (upd H2 r (.tup ((enc 3 t).map V.int))) r (enc 3 t) := ⟨upd_same, enc_b ok, by omega⟩
      have g3 := g1.same s3
      clear s3 k1 rp hz0 hr0 s2 g1
      revert hrw g3 bd
      generalize (upd H2 r (.tup ((enc 3 t).map V.int))) = H3
      generalize enc 3 t = X
      intro bd hrw g3
      clear ok g0
      refine ⟨_, rfl, p, l, 4, rfl, g3, by decide, by decide, fun d4 H4 d0 d1 g4 k4 => ⟨_, _, rfl, rfl, ?_⟩⟩
      have hrw := hrw.tk (g3.tk k4)
      clear k4 g3
      refine ⟨1 + d4, rfl, by omega, by omega, for_range (lo := 0) (n := (1 + d4).toNat) (fun j σ H' => ∃ (q : Addr) (bs : List Int) (y4 : Option V), σ = [some (.ref a), some (.ref p), some (.int (0 + (i : Int))), some (.ref q), y4, x5, x6, x7, none] ∧ PoolAt H' p l ∧ RowAt H' q bs ∧ bs.length ≤ 2550 + j) ?_ ?_ ?_⟩
      · exact ⟨r, X, x4, rfl, g4, hrw, bd⟩
      · rintro j σ H5 hj ⟨q, bs, y4, rfl, g5, h5, l5⟩
        refine ⟨_, rfl, q, bs, rfl, h5, by omega, fun H6 s6 => ⟨_, rfl, iteF ?_⟩⟩
        refine ⟨_, rfl, _, rfl, p, l, q, bs, 2550 + j, rfl, g5.same s6, h5.same s6, l5, by omega, fun v' H7 g7 k7 br => ?_⟩
        obtain ⟨q', bs', rfl, e', b', l'⟩ := br
        exact ⟨q', bs', _, rfl, g7, ⟨e', b', by omega⟩, by omega⟩
      rintro σ H5 ⟨q, bs, y4, rfl, g5, h5, l5⟩
      have l5 : bs.length ≤ 2554 := by omega
      clear g4 hrw H4
      -- few
      refine ⟨sz rfl, fun lf hlf => ?_⟩
      obtain ⟨f1, f2⟩ := g5.none hlf
      have g6 := g5.same (sN (o := .lst [.int 0, .int 1, .int 2, .int 3, .int 4, .int 5, .int 6, .int 6, .int 6, .int 7, .int 65, .int 128, .int 130]) hlf)
      have h6 := h5.same (sN (o := .lst [.int 0, .int 1, .int 2, .int 3, .int 4, .int 5, .int 6, .int 6, .int 6, .int 7, .int 65, .int 128, .int 130]) hlf)
      have e6 : (upd H5 lf (.lst [.int 0, .int 1, .int 2, .int 3, .int 4, .int 5, .int 6, .int 6, .int 6, .int 7, .int 65, .int 128, .int 130])) lf = some (.lst fewV) := upd_same
      revert g6 h6 e6
      generalize (upd H5 lf (.lst [.int 0, .int 1, .int 2, .int 3, .int 4, .int 5, .int 6, .int 6, .int 6, .int 7, .int 65, .int 128, .int 130])) = H6
      intro g6 h6 e6
      clear g5 h5 hlf H5
      refine ⟨_, rfl, p, l, 12, rfl, g6, by decide, by decide, fun tn H7 t0 t1 g7 k7 => ?_⟩
      have h7 := h6.tk (g6.tk k7)
      have e7 := k7 _ _ e6 f1 f2
      clear k7 g6 h6 e6 H6
      refine ⟨tn, rfl, by omega, by omega, fun D hD => ?_⟩
      obtain ⟨nD1, nD2⟩ := g7.none hD
      have nDf : D ≠ lf := fun e => by rw [e, e7] at hD; cases hD
      refine lc_range (lo := 0) (n := tn.toNat) (fun i H' => ∃ cs : List Int, H' D = some (.lst (cs.map V.int)) ∧ cs.length = i ∧ (∀ b ∈ cs, 0 ≤ b ∧ b < 256) ∧ PoolAt H' p l ∧ RowAt H' q bs ∧ H' lf = some (.lst fewV)) ?_ ?_ ?_
      · exact ⟨[], upd_same, rfl, fun b hb => by simp at hb, g7.same (sN hD), h7.same (sN hD), sN hD _ _ e7⟩
      · rintro i' H' hi' ⟨cs, eD, lb, hb, g, hc, ef⟩
        refine ⟨rfl, _, rfl, _, rfl, p, l, 13, rfl, g, by decide, by decide, fun d H8 d0 d1 g8 k8 => ?_⟩
        obtain ⟨x, hx, ex⟩ := at_in fewV d0 d1
        obtain ⟨b0, rfl, hb0⟩ := few_b x hx
        have eD8 := k8 _ _ eD nD1 nD2
        have ef8 := k8 _ _ ef f1 f2
        have tk8 : Tk H8 (upd H8 D (.lst (cs.map V.int ++ [.int b0]))) := fun c ys e => by
          rw [upd_ne (ne_of e eD8 (fun z => by cases z))]
          exact e
        refine ⟨lf, _, d, _, rfl, rfl, SqL.of ef8, ex, _, eD8, by rw [List.length_map, lb]; exact size_ok (by omega), cs ++ [b0], by rw [upd_same, List.map_append]; rfl, by rw [List.length_append, lb]; rfl, fun b hb' => ?_, g8.upd nD1 nD2, (hc.tk (g.tk k8)).tk tk8, by rw [upd_ne nDf.symm]; exact ef8⟩
        rcases List.mem_append.mp hb' with hb' | hb'
        · exact hb b hb'
        · rw [List.mem_singleton.mp hb']
          exact hb0
      rintro H8 ⟨cs, eD, lb, hb, g8, h8, _⟩
      clear g7 h7 e7 hD
      refine ⟨D, _, rfl, .inl ⟨SqL.of eD, fun dr hdr => ?_⟩⟩
      have hd9 : RowAt (upd H8 dr (.tup (cs.map V.int))) dr cs := ⟨upd_same, hb, by omega⟩
      have g9 := g8.same (sN (o := .tup (cs.map V.int)) hdr)
      have h9 := h8.same (sN (o := .tup (cs.map V.int)) hdr)
      revert hd9 g9 h9
      generalize (upd H8 dr (.tup (cs.map V.int))) = H9
      intro hd9 g9 h9
      refine ⟨_, rfl, q, bs, rfl, h9, by omega, fun H10 s10 => ⟨_, rfl, iteF ?_⟩⟩
      refine ⟨_, rfl, dr, cs, rfl, hd9.same s10, by omega, fun H11 s11 => ⟨_, rfl, iteF ?_⟩⟩
      have g11 := (g9.same s10).same s11
      clear hd9 h9 g9 s10 s11 H9 H10
      -- deep
      refine ⟨_, rfl, p, l, 5, rfl, g11, by decide, by decide, fun d5 H12 a0 a1 g12 k12 => ⟨_, _, rfl, rfl, Nat.zero_le _, fun e0 he0 => ⟨sz rfl, fun ls hls => ?_⟩⟩⟩
      have g13 := g12.same (sN (o := .tup []) he0)
      obtain ⟨m1, m2⟩ := g13.none hls
      have g14 := g13.same (sN (o := .lst [.int 0, .ref e0, .str "ab"]) hls)
      have E0 : (upd (upd H12 e0 (.tup [])) ls (.lst [.int 0, .ref e0, .str "ab"])) e0 = some (.tup []) := sN hls _ _ upd_same
      have EL : (upd (upd H12 e0 (.tup [])) ls (.lst [.int 0, .ref e0, .str "ab"])) ls = some (.lst [.int 0, .ref e0, .str "ab"]) := upd_same
      revert g14 E0 EL
      generalize (upd (upd H12 e0 (.tup [])) ls (.lst [.int 0, .ref e0, .str "ab"])) = H14
      intro g14 E0 EL
      clear g13 g12 k12 g11 he0 hls
      refine ⟨_, rfl, p, l, 3, rfl, g14, by decide, by decide, fun d3 H15 c0 c1 g15 k15 => ?_⟩
      obtain ⟨x, hx, ex⟩ := at_in ([.int 0, .ref e0, .str "ab"] : List V) c0 c1
      refine ⟨ls, _, d3, x, rfl, rfl, SqL.of (k15 _ _ EL m1 m2), ex, ?_⟩
      have E15 := (g14.tk k15) _ _ E0
      obtain ⟨d, t, rx, ox, dx, lx⟩ : ∃ (d : Nat) (t : QR.T), Rep H15 d t x ∧ OkT d t ∧ d ≤ 1 ∧ (enc d t).length ≤ 30 := by
        simp only [List.mem_cons, List.not_mem_nil, or_false] at hx
        rcases hx with rfl | rfl | rfl
        · exact ⟨0, .int 0, rfl, trivial, by decide, by have := enc_int (d := 0) (i := 0) (by decide); omega⟩
        · refine ⟨1, .tup [], rep_nil E15, fun t ht => by simp at ht, by decide, ?_⟩
          show (6 :: (vlq 0 ++ [])).length ≤ 30
          rw [vlq_lt (by decide)]
          decide
        · refine ⟨0, .str [97, 98], ⟨rfl, by decide⟩, ⟨by decide, by decide, by decide⟩, by decide, ?_⟩
          show (5 :: (vlq 2 ++ _)).length ≤ 30
          rw [vlq_lt (by decide)]
          decide
      obtain ⟨n, en, n22⟩ : ∃ n : Nat, 18 + d5 = (n : Int) ∧ n ≤ 22 := ⟨(18 + d5).toNat, by omega, by omega⟩
      refine ⟨n, x, ?_, by omega, fun v' H16 s16 nst => ?_⟩
      · show [V.int (18 + d5), x] ++ [] = _
        rw [en]
        rfl
      obtain ⟨t', r', o', l'⟩ := nest_up (m := 23) (k := 23 - (d + n)) (rx.same s16) ox nst (by omega)
      refine ⟨t', v', rfl, r', o', by omega, fun z1 H17 s17 hz1 => ?_⟩
      refine ⟨z1, _, rfl, .inl ⟨SqL.of hz1, fun dq hdq => ?_⟩⟩
      have hd18 : RowAt (upd H17 dq (.tup ((enc 23 t').map V.int))) dq (enc 23 t') := ⟨upd_same, enc_b o', by omega⟩
      have g18 := ((g15.same s16).same s17).same (sN (o := .tup ((enc 23 t').map V.int)) hdq)
      have l18 : (enc 23 t').length ≤ 100 := by omega
      clear r' rx nst hz1 hdq s17 s16 E15 E0 EL g14 g15 k15 l' o'
      revert hd18 g18 l18
      generalize (upd H17 dq (.tup ((enc 23 t').map V.int))) = H18
      generalize enc 23 t' = Z
      intro hd18 g18 l18
      refine ⟨_, rfl, dq, Z, rfl, hd18, by omega, fun H19 s19 => ⟨_, rfl, iteF ?_⟩⟩
      refine ⟨_, rfl, _, rfl, p, l, dq, Z, 100, rfl, g18.same s19, hd18.same s19, l18, by decide, fun v2 H20 g20 k20 br => ?_⟩
      obtain ⟨q', bs', rfl, e', b', l'⟩ := br
      refine ⟨q', bs', rfl, ⟨e', b', by omega⟩, by omega, fun H21 s21 => ⟨_, rfl, iteF ?_⟩⟩
      exact ⟨_, _, _, _, _, _, rfl, g20.same s21⟩
    · rintro σ H' ⟨x2, x3, x4, x5, x6, x7, rfl, g⟩
      exact ⟨Nat.zero_le _, fun e he => ⟨e, [], rfl, ⟨upd_same, fun b hb => by simp at hb, Nat.zero_le _⟩, Nat.zero_le _, fun H'' _ => k H''⟩⟩
theorem scLaw : FnScope ["script"] ["script"] (defScope sLaw) := ⟨rfl, rfl, rfl, by decide +kernel, rfl, by decide +kernel, by decide +kernel⟩
theorem ok_law {f f1 f2 CR CB fB CE CN fN : Addr} {fd d1 d2 dB : FuncData} (F : Fun K "law" "law" sLaw f fd) (B : Bts mg) (C : Cst mg) (BA : Bare K mg) (T : RTxt K mg CR) (M : RDefs K CR) (BT : BTxt K mg CB fB dB) (XT : XTxt P K mg CE CN fN CB) (D1 : Df K mg "_law_first" sFirst ["script"] f1 d1) (D2 : Df K mg "_law_second" sSecond ["script"] f2 d2) (A : PDefs K mg) (L : LDefs K mg) : FnOk P w K mg base CX0 51 f fd ["script"] (spLaw K) := by
  have G1 : FnOk P w K mg base CX0 48 f1 d1 ["script"] (spFirst K) := ok_first D1 B C BA T M BT XT A L
  have G2 : FnOk P w K mg base CX0 50 f2 d2 ["script"] (spSecond K) := ok_second D2 B C BA T M BT XT A L
  refine F.ok scLaw (fun vs H Q E h => ?_) (fun cdv Ar outer s H vs Q E hr h => ?_)
  · obtain ⟨a, ns, rfl, _⟩ := h
    rfl
  · obtain ⟨a, ns, rfl, hS, hlen, k⟩ := h
    have hr48 : Room 48 _ := hr.mono (by decide)
    refine ⟨_, pss_one (ps_ret (pe_and (pe_call G1 hr48 rfl D1.m D1.k D1.b .nil pass0 (pa_cons (pv 0) pa_nil)) (pe_one (pe_call G2 hr rfl D2.m D2.k D2.b .nil pass0 (pa_cons (pv 0) pa_nil))))), ?_⟩
    exact ⟨_, rfl, a, ns, rfl, hS, hlen, fun H' q => ⟨_, rfl, iteT ⟨_, rfl, a, ns, rfl, q, hlen, fun H'' => k H''⟩⟩⟩
end
end Q

namespace Q
open PySem L2 QR
theorem exm_ot {K : PySem.W.Frag} {A S : Addr} {b : Bool} (h1 : PySem.W.subIn K (.ref S) (.type "BaseException") = some true) (h2 : PySem.W.isClsIn K S = true) (h3 : PySem.W.typeIn K (.ref S) = some (.type "type")) (h4 : PySem.W.subIn K (.ref A) (.ref S) = some b) : PySem.W.exmOne K (.ref A) (.ref S) = some b := by
  have u1 : (PySem.W.subIn K (.ref S) (.type "BaseException") == some true) = true := by rw [h1] <;> rfl
  have u2 : ((PySem.W.clsIn K S).isSome && PySem.W.typeIn K (.ref S) == some (.type "type")) = true := by
    have z : (PySem.W.clsIn K S).isSome = true := h2
    rw [z, h3] <;> rfl
  show (if (PySem.W.subIn K (.ref S) (.type "BaseException") == some true) = true then (if ((PySem.W.clsIn K S).isSome && PySem.W.typeIn K (.ref S) == some (.type "type")) = true then PySem.W.subIn K (.ref A) (.ref S) else none) else none) = some b
  rw [if_pos u1, if_pos u2, h4]
theorem kit_self {K : PySem.W.Frag} {C : Addr} : PySem.W.kitOne K (.ref C) (.ref C) = some true := by
  unfold PySem.W.kitOne
  rw [if_pos (beq_self_eq_true _)]
theorem kit_ve {K : PySem.W.Frag} {C : Addr} (h : PySem.W.subIn K (.ref C) (.type "ValueError") = some true) : PySem.W.kitOne K (.ref C) (.type "ValueError") = some true := by
  unfold PySem.W.kitOne
  rw [if_neg (fun z => nomatch z)]
  show (if PySem.W.kitMeta "ValueError" = true then _ else none) = some true
  rw [if_pos (by decide +kernel)]
  exact h
theorem kit_cls {K : PySem.W.Frag} {C S : Addr} (h2 : PySem.W.isClsIn K S = true) (h3 : PySem.W.typeIn K (.ref S) = some (.type "type")) (h4 : PySem.W.subIn K (.ref C) (.ref S) = some true) : PySem.W.kitOne K (.ref C) (.ref S) = some true := by
  have u2 : ((PySem.W.clsIn K S).isSome && PySem.W.typeIn K (.ref S) == some (.type "type")) = true := by
    have z : (PySem.W.clsIn K S).isSome = true := h2
    rw [z, h3] <;> rfl
  unfold PySem.W.kitOne
  split
  · rfl
  · show (if ((PySem.W.clsIn K S).isSome && PySem.W.typeIn K (.ref S) == some (.type "type")) = true then PySem.W.subIn K (.ref C) (.ref S) else none) = some true
    rw [if_pos u2]
    exact h4
end Q

namespace Q
open PySem L2 QR QS
theorem exm_me {K : PySem.W.Frag} {S : Addr} (h1 : PySem.W.subIn K (.ref S) (.type "BaseException") = some true) (h2 : PySem.W.isClsIn K S = true) (h3 : PySem.W.typeIn K (.ref S) = some (.type "type")) (h4 : PySem.W.subIn K (.ref S) (.ref S) = some true) : PySem.W.exmOne K (.ref S) (.ref S) = some true := by
  have u1 : (PySem.W.subIn K (.ref S) (.type "BaseException") == some true) = true := by rw [h1] <;> rfl
  have u2 : ((PySem.W.clsIn K S).isSome && PySem.W.typeIn K (.ref S) == some (.type "type")) = true := by
    have z : (PySem.W.clsIn K S).isSome = true := h2
    rw [z, h3] <;> rfl
  show (if (PySem.W.subIn K (.ref S) (.type "BaseException") == some true) = true then (if ((PySem.W.clsIn K S).isSome && PySem.W.typeIn K (.ref S) == some (.type "type")) = true then PySem.W.subIn K (.ref S) (.ref S) else none) else none) = some true
  rw [if_pos u1, if_pos u2, h4]

theorem all_mk {l : PySem.W.OpenLaw} {w : World} {K : PySem.W.Frag} {h : Heap} {mg : Str → Option Value} {fa : Addr} (X : K.In h) (G : h.Ns mainGlobals mg) (hfa : mg "law" = some (.ref fa))
    {tc_BYTES : Tok}
    {tc_MOST_DEEP : Tok}
    {tc_MOST_SIGNS : Tok}
    {tc_FROM_0_ON : Tok}
    {tc_BELOW_0 : Tok}
    {tc_STRING : Tok}
    {tc_TUPLE : Tok}
    {tc_FIRST_SIGN : Tok}
    {tc_NO_SIGN : Tok}
    {tc_LAST_SIGN : Tok}
    {tc_MARK_FACTOR : Tok}
    {tc_MARKS : Tok}
    {tc_SEALS : Tok}
    {tc_SEAL_LENGTH : Tok}
    {CR : Addr} {tsb tsa : Tok} {aBA : Addr} {itBA : Array Value} {nuBA : Nat} {slBA : Array (Option Value)}
    {CB fB : Addr} {nmB qB : Str} {NB : Addr} {bsB bmB : List Value} {snB : List Str} {subB : List Value} {abB : Bool} {colB : Option Bool} {ddB : Option Addr} {k0B k1B k2B k3B k5B : Option Value} {ocB : Value} {odB anB : Option Addr} {slB : Array (Option Value)} {kVB dcB pmB cdB ctB : Value}
    {fmI : Addr} {ocmI kVmI dcmI pmmI cdmI ctmI : Value} {odmI anmI : Option Addr} {slmI : Array (Option Value)}
    {fmD : Addr} {ocmD kVmD dcmD pmmD cdmD ctmD : Value} {odmD anmD : Option Addr} {slmD : Array (Option Value)}
    {fmW : Addr} {ocmW kVmW dcmW pmmW cdmW ctmW : Value} {odmW anmW : Option Addr} {slmW : Array (Option Value)}
    {fmS : Addr} {ocmS kVmS dcmS pmmS cdmS ctmS : Value} {odmS anmS : Option Addr} {slmS : Array (Option Value)}
    {fmT : Addr} {ocmT kVmT dcmT pmmT cdmT ctmT : Value} {odmT anmT : Option Addr} {slmT : Array (Option Value)}
    {fmP : Addr} {ocmP kVmP dcmP pmmP cdmP ctmP : Value} {odmP anmP : Option Addr} {slmP : Array (Option Value)}
    {CE : Addr}
    {Cn fn cdan ccn : Addr} {nmn qn : Str} {Nn : Addr} {bsn bmn : List Value} {snn : List Str} {subn : List Value} {abn : Bool} {coln : Option Bool} {ddn : Option Addr} {k0n k1n k2n k3n k5n : Option Value} {ocn : Value} {odn : Option Addr} {docn pmn : Value} {ann : Option Addr} {ctn : Value} {osln : Array (Option Value)} {pn q1n q2n q3n q4n q5n : Pos} {ccln cln : Value} {cddn cldn : Option Addr} {ccsn csln : Array (Option Value)} {vsn : Array Value} {filen : Str} {tfn : Tok}
    {f0 : Addr} {od0 an0 : Option Addr} {sl0 : Array (Option Value)} {oc0 kV0 dc0 pm0 cd0 ct0 : Value}
    {f1 : Addr} {od1 an1 : Option Addr} {sl1 : Array (Option Value)} {oc1 kV1 dc1 pm1 cd1 ct1 : Value}
    {f2 : Addr} {od2 an2 : Option Addr} {sl2 : Array (Option Value)} {oc2 kV2 dc2 pm2 cd2 ct2 : Value}
    {f3 : Addr} {od3 an3 : Option Addr} {sl3 : Array (Option Value)} {oc3 kV3 dc3 pm3 cd3 ct3 : Value}
    {f4 : Addr} {od4 an4 : Option Addr} {sl4 : Array (Option Value)} {oc4 kV4 dc4 pm4 cd4 ct4 : Value}
    {f5 : Addr} {od5 an5 : Option Addr} {sl5 : Array (Option Value)} {oc5 kV5 dc5 pm5 cd5 ct5 : Value}
    {f6 : Addr} {od6 an6 : Option Addr} {sl6 : Array (Option Value)} {oc6 kV6 dc6 pm6 cd6 ct6 : Value}
    {f7 : Addr} {od7 an7 : Option Addr} {sl7 : Array (Option Value)} {oc7 kV7 dc7 pm7 cd7 ct7 : Value}
    {f8 : Addr} {od8 an8 : Option Addr} {sl8 : Array (Option Value)} {oc8 kV8 dc8 pm8 cd8 ct8 : Value}
    {f9 : Addr} {od9 an9 : Option Addr} {sl9 : Array (Option Value)} {oc9 kV9 dc9 pm9 cd9 ct9 : Value}
    {f10 : Addr} {od10 an10 : Option Addr} {sl10 : Array (Option Value)} {oc10 kV10 dc10 pm10 cd10 ct10 : Value}
    {f11 : Addr} {od11 an11 : Option Addr} {sl11 : Array (Option Value)} {oc11 kV11 dc11 pm11 cd11 ct11 : Value}
    {f12 : Addr} {od12 an12 : Option Addr} {sl12 : Array (Option Value)} {oc12 kV12 dc12 pm12 cd12 ct12 : Value}
    {f13 : Addr} {od13 an13 : Option Addr} {sl13 : Array (Option Value)} {oc13 kV13 dc13 pm13 cd13 ct13 : Value}
    {f14 : Addr} {od14 an14 : Option Addr} {sl14 : Array (Option Value)} {oc14 kV14 dc14 pm14 cd14 ct14 : Value}
    {f15 : Addr} {od15 an15 : Option Addr} {sl15 : Array (Option Value)} {oc15 kV15 dc15 pm15 cd15 ct15 : Value}
    {f16 : Addr} {od16 an16 : Option Addr} {sl16 : Array (Option Value)} {oc16 kV16 dc16 pm16 cd16 ct16 : Value}
    {f17 : Addr} {od17 an17 : Option Addr} {sl17 : Array (Option Value)} {oc17 kV17 dc17 pm17 cd17 ct17 : Value}
    {f18 : Addr} {od18 an18 : Option Addr} {sl18 : Array (Option Value)} {oc18 kV18 dc18 pm18 cd18 ct18 : Value}
    {f19 : Addr} {od19 an19 : Option Addr} {sl19 : Array (Option Value)} {oc19 kV19 dc19 pm19 cd19 ct19 : Value}
    {f20 : Addr} {od20 an20 : Option Addr} {sl20 : Array (Option Value)} {oc20 kV20 dc20 pm20 cd20 ct20 : Value}
    {f21 : Addr} {od21 an21 : Option Addr} {sl21 : Array (Option Value)} {oc21 kV21 dc21 pm21 cd21 ct21 : Value}
    {f22 : Addr} {od22 an22 : Option Addr} {sl22 : Array (Option Value)} {oc22 kV22 dc22 pm22 cd22 ct22 : Value}
    {f23 : Addr} {od23 an23 : Option Addr} {sl23 : Array (Option Value)} {oc23 kV23 dc23 pm23 cd23 ct23 : Value}
    {f24 : Addr} {od24 an24 : Option Addr} {sl24 : Array (Option Value)} {oc24 kV24 dc24 pm24 cd24 ct24 : Value}
    {f25 : Addr} {od25 an25 : Option Addr} {sl25 : Array (Option Value)} {oc25 kV25 dc25 pm25 cd25 ct25 : Value}
    {f26 : Addr} {od26 an26 : Option Addr} {sl26 : Array (Option Value)} {oc26 kV26 dc26 pm26 cd26 ct26 : Value}
    {f27 : Addr} {od27 an27 : Option Addr} {sl27 : Array (Option Value)} {oc27 kV27 dc27 pm27 cd27 ct27 : Value}
    {f28 : Addr} {od28 an28 : Option Addr} {sl28 : Array (Option Value)} {oc28 kV28 dc28 pm28 cd28 ct28 : Value}
    {f29 : Addr} {od29 an29 : Option Addr} {sl29 : Array (Option Value)} {oc29 kV29 dc29 pm29 cd29 ct29 : Value}
    {f30 : Addr} {od30 an30 : Option Addr} {sl30 : Array (Option Value)} {oc30 kV30 dc30 pm30 cd30 ct30 : Value}
    {f31 : Addr} {od31 an31 : Option Addr} {sl31 : Array (Option Value)} {oc31 kV31 dc31 pm31 cd31 ct31 : Value}
    {f32 : Addr} {od32 an32 : Option Addr} {sl32 : Array (Option Value)} {oc32 kV32 dc32 pm32 cd32 ct32 : Value}
    {f33 : Addr} {od33 an33 : Option Addr} {sl33 : Array (Option Value)} {oc33 kV33 dc33 pm33 cd33 ct33 : Value}
    {f34 : Addr} {od34 an34 : Option Addr} {sl34 : Array (Option Value)} {oc34 kV34 dc34 pm34 cd34 ct34 : Value}
    {f35 : Addr} {od35 an35 : Option Addr} {sl35 : Array (Option Value)} {oc35 kV35 dc35 pm35 cd35 ct35 : Value}
    {f36 : Addr} {od36 an36 : Option Addr} {sl36 : Array (Option Value)} {oc36 kV36 dc36 pm36 cd36 ct36 : Value}
    {f37 : Addr} {od37 an37 : Option Addr} {sl37 : Array (Option Value)} {oc37 kV37 dc37 pm37 cd37 ct37 : Value}
    {f38 : Addr} {od38 an38 : Option Addr} {sl38 : Array (Option Value)} {oc38 kV38 dc38 pm38 cd38 ct38 : Value}
    {f39 : Addr} {od39 an39 : Option Addr} {sl39 : Array (Option Value)} {oc39 kV39 dc39 pm39 cd39 ct39 : Value}
    (a0 : PySem.W.nsIn K mainGlobals "is_plain_int" = some (some (.ref f0)))
    (l0 : K.lookup f0 = some ⟨oc0, od0, .func (PySem.W.fnOf "is_plain_int" "is_plain_int" (defArgs sPlain) (defBody sPlain) (defScope sPlain) .none kV0 dc0 pm0 an0 cd0 ct0), sl0⟩)
    (c0 : PySem.W.codeIn K cd0 "is_plain_int" = true)
    (k0 : PySem.W.keepIn K (.ref f0) = true)
    (a1 : PySem.W.nsIn K mainGlobals "is_number_below" = some (some (.ref f1)))
    (l1 : K.lookup f1 = some ⟨oc1, od1, .func (PySem.W.fnOf "is_number_below" "is_number_below" (defArgs sNum) (defBody sNum) (defScope sNum) .none kV1 dc1 pm1 an1 cd1 ct1), sl1⟩)
    (c1 : PySem.W.codeIn K cd1 "is_number_below" = true)
    (k1 : PySem.W.keepIn K (.ref f1) = true)
    (a2 : PySem.W.nsIn K mainGlobals "is_row" = some (some (.ref f2)))
    (l2 : K.lookup f2 = some ⟨oc2, od2, .func (PySem.W.fnOf "is_row" "is_row" (defArgs sIsRow) (defBody sIsRow) (defScope sIsRow) .none kV2 dc2 pm2 an2 cd2 ct2), sl2⟩)
    (c2 : PySem.W.codeIn K cd2 "is_row" = true)
    (k2 : PySem.W.keepIn K (.ref f2) = true)
    (a3 : PySem.W.nsIn K mainGlobals "is_sign" = some (some (.ref f3)))
    (l3 : K.lookup f3 = some ⟨oc3, od3, .func (PySem.W.fnOf "is_sign" "is_sign" (defArgs sIsSg) (defBody sIsSg) (defScope sIsSg) .none kV3 dc3 pm3 an3 cd3 ct3), sl3⟩)
    (c3 : PySem.W.codeIn K cd3 "is_sign" = true)
    (k3 : PySem.W.keepIn K (.ref f3) = true)
    (a4 : PySem.W.nsIn K mainGlobals "sign_of" = some (some (.ref f4)))
    (l4 : K.lookup f4 = some ⟨oc4, od4, .func (PySem.W.fnOf "sign_of" "sign_of" (defArgs sSgOf) (defBody sSgOf) (defScope sSgOf) .none kV4 dc4 pm4 an4 cd4 ct4), sl4⟩)
    (c4 : PySem.W.codeIn K cd4 "sign_of" = true)
    (k4 : PySem.W.keepIn K (.ref f4) = true)
    (a5 : PySem.W.nsIn K mainGlobals "is_string" = some (some (.ref f5)))
    (l5 : K.lookup f5 = some ⟨oc5, od5, .func (PySem.W.fnOf "is_string" "is_string" (defArgs sIsStr) (defBody sIsStr) (defScope sIsStr) .none kV5 dc5 pm5 an5 cd5 ct5), sl5⟩)
    (c5 : PySem.W.codeIn K cd5 "is_string" = true)
    (k5 : PySem.W.keepIn K (.ref f5) = true)
    (a6 : PySem.W.nsIn K mainGlobals "is_parcel_within" = some (some (.ref f6)))
    (l6 : K.lookup f6 = some ⟨oc6, od6, .func (PySem.W.fnOf "is_parcel_within" "is_parcel_within" (defArgs sIPW) (defBody sIPW) (defScope sIPW) .none kV6 dc6 pm6 an6 cd6 ct6), sl6⟩)
    (c6 : PySem.W.codeIn K cd6 "is_parcel_within" = true)
    (k6 : PySem.W.keepIn K (.ref f6) = true)
    (a7 : PySem.W.nsIn K mainGlobals "is_parcel" = some (some (.ref f7)))
    (l7 : K.lookup f7 = some ⟨oc7, od7, .func (PySem.W.fnOf "is_parcel" "is_parcel" (defArgs sIsPar) (defBody sIsPar) (defScope sIsPar) .none kV7 dc7 pm7 an7 cd7 ct7), sl7⟩)
    (c7 : PySem.W.codeIn K cd7 "is_parcel" = true)
    (k7 : PySem.W.keepIn K (.ref f7) = true)
    (a8 : PySem.W.nsIn K mainGlobals "write_whole" = some (some (.ref f8)))
    (l8 : K.lookup f8 = some ⟨oc8, od8, .func (PySem.W.fnOf "write_whole" "write_whole" (defArgs sWW) (defBody sWW) (defScope sWW) .none kV8 dc8 pm8 an8 cd8 ct8), sl8⟩)
    (c8 : PySem.W.codeIn K cd8 "write_whole" = true)
    (k8 : PySem.W.keepIn K (.ref f8) = true)
    (a9 : PySem.W.nsIn K mainGlobals "write_parcel" = some (some (.ref f9)))
    (l9 : K.lookup f9 = some ⟨oc9, od9, .func (PySem.W.fnOf "write_parcel" "write_parcel" (defArgs sWP) (defBody sWP) (defScope sWP) .none kV9 dc9 pm9 an9 cd9 ct9), sl9⟩)
    (c9 : PySem.W.codeIn K cd9 "write_parcel" = true)
    (k9 : PySem.W.keepIn K (.ref f9) = true)
    (a10 : PySem.W.nsIn K mainGlobals "row_of" = some (some (.ref f10)))
    (l10 : K.lookup f10 = some ⟨oc10, od10, .func (PySem.W.fnOf "row_of" "row_of" (defArgs sRowOf) (defBody sRowOf) (defScope sRowOf) .none kV10 dc10 pm10 an10 cd10 ct10), sl10⟩)
    (c10 : PySem.W.codeIn K cd10 "row_of" = true)
    (k10 : PySem.W.keepIn K (.ref f10) = true)
    (a11 : PySem.W.nsIn K mainGlobals "read_whole_row" = some (some (.ref f11)))
    (l11 : K.lookup f11 = some ⟨oc11, od11, .func (PySem.W.fnOf "read_whole_row" "read_whole_row" (defArgs sRAll) (defBody sRAll) (defScope sRAll) .none kV11 dc11 pm11 an11 cd11 ct11), sl11⟩)
    (c11 : PySem.W.codeIn K cd11 "read_whole_row" = true)
    (k11 : PySem.W.keepIn K (.ref f11) = true)
    (a12 : PySem.W.nsIn K mainGlobals "mark_of" = some (some (.ref f12)))
    (l12 : K.lookup f12 = some ⟨oc12, od12, .func (PySem.W.fnOf "mark_of" "mark_of" (defArgs sMkOf) (defBody sMkOf) (defScope sMkOf) .none kV12 dc12 pm12 an12 cd12 ct12), sl12⟩)
    (c12 : PySem.W.codeIn K cd12 "mark_of" = true)
    (k12 : PySem.W.keepIn K (.ref f12) = true)
    (a13 : PySem.W.nsIn K mainGlobals "seal_of" = some (some (.ref f13)))
    (l13 : K.lookup f13 = some ⟨oc13, od13, .func (PySem.W.fnOf "seal_of" "seal_of" (defArgs sSeal) (defBody sSeal) (defScope sSeal) .none kV13 dc13 pm13 an13 cd13 ct13), sl13⟩)
    (c13 : PySem.W.codeIn K cd13 "seal_of" = true)
    (k13 : PySem.W.keepIn K (.ref f13) = true)
    (a14 : PySem.W.nsIn K mainGlobals "sealed" = some (some (.ref f14)))
    (l14 : K.lookup f14 = some ⟨oc14, od14, .func (PySem.W.fnOf "sealed" "sealed" (defArgs sSealed) (defBody sSealed) (defScope sSealed) .none kV14 dc14 pm14 an14 cd14 ct14), sl14⟩)
    (c14 : PySem.W.codeIn K cd14 "sealed" = true)
    (k14 : PySem.W.keepIn K (.ref f14) = true)
    (a15 : PySem.W.nsIn K mainGlobals "parcel_of" = some (some (.ref f15)))
    (l15 : K.lookup f15 = some ⟨oc15, od15, .func (PySem.W.fnOf "parcel_of" "parcel_of" (defArgs sParOf) (defBody sParOf) (defScope sParOf) .none kV15 dc15 pm15 an15 cd15 ct15), sl15⟩)
    (c15 : PySem.W.codeIn K cd15 "parcel_of" = true)
    (k15 : PySem.W.keepIn K (.ref f15) = true)
    (a16 : PySem.W.nsIn K mainGlobals "_law_pool" = some (some (.ref f16)))
    (l16 : K.lookup f16 = some ⟨oc16, od16, .func (PySem.W.fnOf "_law_pool" "_law_pool" (defArgs sPool) (defBody sPool) (defScope sPool) .none kV16 dc16 pm16 an16 cd16 ct16), sl16⟩)
    (c16 : PySem.W.codeIn K cd16 "_law_pool" = true)
    (k16 : PySem.W.keepIn K (.ref f16) = true)
    (a17 : PySem.W.nsIn K mainGlobals "_law_draw" = some (some (.ref f17)))
    (l17 : K.lookup f17 = some ⟨oc17, od17, .func (PySem.W.fnOf "_law_draw" "_law_draw" (defArgs sDraw) (defBody sDraw) (defScope sDraw) .none kV17 dc17 pm17 an17 cd17 ct17), sl17⟩)
    (c17 : PySem.W.codeIn K cd17 "_law_draw" = true)
    (k17 : PySem.W.keepIn K (.ref f17) = true)
    (a18 : PySem.W.nsIn K mainGlobals "_law_is" = some (some (.ref f18)))
    (l18 : K.lookup f18 = some ⟨oc18, od18, .func (PySem.W.fnOf "_law_is" "_law_is" (defArgs sIs) (defBody sIs) (defScope sIs) .none kV18 dc18 pm18 an18 cd18 ct18), sl18⟩)
    (c18 : PySem.W.codeIn K cd18 "_law_is" = true)
    (k18 : PySem.W.keepIn K (.ref f18) = true)
    (a19 : PySem.W.nsIn K mainGlobals "_law_whole" = some (some (.ref f19)))
    (l19 : K.lookup f19 = some ⟨oc19, od19, .func (PySem.W.fnOf "_law_whole" "_law_whole" (defArgs sLW) (defBody sLW) (defScope sLW) .none kV19 dc19 pm19 an19 cd19 ct19), sl19⟩)
    (c19 : PySem.W.codeIn K cd19 "_law_whole" = true)
    (k19 : PySem.W.keepIn K (.ref f19) = true)
    (a20 : PySem.W.nsIn K mainGlobals "_law_bytes" = some (some (.ref f20)))
    (l20 : K.lookup f20 = some ⟨oc20, od20, .func (PySem.W.fnOf "_law_bytes" "_law_bytes" (defArgs sLB) (defBody sLB) (defScope sLB) .none kV20 dc20 pm20 an20 cd20 ct20), sl20⟩)
    (c20 : PySem.W.codeIn K cd20 "_law_bytes" = true)
    (k20 : PySem.W.keepIn K (.ref f20) = true)
    (a21 : PySem.W.nsIn K mainGlobals "_law_number" = some (some (.ref f21)))
    (l21 : K.lookup f21 = some ⟨oc21, od21, .func (PySem.W.fnOf "_law_number" "_law_number" (defArgs sLNum) (defBody sLNum) (defScope sLNum) .none kV21 dc21 pm21 an21 cd21 ct21), sl21⟩)
    (c21 : PySem.W.codeIn K cd21 "_law_number" = true)
    (k21 : PySem.W.keepIn K (.ref f21) = true)
    (a22 : PySem.W.nsIn K mainGlobals "_law_parcel" = some (some (.ref f22)))
    (l22 : K.lookup f22 = some ⟨oc22, od22, .func (PySem.W.fnOf "_law_parcel" "_law_parcel" (defArgs sLPar) (defBody sLPar) (defScope sLPar) .none kV22 dc22 pm22 an22 cd22 ct22), sl22⟩)
    (c22 : PySem.W.codeIn K cd22 "_law_parcel" = true)
    (k22 : PySem.W.keepIn K (.ref f22) = true)
    (a23 : PySem.W.nsIn K mainGlobals "_law_same" = some (some (.ref f23)))
    (l23 : K.lookup f23 = some ⟨oc23, od23, .func (PySem.W.fnOf "_law_same" "_law_same" (defArgs sSame) (defBody sSame) (defScope sSame) .none kV23 dc23 pm23 an23 cd23 ct23), sl23⟩)
    (c23 : PySem.W.codeIn K cd23 "_law_same" = true)
    (k23 : PySem.W.keepIn K (.ref f23) = true)
    (a24 : PySem.W.nsIn K mainGlobals "_law_sign" = some (some (.ref f24)))
    (l24 : K.lookup f24 = some ⟨oc24, od24, .func (PySem.W.fnOf "_law_sign" "_law_sign" (defArgs sLSg) (defBody sLSg) (defScope sLSg) .none kV24 dc24 pm24 an24 cd24 ct24), sl24⟩)
    (c24 : PySem.W.codeIn K cd24 "_law_sign" = true)
    (k24 : PySem.W.keepIn K (.ref f24) = true)
    (a25 : PySem.W.nsIn K mainGlobals "_law_read_whole" = some (some (.ref f25)))
    (l25 : K.lookup f25 = some ⟨oc25, od25, .func (PySem.W.fnOf "_law_read_whole" "_law_read_whole" (defArgs sLRW) (defBody sLRW) (defScope sLRW) .none kV25 dc25 pm25 an25 cd25 ct25), sl25⟩)
    (c25 : PySem.W.codeIn K cd25 "_law_read_whole" = true)
    (k25 : PySem.W.keepIn K (.ref f25) = true)
    (a26 : PySem.W.nsIn K mainGlobals "_law_read" = some (some (.ref f26)))
    (l26 : K.lookup f26 = some ⟨oc26, od26, .func (PySem.W.fnOf "_law_read" "_law_read" (defArgs sLR) (defBody sLR) (defScope sLR) .none kV26 dc26 pm26 an26 cd26 ct26), sl26⟩)
    (c26 : PySem.W.codeIn K cd26 "_law_read" = true)
    (k26 : PySem.W.keepIn K (.ref f26) = true)
    (a27 : PySem.W.nsIn K mainGlobals "_law_read_string" = some (some (.ref f27)))
    (l27 : K.lookup f27 = some ⟨oc27, od27, .func (PySem.W.fnOf "_law_read_string" "_law_read_string" (defArgs sLRS) (defBody sLRS) (defScope sLRS) .none kV27 dc27 pm27 an27 cd27 ct27), sl27⟩)
    (c27 : PySem.W.codeIn K cd27 "_law_read_string" = true)
    (k27 : PySem.W.keepIn K (.ref f27) = true)
    (a28 : PySem.W.nsIn K mainGlobals "_law_told" = some (some (.ref f28)))
    (l28 : K.lookup f28 = some ⟨oc28, od28, .func (PySem.W.fnOf "_law_told" "_law_told" (defArgs sTold) (defBody sTold) (defScope sTold) .none kV28 dc28 pm28 an28 cd28 ct28), sl28⟩)
    (c28 : PySem.W.codeIn K cd28 "_law_told" = true)
    (k28 : PySem.W.keepIn K (.ref f28) = true)
    (a29 : PySem.W.nsIn K mainGlobals "_law_deep" = some (some (.ref f29)))
    (l29 : K.lookup f29 = some ⟨oc29, od29, .func (PySem.W.fnOf "_law_deep" "_law_deep" (defArgs sLDeep) (defBody sLDeep) (defScope sLDeep) .none kV29 dc29 pm29 an29 cd29 ct29), sl29⟩)
    (c29 : PySem.W.codeIn K cd29 "_law_deep" = true)
    (k29 : PySem.W.keepIn K (.ref f29) = true)
    (a30 : PySem.W.nsIn K mainGlobals "_law_flag" = some (some (.ref f30)))
    (l30 : K.lookup f30 = some ⟨oc30, od30, .func (PySem.W.fnOf "_law_flag" "_law_flag" (defArgs sFlag) (defBody sFlag) (defScope sFlag) .none kV30 dc30 pm30 an30 cd30 ct30), sl30⟩)
    (c30 : PySem.W.codeIn K cd30 "_law_flag" = true)
    (k30 : PySem.W.keepIn K (.ref f30) = true)
    (a31 : PySem.W.nsIn K mainGlobals "_law_nested" = some (some (.ref f31)))
    (l31 : K.lookup f31 = some ⟨oc31, od31, .func (PySem.W.fnOf "_law_nested" "_law_nested" (defArgs sNest) (defBody sNest) (defScope sNest) .none kV31 dc31 pm31 an31 cd31 ct31), sl31⟩)
    (c31 : PySem.W.codeIn K cd31 "_law_nested" = true)
    (k31 : PySem.W.keepIn K (.ref f31) = true)
    (a32 : PySem.W.nsIn K mainGlobals "_law_is_parcel" = some (some (.ref f32)))
    (l32 : K.lookup f32 = some ⟨oc32, od32, .func (PySem.W.fnOf "_law_is_parcel" "_law_is_parcel" (defArgs sLIsP) (defBody sLIsP) (defScope sLIsP) .none kV32 dc32 pm32 an32 cd32 ct32), sl32⟩)
    (c32 : PySem.W.codeIn K cd32 "_law_is_parcel" = true)
    (k32 : PySem.W.keepIn K (.ref f32) = true)
    (a33 : PySem.W.nsIn K mainGlobals "_law_word" = some (some (.ref f33)))
    (l33 : K.lookup f33 = some ⟨oc33, od33, .func (PySem.W.fnOf "_law_word" "_law_word" (defArgs sWord) (defBody sWord) (defScope sWord) .none kV33 dc33 pm33 an33 cd33 ct33), sl33⟩)
    (c33 : PySem.W.codeIn K cd33 "_law_word" = true)
    (k33 : PySem.W.keepIn K (.ref f33) = true)
    (a34 : PySem.W.nsIn K mainGlobals "_law_read_by" = some (some (.ref f34)))
    (l34 : K.lookup f34 = some ⟨oc34, od34, .func (PySem.W.fnOf "_law_read_by" "_law_read_by" (defArgs sRBy) (defBody sRBy) (defScope sRBy) .none kV34 dc34 pm34 an34 cd34 ct34), sl34⟩)
    (c34 : PySem.W.codeIn K cd34 "_law_read_by" = true)
    (k34 : PySem.W.keepIn K (.ref f34) = true)
    (a35 : PySem.W.nsIn K mainGlobals "_law_spoilt" = some (some (.ref f35)))
    (l35 : K.lookup f35 = some ⟨oc35, od35, .func (PySem.W.fnOf "_law_spoilt" "_law_spoilt" (defArgs sSpoil) (defBody sSpoil) (defScope sSpoil) .none kV35 dc35 pm35 an35 cd35 ct35), sl35⟩)
    (c35 : PySem.W.codeIn K cd35 "_law_spoilt" = true)
    (k35 : PySem.W.keepIn K (.ref f35) = true)
    (a36 : PySem.W.nsIn K mainGlobals "_law_right" = some (some (.ref f36)))
    (l36 : K.lookup f36 = some ⟨oc36, od36, .func (PySem.W.fnOf "_law_right" "_law_right" (defArgs sRight) (defBody sRight) (defScope sRight) .none kV36 dc36 pm36 an36 cd36 ct36), sl36⟩)
    (c36 : PySem.W.codeIn K cd36 "_law_right" = true)
    (k36 : PySem.W.keepIn K (.ref f36) = true)
    (a37 : PySem.W.nsIn K mainGlobals "_law_first" = some (some (.ref f37)))
    (l37 : K.lookup f37 = some ⟨oc37, od37, .func (PySem.W.fnOf "_law_first" "_law_first" (defArgs sFirst) (defBody sFirst) (defScope sFirst) .none kV37 dc37 pm37 an37 cd37 ct37), sl37⟩)
    (c37 : PySem.W.codeIn K cd37 "_law_first" = true)
    (k37 : PySem.W.keepIn K (.ref f37) = true)
    (a38 : PySem.W.nsIn K mainGlobals "_law_second" = some (some (.ref f38)))
    (l38 : K.lookup f38 = some ⟨oc38, od38, .func (PySem.W.fnOf "_law_second" "_law_second" (defArgs sSecond) (defBody sSecond) (defScope sSecond) .none kV38 dc38 pm38 an38 cd38 ct38), sl38⟩)
    (c38 : PySem.W.codeIn K cd38 "_law_second" = true)
    (k38 : PySem.W.keepIn K (.ref f38) = true)
    (a39 : PySem.W.nsIn K mainGlobals "law" = some (some (.ref f39)))
    (l39 : K.lookup f39 = some ⟨oc39, od39, .func (PySem.W.fnOf "law" "law" (defArgs sLaw) (defBody sLaw) (defScope sLaw) .none kV39 dc39 pm39 an39 cd39 ct39), sl39⟩)
    (c39 : PySem.W.codeIn K cd39 "law" = true)
    (k39 : PySem.W.keepIn K (.ref f39) = true)
    (r_aC : PySem.W.nsIn K mainGlobals "RowReader" = some (some (.ref CR)))
    (r_pg : PySem.W.plainGet K CR Str.empty = true)
    (r_hd : PySem.W.hasDictIn K CR = true)
    (r_po : PySem.W.plainOver K CR = true)
    (r_sa : PySem.W.findIn K (.ref CR) "__setattr__" = some (some (.builtin "object.__setattr__")))
    (r_mk : PySem.W.makesIn K CR = true)
    (r_kc : PySem.W.keepIn K (.ref CR) = true)
    (r_n0 : PySem.W.findIn K (.ref CR) "row" = some none)
    (r_n1 : PySem.W.findIn K (.ref CR) "at" = some none)
    (mIf : PySem.W.findIn K (.ref CR) "__init__" = some (some (.ref fmI)))
    (mIi : PySem.W.isFn K (.ref fmI) = true)
    (mIl : K.lookup fmI = some ⟨ocmI, odmI, .func (PySem.W.fnOf "__init__" "RowReader.__init__" (defArgs sRInit) (defBody sRInit) (defScope sRInit) .none kVmI dcmI pmmI anmI cdmI ctmI), slmI⟩)
    (mIc : PySem.W.codeIn K cdmI "RowReader.__init__" = true)
    (mIk : PySem.W.keepIn K (.ref fmI) = true)
    (mDf : PySem.W.findIn K (.ref CR) "due_byte" = some (some (.ref fmD)))
    (mDi : PySem.W.isFn K (.ref fmD) = true)
    (mDl : K.lookup fmD = some ⟨ocmD, odmD, .func (PySem.W.fnOf "due_byte" "RowReader.due_byte" (defArgs sDue) (defBody sDue) (defScope sDue) .none kVmD dcmD pmmD anmD cdmD ctmD), slmD⟩)
    (mDc : PySem.W.codeIn K cdmD "RowReader.due_byte" = true)
    (mDk : PySem.W.keepIn K (.ref fmD) = true)
    (mWf : PySem.W.findIn K (.ref CR) "read_whole" = some (some (.ref fmW)))
    (mWi : PySem.W.isFn K (.ref fmW) = true)
    (mWl : K.lookup fmW = some ⟨ocmW, odmW, .func (PySem.W.fnOf "read_whole" "RowReader.read_whole" (defArgs sRW) (defBody sRW) (defScope sRW) .none kVmW dcmW pmmW anmW cdmW ctmW), slmW⟩)
    (mWc : PySem.W.codeIn K cdmW "RowReader.read_whole" = true)
    (mWk : PySem.W.keepIn K (.ref fmW) = true)
    (mSf : PySem.W.findIn K (.ref CR) "read_string" = some (some (.ref fmS)))
    (mSi : PySem.W.isFn K (.ref fmS) = true)
    (mSl : K.lookup fmS = some ⟨ocmS, odmS, .func (PySem.W.fnOf "read_string" "RowReader.read_string" (defArgs sRS) (defBody sRS) (defScope sRS) .none kVmS dcmS pmmS anmS cdmS ctmS), slmS⟩)
    (mSc : PySem.W.codeIn K cdmS "RowReader.read_string" = true)
    (mSk : PySem.W.keepIn K (.ref fmS) = true)
    (mTf : PySem.W.findIn K (.ref CR) "read_tuple" = some (some (.ref fmT)))
    (mTi : PySem.W.isFn K (.ref fmT) = true)
    (mTl : K.lookup fmT = some ⟨ocmT, odmT, .func (PySem.W.fnOf "read_tuple" "RowReader.read_tuple" (defArgs sRT) (defBody sRT) (defScope sRT) .none kVmT dcmT pmmT anmT cdmT ctmT), slmT⟩)
    (mTc : PySem.W.codeIn K cdmT "RowReader.read_tuple" = true)
    (mTk : PySem.W.keepIn K (.ref fmT) = true)
    (mPf : PySem.W.findIn K (.ref CR) "read_parcel" = some (some (.ref fmP)))
    (mPi : PySem.W.isFn K (.ref fmP) = true)
    (mPl : K.lookup fmP = some ⟨ocmP, odmP, .func (PySem.W.fnOf "read_parcel" "RowReader.read_parcel" (defArgs sRP) (defBody sRP) (defScope sRP) .none kVmP dcmP pmmP anmP cdmP ctmP), slmP⟩)
    (mPc : PySem.W.codeIn K cdmP "RowReader.read_parcel" = true)
    (mPk : PySem.W.keepIn K (.ref fmP) = true)
    (sSB : PySem.W.nsIn K mainGlobals "SIGNS_BELOW" = some (some (.str (PySem.Str.ofString " !\"#$") tsb)))
    (sSA : PySem.W.nsIn K mainGlobals "SIGNS_ABOVE" = some (some (.str (PySem.Str.ofString "&'()*+,-./0123456789:;<=>?@ABCDEFGHIJKLMNOPQRSTUVWXYZ[\\]^_`abcdefghijklmnopqrstuvwxyz{|}~") tsa)))
    (bBA : PySem.W.nsIn K mainGlobals "BARE" = some (some (.ref aBA)))
    (lBA : K.lookup aBA = some ⟨.type "tuple", none, .seq itBA nuBA, slBA⟩)
    (zBA : itBA.size ≤ 64)
    (vBA : Vals [V.non, .bl false, .bl true] itBA.toList)
    (wN : PySem.W.nsIn K mainGlobals "BadRow" = some (some (.ref CB)))
    (wl : K.lookup CB = some (PySem.excClassObj nmB qB CB NB bsB bmB true snB subB abB colB ddB k0B k1B k2B k3B k5B "ValueError.__new__"))
    (wbm : PySem.HandSPX.refsVE bmB = true)
    (wi : PySem.W.findIn K (.ref CB) "__init__" = some (some (.ref fB)))
    (wt : PySem.W.typeIn K (.ref fB) = some (.type "function"))
    (wk : PySem.W.keepIn K (.ref CB) = true)
    (wb : PySem.W.subIn K (.ref CB) (.type "BaseException") = some true)
    (wy : PySem.W.typeIn K (.ref CB) = some (.type "type"))
    (ws : PySem.W.subIn K (.ref CB) (.ref CB) = some true)
    (wz : PySem.W.isClsIn K CB = true)
    (wsa : PySem.W.findIn K (.ref CB) "__setattr__" = some (some (.builtin "object.__setattr__")))
    (wp : PySem.W.findIn K (.ref CB) "place" = some none)
    (wga : PySem.W.findIn K (.ref CB) "__getattribute__" = some (some (.builtin "BaseException.__getattribute__")))
    (wgg : PySem.W.findIn K (.ref CB) "__getattr__" = some none)
    (whd : PySem.W.hasDictIn K CB = true)
    (wf : K.lookup fB = some ⟨ocB, odB, .func (PySem.W.fnOf "__init__" "BadRow.__init__" (defArgs sPlace) (defBody sPlace) (defScope sPlace) .none kVB dcB pmB anB cdB ctB), slB⟩)
    (wc : PySem.W.codeIn K cdB "BadRow.__init__" = true)
    (wkf : PySem.W.keepIn K (.ref fB) = true)
    (eN : PySem.W.nsIn K mainGlobals "RoundError" = some (some (.ref CE)))
    (eb : PySem.W.subIn K (.ref CE) (.type "BaseException") = some true)
    (ez : PySem.W.isClsIn K CE = true)
    (ey : PySem.W.typeIn K (.ref CE) = some (.type "type"))
    (en : PySem.W.subIn K (.ref Cn) (.ref CE) = some true)
    (eB : PySem.W.subIn K (.ref CB) (.ref CE) = some true)
    (vB : PySem.W.subIn K (.ref CB) (.type "ValueError") = some true)
    (nga : PySem.W.findIn K (.ref Cn) "__getattribute__" = some (some (.builtin "BaseException.__getattribute__")))
    (ngg : PySem.W.findIn K (.ref Cn) "__getattr__" = some none)
    (nhd : PySem.W.hasDictIn K Cn = true)
    (nac : PySem.W.findIn K (.ref Cn) "__class__" = some (some (.builtin "object.__class__")))
    (nmo : PySem.W.mroIn K Cn (.type "object") = some true)
    (bac : PySem.W.findIn K (.ref CB) "__class__" = some (some (.builtin "object.__class__")))
    (bmo : PySem.W.mroIn K CB (.type "object") = some true)
    (hsp : PySem.W.specialIn K (.builtin "object.__class__") "__get__" = some (some (.builtin "getset_descriptor.__get__")))
    (htk : PySem.W.takesIn K (.builtin "object.__class__") = some true)
    (cc_BYTES : PySem.W.nsIn K mainGlobals "BYTES" = some (some (.int 256 tc_BYTES)))
    (cc_MOST_DEEP : PySem.W.nsIn K mainGlobals "MOST_DEEP" = some (some (.int 20 tc_MOST_DEEP)))
    (cc_MOST_SIGNS : PySem.W.nsIn K mainGlobals "MOST_SIGNS" = some (some (.int 20 tc_MOST_SIGNS)))
    (cc_FROM_0_ON : PySem.W.nsIn K mainGlobals "FROM_0_ON" = some (some (.int 3 tc_FROM_0_ON)))
    (cc_BELOW_0 : PySem.W.nsIn K mainGlobals "BELOW_0" = some (some (.int 4 tc_BELOW_0)))
    (cc_STRING : PySem.W.nsIn K mainGlobals "STRING" = some (some (.int 5 tc_STRING)))
    (cc_TUPLE : PySem.W.nsIn K mainGlobals "TUPLE" = some (some (.int 6 tc_TUPLE)))
    (cc_FIRST_SIGN : PySem.W.nsIn K mainGlobals "FIRST_SIGN" = some (some (.int 32 tc_FIRST_SIGN)))
    (cc_NO_SIGN : PySem.W.nsIn K mainGlobals "NO_SIGN" = some (some (.int 37 tc_NO_SIGN)))
    (cc_LAST_SIGN : PySem.W.nsIn K mainGlobals "LAST_SIGN" = some (some (.int 126 tc_LAST_SIGN)))
    (cc_MARK_FACTOR : PySem.W.nsIn K mainGlobals "MARK_FACTOR" = some (some (.int 1000003 tc_MARK_FACTOR)))
    (cc_MARKS : PySem.W.nsIn K mainGlobals "MARKS" = some (some (.int 2305843009213693951 tc_MARKS)))
    (cc_SEALS : PySem.W.nsIn K mainGlobals "SEALS" = some (some (.int 4294967296 tc_SEALS)))
    (cc_SEAL_LENGTH : PySem.W.nsIn K mainGlobals "SEAL_LENGTH" = some (some (.int 4 tc_SEAL_LENGTH)))
    (xN_n : PySem.W.nsIn K mainGlobals "NoParcel" = some (some (.ref Cn)))
    (xl_n : K.lookup Cn = some (PySem.excClassObj nmn qn Cn Nn bsn bmn true snn subn abn coln ddn k0n k1n k2n k3n k5n "ValueError.__new__"))
    (xi_n : PySem.W.findIn K (.ref Cn) "__init__" = some (some (.ref fn)))
    (xt_n : PySem.W.typeIn K (.ref fn) = some (.type "function"))
    (xk_n : PySem.W.keepIn K (.ref Cn) = true)
    (xb_n : PySem.W.subIn K (.ref Cn) (.type "BaseException") = some true)
    (xv_n : PySem.W.subIn K (.ref Cn) (.type "ValueError") = some true)
    (xy_n : PySem.W.typeIn K (.ref Cn) = some (.type "type"))
    (xm_n : PySem.W.mroIn K Cn (.ref Cn) = some true)
    (xs_n : PySem.W.subIn K (.ref Cn) (.ref Cn) = some true)
    (xz_n : PySem.W.isClsIn K Cn = true)
    (xsu_n : PySem.W.nsIn K mainGlobals "super" = some none)
    (xo_n : PySem.W.nsIn K cStatics "thirdparty.any" = some none)
    (xf_n : K.lookup fn = some ⟨ocn, odn, .func (PySem.W.ksFn "__init__" "NoParcel.__init__" (supAr pn) (supB q1n q2n q3n q4n q5n) supSc .none .none docn pmn ann (.ref cdan) ctn ccn), osln⟩)
    (xc_n : PySem.W.codeIn K (.ref cdan) "NoParcel.__init__" = true)
    (xd_n : K.lookup cdan = some ⟨ccln, cddn, .fields vsn, ccsn⟩)
    (xe_n : K.lookup ccn = some ⟨cln, cldn, .cell (some (.ref Cn)), csln⟩)
    (xu_n : PySem.W.ks_superIn K Cn Cn "__init__" = some (some (.builtin "ValueError.__init__")))
    (yb_n : PySem.HandSPX.refsVE bmn = true)
    (yv_n : vsn[2]? = some (.str filen tfn))
    (yf_n : ((l.prog.main.file : Str) == filen) = true)
    (yt_n : (l.prog.main.scope.names.lookup ("super" : Str)).isSome = false)
    (yl_n : (q3n.endLine == q4n.line) = true)
    (zn_ValueError : PySem.W.nsIn K mainGlobals "ValueError" = some none)
    (z_len : PySem.W.nsIn K mainGlobals "len" = some none)
    (z_int : PySem.W.nsIn K mainGlobals "int" = some none)
    (z_list : PySem.W.nsIn K mainGlobals "list" = some none)
    (z_range : PySem.W.nsIn K mainGlobals "range" = some none)
    (z_min : PySem.W.nsIn K mainGlobals "min" = some none)
    (z_tuple : PySem.W.nsIn K mainGlobals "tuple" = some none)
    (z_isinstance : PySem.W.nsIn K mainGlobals "isinstance" = some none)
    (z_bool : PySem.W.nsIn K mainGlobals "bool" = some none)
    (z_str : PySem.W.nsIn K mainGlobals "str" = some none)
    (z_repr : PySem.W.nsIn K mainGlobals "repr" = some none)
    (z_sum : PySem.W.nsIn K mainGlobals "sum" = some none)
    (z_abs : PySem.W.nsIn K mainGlobals "abs" = some none)
    (z_ord : PySem.W.nsIn K mainGlobals "ord" = some none)
    (z_reversed : PySem.W.nsIn K mainGlobals "reversed" = some none)
    (z_all : PySem.W.nsIn K mainGlobals "all" = some none)
    (z_zip : PySem.W.nsIn K mainGlobals "zip" = some none)
    : ∃ fd : FuncData, (∀ (s : Shared) (v : Value), BindsTo s fd ⟨[v], []⟩ [("script", v)]) ∧ ∀ base : Heap, K.In base → base.Ns mainGlobals mg → FnOk l.prog w K mg base CX0 51 fa fd ["script"] (spLaw K) := by
  have e := hfa.symm.trans (PySem.W.mg_of X G a39)
  cases e
  have B : Bts mg := ⟨PySem.W.mg_none_of X G z_len, PySem.W.mg_none_of X G z_int, PySem.W.mg_none_of X G z_list, PySem.W.mg_none_of X G z_range, PySem.W.mg_none_of X G z_min, PySem.W.mg_none_of X G z_tuple, PySem.W.mg_none_of X G z_isinstance, PySem.W.mg_none_of X G z_bool, PySem.W.mg_none_of X G z_str, PySem.W.mg_none_of X G z_repr, PySem.W.mg_none_of X G z_sum, PySem.W.mg_none_of X G z_abs, PySem.W.mg_none_of X G z_ord, PySem.W.mg_none_of X G z_reversed, PySem.W.mg_none_of X G z_all, PySem.W.mg_none_of X G z_zip⟩
  have SUn : SupC l.prog K mg Cn fn "NoParcel.__init__" := ⟨⟨nmn, qn, Nn, bsn, bmn, snn, subn, abn, coln, ddn, k0n, k1n, k2n, k3n, k5n, xl_n, yb_n⟩, xi_n, xt_n, xk_n, xb_n, xv_n, xy_n, xm_n, PySem.W.mg_none_of X G xsu_n, xo_n, xu_n, yt_n, ⟨ocn, odn, docn, pmn, ann, cdan, ccn, ctn, osln, pn, q1n, q2n, q3n, q4n, q5n, ccln, cln, cddn, cldn, ccsn, csln, vsn, filen, tfn, xf_n, xc_n, xd_n, yv_n, yf_n, xe_n, yl_n⟩⟩
  have F0 := fun_mk (st := sPlain) l0 c0 k0
  have D_is_plain_int : Df K mg "is_plain_int" sPlain ["thing"] f0 _ := ⟨F0, PySem.W.mg_of X G a0, F0.binds (ps := ["thing"]) fun _ _ _ _ _ _ us hl => match us, hl with | [_], _ => rfl⟩
  have F1 := fun_mk (st := sNum) l1 c1 k1
  have D_is_number_below : Df K mg "is_number_below" sNum ["limit", "thing"] f1 _ := ⟨F1, PySem.W.mg_of X G a1, F1.binds (ps := ["limit", "thing"]) fun _ _ _ _ _ _ us hl => match us, hl with | [_, _], _ => rfl⟩
  have F2 := fun_mk (st := sIsRow) l2 c2 k2
  have D_is_row : Df K mg "is_row" sIsRow ["thing"] f2 _ := ⟨F2, PySem.W.mg_of X G a2, F2.binds (ps := ["thing"]) fun _ _ _ _ _ _ us hl => match us, hl with | [_], _ => rfl⟩
  have F3 := fun_mk (st := sIsSg) l3 c3 k3
  have D_is_sign : Df K mg "is_sign" sIsSg ["number"] f3 _ := ⟨F3, PySem.W.mg_of X G a3, F3.binds (ps := ["number"]) fun _ _ _ _ _ _ us hl => match us, hl with | [_], _ => rfl⟩
  have F4 := fun_mk (st := sSgOf) l4 c4 k4
  have D_sign_of : Df K mg "sign_of" sSgOf ["number"] f4 _ := ⟨F4, PySem.W.mg_of X G a4, F4.binds (ps := ["number"]) fun _ _ _ _ _ _ us hl => match us, hl with | [_], _ => rfl⟩
  have F5 := fun_mk (st := sIsStr) l5 c5 k5
  have D_is_string : Df K mg "is_string" sIsStr ["thing"] f5 _ := ⟨F5, PySem.W.mg_of X G a5, F5.binds (ps := ["thing"]) fun _ _ _ _ _ _ us hl => match us, hl with | [_], _ => rfl⟩
  have F6 := fun_mk (st := sIPW) l6 c6 k6
  have D_is_parcel_within : Df K mg "is_parcel_within" sIPW ["deep", "thing"] f6 _ := ⟨F6, PySem.W.mg_of X G a6, F6.binds (ps := ["deep", "thing"]) fun _ _ _ _ _ _ us hl => match us, hl with | [_, _], _ => rfl⟩
  have F7 := fun_mk (st := sIsPar) l7 c7 k7
  have D_is_parcel : Df K mg "is_parcel" sIsPar ["thing"] f7 _ := ⟨F7, PySem.W.mg_of X G a7, F7.binds (ps := ["thing"]) fun _ _ _ _ _ _ us hl => match us, hl with | [_], _ => rfl⟩
  have F8 := fun_mk (st := sWW) l8 c8 k8
  have D_write_whole : Df K mg "write_whole" sWW ["row", "number"] f8 _ := ⟨F8, PySem.W.mg_of X G a8, F8.binds (ps := ["row", "number"]) fun _ _ _ _ _ _ us hl => match us, hl with | [_, _], _ => rfl⟩
  have F9 := fun_mk (st := sWP) l9 c9 k9
  have D_write_parcel : Df K mg "write_parcel" sWP ["row", "parcel"] f9 _ := ⟨F9, PySem.W.mg_of X G a9, F9.binds (ps := ["row", "parcel"]) fun _ _ _ _ _ _ us hl => match us, hl with | [_, _], _ => rfl⟩
  have F10 := fun_mk (st := sRowOf) l10 c10 k10
  have D_row_of : Df K mg "row_of" sRowOf ["parcel"] f10 _ := ⟨F10, PySem.W.mg_of X G a10, F10.binds (ps := ["parcel"]) fun _ _ _ _ _ _ us hl => match us, hl with | [_], _ => rfl⟩
  have F11 := fun_mk (st := sRAll) l11 c11 k11
  have D_read_whole_row : Df K mg "read_whole_row" sRAll ["row"] f11 _ := ⟨F11, PySem.W.mg_of X G a11, F11.binds (ps := ["row"]) fun _ _ _ _ _ _ us hl => match us, hl with | [_], _ => rfl⟩
  have F12 := fun_mk (st := sMkOf) l12 c12 k12
  have D_mark_of : Df K mg "mark_of" sMkOf ["row"] f12 _ := ⟨F12, PySem.W.mg_of X G a12, F12.binds (ps := ["row"]) fun _ _ _ _ _ _ us hl => match us, hl with | [_], _ => rfl⟩
  have F13 := fun_mk (st := sSeal) l13 c13 k13
  have D_seal_of : Df K mg "seal_of" sSeal ["row"] f13 _ := ⟨F13, PySem.W.mg_of X G a13, F13.binds (ps := ["row"]) fun _ _ _ _ _ _ us hl => match us, hl with | [_], _ => rfl⟩
  have F14 := fun_mk (st := sSealed) l14 c14 k14
  have D_sealed : Df K mg "sealed" sSealed ["parcel"] f14 _ := ⟨F14, PySem.W.mg_of X G a14, F14.binds (ps := ["parcel"]) fun _ _ _ _ _ _ us hl => match us, hl with | [_], _ => rfl⟩
  have F15 := fun_mk (st := sParOf) l15 c15 k15
  have D_parcel_of : Df K mg "parcel_of" sParOf ["row"] f15 _ := ⟨F15, PySem.W.mg_of X G a15, F15.binds (ps := ["row"]) fun _ _ _ _ _ _ us hl => match us, hl with | [_], _ => rfl⟩
  have F16 := fun_mk (st := sPool) l16 c16 k16
  have D__law_pool : Df K mg "_law_pool" sPool ["script"] f16 _ := ⟨F16, PySem.W.mg_of X G a16, F16.binds (ps := ["script"]) fun _ _ _ _ _ _ us hl => match us, hl with | [_], _ => rfl⟩
  have F17 := fun_mk (st := sDraw) l17 c17 k17
  have D__law_draw : Df K mg "_law_draw" sDraw ["pool", "many"] f17 _ := ⟨F17, PySem.W.mg_of X G a17, F17.binds (ps := ["pool", "many"]) fun _ _ _ _ _ _ us hl => match us, hl with | [_, _], _ => rfl⟩
  have F18 := fun_mk (st := sIs) l18 c18 k18
  have D__law_is : Df K mg "_law_is" sIs ["told", "due"] f18 _ := ⟨F18, PySem.W.mg_of X G a18, F18.binds (ps := ["told", "due"]) fun _ _ _ _ _ _ us hl => match us, hl with | [_, _], _ => rfl⟩
  have F19 := fun_mk (st := sLW) l19 c19 k19
  have D__law_whole : Df K mg "_law_whole" sLW ["number"] f19 _ := ⟨F19, PySem.W.mg_of X G a19, F19.binds (ps := ["number"]) fun _ _ _ _ _ _ us hl => match us, hl with | [_], _ => rfl⟩
  have F20 := fun_mk (st := sLB) l20 c20 k20
  have D__law_bytes : Df K mg "_law_bytes" sLB ["parcel"] f20 _ := ⟨F20, PySem.W.mg_of X G a20, F20.binds (ps := ["parcel"]) fun _ _ _ _ _ _ us hl => match us, hl with | [_], _ => rfl⟩
  have F21 := fun_mk (st := sLNum) l21 c21 k21
  have D__law_number : Df K mg "_law_number" sLNum ["pool"] f21 _ := ⟨F21, PySem.W.mg_of X G a21, F21.binds (ps := ["pool"]) fun _ _ _ _ _ _ us hl => match us, hl with | [_], _ => rfl⟩
  have F22 := fun_mk (st := sLPar) l22 c22 k22
  have D__law_parcel : Df K mg "_law_parcel" sLPar ["pool", "deep"] f22 _ := ⟨F22, PySem.W.mg_of X G a22, F22.binds (ps := ["pool", "deep"]) fun _ _ _ _ _ _ us hl => match us, hl with | [_, _], _ => rfl⟩
  have F23 := fun_mk (st := sSame) l23 c23 k23
  have D__law_same : Df K mg "_law_same" sSame ["one", "other"] f23 _ := ⟨F23, PySem.W.mg_of X G a23, F23.binds (ps := ["one", "other"]) fun _ _ _ _ _ _ us hl => match us, hl with | [_, _], _ => rfl⟩
  have F24 := fun_mk (st := sLSg) l24 c24 k24
  have D__law_sign : Df K mg "_law_sign" sLSg ["byte"] f24 _ := ⟨F24, PySem.W.mg_of X G a24, F24.binds (ps := ["byte"]) fun _ _ _ _ _ _ us hl => match us, hl with | [_], _ => rfl⟩
  have F25 := fun_mk (st := sLRW) l25 c25 k25
  have D__law_read_whole : Df K mg "_law_read_whole" sLRW ["row", "at"] f25 _ := ⟨F25, PySem.W.mg_of X G a25, F25.binds (ps := ["row", "at"]) fun _ _ _ _ _ _ us hl => match us, hl with | [_, _], _ => rfl⟩
  have F26 := fun_mk (st := sLR) l26 c26 k26
  have D__law_read : Df K mg "_law_read" sLR ["row", "at", "left"] f26 _ := ⟨F26, PySem.W.mg_of X G a26, F26.binds (ps := ["row", "at", "left"]) fun _ _ _ _ _ _ us hl => match us, hl with | [_, _, _], _ => rfl⟩
  have F27 := fun_mk (st := sLRS) l27 c27 k27
  have D__law_read_string : Df K mg "_law_read_string" sLRS ["row", "begin", "many", "here"] f27 _ := ⟨F27, PySem.W.mg_of X G a27, F27.binds (ps := ["row", "begin", "many", "here"]) fun _ _ _ _ _ _ us hl => match us, hl with | [_, _, _, _], _ => rfl⟩
  have F28 := fun_mk (st := sTold) l28 c28 k28
  have D__law_told : Df K mg "_law_told" sTold ["row"] f28 _ := ⟨F28, PySem.W.mg_of X G a28, F28.binds (ps := ["row"]) fun _ _ _ _ _ _ us hl => match us, hl with | [_], _ => rfl⟩
  have F29 := fun_mk (st := sLDeep) l29 c29 k29
  have D__law_deep : Df K mg "_law_deep" sLDeep [] f29 _ := ⟨F29, PySem.W.mg_of X G a29, F29.binds (ps := []) fun _ _ _ _ _ _ us hl => match us, hl with | [], _ => rfl⟩
  have F30 := fun_mk (st := sFlag) l30 c30 k30
  have D__law_flag : Df K mg "_law_flag" sFlag ["thing", "due"] f30 _ := ⟨F30, PySem.W.mg_of X G a30, F30.binds (ps := ["thing", "due"]) fun _ _ _ _ _ _ us hl => match us, hl with | [_, _], _ => rfl⟩
  have F31 := fun_mk (st := sNest) l31 c31 k31
  have D__law_nested : Df K mg "_law_nested" sNest ["many", "inner"] f31 _ := ⟨F31, PySem.W.mg_of X G a31, F31.binds (ps := ["many", "inner"]) fun _ _ _ _ _ _ us hl => match us, hl with | [_, _], _ => rfl⟩
  have F32 := fun_mk (st := sLIsP) l32 c32 k32
  have D__law_is_parcel : Df K mg "_law_is_parcel" sLIsP ["thing", "left"] f32 _ := ⟨F32, PySem.W.mg_of X G a32, F32.binds (ps := ["thing", "left"]) fun _ _ _ _ _ _ us hl => match us, hl with | [_, _], _ => rfl⟩
  have F33 := fun_mk (st := sWord) l33 c33 k33
  have D__law_word : Df K mg "_law_word" sWord ["which", "thing"] f33 _ := ⟨F33, PySem.W.mg_of X G a33, F33.binds (ps := ["which", "thing"]) fun _ _ _ _ _ _ us hl => match us, hl with | [_, _], _ => rfl⟩
  have F34 := fun_mk (st := sRBy) l34 c34 k34
  have D__law_read_by : Df K mg "_law_read_by" sRBy ["row"] f34 _ := ⟨F34, PySem.W.mg_of X G a34, F34.binds (ps := ["row"]) fun _ _ _ _ _ _ us hl => match us, hl with | [_], _ => rfl⟩
  have F35 := fun_mk (st := sSpoil) l35 c35 k35
  have D__law_spoilt : Df K mg "_law_spoilt" sSpoil ["pool", "row"] f35 _ := ⟨F35, PySem.W.mg_of X G a35, F35.binds (ps := ["pool", "row"]) fun _ _ _ _ _ _ us hl => match us, hl with | [_, _], _ => rfl⟩
  have F36 := fun_mk (st := sRight) l36 c36 k36
  have D__law_right : Df K mg "_law_right" sRight ["row"] f36 _ := ⟨F36, PySem.W.mg_of X G a36, F36.binds (ps := ["row"]) fun _ _ _ _ _ _ us hl => match us, hl with | [_], _ => rfl⟩
  have F37 := fun_mk (st := sFirst) l37 c37 k37
  have D__law_first : Df K mg "_law_first" sFirst ["script"] f37 _ := ⟨F37, PySem.W.mg_of X G a37, F37.binds (ps := ["script"]) fun _ _ _ _ _ _ us hl => match us, hl with | [_], _ => rfl⟩
  have F38 := fun_mk (st := sSecond) l38 c38 k38
  have D__law_second : Df K mg "_law_second" sSecond ["script"] f38 _ := ⟨F38, PySem.W.mg_of X G a38, F38.binds (ps := ["script"]) fun _ _ _ _ _ _ us hl => match us, hl with | [_], _ => rfl⟩
  have A : PDefs K mg := ⟨_, _, D_is_plain_int, _, _, D_is_number_below, _, _, D_is_row, _, _, D_is_sign, _, _, D_sign_of, _, _, D_is_string, _, _, D_is_parcel_within, _, _, D_is_parcel, _, _, D_write_whole, _, _, D_write_parcel, _, _, D_row_of, _, _, D_read_whole_row, _, _, D_mark_of, _, _, D_seal_of, _, _, D_sealed, _, _, D_parcel_of⟩
  have L : LDefs K mg := ⟨_, _, D__law_pool, _, _, D__law_draw, _, _, D__law_is, _, _, D__law_whole, _, _, D__law_bytes, _, _, D__law_number, _, _, D__law_parcel, _, _, D__law_same, _, _, D__law_sign, _, _, D__law_read_whole, _, _, D__law_read, _, _, D__law_read_string, _, _, D__law_told, _, _, D__law_deep, _, _, D__law_flag, _, _, D__law_nested, _, _, D__law_is_parcel, _, _, D__law_word, _, _, D__law_read_by, _, _, D__law_spoilt, _, _, D__law_right⟩
  have T : RTxt K mg CR := ⟨⟨r_pg, r_hd, r_po, r_sa⟩, r_n0, r_n1, PySem.W.mg_of X G r_aC⟩
  have FmI := fun_mk (st := sRInit) mIl mIc mIk
  have bmI := FmI.binds (ps := ["self", "row"]) fun _ _ _ _ _ _ us hl => match us, hl with | [_, _], _ => rfl
  have FmD := fun_mk (st := sDue) mDl mDc mDk
  have bmD := FmD.binds (ps := ["self"]) fun _ _ _ _ _ _ us hl => match us, hl with | [_], _ => rfl
  have FmW := fun_mk (st := sRW) mWl mWc mWk
  have bmW := FmW.binds (ps := ["self"]) fun _ _ _ _ _ _ us hl => match us, hl with | [_], _ => rfl
  have FmS := fun_mk (st := sRS) mSl mSc mSk
  have bmS := FmS.binds (ps := ["self"]) fun _ _ _ _ _ _ us hl => match us, hl with | [_], _ => rfl
  have FmT := fun_mk (st := sRT) mTl mTc mTk
  have bmT := FmT.binds (ps := ["self", "deep"]) fun _ _ _ _ _ _ us hl => match us, hl with | [_, _], _ => rfl
  have FmP := fun_mk (st := sRP) mPl mPc mPk
  have bmP := FmP.binds (ps := ["self", "deep"]) fun _ _ _ _ _ _ us hl => match us, hl with | [_, _], _ => rfl
  have M : RDefs K CR := ⟨_, _, FmI, bmI, ⟨r_mk, mIf, mIi, r_kc⟩, _, _, FmD, bmD, ⟨mDf, mDi, mDk⟩, _, _, FmW, bmW, ⟨mWf, mWi, mWk⟩, _, _, FmS, bmS, ⟨mSf, mSi, mSk⟩, _, _, FmT, bmT, ⟨mTf, mTi, mTk⟩, _, _, FmP, bmP, ⟨mPf, mPi, mPk⟩⟩
  have C : Cst mg := ⟨⟨_, PySem.W.mg_of X G cc_BYTES⟩, ⟨_, PySem.W.mg_of X G cc_MOST_DEEP⟩, ⟨_, PySem.W.mg_of X G cc_MOST_SIGNS⟩, ⟨_, PySem.W.mg_of X G cc_FROM_0_ON⟩, ⟨_, PySem.W.mg_of X G cc_BELOW_0⟩, ⟨_, PySem.W.mg_of X G cc_STRING⟩, ⟨_, PySem.W.mg_of X G cc_TUPLE⟩, ⟨_, PySem.W.mg_of X G cc_FIRST_SIGN⟩, ⟨_, PySem.W.mg_of X G cc_NO_SIGN⟩, ⟨_, PySem.W.mg_of X G cc_LAST_SIGN⟩, ⟨_, PySem.W.mg_of X G cc_MARK_FACTOR⟩, ⟨_, PySem.W.mg_of X G cc_MARKS⟩, ⟨_, PySem.W.mg_of X G cc_SEALS⟩, ⟨_, PySem.W.mg_of X G cc_SEAL_LENGTH⟩, ⟨_, PySem.W.mg_of X G sSB⟩, ⟨_, PySem.W.mg_of X G sSA⟩⟩
  have BA : Bare K mg := ⟨aBA, PySem.W.mg_of X G bBA, ⟨_, itBA, nuBA, lBA, rfl, rfl, Nat.le_trans zBA (by decide), vBA⟩, _, lBA, rfl, rfl⟩
  have FB0 := fun_mk (st := sPlace) wf wc wkf
  have BT : BTxt K mg CB fB _ := ⟨⟨⟨nmB, qB, NB, bsB, bmB, snB, subB, abB, colB, ddB, k0B, k1B, k2B, k3B, k5B, wl, wbm⟩, wsa, wb, wy, wk⟩, wi, wt, FB0, FB0.binds (ps := ["self", "place"]) (fun _ _ _ _ _ _ us hl => match us, hl with | [_, _], _ => rfl), wp, PySem.W.mg_of X G wN, exm_me wb wz wy ws, ⟨wga, wgg, wb, whd⟩⟩
  have XT : XTxt l.prog K mg CE Cn fn CB := ⟨SUn, PySem.W.mg_of X G xN_n, PySem.W.mg_of X G eN, exm_ot eb ez ey en, ⟨nga, ngg, xb_n, nhd, nac, hsp, htk, nmo⟩, ⟨wga, wgg, wb, whd, bac, hsp, htk, bmo⟩, xz_n, wz, kit_self, kit_ve xv_n, kit_cls ez ey eB, kit_ve vB, PySem.W.mg_none_of X G zn_ValueError⟩
  exact ⟨PySem.W.fnOf "law" "law" (defArgs sLaw) (defBody sLaw) (defScope sLaw) .none kV39 dc39 pm39 an39 cd39 ct39, fun s v => .of_eq rfl, fun base _ _ =>
    ok_law (fun_mk (st := sLaw) l39 c39 k39) B C BA T M BT XT D__law_first D__law_second A L⟩
theorem walk {l : PySem.W.OpenLaw} {q : Program} {loose : List Str} {XP : (Str → Option Value) → Heap → Prop} {YP : World → Heap → Prop} {d : DefRec} {K : Params → PySem.W.Frag} (hn : l.most = some 63) (hdf : d.params.defaults = [])
    (hY : ∀ (w : World) (h : Heap), YP w h → (K w.params).In h)
    (F : ∀ (w : World) (mg : Str → Option Value) (fa : Addr) (h : Heap), (K w.params).In h → h.Ns mainGlobals mg → mg d.name = some (.ref fa) →
      ∃ fd : FuncData, (∀ (s : Shared) (u : Value), BindsTo s fd ⟨[u], []⟩ [("script", u)]) ∧ ∀ base : Heap, (K w.params).In base → base.Ns mainGlobals mg → FnOk l.prog w (K w.params) mg base CX0 51 fa fd ["script"] (spLaw (K w.params))) :
    PySem.W.WalkO q loose XP YP l.row.toRowW d [] (fun f vs => PySem.call f vs) :=
  L2.walk_of (n := 63) (k := 51) (x := "script") (CX := fun _ => CX0) (sp := fun w => spLaw (K w.params)) hn (by decide) hdf ⟨rfl, by decide, by decide⟩ hY F (fun _ _ a ns hl _ hS => ⟨a, ns, rfl, hS, hl, fun _ => rfl⟩) fun _ _ _ _ _ z => z
end Q
open PySem PySem.W PyProof.Rows in
set_option maxRecDepth 100000 in
set_option maxHeartbeats 0 in
theorem PySem.Challenge.cw_sameround_k33_whole_rows_there_and_back_holds : PySem.Challenge.rw_sameround_k33_whole_rows_there_and_back.Holds := by
  w_on; o_law; k_head; (case hw => w_witness2)
  k_fill
  refine Q.walk (l := PySem.Challenge.rw_sameround_k33_whole_rows_there_and_back) rfl rfl (fun w h Y => PySem.W.kIn_of Y) ?F
  case F =>
    intro w mg fa h KX G hmg
    refine' Q.all_mk KX G hmg ?a0 ?l0 ?c0 ?k0 ?a1 ?l1 ?c1 ?k1 ?a2 ?l2 ?c2 ?k2 ?a3 ?l3 ?c3 ?k3 ?a4 ?l4 ?c4 ?k4 ?a5 ?l5 ?c5 ?k5 ?a6 ?l6 ?c6 ?k6 ?a7 ?l7 ?c7 ?k7 ?a8 ?l8 ?c8 ?k8 ?a9 ?l9 ?c9 ?k9 ?a10 ?l10 ?c10 ?k10 ?a11 ?l11 ?c11 ?k11 ?a12 ?l12 ?c12 ?k12 ?a13 ?l13 ?c13 ?k13 ?a14 ?l14 ?c14 ?k14 ?a15 ?l15 ?c15 ?k15 ?a16 ?l16 ?c16 ?k16 ?a17 ?l17 ?c17 ?k17 ?a18 ?l18 ?c18 ?k18 ?a19 ?l19 ?c19 ?k19 ?a20 ?l20 ?c20 ?k20 ?a21 ?l21 ?c21 ?k21 ?a22 ?l22 ?c22 ?k22 ?a23 ?l23 ?c23 ?k23 ?a24 ?l24 ?c24 ?k24 ?a25 ?l25 ?c25 ?k25 ?a26 ?l26 ?c26 ?k26 ?a27 ?l27 ?c27 ?k27 ?a28 ?l28 ?c28 ?k28 ?a29 ?l29 ?c29 ?k29 ?a30 ?l30 ?c30 ?k30 ?a31 ?l31 ?c31 ?k31 ?a32 ?l32 ?c32 ?k32 ?a33 ?l33 ?c33 ?k33 ?a34 ?l34 ?c34 ?k34 ?a35 ?l35 ?c35 ?k35 ?a36 ?l36 ?c36 ?k36 ?a37 ?l37 ?c37 ?k37 ?a38 ?l38 ?c38 ?k38 ?a39 ?l39 ?c39 ?k39 ?r_aC ?r_pg ?r_hd ?r_po ?r_sa ?r_mk ?r_kc ?r_n0 ?r_n1 ?mIf ?mIi ?mIl ?mIc ?mIk ?mDf ?mDi ?mDl ?mDc ?mDk ?mWf ?mWi ?mWl ?mWc ?mWk ?mSf ?mSi ?mSl ?mSc ?mSk ?mTf ?mTi ?mTl ?mTc ?mTk ?mPf ?mPi ?mPl ?mPc ?mPk ?sSB ?sSA ?bBA ?lBA ?zBA ?vBA ?wN ?wl ?wbm ?wi ?wt ?wk ?wb ?wy ?ws ?wz ?wsa ?wp ?wga ?wgg ?whd ?wf ?wc ?wkf ?eN ?eb ?ez ?ey ?en ?eB ?vB ?nga ?ngg ?nhd ?nac ?nmo ?bac ?bmo ?hsp ?htk ?cc_BYTES ?cc_MOST_DEEP ?cc_MOST_SIGNS ?cc_FROM_0_ON ?cc_BELOW_0 ?cc_STRING ?cc_TUPLE ?cc_FIRST_SIGN ?cc_NO_SIGN ?cc_LAST_SIGN ?cc_MARK_FACTOR ?cc_MARKS ?cc_SEALS ?cc_SEAL_LENGTH ?xN_n ?xl_n ?xi_n ?xt_n ?xk_n ?xb_n ?xv_n ?xy_n ?xm_n ?xs_n ?xz_n ?xsu_n ?xo_n ?xf_n ?xc_n ?xd_n ?xe_n ?xu_n ?yb_n ?yv_n ?yf_n ?yt_n ?yl_n ?zn_ValueError ?z_len ?z_int ?z_list ?z_range ?z_min ?z_tuple ?z_isinstance ?z_bool ?z_str ?z_repr ?z_sum ?z_abs ?z_ord ?z_reversed ?z_all ?z_zip
    (case a0 => k_is)
    (case l0 => k_is)
    (case c0 => k_is)
    (case k0 => k_is)
    (case a1 => k_is)
    (case l1 => k_is)
    (case c1 => k_is)
    (case k1 => k_is)
    (case a2 => k_is)
    (case l2 => k_is)
    (case c2 => k_is)
    (case k2 => k_is)
    (case a3 => k_is)
    (case l3 => k_is)
    (case c3 => k_is)
    (case k3 => k_is)
    (case a4 => k_is)
    (case l4 => k_is)
    (case c4 => k_is)
    (case k4 => k_is)
    (case a5 => k_is)
    (case l5 => k_is)
    (case c5 => k_is)
    (case k5 => k_is)
    (case a6 => k_is)
    (case l6 => k_is)
    (case c6 => k_is)
    (case k6 => k_is)
    (case a7 => k_is)
    (case l7 => k_is)
    (case c7 => k_is)
    (case k7 => k_is)
    (case a8 => k_is)
    (case l8 => k_is)
    (case c8 => k_is)
    (case k8 => k_is)
    (case a9 => k_is)
    (case l9 => k_is)
    (case c9 => k_is)
    (case k9 => k_is)
    (case a10 => k_is)
    (case l10 => k_is)
    (case c10 => k_is)
    (case k10 => k_is)
    (case a11 => k_is)
    (case l11 => k_is)
    (case c11 => k_is)
    (case k11 => k_is)
    (case a12 => k_is)
    (case l12 => k_is)
    (case c12 => k_is)
    (case k12 => k_is)
    (case a13 => k_is)
    (case l13 => k_is)
    (case c13 => k_is)
    (case k13 => k_is)
    (case a14 => k_is)
    (case l14 => k_is)
    (case c14 => k_is)
    (case k14 => k_is)
    (case a15 => k_is)
    (case l15 => k_is)
    (case c15 => k_is)
    (case k15 => k_is)
    (case a16 => k_is)
    (case l16 => k_is)
    (case c16 => k_is)
    (case k16 => k_is)
    (case a17 => k_is)
    (case l17 => k_is)
    (case c17 => k_is)
    (case k17 => k_is)
    (case a18 => k_is)
    (case l18 => k_is)
    (case c18 => k_is)
    (case k18 => k_is)
    (case a19 => k_is)
    (case l19 => k_is)
    (case c19 => k_is)
    (case k19 => k_is)
    (case a20 => k_is)
    (case l20 => k_is)
    (case c20 => k_is)
    (case k20 => k_is)
    (case a21 => k_is)
    (case l21 => k_is)
    (case c21 => k_is)
    (case k21 => k_is)
    (case a22 => k_is)
    (case l22 => k_is)
    (case c22 => k_is)
    (case k22 => k_is)
    (case a23 => k_is)
    (case l23 => k_is)
    (case c23 => k_is)
    (case k23 => k_is)
    (case a24 => k_is)
    (case l24 => k_is)
    (case c24 => k_is)
    (case k24 => k_is)
    (case a25 => k_is)
    (case l25 => k_is)
    (case c25 => k_is)
    (case k25 => k_is)
    (case a26 => k_is)
    (case l26 => k_is)
    (case c26 => k_is)
    (case k26 => k_is)
    (case a27 => k_is)
    (case l27 => k_is)
    (case c27 => k_is)
    (case k27 => k_is)
    (case a28 => k_is)
    (case l28 => k_is)
    (case c28 => k_is)
    (case k28 => k_is)
    (case a29 => k_is)
    (case l29 => k_is)
    (case c29 => k_is)
    (case k29 => k_is)
    (case a30 => k_is)
    (case l30 => k_is)
    (case c30 => k_is)
    (case k30 => k_is)
    (case a31 => k_is)
    (case l31 => k_is)
    (case c31 => k_is)
    (case k31 => k_is)
    (case a32 => k_is)
    (case l32 => k_is)
    (case c32 => k_is)
    (case k32 => k_is)
    (case a33 => k_is)
    (case l33 => k_is)
    (case c33 => k_is)
    (case k33 => k_is)
    (case a34 => k_is)
    (case l34 => k_is)
    (case c34 => k_is)
    (case k34 => k_is)
    (case a35 => k_is)
    (case l35 => k_is)
    (case c35 => k_is)
    (case k35 => k_is)
    (case a36 => k_is)
    (case l36 => k_is)
    (case c36 => k_is)
    (case k36 => k_is)
    (case a37 => k_is)
    (case l37 => k_is)
    (case c37 => k_is)
    (case k37 => k_is)
    (case a38 => k_is)
    (case l38 => k_is)
    (case c38 => k_is)
    (case k38 => k_is)
    (case a39 => k_is)
    (case l39 => k_is)
    (case c39 => k_is)
    (case k39 => k_is)
    (case r_aC => k_is)
    (case r_pg => k_is)
    (case r_hd => k_is)
    (case r_po => k_is)
    (case r_sa => k_is)
    (case r_mk => k_is)
    (case r_kc => k_is)
    (case r_n0 => k_is)
    (case r_n1 => k_is)
    (case mIf => k_is)
    (case mIi => k_is)
    (case mIl => k_is)
    (case mIc => k_is)
    (case mIk => k_is)
    (case mDf => k_is)
    (case mDi => k_is)
    (case mDl => k_is)
    (case mDc => k_is)
    (case mDk => k_is)
    (case mWf => k_is)
    (case mWi => k_is)
    (case mWl => k_is)
    (case mWc => k_is)
    (case mWk => k_is)
    (case mSf => k_is)
    (case mSi => k_is)
    (case mSl => k_is)
    (case mSc => k_is)
    (case mSk => k_is)
    (case mTf => k_is)
    (case mTi => k_is)
    (case mTl => k_is)
    (case mTc => k_is)
    (case mTk => k_is)
    (case mPf => k_is)
    (case mPi => k_is)
    (case mPl => k_is)
    (case mPc => k_is)
    (case mPk => k_is)
    (case sSB => k_is)
    (case sSA => k_is)
    (case bBA => k_is)
    (case lBA => k_is)
    (case zBA => decide)
    (case vBA => (repeat (first | exact .nil | refine .cons rfl ?_)))
    (case wN => k_is)
    (case wl => k_is)
    (case wbm => decide +kernel)
    (case wi => k_is)
    (case wt => k_is)
    (case wk => k_is)
    (case wb => k_is)
    (case wy => k_is)
    (case ws => k_is)
    (case wz => k_is)
    (case wsa => k_is)
    (case wp => k_is)
    (case wga => k_is)
    (case wgg => k_is)
    (case whd => k_is)
    (case wf => k_is)
    (case wc => k_is)
    (case wkf => k_is)
    (case eN => k_is)
    (case eb => k_is)
    (case ez => k_is)
    (case ey => k_is)
    (case eB => k_is)
    (case vB => k_is)
    (case bac => k_is)
    (case bmo => k_is)
    (case hsp => k_is)
    (case htk => k_is)
    (case cc_BYTES => k_is)
    (case cc_MOST_DEEP => k_is)
    (case cc_MOST_SIGNS => k_is)
    (case cc_FROM_0_ON => k_is)
    (case cc_BELOW_0 => k_is)
    (case cc_STRING => k_is)
    (case cc_TUPLE => k_is)
    (case cc_FIRST_SIGN => k_is)
    (case cc_NO_SIGN => k_is)
    (case cc_LAST_SIGN => k_is)
    (case cc_MARK_FACTOR => k_is)
    (case cc_MARKS => k_is)
    (case cc_SEALS => k_is)
    (case cc_SEAL_LENGTH => k_is)
    (case xN_n => k_is)
    (case xl_n => k_is)
    (case xi_n => k_is)
    (case xt_n => k_is)
    (case xk_n => k_is)
    (case xb_n => k_is)
    (case xv_n => k_is)
    (case xy_n => k_is)
    (case xm_n => k_is)
    (case xs_n => k_is)
    (case xz_n => k_is)
    (case xsu_n => k_is)
    (case xo_n => k_is)
    (case xf_n => k_is)
    (case xc_n => k_is)
    (case xd_n => k_is)
    (case xe_n => k_is)
    (case xu_n => ks_is)
    (case yb_n => decide +kernel)
    (case yv_n => rfl)
    (case yf_n => decide +kernel)
    (case yt_n => decide +kernel)
    (case yl_n => decide +kernel)
    (case zn_ValueError => k_is)
    (case z_len => k_is)
    (case z_int => k_is)
    (case z_list => k_is)
    (case z_range => k_is)
    (case z_min => k_is)
    (case z_tuple => k_is)
    (case z_isinstance => k_is)
    (case z_bool => k_is)
    (case z_str => k_is)
    (case z_repr => k_is)
    (case z_sum => k_is)
    (case z_abs => k_is)
    (case z_ord => k_is)
    (case z_reversed => k_is)
    (case z_all => k_is)
    (case z_zip => k_is)
    (case en => k_is)
    (case nga => k_is)
    (case ngg => k_is)
    (case nhd => k_is)
    (case nac => k_is)
    (case nmo => k_is)

