import PyProof.Rows.All
import Wide.All
import OpenK.AllK
import Wide.FinOn
import HandS.ForMost
import HandS.ForExc
import HandS.Codes
import HandS.TupSets
import HandS.TupLe
import HandS.TupAny
import HandS.IsInst
import HandS.Wide
import HandS.ExcInit
import HandS.ExcField
import HandS.Zip
import HandS.Walk
import HandS.Rev
import HandS.RaiseMore
import HandS.Style
import HandS.Strs
import HandS.TryOnly
import HandS.CallSlots
import HandS.TupMul
import KE.KExcSuper
import KE.RegKSuper
import HandS.ExcIs
import KE.KIsAll
import KE.KExcIs
import HandS.HotCalls
import HandS.SortInts
import KE.GoesEnumKw
import KE.GoesMore
import KE.KDictList
import KE.KItemsList
import PyProof.CollectWalk
import PyProof.Draws
import HandS.ListItems
import HandS.DictTup
import HandS.DictSubView
import HandS.Conv
import KE.KDictWalk
import HandS.Dict
import PyProof.AttrMissHeap
import PyProof.TupleIter
import PySem.Challenge.RW_sameround_k32_whole_links_and_their_stat
set_option Elab.async false
set_option linter.all false
set_option maxRecDepth 100000
set_option maxHeartbeats 8000000
namespace QR
/-- parcels, written and read: the mathematics alone -/
inductive T where
  | non
  | bl (b : Bool)
  | int (i : Int)
  | str (z : List Nat)
  | tup (l : List T)
inductive R where
  | ok (t : T) (h : Nat)
  | no (p : Nat)
def isSg (b : Int) : Bool := decide (32 ≤ b) && decide (b ≤ 126) && !decide (b = 37)
def vlq (n : Nat) : List Int := if n < 128 then [(n : Int)] else ((128 + n % 128 : Nat) : Int) :: vlq (n / 128)
termination_by n
decreasing_by omega
theorem vlq_lt {n : Nat} (h : n < 128) : vlq n = [(n : Int)] := by rw [vlq, if_pos h]
theorem vlq_ge {n : Nat} (h : ¬ n < 128) : vlq n = ((128 + n % 128 : Nat) : Int) :: vlq (n / 128) := by rw [vlq, if_neg h]
def encA : T → List Int
  | .non => [0]
  | .bl b => [if b = true then 2 else 1]
  | .int i => if 0 ≤ i then 3 :: vlq i.toNat else 4 :: vlq (-1 - i).toNat
  | .str z => 5 :: (vlq z.length ++ z.map fun c : Nat => (c : Int))
  | .tup _ => []
def enc : Nat → T → List Int
  | 0, t => encA t
  | d + 1, t => match t with
    | .tup l => 6 :: (vlq l.length ++ (l.map (enc d)).flatten)
    | t => encA t
def okA : T → Prop
  | .str z => 1 ≤ z.length ∧ z.length ≤ 20 ∧ ∀ c ∈ z, isSg (c : Int) = true
  | .tup _ => False
  | _ => True
def OkT : Nat → T → Prop
  | 0, t => okA t
  | d + 1, t => match t with
    | .tup l => ∀ t ∈ l, OkT d t
    | t => okA t
theorem OkT.more {d : Nat} : ∀ {t : T}, OkT d t → OkT (d + 1) t := by
  induction d with
  | zero => intro t h; cases t <;> first | exact h | exact h.elim
  | succ d ih => intro t h; cases t with
    | tup l => exact fun t ht => ih (h t ht)
    | _ => exact h
theorem OkT.enc {d : Nat} : ∀ {t : T}, OkT d t → enc (d + 1) t = enc d t := by
  induction d with
  | zero => intro t h; cases t <;> first | rfl | exact h.elim
  | succ d ih => intro t h; cases t with
    | tup l =>
      show 6 :: (vlq l.length ++ (l.map (QR.enc (d + 1))).flatten) = 6 :: (vlq l.length ++ (l.map (QR.enc d)).flatten)
      rw [List.map_congr_left fun t ht => ih (h t ht)]
    | _ => rfl
theorem OkT.up {d : Nat} {t : T} (h : OkT d t) : ∀ k, OkT (d + k) t ∧ QR.enc (d + k) t = QR.enc d t
  | 0 => ⟨h, rfl⟩
  | k + 1 => by
    obtain ⟨h1, h2⟩ := h.up k
    exact ⟨h1.more, h1.enc.trans h2⟩
/-! ### whole numbers -/
def scan : List Int → Nat
  | [] => 0
  | b :: l => if 128 ≤ b then scan l + 1 else 0
def val (l : List Int) : Int := l.foldr (fun b n => n * 128 + b % 128) 0
theorem val_cons (b : Int) (l : List Int) : val (b :: l) = val l * 128 + b % 128 := rfl
theorem val_nn : ∀ l, 0 ≤ val l
  | [] => Int.le_refl _
  | b :: l => by
    rw [val_cons]
    have := val_nn l
    have := Int.emod_nonneg b (show (128 : Int) ≠ 0 by decide)
    omega
theorem scan_le : ∀ l, scan l ≤ l.length
  | [] => Nat.le_refl _
  | b :: l => by
    unfold scan
    have := scan_le l
    split
    · rw [List.length_cons]; omega
    · exact Nat.zero_le _
theorem scan_big : ∀ {l : List Int} {i : Nat}, i < scan l → ∃ b, l[i]? = some b ∧ 128 ≤ b
  | [], i, h => absurd h (by simp [scan])
  | b :: l, i, h => by
    unfold scan at h
    split at h
    · rename_i c
      cases i with
      | zero => exact ⟨b, rfl, c⟩
      | succ i => exact scan_big (l := l) (by omega)
    · omega
theorem scan_at : ∀ {l : List Int} {b : Int}, l[scan l]? = some b → b < 128
  | [], b, h => by simp [scan] at h
  | a :: l, b, h => by
    unfold scan at h
    split at h
    · exact scan_at (l := l) (by simpa using h)
    · rename_i c
      have : a = b := by simpa using h
      omega
/-- what is the first small one -/
theorem scan_is : ∀ {l : List Int} {i : Nat}, i ≤ l.length → (∀ k, k < i → ∃ b, l[k]? = some b ∧ 128 ≤ b) → (∀ b, l[i]? = some b → b < 128) → scan l = i
  | [], i, h, _, _ => by
    have : i = 0 := by simpa using h
    rw [this]; rfl
  | b :: l, 0, _, _, h => by
    have := h b rfl
    unfold scan
    rw [if_neg (by omega)]
  | b :: l, i + 1, hl, hb, h => by
    obtain ⟨b', e, c⟩ := hb 0 (by omega)
    have e : b = b' := by simpa using e
    unfold scan
    rw [if_pos (by omega), scan_is (l := l) (i := i) (by simpa using hl) (fun k hk => hb (k + 1) (by omega)) (fun b hb' => h b hb')]
/-- a whole number from place a on: its value, and the place behind it -/
def rdW (r : List Int) (a : Nat) : Option (Int × Nat) :=
  match r[a + scan (r.drop a)]? with
  | none => none
  | some b => if b = 0 ∧ 0 < scan (r.drop a) then none else some (val ((r.drop a).take (scan (r.drop a) + 1)), a + scan (r.drop a) + 1)
theorem rdW_nn {r : List Int} {a h : Nat} {n : Int} (e : rdW r a = some (n, h)) : 0 ≤ n ∧ a < h ∧ h ≤ r.length := by
  unfold rdW at e
  split at e
  · cases e
  · rename_i b hb
    have := (List.getElem?_eq_some_iff.mp hb).1
    split at e
    · cases e
    · cases e
      exact ⟨val_nn _, by omega, by omega⟩
theorem vlq_len (n : Nat) : 0 < (vlq n).length := by
  rw [vlq]
  split <;> simp
theorem vlq_fact : ∀ (n : Nat) (post : List Int), scan (vlq n ++ post) + 1 = (vlq n).length ∧ (∃ b, (vlq n ++ post)[scan (vlq n ++ post)]? = some b ∧ (b = 0 → n = 0)) ∧ val (vlq n) = (n : Int) := by
  intro n
  induction n using Nat.strongRecOn with
  | _ n ih =>
    intro post
    by_cases c : n < 128
    · rw [vlq_lt c]
      have e : scan ([(n : Int)] ++ post) = 0 := by
        show scan ((n : Int) :: post) = 0
        unfold scan
        rw [if_neg (by omega)]
      refine ⟨by rw [e]; rfl, ⟨n, by rw [e]; rfl, fun z => by omega⟩, ?_⟩
      show (0 : Int) * 128 + (n : Int) % 128 = n
      omega
    · obtain ⟨h1, ⟨b, h2, h3⟩, h4⟩ := ih (n / 128) (by omega) post
      rw [vlq_ge c]
      have e : scan (((128 + n % 128 : Nat) : Int) :: vlq (n / 128) ++ post) = scan (vlq (n / 128) ++ post) + 1 := by
        show scan (((128 + n % 128 : Nat) : Int) :: (vlq (n / 128) ++ post)) = _
        rw [scan, if_pos (by omega)]
      refine ⟨by rw [e, h1]; rfl, ⟨b, by rw [e]; exact h2, fun z => by have := h3 z; omega⟩, ?_⟩
      rw [val_cons, h4]
      omega
theorem rdW_vlq (pre post : List Int) (n : Nat) : rdW (pre ++ (vlq n ++ post)) pre.length = some ((n : Int), pre.length + (vlq n).length) := by
  obtain ⟨h1, ⟨b, h2, h3⟩, h4⟩ := vlq_fact n post
  have ed : (pre ++ (vlq n ++ post)).drop pre.length = vlq n ++ post := List.drop_left
  unfold rdW
  rw [ed, List.getElem?_append_right (by omega), Nat.add_sub_cancel_left, h2]
  show (if b = 0 ∧ 0 < scan (vlq n ++ post) then none else some (val ((vlq n ++ post).take (scan (vlq n ++ post) + 1)), pre.length + scan (vlq n ++ post) + 1)) = _
  rw [h1, if_neg]
  · rw [List.take_left, h4]
    rw [Nat.add_assoc, h1]
  · rintro ⟨z, y⟩
    have := h3 z
    subst this
    have : (vlq 0).length = 1 := by rw [vlq_lt (by decide)]; rfl
    omega
/-! ### signs, tuples, parcels -/
def rdS (r : List Int) : Nat → Nat → List Nat → R
  | 0, h, acc => .ok (.str acc) h
  | m + 1, h, acc => match r[h]? with
    | none => .no h
    | some b => if isSg b = true then rdS r m (h + 1) (acc ++ [b.toNat]) else .no h
def rdL (f : Nat → R) : Nat → Nat → Nat → List T → R
  | _, 0, h, acc => .ok (.tup acc) h
  | 0, _ + 1, h, _ => .no h
  | k + 1, m + 1, h, acc => match f h with
    | .no p => .no p
    | .ok t h' => rdL f k m h' (acc ++ [t])
def rdB (r : List Int) (g : Nat → Nat → R) (s : Int) (a : Nat) : R := match rdW r (a + 1) with
  | none => .no (a + 1)
  | some (n, h) => if s = 3 then .ok (.int n) h else if s = 4 then .ok (.int (-1 - n)) h else if s = 5 then (if 1 ≤ n ∧ n ≤ 20 then rdS r n.toNat h [] else .no (a + 1)) else g n.toNat h
def rdG (r : List Int) (g : Nat → Nat → R) (z : Bool) (a : Nat) : R := match r[a]? with
  | none => .no a
  | some s => if 6 < s ∨ (s = 6 ∧ z = true) then .no a else if s = 0 then .ok .non (a + 1) else if s = 1 then .ok (.bl false) (a + 1) else if s = 2 then .ok (.bl true) (a + 1) else rdB r g s a
def rdP (r : List Int) : Nat → Nat → R
  | 0 => rdG r (fun _ h => .no h) true
  | d + 1 => rdG r (fun n h => rdL (rdP r d) (r.length + 1) n h []) false
def Fwd (r : List Int) (a : Nat) (x : R) : Prop := ∀ t h, x = .ok t h → a < h ∧ h ≤ r.length
theorem rdS_fwd {r : List Int} : ∀ (m h : Nat) (acc : List Nat) {a : Nat}, a < h → h ≤ r.length → Fwd r a (rdS r m h acc)
  | 0, h, acc, a, h1, h2 => fun t h' e => by cases e; exact ⟨h1, h2⟩
  | m + 1, h, acc, a, h1, h2 => by
    unfold rdS
    split
    · exact fun t h' e => by cases e
    · rename_i b hb
      have := (List.getElem?_eq_some_iff.mp hb).1
      split
      · exact rdS_fwd m (h + 1) _ (by omega) (by omega)
      · exact fun t h' e => by cases e
theorem rdL_fwd {r : List Int} {f : Nat → R} (hf : ∀ a, Fwd r a (f a)) : ∀ (k m h : Nat) (acc : List T) {a : Nat}, a < h → h ≤ r.length → Fwd r a (rdL f k m h acc)
  | k, 0, h, acc, a, h1, h2 => fun t h' e => by
    have e : R.ok (.tup acc) h = .ok t h' := by cases k <;> exact e
    cases e; exact ⟨h1, h2⟩
  | 0, m + 1, h, acc, a, h1, h2 => fun t h' e => by cases e
  | k + 1, m + 1, h, acc, a, h1, h2 => by
    unfold rdL
    split
    · exact fun t h' e => by cases e
    · rename_i t h' e
      obtain ⟨z1, z2⟩ := hf h t h' e
      exact rdL_fwd hf k m h' _ (by omega) z2
theorem rdG_fwd {r : List Int} {g : Nat → Nat → R} {z : Bool} {a : Nat} (hg : ∀ n h, a < h → h ≤ r.length → Fwd r a (g n h)) : Fwd r a (rdG r g z a) := by
  unfold rdG
  split
  · exact fun t h e => by cases e
  · rename_i s hs
    have hl := (List.getElem?_eq_some_iff.mp hs).1
    have one : ∀ {t' : T}, Fwd r a (.ok t' (a + 1)) := fun {t'} t h e => by cases e; exact ⟨by omega, by omega⟩
    split
    · exact fun t h e => by cases e
    split
    · exact one
    split
    · exact one
    split
    · exact one
    unfold rdB
    split
    · exact fun t h e => by cases e
    · rename_i n h hw
      obtain ⟨w1, w2, w3⟩ := rdW_nn hw
      have two : ∀ {t' : T}, Fwd r a (.ok t' h) := fun {t'} t h e => by cases e; exact ⟨by omega, w3⟩
      split
      · exact two
      split
      · exact two
      split
      · split
        · exact rdS_fwd _ _ _ (by omega) w3
        · exact fun t h e => by cases e
      · exact hg _ _ (by omega) w3
theorem rdP_fwd {r : List Int} : ∀ (d a : Nat), Fwd r a (rdP r d a)
  | 0, a => rdG_fwd fun n h _ _ t h' e => by cases e
  | d + 1, a => rdG_fwd fun n h h1 h2 => rdL_fwd (rdP_fwd d) _ _ _ _ h1 h2
/-! ### there and back -/
theorem at_pre {pre post : List Int} {b : Int} : (pre ++ b :: post)[pre.length]? = some b := by
  rw [List.getElem?_append_right (Nat.le_refl _), Nat.sub_self]
  rfl
theorem at_pre2 {pre l post : List Int} {b : Int} : (pre ++ (b :: l ++ post))[pre.length]? = some b := at_pre
theorem rdS_enc {pre post : List Int} : ∀ (z : List Nat) (pre : List Int) (acc : List Nat), (∀ c ∈ z, isSg (c : Int) = true) →
    rdS (pre ++ ((z.map fun c : Nat => (c : Int)) ++ post)) z.length pre.length acc = .ok (.str (acc ++ z)) (pre.length + z.length)
  | [], pre, acc, _ => by
    show R.ok (.str acc) pre.length = _
    rw [List.append_nil]
    rfl
  | c :: z, pre, acc, h => by
    have ih := rdS_enc (post := post) (pre := pre) z (pre ++ [(c : Int)]) (acc ++ [c]) (fun x hx => h x (List.mem_cons_of_mem _ hx))
    show rdS (pre ++ ((c : Int) :: ((z.map fun c : Nat => (c : Int)) ++ post))) (z.length + 1) pre.length acc = _
    unfold rdS
    rw [at_pre]
    show (if isSg (c : Int) = true then _ else _) = _
    rw [if_pos (h c List.mem_cons_self), Int.toNat_natCast]
    rw [List.append_assoc, List.length_append] at ih
    have e : pre ++ ([(c : Int)] ++ ((z.map fun c : Nat => (c : Int)) ++ post)) = pre ++ ((c : Int) :: ((z.map fun c : Nat => (c : Int)) ++ post)) := rfl
    rw [e] at ih
    refine ih.trans ?_
    rw [List.append_assoc]
    show R.ok (.str (acc ++ (c :: z))) (pre.length + 1 + z.length) = R.ok _ (pre.length + (z.length + 1))
    congr 1
    omega
theorem enc_pos : ∀ {d : Nat} {t : T}, OkT d t → 0 < (enc d t).length
  | 0, t, h => by
    cases t with
    | tup l => exact h.elim
    | int i => show 0 < (if 0 ≤ i then _ else _ : List Int).length; split <;> simp
    | _ => simp [enc, encA]
  | d + 1, t, h => by
    cases t with
    | tup l => simp [enc]
    | int i => show 0 < (if 0 ≤ i then _ else _ : List Int).length; split <;> simp
    | _ => simp [enc, encA]
theorem flat_len {d : Nat} : ∀ {l : List T}, (∀ t ∈ l, OkT d t) → l.length ≤ ((l.map (enc d)).flatten).length
  | [], _ => Nat.le_refl _
  | t :: l, h => by
    have := flat_len (l := l) fun x hx => h x (List.mem_cons_of_mem _ hx)
    have := enc_pos (h t List.mem_cons_self)
    rw [List.map_cons, List.flatten_cons, List.length_append, List.length_cons]
    omega
theorem rdL_enc {d : Nat} {post : List Int} (H : ∀ t, OkT d t → ∀ pre post : List Int, rdP (pre ++ (enc d t ++ post)) d pre.length = .ok t (pre.length + (enc d t).length)) :
    ∀ (l : List T) (pre : List Int) (k : Nat) (acc : List T), (∀ t ∈ l, OkT d t) → l.length ≤ k →
      rdL (rdP (pre ++ ((l.map (enc d)).flatten ++ post)) d) k l.length pre.length acc = .ok (.tup (acc ++ l)) (pre.length + ((l.map (enc d)).flatten).length)
  | [], pre, k, acc, _, _ => by
    rw [List.append_nil]
    cases k <;> rfl
  | t :: l, pre, 0, acc, _, hk => by simp at hk
  | t :: l, pre, k + 1, acc, h, hk => by
    have ih := rdL_enc (post := post) H l (pre ++ enc d t) k (acc ++ [t]) (fun x hx => h x (List.mem_cons_of_mem _ hx)) (by simpa using hk)
    have e : pre ++ (((t :: l).map (enc d)).flatten ++ post) = pre ++ (enc d t ++ ((l.map (enc d)).flatten ++ post)) := by
      rw [List.map_cons, List.flatten_cons, List.append_assoc]
    rw [e]
    show (match rdP (pre ++ (enc d t ++ ((l.map (enc d)).flatten ++ post))) d pre.length with
      | .no p => R.no p
      | .ok t' h' => rdL (rdP (pre ++ (enc d t ++ ((l.map (enc d)).flatten ++ post))) d) k l.length h' (acc ++ [t'])) = _
    rw [H t (h t List.mem_cons_self)]
    rw [List.append_assoc, List.length_append] at ih
    refine ih.trans ?_
    rw [List.append_assoc, List.map_cons, List.flatten_cons, List.length_append, Nat.add_assoc]
    rfl
theorem rdG_s {r : List Int} {g : Nat → Nat → R} {z : Bool} {a : Nat} {s : Int} (h : r[a]? = some s) (h1 : ¬ (6 < s ∨ (s = 6 ∧ z = true))) (h2 : 2 < s) : rdG r g z a = rdB r g s a := by
  unfold rdG
  rw [h]
  show (if 6 < s ∨ (s = 6 ∧ z = true) then _ else _) = _
  rw [if_neg h1, if_neg (by omega), if_neg (by omega), if_neg (by omega)]
theorem rdG_encA {t : T} (ok : okA t) {g : Nat → Nat → R} {z : Bool} (pre post : List Int) : rdG (pre ++ (encA t ++ post)) g z pre.length = .ok t (pre.length + (encA t).length) := by
  have step : ∀ (s : Int) (l : List Int), pre ++ (s :: l ++ post) = (pre ++ [s]) ++ (l ++ post) := fun s l => by
    rw [List.append_assoc]
    rfl
  have ln : ∀ s : Int, (pre ++ [s]).length = pre.length + 1 := fun s => by rw [List.length_append]; rfl
  cases t with
  | tup l => exact ok.elim
  | non =>
    unfold rdG
    show (match (pre ++ (0 :: post))[pre.length]? with | none => _ | some s => _) = _
    rw [at_pre]
    rfl
  | bl b =>
    unfold rdG
    show (match (pre ++ ((if b = true then 2 else 1) :: post))[pre.length]? with | none => _ | some s => _) = _
    rw [at_pre]
    cases b <;> rfl
  | int i =>
    by_cases c : 0 ≤ i
    · have e : encA (.int i) = 3 :: vlq i.toNat := if_pos c
      rw [e, rdG_s (s := 3) at_pre2 (by omega) (by omega), step]
      unfold rdB
      have w := rdW_vlq (pre ++ [3]) post i.toNat
      rw [ln] at w
      rw [w]
      show R.ok (.int ((i.toNat : Nat) : Int)) _ = _
      rw [Int.toNat_of_nonneg c]
      show R.ok _ _ = R.ok _ _
      rw [List.length_cons]
      congr 1
      omega
    · have e : encA (.int i) = 4 :: vlq (-1 - i).toNat := if_neg c
      rw [e, rdG_s (s := 4) at_pre2 (by omega) (by omega), step]
      unfold rdB
      have w := rdW_vlq (pre ++ [4]) post (-1 - i).toNat
      rw [ln] at w
      rw [w]
      show R.ok (.int (-1 - (((-1 - i).toNat : Nat) : Int))) _ = _
      rw [Int.toNat_of_nonneg (by omega), show (-1 - (-1 - i) : Int) = i by omega]
      show R.ok _ _ = R.ok _ _
      rw [List.length_cons]
      congr 1
      omega
  | str zz =>
    obtain ⟨l1, l2, sg⟩ := ok
    have e : encA (.str zz) = 5 :: (vlq zz.length ++ zz.map fun c : Nat => (c : Int)) := rfl
    rw [e, rdG_s (s := 5) at_pre2 (by omega) (by omega), step]
    unfold rdB
    have w := rdW_vlq (pre ++ [5]) ((zz.map fun c : Nat => (c : Int)) ++ post) zz.length
    rw [ln] at w
    rw [List.append_assoc (vlq zz.length), w]
    show (if 1 ≤ ((zz.length : Nat) : Int) ∧ ((zz.length : Nat) : Int) ≤ 20 then rdS _ ((zz.length : Nat) : Int).toNat _ [] else _) = _
    rw [if_pos (by omega), Int.toNat_natCast]
    have s := rdS_enc (post := post) (pre := pre) zz ((pre ++ [5]) ++ vlq zz.length) [] sg
    rw [List.append_assoc (pre ++ [5]), List.length_append, ln] at s
    rw [s, List.nil_append]
    show R.ok _ _ = R.ok _ _
    rw [List.length_cons, List.length_append, List.length_map]
    congr 1
    omega
theorem rdP_enc : ∀ (d : Nat) (t : T), OkT d t → ∀ pre post : List Int, rdP (pre ++ (enc d t ++ post)) d pre.length = .ok t (pre.length + (enc d t).length)
  | 0, t, h, pre, post => rdG_encA h pre post
  | d + 1, t, h, pre, post => by
    have atom : okA t → enc (d + 1) t = encA t → rdP (pre ++ (enc (d + 1) t ++ post)) (d + 1) pre.length = .ok t (pre.length + (enc (d + 1) t).length) := fun ok e => by
      rw [e]
      exact rdG_encA ok pre post
    cases t with
    | tup l =>
      have e : enc (d + 1) (.tup l) = 6 :: (vlq l.length ++ (l.map (enc d)).flatten) := rfl
      have hl : ∀ t ∈ l, OkT d t := h
      have ln : (pre ++ [(6 : Int)]).length = pre.length + 1 := by rw [List.length_append]; rfl
      have step : pre ++ (enc (d + 1) (.tup l) ++ post) = (pre ++ [6]) ++ (vlq l.length ++ ((l.map (enc d)).flatten ++ post)) := by
        rw [e, List.append_assoc]
        show pre ++ (6 :: (vlq l.length ++ (l.map (enc d)).flatten ++ post)) = pre ++ (6 :: (vlq l.length ++ ((l.map (enc d)).flatten ++ post)))
        rw [List.append_assoc]
      have step2 : (pre ++ [6]) ++ (vlq l.length ++ ((l.map (enc d)).flatten ++ post)) = ((pre ++ [6]) ++ vlq l.length) ++ ((l.map (enc d)).flatten ++ post) := by
        rw [List.append_assoc (pre ++ [6])]
      have fl := flat_len hl
      have L := rdL_enc (post := post) (rdP_enc d) l ((pre ++ [6]) ++ vlq l.length) (((pre ++ [6]) ++ (vlq l.length ++ ((l.map (enc d)).flatten ++ post))).length + 1) [] hl (by
        rw [List.length_append, List.length_append (as := vlq l.length), List.length_append (as := (l.map (enc d)).flatten)]
        omega)
      have ln2 : ((pre ++ [(6 : Int)]) ++ vlq l.length).length = pre.length + 1 + (vlq l.length).length := by rw [List.length_append, ln]
      rw [← step2, ln2, List.nil_append] at L
      show rdG _ _ false pre.length = _
      have a6 : (pre ++ (enc (d + 1) (.tup l) ++ post))[pre.length]? = some 6 := at_pre
      rw [rdG_s a6 (by rintro (z | ⟨_, z⟩); exact absurd z (by decide); cases z) (by decide), step]
      unfold rdB
      have w := rdW_vlq (pre ++ [6]) ((l.map (enc d)).flatten ++ post) l.length
      rw [ln] at w
      rw [w]
      show rdL _ _ ((l.length : Nat) : Int).toNat _ [] = _
      rw [Int.toNat_natCast, L, e]
      show R.ok _ _ = R.ok _ _
      rw [List.length_cons, List.length_append (as := vlq l.length)]
      congr 1
      omega
    | non => exact atom trivial rfl
    | bl b => exact atom trivial rfl
    | int i => exact atom trivial rfl
    | str z => exact atom h rfl
/-! ### marks, seals -/
def mkF (bs : List Int) : Int := bs.foldl (fun n b => (n * 1000003 + b + 1) % 2305843009213693951) 1
theorem mkF_snoc (bs : List Int) (b : Int) : mkF (bs ++ [b]) = (mkF bs * 1000003 + b + 1) % 2305843009213693951 := by
  unfold mkF
  rw [List.foldl_append]
  rfl
theorem mkF_b (bs : List Int) : 0 ≤ mkF bs ∧ mkF bs < 2305843009213693951 := by
  rcases List.eq_nil_or_concat bs with rfl | ⟨l, b, rfl⟩
  · exact ⟨by decide, by decide⟩
  · rw [List.concat_eq_append, mkF_snoc]
    exact ⟨Int.emod_nonneg _ (by decide), Int.emod_lt_of_pos _ (by decide)⟩
def sealL (bs : List Int) : List Int := [mkF bs % 4294967296 % 256, mkF bs % 4294967296 / 256 % 256, mkF bs % 4294967296 / 65536 % 256, mkF bs % 4294967296 / 16777216 % 256]
theorem sealL_b {bs : List Int} : ∀ b ∈ sealL bs, 0 ≤ b ∧ b < 256 := by
  intro b hb
  unfold sealL at hb
  simp only [List.mem_cons, List.not_mem_nil, or_false] at hb
  rcases hb with rfl | rfl | rfl | rfl <;> exact ⟨Int.emod_nonneg _ (by decide), Int.emod_lt_of_pos _ (by decide)⟩
def rdAll (r : List Int) : R := match rdP r 20 0 with
  | .ok t h => if h = r.length then .ok t h else .no h
  | .no p => .no p
def unsT (r : List Int) : T := if 4 ≤ r.length ∧ r.drop (r.length - 4) = sealL (r.take (r.length - 4)) then
    match rdAll (r.take (r.length - 4)) with
    | .ok t _ => .tup [t]
    | .no _ => .tup []
  else .tup []
theorem rdAll_enc {t : T} (h : OkT 20 t) : rdAll (enc 20 t) = .ok t (enc 20 t).length := by
  have := rdP_enc 20 t h [] []
  rw [List.nil_append, List.append_nil] at this
  unfold rdAll
  rw [show (0 : Nat) = ([] : List Int).length from rfl, this]
  show (if ([] : List Int).length + (enc 20 t).length = (enc 20 t).length then _ else _) = _
  rw [if_pos (by simp)]
  congr 1
  simp
theorem unsT_sealed {t : T} (h : OkT 20 t) : unsT (enc 20 t ++ sealL (enc 20 t)) = .tup [t] := by
  have l4 : (sealL (enc 20 t)).length = 4 := rfl
  have e : (enc 20 t ++ sealL (enc 20 t)).length - 4 = (enc 20 t).length := by rw [List.length_append, l4]; omega
  unfold unsT
  rw [e, List.drop_left, List.take_left, if_pos ⟨by rw [List.length_append, l4]; omega, rfl⟩, rdAll_enc h]
/-! ### how long -/
theorem vlq_small : ∀ (k n : Nat), n < 128 ^ (k + 1) → (vlq n).length ≤ k + 1
  | 0, n, h => by
    rw [vlq_lt (by simpa using h)]
    simp
  | k + 1, n, h => by
    by_cases c : n < 128
    · rw [vlq_lt c]; simp
    · rw [vlq_ge c, List.length_cons]
      have := vlq_small k (n / 128) (Nat.div_lt_of_lt_mul (by rw [Nat.pow_succ, Nat.mul_comm] at h; exact h))
      omega
theorem vlq_b : ∀ (n : Nat), ∀ b ∈ vlq n, 0 ≤ b ∧ b < 256 := by
  intro n
  induction n using Nat.strongRecOn with
  | _ n ih =>
    intro b hb
    by_cases c : n < 128
    · rw [vlq_lt c] at hb
      have := List.mem_singleton.mp hb
      omega
    · rw [vlq_ge c] at hb
      rcases List.mem_cons.mp hb with rfl | hb
      · omega
      · exact ih _ (by omega) b hb
theorem encA_b {t : T} (h : okA t) : ∀ b ∈ encA t, 0 ≤ b ∧ b < 256 := by
  intro b hb
  cases t with
  | tup l => exact h.elim
  | non => have := List.mem_singleton.mp hb; omega
  | bl c => cases c <;> (have := List.mem_singleton.mp hb; simp at this; omega)
  | int i =>
    by_cases c : 0 ≤ i
    · rw [show encA (.int i) = 3 :: vlq i.toNat from if_pos c] at hb
      rcases List.mem_cons.mp hb with rfl | hb
      · omega
      · exact vlq_b _ b hb
    · rw [show encA (.int i) = 4 :: vlq (-1 - i).toNat from if_neg c] at hb
      rcases List.mem_cons.mp hb with rfl | hb
      · omega
      · exact vlq_b _ b hb
  | str z =>
    rcases List.mem_cons.mp hb with rfl | hb
    · omega
    · rcases List.mem_append.mp hb with hb | hb
      · exact vlq_b _ b hb
      · obtain ⟨c, hc, rfl⟩ := List.mem_map.mp hb
        have := h.2.2 c hc
        simp only [isSg, Bool.and_eq_true, decide_eq_true_eq] at this
        omega
theorem enc_b : ∀ {d : Nat} {t : T}, OkT d t → ∀ b ∈ enc d t, 0 ≤ b ∧ b < 256
  | 0, t, h => encA_b h
  | d + 1, t, h => by
    cases t with
    | tup l =>
      intro b hb
      rcases List.mem_cons.mp hb with rfl | hb
      · omega
      · rcases List.mem_append.mp hb with hb | hb
        · exact vlq_b _ b hb
        · obtain ⟨x, hx, hb⟩ := List.mem_flatten.mp hb
          obtain ⟨t, ht, rfl⟩ := List.mem_map.mp hx
          exact enc_b (h t ht) b hb
    | non => exact encA_b (t := .non) trivial
    | bl b => exact encA_b (t := .bl b) trivial
    | int i => exact encA_b (t := .int i) trivial
    | str z => exact encA_b (t := .str z) h
end QR

namespace QR
/-! what is read is what would be written -/
def Byt (r : List Int) : Prop := ∀ b ∈ r, 0 ≤ b ∧ b < 256
theorem wback : ∀ {l : List Int}, Byt l → ∀ b, l[scan l]? = some b → ¬ (b = 0 ∧ 0 < scan l) → l.take (scan l + 1) = vlq (val (l.take (scan l + 1))).toNat
  | [], _, b, e, _ => by simp at e
  | x :: l, hb, b, e, nz => by
    have hx := hb x List.mem_cons_self
    by_cases c : 128 ≤ x
    · have es : scan (x :: l) = scan l + 1 := by rw [scan, if_pos c]
      rw [es] at e nz ⊢
      have e' : l[scan l]? = some b := by simpa using e
      have ih := wback (l := l) (fun y hy => hb y (List.mem_cons_of_mem _ hy)) b e' (fun z => nz ⟨z.1, by omega⟩)
      have bn : b ≠ 0 := fun z => nz ⟨z, by omega⟩
      rw [List.take_succ_cons, val_cons]
      have v0 := val_nn (l.take (scan l + 1))
      revert ih v0
      have eb : (l.take (scan l + 1))[scan l]? = some b := by rw [List.getElem?_take, if_pos (by omega)]; exact e'
      revert eb
      generalize l.take (scan l + 1) = tl
      intro eb ih v0
      have vn : val tl ≠ 0 := fun z => by
        rw [z] at ih
        rw [ih, vlq_lt (by decide)] at eb
        have : scan l = 0 := by
          have := (List.getElem?_eq_some_iff.mp eb).1
          simp at this
          omega
        rw [this] at eb
        have : (0 : Int) = b := by simpa using eb
        omega
      have n1 : (val tl * 128 + x % 128).toNat = (val tl).toNat * 128 + (x % 128).toNat := by
        have := Int.emod_nonneg x (show (128 : Int) ≠ 0 by decide)
        omega
      have x1 : x % 128 = x - 128 := by omega
      rw [n1, vlq_ge (by omega), show ((val tl).toNat * 128 + (x % 128).toNat) / 128 = (val tl).toNat by omega, ← ih]
      congr 1
      omega
    · have es : scan (x :: l) = 0 := by rw [scan, if_neg c]
      rw [es]
      show [x] = vlq (val [x]).toNat
      have : val [x] = x := by
        show (0 : Int) * 128 + x % 128 = x
        omega
      rw [this, vlq_lt (by omega)]
      congr 1
      omega
theorem byt_drop {r : List Int} (h : Byt r) (a : Nat) : Byt (r.drop a) := fun b hb => h b (List.mem_of_mem_drop hb)
theorem rdW_back {r : List Int} {a h : Nat} {n : Int} (hb : Byt r) (e : rdW r a = some (n, h)) : r.drop a = vlq n.toNat ++ r.drop h := by
  unfold rdW at e
  split at e
  · cases e
  · rename_i b hbb
    split at e
    · cases e
    · rename_i nz
      cases e
      rw [← wback (byt_drop hb a) b (by rw [List.getElem?_drop]; exact hbb) nz]
      have e2 : r.drop (a + scan (r.drop a) + 1) = (r.drop a).drop (scan (r.drop a) + 1) := by rw [List.drop_drop]; congr 1
      rw [e2, List.take_append_drop]
theorem drop_at {r : List Int} {a : Nat} {b : Int} (h : r[a]? = some b) : r.drop a = b :: r.drop (a + 1) := by
  obtain ⟨l, e⟩ := List.getElem?_eq_some_iff.mp h
  rw [List.drop_eq_getElem_cons l, e]
theorem sg_nat {b : Int} (h : isSg b = true) : ((b.toNat : Nat) : Int) = b := by
  simp only [isSg, Bool.and_eq_true, decide_eq_true_eq] at h
  omega
theorem rdS_back {r : List Int} : ∀ (m h : Nat) (acc : List Nat) {t : T} {h' : Nat}, rdS r m h acc = .ok t h' → ∃ z : List Nat, t = .str (acc ++ z) ∧ z.length = m ∧ (∀ c ∈ z, isSg (c : Int) = true) ∧ r.drop h = (z.map fun c : Nat => (c : Int)) ++ r.drop h'
  | 0, h, acc, t, h', e => by
    cases e
    exact ⟨[], by rw [List.append_nil], rfl, fun c hc => by simp at hc, rfl⟩
  | m + 1, h, acc, t, h', e => by
    unfold rdS at e
    split at e
    · cases e
    · rename_i b hb
      split at e
      · rename_i sg
        obtain ⟨z, e1, e2, e3, e4⟩ := rdS_back m (h + 1) (acc ++ [b.toNat]) e
        refine ⟨b.toNat :: z, by rw [e1, List.append_assoc]; rfl, by rw [List.length_cons, e2], fun c hc => ?_, ?_⟩
        · rcases List.mem_cons.mp hc with rfl | hc
          · rw [sg_nat sg]
            exact sg
          · exact e3 c hc
        · rw [drop_at hb, e4, List.map_cons, sg_nat sg]
          rfl
      · cases e
theorem rdL_back {r : List Int} {f : Nat → R} {d : Nat} (H : ∀ a t h, f a = .ok t h → OkT d t ∧ r.drop a = enc d t ++ r.drop h) : ∀ (k m h : Nat) (acc : List T) {t : T} {h' : Nat}, rdL f k m h acc = .ok t h' →
    ∃ l : List T, t = .tup (acc ++ l) ∧ l.length = m ∧ (∀ t ∈ l, OkT d t) ∧ r.drop h = (l.map (enc d)).flatten ++ r.drop h'
  | k, 0, h, acc, t, h', e => by
    have e : R.ok (.tup acc) h = .ok t h' := by cases k <;> exact e
    cases e
    exact ⟨[], by rw [List.append_nil], rfl, fun c hc => by simp at hc, rfl⟩
  | 0, m + 1, h, acc, t, h', e => by cases e
  | k + 1, m + 1, h, acc, t, h', e => by
    unfold rdL at e
    split at e
    · cases e
    · rename_i t1 h1 e1
      obtain ⟨o1, d1⟩ := H h t1 h1 e1
      obtain ⟨l, z1, z2, z3, z4⟩ := rdL_back H k m h1 (acc ++ [t1]) e
      refine ⟨t1 :: l, by rw [z1, List.append_assoc]; rfl, by rw [List.length_cons, z2], fun c hc => ?_, ?_⟩
      · rcases List.mem_cons.mp hc with rfl | hc
        · exact o1
        · exact z3 c hc
      · rw [d1, z4, List.map_cons, List.flatten_cons, List.append_assoc]
theorem okT_atom' {d : Nat} {t : T} (h : okA t) : OkT d t ∧ enc d t = encA t := by
  cases d with
  | zero => exact ⟨h, rfl⟩
  | succ d => cases t with
    | tup l => exact h.elim
    | non => exact ⟨h, rfl⟩
    | bl b => exact ⟨h, rfl⟩
    | int i => exact ⟨h, rfl⟩
    | str z => exact ⟨h, rfl⟩
theorem rdG_back {r : List Int} (hb : Byt r) {g : Nat → Nat → R} {z : Bool} {d a : Nat} (hg : z = false → ∀ n h t h', rdW r (a + 1) = some (n, h) → g n.toNat h = .ok t h' → OkT d t ∧ 6 :: r.drop (a + 1) = enc d t ++ r.drop h') {t : T} {h' : Nat} (e : rdG r g z a = .ok t h') : OkT d t ∧ r.drop a = enc d t ++ r.drop h' := by
  unfold rdG at e
  split at e
  · cases e
  · rename_i s hs
    have hs' := drop_at hs
    have sb := hb s (List.mem_of_getElem? hs)
    have one : ∀ {t' : T} {x : Int}, okA t' → encA t' = [x] → s = x → R.ok t' (a + 1) = .ok t h' → OkT d t ∧ r.drop a = enc d t ++ r.drop h' := fun {t' x} o ex es e => by
      cases e
      obtain ⟨o1, o2⟩ := okT_atom' (d := d) o
      refine ⟨o1, ?_⟩
      rw [hs', o2, ex, es]
      rfl
    split at e
    · cases e
    rename_i n6
    split at e
    · rename_i c
      exact one (t' := .non) trivial rfl c e
    split at e
    · rename_i c
      exact one (t' := .bl false) trivial rfl c e
    split at e
    · rename_i c
      exact one (t' := .bl true) trivial rfl c e
    unfold rdB at e
    split at e
    · cases e
    · rename_i n h hw
      obtain ⟨w1, w2, w3⟩ := rdW_nn hw
      have wb := rdW_back hb hw
      split at e
      · rename_i c
        cases e
        obtain ⟨o1, o2⟩ := okT_atom' (d := d) (t := .int n) trivial
        refine ⟨o1, ?_⟩
        rw [hs', o2, show encA (.int n) = 3 :: vlq n.toNat from if_pos w1, wb, c]
        rfl
      split at e
      · rename_i c
        cases e
        obtain ⟨o1, o2⟩ := okT_atom' (d := d) (t := .int (-1 - n)) trivial
        refine ⟨o1, ?_⟩
        rw [hs', o2, show encA (.int (-1 - n)) = 4 :: vlq (-1 - (-1 - n)).toNat from if_neg (by omega), wb, c, show (-1 - (-1 - n)) = n by omega]
        rfl
      split at e
      · rename_i c
        split at e
        · rename_i c2
          obtain ⟨zz, e1, e2, e3, e4⟩ := rdS_back _ _ _ e
          rw [List.nil_append] at e1
          subst e1
          obtain ⟨o1, o2⟩ := okT_atom' (d := d) (t := .str zz) ⟨by omega, by omega, e3⟩
          refine ⟨o1, ?_⟩
          rw [hs', o2, wb, e4, c, show encA (.str zz) = 5 :: (vlq zz.length ++ zz.map fun c : Nat => (c : Int)) from rfl, e2]
          simp
        · cases e
      · have s6 : s = 6 := by omega
        cases zz : z with
        | true => exact absurd (.inr ⟨s6, zz⟩) n6
        | false =>
          obtain ⟨o1, o2⟩ := hg zz n h t h' hw e
          refine ⟨o1, ?_⟩
          rw [hs', s6]
          exact o2
theorem rdP_back {r : List Int} (hb : Byt r) : ∀ (d a : Nat) (t : T) (h : Nat), rdP r d a = .ok t h → OkT d t ∧ r.drop a = enc d t ++ r.drop h
  | 0, a, t, h, e => rdG_back hb (fun z => by cases z) e
  | d + 1, a, t, h, e => by
    refine rdG_back hb (fun _ n h1 t1 h2 hw e2 => ?_) e
    obtain ⟨l, z1, z2, z3, z4⟩ := rdL_back (rdP_back hb d) _ _ _ _ e2
    rw [List.nil_append] at z1
    subst z1
    refine ⟨z3, ?_⟩
    rw [rdW_back hb hw, z4, show enc (d + 1) (.tup l) = 6 :: (vlq l.length ++ (l.map (enc d)).flatten) from rfl, z2]
    simp
theorem rdAll_back {r : List Int} (hb : Byt r) {t : T} {h : Nat} (e : rdAll r = .ok t h) : OkT 20 t ∧ enc 20 t = r := by
  unfold rdAll at e
  split at e
  · rename_i t1 h1 e1
    split at e
    · rename_i c
      cases e
      obtain ⟨o1, o2⟩ := rdP_back hb 20 0 t h e1
      refine ⟨o1, ?_⟩
      rw [c, List.drop_length, List.append_nil] at o2
      exact o2.symm
    · cases e
  · cases e
end QR

namespace Q
open PySem L2 QR
def top (i : Nat) : Stmt := PySem.Challenge.pw_sameround_k32_whole_links_and_their_stat.main.body.getD i (.Pass ⟨0, 0, 0, 0⟩)
/-- what the built-in names still are -/
structure Bts (mg : Str → Option Value) : Prop where
  len : mg "len" = none
  int : mg "int" = none
  list : mg "list" = none
  range : mg "range" = none
  min : mg "min" = none
  tuple : mg "tuple" = none
  isinstance : mg "isinstance" = none
  bool : mg "bool" = none
  str : mg "str" = none
  repr : mg "repr" = none
  sum : mg "sum" = none
  abs : mg "abs" = none
  ord : mg "ord" = none
  reversed : mg "reversed" = none
  all : mg "all" = none
  zip : mg "zip" = none
structure Df (K : PySem.W.Frag) (mg : Str → Option Value) (x : Str) (st : Stmt) (ps : List Str) (f : Addr) (fd : FuncData) : Prop where
  F : Fun K x x st f fd
  m : mg x = some (.ref f)
  b : Binds K fd ps []
theorem Df.k {K : PySem.W.Frag} {mg : Str → Option Value} {x : Str} {st : Stmt} {ps : List Str} {f : Addr} {fd : FuncData} (D : Df K mg x st ps f fd) : PySem.W.keepIn K (.ref f) = true := D.F.kp
def KTup (K : PySem.W.Frag) (a : Addr) (xs : List V) : Prop := ∃ (o : Obj) (its : Array Value) (n : Nat), K.lookup a = some o ∧ o.cls = .type "tuple" ∧ o.data = .seq its n ∧ its.size ≤ sizeLine ∧ Vals xs its.toList
theorem KTup.sq {K : PySem.W.Frag} {a : Addr} {xs : List V} (h : KTup K a xs) (H : Hp) : SqT K H a xs := .inr h
def sbS : Str := " !\"#$"
def saS : Str := "&'()*+,-./0123456789:;<=>?@ABCDEFGHIJKLMNOPQRSTUVWXYZ[\\]^_`abcdefghijklmnopqrstuvwxyz{|}~"
/-- the constants of rows -/
structure Cst (mg : Str → Option Value) : Prop where
  bytes : ∃ t, mg "BYTES" = some (.int 256 t)
  deep : ∃ t, mg "MOST_DEEP" = some (.int 20 t)
  signs : ∃ t, mg "MOST_SIGNS" = some (.int 20 t)
  from0 : ∃ t, mg "FROM_0_ON" = some (.int 3 t)
  below : ∃ t, mg "BELOW_0" = some (.int 4 t)
  strg : ∃ t, mg "STRING" = some (.int 5 t)
  tupl : ∃ t, mg "TUPLE" = some (.int 6 t)
  first : ∃ t, mg "FIRST_SIGN" = some (.int 32 t)
  nosg : ∃ t, mg "NO_SIGN" = some (.int 37 t)
  last : ∃ t, mg "LAST_SIGN" = some (.int 126 t)
  factor : ∃ t, mg "MARK_FACTOR" = some (.int 1000003 t)
  marks : ∃ t, mg "MARKS" = some (.int 2305843009213693951 t)
  seals : ∃ t, mg "SEALS" = some (.int 4294967296 t)
  slen : ∃ t, mg "SEAL_LENGTH" = some (.int 4 t)
  sb : ∃ t, mg "SIGNS_BELOW" = some (.str sbS t)
  sa : ∃ t, mg "SIGNS_ABOVE" = some (.str saS t)
/-! ### heaps -/
theorem sN {H : Hp} {q : Addr} {o : HO} (n : H q = none) : Same H (upd H q o) := fun b u e => by
  rw [upd_ne (ne_of_none e n)]; exact e
theorem sT {H H1 H2 : Hp} (a : Same H H1) (b : Same H1 H2) : Same H H2 := fun c o h => b c o (a c o h)
theorem sR {H : Hp} : Same H H := fun _ _ e => e
/-- new at q, or over a thing that was not there at the start -/
theorem sNew {H H1 : Hp} {p : Addr} {o : HO} (s : Same H H1) (n : H p = none) : Same H (upd H1 p o) := fun b u e => by
  rw [upd_ne (ne_of_none e n)]; exact s b u e
theorem sNo {H H1 : Hp} {p : Addr} (s : Same H H1) (n : H1 p = none) : H p = none := by
  cases e : H p with
  | none => rfl
  | some o =>
    rw [s _ _ e] at n
    cases n
/-- all stands but what is at l -/
def Bu (l : Addr) (H H' : Hp) : Prop := ∀ b o, H b = some o → b ≠ l → H' b = some o
theorem Bu.rf {l : Addr} {H : Hp} : Bu l H H := fun _ _ e _ => e
theorem Bu.at {l : Addr} {H H1 : Hp} {o : HO} (h : Bu l H H1) : Bu l H (upd H1 l o) := fun b u e n => by
  rw [upd_ne n]; exact h b u e n
theorem Bu.st {l : Addr} {H H1 H2 : Hp} (h : Bu l H H1) (s : Same H1 H2) : Bu l H H2 := fun b u e n => s _ _ (h b u e n)
theorem Bu.tr {l : Addr} {H H1 H2 : Hp} (h : Bu l H H1) (g : Bu l H1 H2) : Bu l H H2 := fun b u e n => g b u (h b u e n) n
theorem Bu.of {l : Addr} {H H1 : Hp} (s : Same H H1) : Bu l H H1 := fun b u e _ => s b u e
theorem Bu.new {l : Addr} {H H1 : Hp} (h : Bu l H H1) (n : H l = none) : Same H H1 := fun b u e => h b u e (ne_of_none e n)
/-- tuples stand -/
def Tk (H H' : Hp) : Prop := ∀ b xs, H b = some (.tup xs) → H' b = some (.tup xs)
theorem Tk.of {H H' : Hp} (s : Same H H') : Tk H H' := fun b xs e => s _ _ e
theorem Tk.bu {H H' : Hp} {l : Addr} {xs : List V} (h : Bu l H H') (e : H l = some (.lst xs)) : Tk H H' := fun b ys e2 => h b _ e2 (ne_of e2 e (fun z => by cases z))
theorem Tk.tr {H H1 H2 : Hp} (h : Tk H H1) (g : Tk H1 H2) : Tk H H2 := fun b xs e => g b xs (h b xs e)
theorem size_ok {n : Nat} (h : n ≤ 20000) : n < sizeLine := Nat.lt_of_lt_of_le (show n < 20001 by omega) (by decide)
/-! ### parcels that stand in the heap -/
def sOf (z : List Nat) : Str := ⟨z.toArray⟩
def RepA (t : T) (v : V) : Prop := match t with
  | .non => v = .non
  | .bl b => v = .bl b
  | .int i => v = .int i
  | .str z => v = .str (sOf z) ∧ z.length ≤ 9000
  | .tup _ => False
def Rep (H : Hp) : Nat → T → V → Prop
  | 0, t, v => RepA t v
  | d + 1, t, v => match t with
    | .tup l => ∃ a xs, v = .ref a ∧ H a = some (.tup xs) ∧ xs.length = l.length ∧ xs.length ≤ 9000 ∧ ∀ (i : Nat) (x : V) (t : T), xs[i]? = some x → l[i]? = some t → Rep H d t x
    | t => RepA t v
theorem Rep.tk {H H' : Hp} (k : Tk H H') : ∀ {d : Nat} {t : T} {v : V}, Rep H d t v → Rep H' d t v
  | 0, t, v, h => h
  | d + 1, t, v, h => by
    cases t with
    | tup l =>
      obtain ⟨a, xs, e, h1, h2, h3, h4⟩ := h
      exact ⟨a, xs, e, k _ _ h1, h2, h3, fun i x t hx ht => Rep.tk k (h4 i x t hx ht)⟩
    | _ => exact h
theorem Rep.same {H H' : Hp} {d : Nat} {t : T} {v : V} (h : Rep H d t v) (s : Same H H') : Rep H' d t v := h.tk (.of s)
theorem Rep.atom {H : Hp} {t : T} {v : V} (h : RepA t v) : ∀ {d : Nat}, Rep H d t v
  | 0 => h
  | d + 1 => by
    cases t with
    | tup l => exact h.elim
    | _ => exact h
theorem Rep.more {H : Hp} : ∀ {d : Nat} {t : T} {v : V}, Rep H d t v → Rep H (d + 1) t v
  | 0, t, v, h => Rep.atom h
  | d + 1, t, v, h => by
    cases t with
    | tup l =>
      obtain ⟨a, xs, e, h1, h2, h3, h4⟩ := h
      exact ⟨a, xs, e, h1, h2, h3, fun i x t hx ht => (h4 i x t hx ht).more⟩
    | _ => exact h
theorem Rep.up {H : Hp} {d : Nat} {t : T} {v : V} (h : Rep H d t v) : ∀ k, Rep H (d + k) t v
  | 0 => h
  | k + 1 => (h.up k).more
/-- what a parcel's value is -/
theorem Rep.cases {H : Hp} {d : Nat} {t : T} {v : V} (h : Rep H d t v) : (t = .non ∧ v = .non) ∨ (∃ b, t = .bl b ∧ v = .bl b) ∨ (∃ i, t = .int i ∧ v = .int i) ∨ (∃ z, t = .str z ∧ v = .str (sOf z) ∧ z.length ≤ 9000) ∨
    ∃ d' l a xs, d = d' + 1 ∧ t = .tup l ∧ v = .ref a ∧ H a = some (.tup xs) ∧ xs.length = l.length ∧ xs.length ≤ 9000 ∧ ∀ (i : Nat) (x : V) (t : T), xs[i]? = some x → l[i]? = some t → Rep H d' t x := by
  cases d with
  | zero =>
    cases t with
    | non => exact .inl ⟨rfl, h⟩
    | bl b => exact .inr (.inl ⟨b, rfl, h⟩)
    | int i => exact .inr (.inr (.inl ⟨i, rfl, h⟩))
    | str z => exact .inr (.inr (.inr (.inl ⟨z, rfl, h⟩)))
    | tup l => exact h.elim
  | succ d =>
    cases t with
    | non => exact .inl ⟨rfl, h⟩
    | bl b => exact .inr (.inl ⟨b, rfl, h⟩)
    | int i => exact .inr (.inr (.inl ⟨i, rfl, h⟩))
    | str z => exact .inr (.inr (.inr (.inl ⟨z, rfl, h⟩)))
    | tup l =>
      obtain ⟨a, xs, h⟩ := h
      exact .inr (.inr (.inr (.inr ⟨d, l, a, xs, rfl, rfl, h⟩)))
/-- a row: a tuple of bytes -/
structure RowAt (H : Hp) (q : Addr) (bs : List Int) : Prop where
  at_ : H q = some (.tup (bs.map V.int))
  b : ∀ b ∈ bs, 0 ≤ b ∧ b < 256
  few : bs.length ≤ 9000
theorem RowAt.tk {H H' : Hp} {q : Addr} {bs : List Int} (h : RowAt H q bs) (k : Tk H H') : RowAt H' q bs := ⟨k _ _ h.at_, h.b, h.few⟩
theorem RowAt.same {H H' : Hp} {q : Addr} {bs : List Int} (h : RowAt H q bs) (s : Same H H') : RowAt H' q bs := h.tk (.of s)
theorem at_ints {bs : List Int} {i : Nat} {x : V} (h : (bs.map V.int)[i]? = some x) : ∃ b, bs[i]? = some b ∧ x = .int b := by
  rw [List.getElem?_map] at h
  cases e : bs[i]? with
  | none => rw [e] at h; cases h
  | some b => rw [e] at h; exact ⟨b, rfl, (Option.some.inj h).symm⟩
theorem take_more {α : Type} {l : List α} {i : Nat} {x : α} (h : l[i]? = some x) : l.take (i + 1) = l.take i ++ [x] := by
  rw [List.take_add_one, h]
  rfl
abbrev sPlain : Stmt := top 5
abbrev sNum : Stmt := top 6
abbrev sIsRow : Stmt := top 9999
abbrev sIsSg : Stmt := top 9999
abbrev sSgOf : Stmt := top 9999
abbrev sMkOf : Stmt := top 9999
abbrev sMark : Stmt := top 9999
abbrev sSeal : Stmt := top 9999
abbrev kInt (K : PySem.W.Frag) (t : Value) (b : Bool) : Prop := PySem.W.kitOne K t (.type "int") = some b
abbrev kBool (K : PySem.W.Frag) (t : Value) (b : Bool) : Prop := PySem.W.kitOne K t (.type "bool") = some b
def spPlain (K : PySem.W.Frag) : Sp := fun vs H Q _ => ∃ (v : V) (t : Value) (b c : Bool), vs = [v] ∧ TyX K H v t ∧ kInt K t b ∧ kBool K t c ∧ Q (.bl (b && !c)) H
def NoInt (K : PySem.W.Frag) (H : Hp) (v : V) : Prop := ∃ (t : Value) (b c : Bool), TyX K H v t ∧ kInt K t b ∧ kBool K t c ∧ (b && !c) = false
def spNum (K : PySem.W.Frag) : Sp := fun vs H Q _ => ∃ (n : Int) (v : V), vs = [.int n, v] ∧ ((∃ i : Int, v = .int i ∧ Q (.bl (decide (0 ≤ i) && decide (i < n))) H) ∨ (NoInt K H v ∧ Q (.bl false) H))
theorem kInt_int {K : PySem.W.Frag} : kInt K (.type "int") true := kit_ty (by decide +kernel)
theorem kBool_int {K : PySem.W.Frag} : kBool K (.type "int") false := kit_ty (by decide +kernel)
/-- a byte -/
def isB : V → Bool
  | .int i => decide (0 ≤ i) && decide (i < 256)
  | _ => false
/-- None, a flag, a number -/
def Sc (v : V) : Prop := v = .non ∨ (∃ b, v = .bl b) ∨ ∃ i, v = .int i
def spIsRow (K : PySem.W.Frag) : Sp := fun vs H Q _ => ∃ v : V, vs = [v] ∧ ((∃ q xs, v = .ref q ∧ H q = some (.tup xs) ∧ xs.length ≤ 9000 ∧ (∀ x ∈ xs, Sc x) ∧ ∀ H', Same H H' → Q (.bl (xs.all isB)) H') ∨
  (∃ t, TyX K H v t ∧ PySem.W.kitOne K t (.type "tuple") = some false ∧ Q (.bl false) H))
theorem all_isB {bs : List Int} (h : ∀ b ∈ bs, 0 ≤ b ∧ b < 256) : (bs.map V.int).all isB = true := by
  rw [List.all_eq_true]
  intro x hx
  obtain ⟨b, hb, rfl⟩ := List.mem_map.mp hx
  obtain ⟨h1, h2⟩ := h b hb
  show (decide (0 ≤ b) && decide (b < 256)) = true
  rw [decide_eq_true h1, decide_eq_true h2]
  rfl
theorem sc_ints (bs : List Int) : ∀ x ∈ bs.map V.int, Sc x := fun x hx => by
  obtain ⟨b, _, rfl⟩ := List.mem_map.mp hx
  exact .inr (.inr ⟨b, rfl⟩)
def spIsSg : Sp := fun vs H Q _ => ∃ b : Int, vs = [.int b] ∧ Q (.bl (isSg b)) H
def spSgOf : Sp := fun vs H Q _ => ∃ b : Int, vs = [.int b] ∧ isSg b = true ∧ Q (.str (sOf [b.toNat])) H
def spMkOf (K : PySem.W.Frag) : Sp := fun vs H Q _ => ∃ (q : Addr) (bs : List Int), vs = [.ref q] ∧ H q = some (.tup (bs.map V.int)) ∧ Q (.int (mkF bs)) H
def spMark (K : PySem.W.Frag) : Sp := fun vs H Q _ => ∃ (q : Addr) (bs : List Int), vs = [.ref q] ∧ RowAt H q bs ∧ ∀ H', Same H H' → Q (.int (mkF bs)) H'
def spSeal : Sp := fun vs H Q _ => ∃ (q : Addr) (bs : List Int), vs = [.ref q] ∧ H q = some (.tup (bs.map V.int)) ∧ ∀ z H', Same H H' → H' z = some (.tup ((sealL bs).map V.int)) → Q (.ref z) H'
theorem sg_lo : ∀ k : Nat, k < 5 → sbS.cps.toList[k]? = some (32 + k) := by decide +kernel
theorem sg_hi : ∀ k : Nat, k < 89 → saS.cps.toList[k]? = some (38 + k) := by decide +kernel
theorem sg_b {b : Int} (h : isSg b = true) : 32 ≤ b ∧ b ≤ 126 ∧ b ≠ 37 := by
  simp only [isSg, Bool.and_eq_true, decide_eq_true_eq, Bool.not_eq_true', decide_eq_false_iff_not] at h
  exact ⟨h.1.1, h.1.2, h.2⟩
/-- what is left, what is written of a seal -/
def lf (m : Int) : Nat → Int
  | 0 => m
  | i + 1 => lf m i / 256
def sl (m : Int) : Nat → List Int
  | 0 => []
  | i + 1 => sl m i ++ [lf m i % 256]
theorem sl_len (m : Int) : ∀ i, (sl m i).length = i
  | 0 => rfl
  | i + 1 => by
    show (sl m i ++ [_]).length = _
    rw [List.length_append, sl_len m i]
    rfl
theorem sl_seal (bs : List Int) : sl (mkF bs % 4294967296) 4 = sealL bs := by
  unfold sealL
  show [mkF bs % 4294967296 % 256, mkF bs % 4294967296 / 256 % 256, mkF bs % 4294967296 / 256 / 256 % 256, mkF bs % 4294967296 / 256 / 256 / 256 % 256] = _
  rw [Int.ediv_ediv_of_nonneg (by decide), Int.ediv_ediv_of_nonneg (by decide)]
  rfl
section
variable {P : Program} {w : World} {K : PySem.W.Frag} {mg : Str → Option Value} {base : Heap}
theorem Sc.ni {H : Hp} {v : V} (h : Sc v) : (∃ i, v = .int i) ∨ NoInt K H v := by
  rcases h with rfl | ⟨b, rfl⟩ | h
  · exact .inr ⟨.type "NoneType", false, false, .base .non, kit_ty (by decide +kernel), kit_ty (by decide +kernel), rfl⟩
  · exact .inr ⟨.type "bool", true, true, .base (.bl _), kit_ty (by decide +kernel), kit_ty (by decide +kernel), rfl⟩
  · exact .inl h
theorem scPlain : FnScope ["thing"] ["thing"] (defScope sPlain) := ⟨rfl, rfl, rfl, by decide +kernel, rfl, by decide +kernel, by decide +kernel⟩
theorem ok_plain {f : Addr} {fd : FuncData} (D : Df K mg "is_plain_int" sPlain ["thing"] f fd) (B : Bts mg) : FnOk P w K mg base CX0 1 f fd ["thing"] (spPlain K) := by
  refine D.F.ok scPlain (fun vs H Q E h => ?_) (fun cdv A outer s H vs Q E hr h => ?_)
  · obtain ⟨v, t, b, c, rfl, _⟩ := h
    rfl
  · obtain ⟨v, t, b, c, rfl, ty, kb, kc, k⟩ := h
    refine ⟨_, pss_one (ps_ret (pe_and (pe_callB call_isi (by rfl) B.isinstance PyProof.Rows.boot_isinstance (pa_cons (pv 0) (pa_cons (pe_bltn (v := .ty "int") rfl B.int PyProof.Rows.boot_int rfl) pa_nil)))
      (pe_one (pe_not (pe_callB call_isi (by rfl) B.isinstance PyProof.Rows.boot_isinstance (pa_cons (pv 0) (pa_cons (pe_bltn (v := .ty "bool") rfl B.bool (by decide +kernel) rfl) pa_nil))))))), ?_⟩
    refine ⟨_, rfl, v, .ty "int", t, .type "int", b, rfl, .ty _, ty, kb, _, rfl, ?_⟩
    cases b with
    | false => exact iteF k
    | true => exact iteT ⟨_, rfl, v, .ty "bool", t, .type "bool", c, rfl, .ty _, ty, kc, _, rfl, k⟩
theorem scNum : FnScope ["limit", "thing"] ["limit", "thing"] (defScope sNum) := ⟨rfl, rfl, rfl, by decide +kernel, rfl, by decide +kernel, by decide +kernel⟩
theorem ok_num {f fP : Addr} {fd fdP : FuncData} (D : Df K mg "is_number_below" sNum ["limit", "thing"] f fd) (B : Bts mg) (DP : Df K mg "is_plain_int" sPlain ["thing"] fP fdP) : FnOk P w K mg base CX0 2 f fd ["limit", "thing"] (spNum K) := by
  have GP : FnOk P w K mg base CX0 1 fP fdP ["thing"] (spPlain K) := ok_plain DP B
  refine D.F.ok scNum (fun vs H Q E h => ?_) (fun cdv A outer s H vs Q E hr h => ?_)
  · obtain ⟨n, v, rfl, _⟩ := h
    rfl
  · obtain ⟨n, v, rfl, h⟩ := h
    refine ⟨_, pss_one (ps_ret (pe_and (pe_call GP hr rfl DP.m DP.k DP.b .nil pass0 (pa_cons (pv 1) pa_nil)) (pe_one (pe_chain op_le op_lt pe_int (pv 1) (pv 0))))), ?_⟩
    rcases h with ⟨i, rfl, k⟩ | ⟨⟨t, b, c, ty, kb, kc, e⟩, k⟩
    · refine ⟨_, rfl, .int i, .type "int", true, false, rfl, .base (.int _), kInt_int, kBool_int, _, rfl, iteT ?_⟩
      refine ⟨_, rfl, _, _, rfl, rfl, _, rfl, ?_⟩
      by_cases c : (0 : Int) ≤ i
      · rw [decide_eq_true c] at k ⊢
        exact iteT ⟨_, rfl, _, _, rfl, rfl, k⟩
      · rw [decide_eq_false c] at k ⊢
        exact iteF k
    · refine ⟨_, rfl, v, t, b, c, rfl, ty, kb, kc, _, rfl, ?_⟩
      rw [e]
      exact iteF k
end
end Q

namespace L2
open PySem PySem.Spec PyProof.Rows
section
variable {X : Cx}
/-- t.index(x), t of flat things, the first place -/
theorem mt_tidx : MtR X "tuple.index" (fun x xs H Q => ∃ (p : Addr) (ys : List V) (y : V) (j : Nat) (z : V), x = .ref p ∧ xs = [y] ∧ SqT X.K H p ys ∧ flatV y = true ∧ ys.all flatV = true ∧ ys[j]? = some z ∧ eqV z y = true ∧ (∀ (m : Nat) (z' : V), m < j → ys[m]? = some z' → eqV z' y = false) ∧ Q (.int (j : Nat)) H) := by
  intro pins s σ H x xs v us Q I rx rs h
  obtain ⟨p, ys, y, j, z, rfl, rfl, hq, fy, fys, hz, hzj, hno, q⟩ := h
  cases rx
  cases rs with
  | cons ry rt =>
    rename_i uy ut
    cases rt
    obtain ⟨its, r, pl, hsz⟩ := I.tuple hq
    obtain ⟨⟨cls, dd, dt, sl⟩, ho, hc, n, hd⟩ := pl
    simp only at hc hd
    subst hc
    subst hd
    have hvl := r.length
    obtain ⟨u, hu, ru⟩ := r.get hz
    obtain ⟨hjl, hje⟩ := List.getElem?_eq_some_iff.mp hu
    have hj : j < its.toArray.size := by simpa using hjl
    refine call_meets PySem.F.slot_tuple_index ⟨_, ho, rfl⟩ PySem.F.entry_tuple_index (PySem.F.args_tuple_index_2 _ _) (TI.tuple_indexAt p its.toArray n dd sl uy (eqU y) j hj ?_ ?_)
      ⟨ho, fun w hw => mem_eqAt ry fy r fys w (by simpa using hw), ⟨.int (j : Nat), H, I.tok _, ⟨_, rfl⟩, q⟩⟩
    · have e1 : its.toArray[j] = u := by simpa using hje
      rw [e1, eqU_of ru (flat_at fys hz)]
      exact hzj
    · intro m hm hmj
      have hml : m < its.length := by simpa using hm
      have hmy : m < ys.length := by omega
      have hy' : ys[m]? = some ys[m] := List.getElem?_eq_getElem hmy
      obtain ⟨u2, hu2, ru2⟩ := r.get hy'
      obtain ⟨_, hme⟩ := List.getElem?_eq_some_iff.mp hu2
      have e1 : its.toArray[m] = u2 := by simpa using hme
      rw [e1, eqU_of ru2 (flat_at fys hy')]
      exact hno m _ hmj hy'
/-- x is True, x is False, of any x -/
theorem op_is_xb : OpR X (compareOp .Is) (fun x y H Q => ((∃ i : Int, x = .int i) ∨ (∃ z : Str, x = .str z) ∨ ∃ a : Addr, x = .ref a) ∧ ∃ b : Bool, y = .bl b ∧ Q (.bl false) H) := by
  intro pins s σ H x y v u Q I rx ry h
  obtain ⟨hx, b, rfl, q⟩ := h
  cases (show u = Value.bool b from ry)
  rcases hx with ⟨i, rfl⟩ | ⟨z, rfl⟩ | ⟨a, rfl⟩
  · obtain ⟨t, rfl⟩ := rx
    exact wpAny_is_other rfl (fun z => nomatch z) ⟨.bl false, H, I, rfl, q⟩
  · obtain ⟨t, rfl⟩ := rx
    exact wpAny_is_other rfl (fun z => nomatch z) ⟨.bl false, H, I, rfl, q⟩
  · cases rx
    exact wpAny_is_other rfl (fun z => nomatch z) ⟨.bl false, H, I, rfl, q⟩
end
end L2
namespace Q
open PySem L2 QR
abbrev sIsStr : Stmt := top 9999
abbrev sIPW : Stmt := top 9999
abbrev sIsPar : Stmt := top 9999
abbrev sWW : Stmt := top 9999
abbrev sWP : Stmt := top 9999
abbrev sRowOf : Stmt := top 9999
abbrev sSealed : Stmt := top 9999
structure Bare (K : PySem.W.Frag) (mg : Str → Option Value) : Prop where
  ex : ∃ a, mg "BARE" = some (.ref a) ∧ KTup K a [.non, .bl false, .bl true] ∧ ∃ o, K.lookup a = some o ∧ o.cls = .type "tuple" ∧ o.dict = none
theorem enc_atom {d : Nat} {t : T} (h : okA t) : enc d t = encA t := by
  cases d with
  | zero => rfl
  | succ d => cases t with
    | tup l => exact h.elim
    | _ => rfl
theorem okT_atom {d : Nat} {z : List Nat} (h : OkT d (.str z)) : okA (.str z) := by
  cases d <;> exact h
def spIsStr : Sp := fun vs H Q _ => ∃ z : List Nat, vs = [.str (sOf z)] ∧ okA (.str z) ∧ ∀ H', Same H H' → Q (.bl true) H'
def spIPW (d : Nat) : Sp := fun vs H Q _ => ∃ (t : T) (v : V), vs = [.int (d : Int), v] ∧ Rep H d t v ∧ OkT d t ∧ ∀ H', Same H H' → Q (.bl true) H'
def spIsPar : Sp := fun vs H Q _ => ∃ (t : T) (v : V), vs = [v] ∧ Rep H 20 t v ∧ OkT 20 t ∧ ∀ H', Same H H' → Q (.bl true) H'
def spWW : Sp := fun vs H Q _ => ∃ (l : Addr) (n : Int) (acc : List V), vs = [.ref l, .int n] ∧ H l = some (.lst acc) ∧ 0 ≤ n ∧ acc.length + (vlq n.toNat).length ≤ 9000 ∧ ∀ H', Bu l H H' → H' l = some (.lst (acc ++ (vlq n.toNat).map V.int)) → Q .non H'
def spWP (d : Nat) : Sp := fun vs H Q _ => ∃ (l : Addr) (t : T) (v : V) (acc : List V), vs = [.ref l, v] ∧ H l = some (.lst acc) ∧ Rep H d t v ∧ OkT d t ∧ acc.length + (enc d t).length ≤ 9000 ∧ ∀ H', Bu l H H' → H' l = some (.lst (acc ++ (enc d t).map V.int)) → Q .non H'
def spRowOf : Sp := fun vs H Q _ => ∃ (t : T) (v : V), vs = [v] ∧ Rep H 20 t v ∧ OkT 20 t ∧ (enc 20 t).length ≤ 8000 ∧ ∀ q H', Same H H' → RowAt H' q (enc 20 t) → Q (.ref q) H'
def spSealed : Sp := fun vs H Q _ => ∃ (t : T) (v : V), vs = [v] ∧ Rep H 20 t v ∧ OkT 20 t ∧ (enc 20 t).length ≤ 8000 ∧ ∀ q H', Same H H' → RowAt H' q (enc 20 t ++ sealL (enc 20 t)) → Q (.ref q) H'
theorem sOf_len (z : List Nat) : (sOf z).length = z.length := by
  show z.toArray.size = _
  exact List.size_toArray
theorem sOf_at {z : List Nat} {i c : Nat} (h : (sOf z).cps[i]? = some c) : z[i]? = some c := by
  have h : z.toArray[i]? = some c := h
  rwa [List.getElem?_toArray] at h
theorem flat_take {d : Nat} (l : List T) (i : Nat) : (((l.take i).map (enc d)).flatten).length ≤ ((l.map (enc d)).flatten).length := by
  have e : l.map (enc d) = (l.take i).map (enc d) ++ (l.drop i).map (enc d) := by rw [← List.map_append, List.take_append_drop]
  rw [e, List.flatten_append, List.length_append]
  omega
/-- t + u, the whole or a new one -/
def rCatS : R2 := fun x y H Q => ∃ a b xs ys, x = .ref a ∧ y = .ref b ∧ H a = some (.tup xs) ∧ H b = some (.tup ys) ∧ xs.length + ys.length ≤ sizeLine ∧ ∀ z H', Same H H' → H' z = some (.tup (xs ++ ys)) → Q (.ref z) H'
theorem op_catS {X : Cx} : OpR X (binaryOp .Add) rCatS := by
  intro pins s σ H x y v u Q I rx ry h
  obtain ⟨a, b, xs, ys, rfl, rfl, ha, hb, hz, k⟩ := h
  refine op_catA pins s σ H _ _ v u Q I rx ry ⟨a, b, xs, ys, rfl, rfl, SqT.of ha, SqT.of hb, hz, fun e => ?_, fun _ e => ?_, fun _ _ p hp => k p _ (sN hp) upd_same⟩
  · exact k b H (fun _ _ e => e) (by rw [hb, e]; rfl)
  · exact k a H (fun _ _ e => e) (by rw [ha, e, List.append_nil])
section
variable {P : Program} {w : World} {K : PySem.W.Frag} {mg : Str → Option Value} {base : Heap}
end
end Q

namespace Q
open PySem L2 QR
theorem encA_int {i : Int} (h : 0 ≤ i) : encA (.int i) = 3 :: vlq i.toNat := if_pos h
theorem encA_neg {i : Int} (h : ¬ 0 ≤ i) : encA (.int i) = 4 :: vlq (-1 - i).toNat := if_neg h
theorem room_one {a b : Nat} (h : a + b ≤ 9000) (c : 0 < b) : a < sizeLine := size_ok (by omega)
section
variable {P : Program} {w : World} {K : PySem.W.Frag} {mg : Str → Option Value} {base : Heap}
end
end Q

namespace Q
open PySem L2 QR
abbrev sPlace : Stmt := inClass (top 9999) 0
abbrev sRInit : Stmt := inClass (top 9999) 0
abbrev sDue : Stmt := inClass (top 9999) 1
abbrev sRW : Stmt := inClass (top 9999) 2
abbrev sRS : Stmt := inClass (top 9999) 3
abbrev sRT : Stmt := inClass (top 9999) 4
abbrev sRP : Stmt := inClass (top 9999) 5
def xdB (p : Int) : HO := .xd [("place", .int p)]
def spPlace (CB : Addr) : Sp := fun vs H Q _ => ∃ (a : Addr) (y : V), vs = [.ref a, y] ∧ H a = some (exo a CB none) ∧ ∀ d, H d = none → d ≠ a → Q .non (upd (upd H d (exd d [("place", y)])) a (exo a CB (some d)))
/-- what it says of RowReader -/
structure RTxt (K : PySem.W.Frag) (mg : Str → Option Value) (CR : Addr) : Prop where
  cl : Cls K CR
  nR : NoAttr K CR "row"
  nA : NoAttr K CR "at"
  mgC : mg "RowReader" = some (.ref CR)
def rf (q : Addr) (a : Nat) : List (Str × V) := [("row", .ref q), ("at", .int (a : Int))]
theorem put_at (q : Addr) (a b : Nat) : putF "at" (.int (b : Int)) (rf q a) = rf q b := by
  unfold rf putF
  rw [if_neg (by decide +kernel)]
  unfold putF
  rw [if_pos rfl]
/-- a reader of the row at q, at place a -/
structure RdIn (CR : Addr) (H : Hp) (rd dx q : Addr) (bs : List Int) (a : Nat) : Prop where
  at_ : H rd = some (.ins CR dx (rf q a))
  row : RowAt H q bs
  le : a ≤ bs.length
theorem RdIn.tk {CR : Addr} {H H' : Hp} {rd dx q : Addr} {bs : List Int} {a : Nat} (h : RdIn CR H rd dx q bs a) (b : Bu rd H H') : Tk H H' := fun c ys e => b c _ e (ne_of e h.at_ (fun z => by cases z))
theorem RdIn.go {CR : Addr} {H H' : Hp} {rd dx q : Addr} {bs : List Int} {a c : Nat} (h : RdIn CR H rd dx q bs a) (b : Bu rd H H') (e : H' rd = some (.ins CR dx (rf q c))) (l : c ≤ bs.length) : RdIn CR H' rd dx q bs c :=
  ⟨e, h.row.tk (h.tk b), l⟩
theorem RdIn.put {CR : Addr} {H : Hp} {rd dx q : Addr} {bs : List Int} {a c : Nat} (h : RdIn CR H rd dx q bs a) (l : c ≤ bs.length) : RdIn CR (upd H rd (.ins CR dx (putF "at" (.int (c : Int)) (rf q a)))) rd dx q bs c := by
  rw [put_at]
  exact h.go Bu.rf.at upd_same l
/-- what comes of a reading -/
def Out (CB CR rd dx q : Addr) (D : Nat) (x : R) (H : Hp) (Q : VK) (E : XK) : Prop :=
  (∀ t h v H', x = .ok t h → Bu rd H H' → H' rd = some (.ins CR dx (rf q h)) → Rep H' D t v → Q v H') ∧ ∀ p d H', x = .no p → Bu rd H H' → H' d = some (xdB (p : Int)) → E (.ref CB) (some d) H'
theorem Out.from {CB CR rd dx q : Addr} {D : Nat} {x : R} {H H1 : Hp} {Q : VK} {E : XK} (h : Out CB CR rd dx q D x H Q E) (b : Bu rd H H1) : Out CB CR rd dx q D x H1 Q E :=
  ⟨fun t h' v H' e b' e2 r => h.1 t h' v H' e (b.tr b') e2 r, fun p d H' e b' e2 => h.2 p d H' e (b.tr b') e2⟩
def spDue (CB CR : Addr) : Sp := fun vs H Q E => ∃ (rd dx q : Addr) (bs : List Int) (a : Nat), vs = [.ref rd] ∧ RdIn CR H rd dx q bs a ∧ (∀ b, bs[a]? = some b → Q (.int b) H) ∧ (bs[a]? = none → ∀ d H', Same H H' → H' d = some (xdB (a : Int)) → E (.ref CB) (some d) H')
def spRW (CB CR : Addr) : Sp := fun vs H Q E => ∃ (rd dx q : Addr) (bs : List Int) (a : Nat), vs = [.ref rd] ∧ RdIn CR H rd dx q bs a ∧ (∀ n h H', rdW bs a = some (n, h) → Bu rd H H' → H' rd = some (.ins CR dx (rf q h)) → Q (.int n) H') ∧
  (rdW bs a = none → ∀ d H', Bu rd H H' → H' d = some (xdB (a : Int)) → E (.ref CB) (some d) H')
def strR (bs : List Int) (a : Nat) : R := match rdW bs a with
  | none => .no a
  | some (n, h) => if 1 ≤ n ∧ n ≤ 20 then rdS bs n.toNat h [] else .no a
def tupR (bs : List Int) (d a : Nat) : R := match rdW bs a with
  | none => .no a
  | some (n, h) => rdL (rdP bs d) (bs.length + 1) n.toNat h []
def spRS (CB CR : Addr) : Sp := fun vs H Q E => ∃ (rd dx q : Addr) (bs : List Int) (a : Nat), vs = [.ref rd] ∧ RdIn CR H rd dx q bs a ∧ Out CB CR rd dx q 0 (strR bs a) H Q E
def spRT (CB CR : Addr) (d : Nat) : Sp := fun vs H Q E => ∃ (rd dx q : Addr) (bs : List Int) (a : Nat), vs = [.ref rd, .int (d : Int)] ∧ RdIn CR H rd dx q bs a ∧ Out CB CR rd dx q (d + 1) (tupR bs d a) H Q E
def spRP (CB CR : Addr) (d : Nat) : Sp := fun vs H Q E => ∃ (rd dx q : Addr) (bs : List Int) (a : Nat), vs = [.ref rd, .int (d : Int)] ∧ RdIn CR H rd dx q bs a ∧ Out CB CR rd dx q d (rdP bs d a) H Q E
def spRInit (CR : Addr) : Sp := fun vs H Q _ => ∃ (rd dx q : Addr), vs = [.ref rd, .ref q] ∧ H rd = some (.ins CR dx []) ∧ ∀ H', Bu rd H H' → H' rd = some (.ins CR dx (rf q 0)) → Q .non H'
/-- t[lo:hi], as it stands -/
def rSlX : V → Option Int → Option Int → Hp → VK → Prop := fun x lo hi H Q => ∃ a xs, x = .ref a ∧ H a = some (.tup xs) ∧ ∀ z H', Same H H' → H' z = some (.tup (cutV xs lo hi)) → Q (.ref z) H'
theorem sl_X {X : Cx} : SlR X rSlX := by
  intro pins s σ H x v vl vu lo hi sl Q I rx hs pl pu h
  obtain ⟨a, xs, rfl, ha, k⟩ := h
  refine sl_tupA pins s σ H _ v vl vu lo hi sl Q I rx hs pl pu ⟨a, xs, rfl, SqT.of ha, fun e => k a H (fun _ _ e => e) ?_, fun _ p hp => k p _ (sN hp) upd_same⟩
  unfold cutV
  rw [e.1, e.2, List.drop_zero, Nat.sub_zero, List.take_length]
  exact ha
theorem cut_nat (xs : List V) {a b : Nat} (h : a ≤ b) (l : b ≤ xs.length) : cutV xs (some (a : Int)) (some (b : Int)) = (xs.drop a).take (b - a) := by
  unfold cutV
  rw [HT.sIx_nat, HT.sIx_nat, Nat.min_eq_left (show a ≤ xs.length by omega), Nat.min_eq_left l]
theorem at_row {bs : List Int} {a : Nat} {b : Int} (h : bs[a]? = some b) : atI (bs.map V.int) (a : Int) = some (V.int b) := atI_nat (by rw [List.getElem?_map, h]; rfl)
theorem join_signs : ∀ acc : List Nat, TL.joinL [] (acc.map fun c => [c]) = acc
  | [] => rfl
  | [_] => rfl
  | c :: d :: r => by
    have ih := join_signs (d :: r)
    show [c] ++ ([] ++ TL.joinL [] ((d :: r).map fun c => [c])) = _
    rw [ih]
    rfl
theorem join_sOf (acc : List Nat) : Txt.join (SX.S []) (acc.map fun c => sOf [c]) = sOf acc := by
  have e : (acc.map fun c => sOf [c]) = (acc.map fun c => [c]).map SX.S := by rw [List.map_map]; rfl
  rw [e, SX.join_S, join_signs]
  rfl
section
variable {P : Program} {w : World} {K : PySem.W.Frag} {mg : Str → Option Value} {base : Heap}
/-- raise BadRow(y) -/
theorem bad_raise {CB : Addr} {H1 : Hp} {y : V} {E : XK} (k : ∀ d H', Same H1 H' → H' d = some (.xd [("place", y)]) → E (.ref CB) (some d) H') :
    [y].length ≤ 1000 ∧ ∀ a, H1 a = none → spPlace CB (.ref a :: ([y] ++ [])) (upd H1 a (exo a CB none)) (fun v H2 => v = .non ∧ ∃ (d : Addr) (fs : List (Str × V)), H2 a = some (exo a CB (some d)) ∧ H2 d = some (exd d fs) ∧ H1 d = none ∧ E (.ref CB) (some d) (upd (del H2 a) d (.xd fs))) (fun _ _ _ => False) := by
  refine ⟨(by show 1 ≤ 1000; decide), fun a ha => ⟨a, y, rfl, upd_same, fun d hd hda => ⟨rfl, d, _, upd_same, ?_, ?_, k d _ (fun b o e => ?_) upd_same⟩⟩⟩
  · rw [upd_ne hda, upd_same]
  · rw [upd_ne hda] at hd
    exact hd
  · have nba : b ≠ a := ne_of_none e ha
    rw [upd_ne hda] at hd
    have nbd : b ≠ d := ne_of_none e hd
    rw [upd_ne nbd, del_ne nba, upd_ne nba, upd_ne nbd, upd_ne nba]
    exact e
end
end Q

namespace Q
open PySem L2 QR
theorem rdS_at {r : List Int} {m h : Nat} {acc : List Nat} {b : Int} (e : r[h]? = some b) : rdS r (m + 1) h acc = if isSg b = true then rdS r m (h + 1) (acc ++ [b.toNat]) else .no h := by
  rw [rdS, e]
theorem rdS_no {r : List Int} {m h : Nat} {acc : List Nat} (e : r[h]? = none) : rdS r (m + 1) h acc = .no h := by
  rw [rdS, e]
theorem lens1 : ∀ acc : List Nat, ((acc.map fun c => sOf [c]).map (·.length)).sum = acc.length
  | [] => rfl
  | c :: r => by
    rw [List.map_cons, List.map_cons, List.sum_cons, lens1 r, List.length_cons]
    show 1 + r.length = _
    omega
section
variable {P : Program} {w : World} {K : PySem.W.Frag} {mg : Str → Option Value} {base : Heap}
end
end Q

namespace Q
open PySem L2 QR
abbrev sRAll : Stmt := top 9999
abbrev sUns : Stmt := top 9999
theorem lay_ints : ∀ l : List Int, PyData.canLayAll0 (l.map PyData.int) = true
  | [] => by simp [PyData.canLayAll0]
  | a :: r => by
    have ih := lay_ints r
    simp only [List.map_cons, PyData.canLayAll0, PyData.canLay0, ih, Bool.and_self]
theorem eqv_ints : ∀ x y : List Int, PyData.eqvAll (x.map PyData.int) (y.map PyData.int) = decide (x = y)
  | [], [] => by simp [PyData.eqvAll]
  | [], _ :: _ => by simp [PyData.eqvAll]
  | _ :: _, [] => by simp [PyData.eqvAll]
  | a :: x, b :: y => by
    have ih := eqv_ints x y
    simp only [List.map_cons, PyData.eqvAll, PyData.eqv, ih]
    by_cases c : a = b
    · subst c
      simp
    · simp [c]
theorem dp_ints {K : PySem.W.Frag} {H : Hp} : ∀ l : List Int, DpAll K H (l.map V.int) (l.map PyData.int)
  | [] => .nil
  | a :: r => .cons (.int a) (dp_ints r)
theorem depth_ints : ∀ l : List Int, PyData.depthAll (l.map PyData.int) = 0
  | [] => by simp [PyData.depthAll]
  | a :: r => by
    have ih := depth_ints r
    rw [List.map_cons]
    simp only [PyData.depthAll, PyData.depth, ih]
    rfl
theorem shaped_ints (l : List Int) : SeqAt.shaped (.tuple (l.map PyData.int)) = true := by
  unfold SeqAt.shaped
  have h := depth_ints l
  refine Bool.and_eq_true_iff.mpr ⟨?_, decide_eq_true ?_⟩
  · simp only [PyData.canLay0, lay_ints]
  · simp only [PyData.depth, h]
    decide
/-- t == u, t != u: tuples of whole numbers -/
def rEqI (f : Bool → Bool) : R2 := fun x y H Q => ∃ (a b : Addr) (ns ms : List Int), x = .ref a ∧ y = .ref b ∧ H a = some (.tup (ns.map V.int)) ∧ H b = some (.tup (ms.map V.int)) ∧ Q (.bl (f (decide (ns = ms)))) H
theorem op_neI {X : Cx} (hu : X.A.units + 64 < cLine) : OpR X (compareOp .NotEq) (rEqI fun b => !b) := by
  intro pins s σ H x y v u Q I rx ry h
  obtain ⟨a, b, ns, ms, rfl, rfl, ha, hb, k⟩ := h
  refine op_neD hu pins s σ H _ _ v u Q I rx ry ⟨_, _, .tup (SqT.of ha) (dp_ints ns), .tup (SqT.of hb) (dp_ints ms), shaped_ints ns, shaped_ints ms, ?_⟩
  simp only [PyData.eqv, eqv_ints]
  exact k
theorem op_eqI {X : Cx} (hu : X.A.units + 64 < cLine) : OpR X (compareOp .Eq) (rEqI fun b => b) := by
  intro pins s σ H x y v u Q I rx ry h
  obtain ⟨a, b, ns, ms, rfl, rfl, ha, hb, k⟩ := h
  refine op_eqD hu pins s σ H _ _ v u Q I rx ry ⟨_, _, .tup (SqT.of ha) (dp_ints ns), .tup (SqT.of hb) (dp_ints ms), shaped_ints ns, shaped_ints ms, ?_⟩
  simp only [PyData.eqv, eqv_ints]
  exact k
theorem cut_h4 (xs : List V) : cutV xs none (some (-4)) = xs.take (xs.length - 4) := by
  have e : HT.sIx xs.length xs.length (some (-4)) = xs.length - 4 := by
    show (if (-4 : Int) < 0 then ((-4 : Int) + (xs.length : Int)).toNat else min (-4 : Int).toNat xs.length) = _
    rw [if_pos (by decide)]
    omega
  unfold cutV
  rw [HT.sIx_none, e, List.drop_zero, Nat.sub_zero]
theorem cut_t4 (xs : List V) : cutV xs (some (-4)) none = xs.drop (xs.length - 4) := by
  have e : HT.sIx xs.length 0 (some (-4)) = xs.length - 4 := by
    show (if (-4 : Int) < 0 then ((-4 : Int) + (xs.length : Int)).toNat else min (-4 : Int).toNat xs.length) = _
    rw [if_pos (by decide)]
    omega
  unfold cutV
  rw [HT.sIx_none, e, List.take_of_length_le (by rw [List.length_drop]; omega)]
theorem RowAt.sub {H : Hp} {q : Addr} {bs cs : List Int} (h : ∀ b ∈ bs, 0 ≤ b ∧ b < 256) (l : bs.length ≤ 9000) (e : H q = some (.tup (cs.map V.int))) (s : ∀ b ∈ cs, b ∈ bs) (k : cs.length ≤ bs.length) : RowAt H q cs := ⟨e, fun b hb => h b (s b hb), by omega⟩
def spRAll (CB : Addr) : Sp := fun vs H Q E => ∃ (q : Addr) (bs : List Int), vs = [.ref q] ∧ RowAt H q bs ∧ (∀ t h v H', rdAll bs = .ok t h → Same H H' → Rep H' 20 t v → Q v H') ∧ ∀ p d H', rdAll bs = .no p → Same H H' → H' d = some (xdB (p : Int)) → E (.ref CB) (some d) H'
/-- what unsealed is asked of -/
def UnsIn (K : PySem.W.Frag) (H : Hp) (v : V) (t : T) : Prop := (∃ q bs, v = .ref q ∧ RowAt H q bs ∧ t = unsT bs) ∨ (∃ q xs, v = .ref q ∧ H q = some (.tup xs) ∧ xs.length ≤ 9000 ∧ (∀ x ∈ xs, Sc x) ∧ xs.all isB = false ∧ t = .tup []) ∨
  (∃ ty, TyX K H v ty ∧ PySem.W.kitOne K ty (.type "tuple") = some false ∧ t = .tup [])
def spUns (K : PySem.W.Frag) : Sp := fun vs H Q _ => ∃ (v : V) (t : T), vs = [v] ∧ UnsIn K H v t ∧ ∀ u H', Same H H' → Rep H' 22 t u → Q u H'
theorem rep_nil {H : Hp} {a : Addr} {d : Nat} (h : H a = some (.tup [])) : Rep H (d + 1) (.tup []) (.ref a) := ⟨a, [], rfl, h, rfl, Nat.zero_le _, fun i x t hx => by simp at hx⟩
theorem rep_one {H : Hp} {a : Addr} {d : Nat} {t : T} {v : V} (h : H a = some (.tup [v])) (r : Rep H d t v) : Rep H (d + 1) (.tup [t]) (.ref a) := ⟨a, [v], rfl, h, rfl, (by show 1 ≤ 9000; decide), fun i x t' hx ht => by
  cases i with
  | zero =>
    cases hx
    cases ht
    exact r
  | succ i => simp at hx⟩
section
variable {P : Program} {w : World} {K : PySem.W.Frag} {mg : Str → Option Value} {base : Heap}
end
end Q

namespace Q
open PySem L2 QR
abbrev sPool : Stmt := top 9999
abbrev sDraw : Stmt := top 9999
abbrev sIs : Stmt := top 9999
abbrev sLW : Stmt := top 9999
abbrev sLB : Stmt := top 9999
abbrev sLNum : Stmt := top 9999
abbrev sLPar : Stmt := top 9999
abbrev sSame : Stmt := top 23
theorem sq_same {K : PySem.W.Frag} {H H' : Hp} {a : Addr} {xs : List V} (h : SqL K H a xs) (s : Same H H') : SqL K H' a xs :=
  h.elim (fun h => .inl (h.elim (fun h => .inl (s _ _ h)) fun ⟨o, h⟩ => .inr ⟨o, s _ _ h⟩)) fun h => .inr h
/-- the drawing pool at p, its great numbers at l -/
structure PoolX (H : Hp) (p l : Addr) (seed cnt : Int) (cs : List Int) : Prop where
  at_ : H p = some (.lst [.int seed, .int cnt, .ref l])
  lst : H l = some (.lst (cs.map V.int))
  ne : l ≠ p
  s0 : 0 ≤ seed
  s1 : seed < 2147483647
def PoolAt (H : Hp) (p l : Addr) : Prop := ∃ seed cnt cs, PoolX H p l seed cnt cs
/-- all stands but the pool -/
def Kp (p l : Addr) (H H' : Hp) : Prop := ∀ b o, H b = some o → b ≠ p → b ≠ l → H' b = some o
theorem Kp.rf {p l : Addr} {H : Hp} : Kp p l H H := fun _ _ e _ _ => e
theorem Kp.tr {p l : Addr} {H H1 H2 : Hp} (h : Kp p l H H1) (g : Kp p l H1 H2) : Kp p l H H2 := fun b o e n m => g b o (h b o e n m) n m
theorem Kp.st {p l : Addr} {H H1 H2 : Hp} (h : Kp p l H H1) (s : Same H1 H2) : Kp p l H H2 := fun b o e n m => s b o (h b o e n m)
theorem Kp.of {p l : Addr} {H H1 : Hp} (s : Same H H1) : Kp p l H H1 := fun b o e _ _ => s b o e
theorem Kp.atp {p l : Addr} {H H1 : Hp} {o : HO} (h : Kp p l H H1) : Kp p l H (upd H1 p o) := fun b u e n m => by rw [upd_ne n]; exact h b u e n m
theorem Kp.atl {p l : Addr} {H H1 : Hp} {o : HO} (h : Kp p l H H1) : Kp p l H (upd H1 l o) := fun b u e n m => by rw [upd_ne m]; exact h b u e n m
/-- over a thing that is new -/
theorem Kp.new {p l q : Addr} {H H1 : Hp} {o : HO} (h : Kp p l H H1) (n : H q = none) : Kp p l H (upd H1 q o) := fun b u e n1 n2 => by
  rw [upd_ne (ne_of_none e n)]
  exact h b u e n1 n2
theorem PoolAt.tk {H H' : Hp} {p l : Addr} (g : PoolAt H p l) (k : Kp p l H H') : Tk H H' := fun b xs e => by
  obtain ⟨seed, cnt, cs, x⟩ := g
  exact k b _ e (ne_of e x.at_ (fun z => by cases z)) (ne_of e x.lst (fun z => by cases z))
theorem PoolAt.same {H H' : Hp} {p l : Addr} (g : PoolAt H p l) (s : Same H H') : PoolAt H' p l := by
  obtain ⟨seed, cnt, cs, x⟩ := g
  exact ⟨seed, cnt, cs, s _ _ x.at_, s _ _ x.lst, x.ne, x.s0, x.s1⟩
theorem PoolAt.none {H : Hp} {p l q : Addr} (g : PoolAt H p l) (n : H q = Option.none) : q ≠ p ∧ q ≠ l := by
  obtain ⟨seed, cnt, cs, x⟩ := g
  exact ⟨fun e => (by rw [e, x.at_] at n; cases n), fun e => (by rw [e, x.lst] at n; cases n)⟩
theorem PoolAt.upd {H : Hp} {p l q : Addr} {o : HO} (g : PoolAt H p l) (n1 : q ≠ p) (n2 : q ≠ l) : PoolAt (L2.upd H q o) p l := by
  obtain ⟨seed, cnt, cs, x⟩ := g
  exact ⟨seed, cnt, cs, by rw [upd_ne n1.symm]; exact x.at_, by rw [upd_ne n2.symm]; exact x.lst, x.ne, x.s0, x.s1⟩
def spPool (K : PySem.W.Frag) : Sp := fun vs H Q _ => ∃ (a : Addr) (ns : List Int), vs = [.ref a] ∧ SqL K H a (ns.map V.int) ∧ ns.length ≤ 63 ∧ ∀ (p l : Addr) H', PoolAt H' p l → Same H H' → H p = none → H l = none → Q (.ref p) H'
def spDraw : Sp := fun vs H Q _ => ∃ (p l : Addr) (m : Int), vs = [.ref p, .int m] ∧ PoolAt H p l ∧ 0 < m ∧ m < 1099511627776 ∧ ∀ (d : Int) H', 0 ≤ d → d < m → PoolAt H' p l → Kp p l H H' → Q (.int d) H'
def spIs : Sp := fun vs H Q _ => ∃ i : Int, vs = [.int i, .int i] ∧ i.natAbs.log2 < 1920 ∧ Q (.bl true) H
def spLW : Sp := fun vs H Q _ => ∃ n : Int, vs = [.int n] ∧ 0 ≤ n ∧ (vlq n.toNat).length ≤ 8000 ∧ ∀ z H', Same H H' → H' z = some (.lst ((vlq n.toNat).map V.int)) → Q (.ref z) H'
def spLB (d : Nat) : Sp := fun vs H Q _ => ∃ (t : T) (v : V), vs = [v] ∧ Rep H d t v ∧ OkT d t ∧ (enc d t).length ≤ 8000 ∧ ∀ z H', Same H H' → H' z = some (.lst ((enc d t).map V.int)) → Q (.ref z) H'
def spLNum : Sp := fun vs H Q _ => ∃ (p l : Addr), vs = [.ref p] ∧ PoolAt H p l ∧ ∀ (i : Int) H', PoolAt H' p l → Kp p l H H' → i.natAbs < 2 ^ 55 → Q (.int i) H'
def bnd : Nat → Nat
  | 0 => 30
  | d + 1 => 4 * bnd d + 30
def spLPar (d : Nat) : Sp := fun vs H Q _ => ∃ (p l : Addr), vs = [.ref p, .int (d : Int)] ∧ PoolAt H p l ∧ ∀ (t : T) (v : V) H', PoolAt H' p l → Kp p l H H' → Rep H' d t v → OkT d t → (enc d t).length ≤ bnd d → Q v H'
def spSame (d : Nat) : Sp := fun vs H Q _ => ∃ (t : T) (u v : V), vs = [u, v] ∧ Rep H d t u ∧ Rep H d t v ∧ ∀ H', Same H H' → Q (.bl true) H'
theorem cut_map (ns : List Int) (n : Nat) : cutV (ns.map V.int) none (some (n : Int)) = (ns.take n).map V.int := by
  unfold cutV
  rw [HT.sIx_none, HT.sIx_nat, List.drop_zero, Nat.sub_zero, List.map_take]
  rcases Nat.le_total n (ns.map V.int).length with c | c
  · rw [Nat.min_eq_left c]
  · rw [Nat.min_eq_right c, List.take_length, List.take_of_length_le c]
theorem at_in {α : Type} (xs : List α) {d : Int} (h0 : 0 ≤ d) (h1 : d < xs.length) : ∃ v, v ∈ xs ∧ atI xs d = some v := by
  obtain ⟨n, rfl⟩ : ∃ n : Nat, d = (n : Int) := ⟨d.toNat, by omega⟩
  have hn : n < xs.length := by omega
  exact ⟨xs[n], List.getElem_mem _, atI_nat (List.getElem?_eq_getElem hn)⟩
theorem ix0 {n : Nat} (h : 0 < n) : ixN n 0 = some 0 := by
  unfold ixN
  rw [if_pos (by decide), if_pos (by omega)]
  rfl
section
variable {P : Program} {w : World} {K : PySem.W.Frag} {mg : Str → Option Value} {base : Heap}
end
end Q

namespace Q
open PySem L2 QR
theorem walk_zipT {K : PySem.W.Frag} {a b : Addr} {xs ys : List V} {n : Nat} (hn : n = min xs.length ys.length) : Walk (RZ.ItzT K a b) n (fun H => SqT K H a xs ∧ SqT K H b ys) (YPair (fun i => xs[i]?) (fun i => ys[i]?)) := by
  subst hn
  refine ⟨fun i H hi q => ?_, fun H q => ⟨xs, ys, q.1, q.2, by omega⟩, fun i H v H' hi q y => ?_⟩
  · have h1 : i < xs.length := Nat.lt_of_lt_of_le hi (Nat.min_le_left _ _)
    have h2 : i < ys.length := Nat.lt_of_lt_of_le hi (Nat.min_le_right _ _)
    exact ⟨xs, ys, _, _, q.1, q.2, List.getElem?_eq_getElem h1, List.getElem?_eq_getElem h2⟩
  · obtain ⟨T, x, z, e1, e2, e3, e4, e5⟩ := y
    exact ⟨T, x, z, e1, e2, e3, e4 xs q.1, e5 ys q.2⟩
theorem rep_true (n : Nat) : (List.replicate n true).all id = true := by
  rw [List.all_eq_true]
  intro x hx
  rw [(List.mem_replicate.mp hx).2]
  rfl
theorem isI (a b : Nat) : decide (V.bl (decide (a = b)) = V.bl (decide (a = b))) = true := decide_eq_true rfl
section
variable {P : Program} {w : World} {K : PySem.W.Frag} {mg : Str → Option Value} {base : Heap}
end
end Q

namespace Q
open PySem L2 QR
abbrev sLSg : Stmt := top 9999
abbrev sLMk : Stmt := top 9999
abbrev sLSl : Stmt := top 9999
abbrev sLRW : Stmt := top 9999
theorem bnd_ge : ∀ d, 30 ≤ bnd d
  | 0 => Nat.le_refl _
  | d + 1 => by
    show 30 ≤ 4 * bnd d + 30
    omega
theorem enc_int {d : Nat} {i : Int} (h : i.natAbs < 2 ^ 55) : (enc d (.int i)).length ≤ 9 := by
  rw [enc_atom (t := .int i) trivial]
  by_cases c : 0 ≤ i
  · rw [encA_int c, List.length_cons]
    have := vlq_small 7 i.toNat (Nat.lt_of_lt_of_le (show i.toNat < 2 ^ 55 by omega) (by decide))
    omega
  · rw [encA_neg c, List.length_cons]
    have := vlq_small 7 (-1 - i).toNat (Nat.lt_of_lt_of_le (show (-1 - i).toNat < 2 ^ 55 by omega) (by decide))
    omega
theorem okT_at {d : Nat} {t : T} (h : okA t) : OkT d t := by
  cases d with
  | zero => exact h
  | succ d => cases t with
    | tup l => exact h.elim
    | _ => exact h
theorem flat_bnd {d : Nat} {B : Nat} : ∀ {l : List T}, (∀ t ∈ l, (enc d t).length ≤ B) → ((l.map (enc d)).flatten).length ≤ l.length * B
  | [], _ => by simp
  | t :: l, h => by
    have := flat_bnd (l := l) fun x hx => h x (List.mem_cons_of_mem _ hx)
    have := h t List.mem_cons_self
    rw [List.map_cons, List.flatten_cons, List.length_append, List.length_cons, Nat.add_mul]
    omega
def drS : Str := " ~a0Zb'"
theorem drS_ok : ∀ c ∈ drS.cps.toList, isSg (c : Int) = true := by decide +kernel
theorem drS_len : drS.cps.toList.length = 7 := by decide +kernel
def lsA : Str := " !\"#$&'()*+,-./0123456789:;<=>?@ABCDEFGHIJKLMNOPQRSTUVWXYZ[\\]^_"
def lsB : Str := "`abcdefghijklmnopqrstuvwxyz{|}~"
theorem ls_at : ∀ k : Nat, k < 94 → (lsA ++ lsB).cps.toList[k]? = some (if k < 5 then 32 + k else 33 + k) := by decide +kernel
def spLSg : Sp := fun vs H Q _ => ∃ b : Int, vs = [.int b] ∧ isSg b = true ∧ Q (.str (sOf [b.toNat])) H
def spLMk (K : PySem.W.Frag) : Sp := fun vs H Q _ => ∃ (q : Addr) (bs : List Int), vs = [.ref q] ∧ H q = some (.tup (bs.map V.int)) ∧ Q (.int (mkF bs)) H
def spLSl : Sp := fun vs H Q _ => ∃ (q : Addr) (bs : List Int), vs = [.ref q] ∧ H q = some (.tup (bs.map V.int)) ∧ bs.length ≤ 9000 ∧ ∀ z H', Same H H' → H' z = some (.tup ((bs ++ sealL bs).map V.int)) → Q (.ref z) H'
def spLRW : Sp := fun vs H Q _ => ∃ (q : Addr) (bs : List Int) (a : Nat), vs = [.ref q, .int (a : Int)] ∧ RowAt H q bs ∧ a ≤ bs.length ∧ (∀ n h z H', rdW bs a = some (n, h) → Same H H' → H' z = some (.tup [.int n, .int ((h : Nat) : Int)]) → Q (.ref z) H') ∧ (rdW bs a = none → ∀ z H', Same H H' → H' z = some (.tup [.non, .int (a : Int)]) → Q (.ref z) H')
section
variable {P : Program} {w : World} {K : PySem.W.Frag} {mg : Str → Option Value} {base : Heap}
end
end Q

/-! t[::-1] of a tuple -/
namespace HT
open PySem PySem.Calls PySem.W PyProof.Rows
theorem adjust_back (n : Nat) : Builtin.Slice.sliceAdjust none none (-1) (n : Int) = ((n : Int) - 1, -1) := by
  unfold Builtin.Slice.sliceAdjust
  rfl
theorem places_back (n : Nat) : Builtin.Slice.slicePlaces ((n : Int) - 1) (-1) (-1) = n := by
  unfold Builtin.Slice.slicePlaces
  have h1 : ¬ ((-1 : Int) > 0) := by decide
  rw [if_neg h1]
  by_cases c : (n : Int) - 1 > -1
  · rw [if_pos c, show (- -1 : Int) = 1 by decide, Int.ediv_one]
    omega
  · rw [if_neg c]
    omega
theorem fm_congr {α β : Type} {f g : α → Option β} : ∀ {l : List α}, (∀ x ∈ l, f x = g x) → l.filterMap f = l.filterMap g
  | [], _ => rfl
  | a :: l, h => by
    rw [List.filterMap_cons, List.filterMap_cons, h a List.mem_cons_self, fm_congr fun x hx => h x (List.mem_cons_of_mem _ hx)]
theorem pick_back (xs : Array Value) : (List.range xs.size).filterMap (fun (k : Nat) => xs[((xs.size : Int) - 1 + (k : Int) * (-1)).toNat]?) = xs.toList.reverse := by
  have e : (List.range xs.size).filterMap (fun (k : Nat) => xs[((xs.size : Int) - 1 + (k : Int) * (-1)).toNat]?) = ((List.range xs.size).map fun k => xs.size - 1 - k).filterMap (xs[·]?) := by
    rw [List.filterMap_map]
    refine fm_congr fun k hk => ?_
    have := List.mem_range.mp hk
    show xs[((xs.size : Int) - 1 + (k : Int) * (-1)).toNat]? = xs[xs.size - 1 - k]?
    rw [show ((xs.size : Int) - 1 + (k : Int) * (-1)).toNat = xs.size - 1 - k by omega]
  rw [e, PySem.W.krv_range, List.filterMap_reverse, PySem.W.krv_all]
section
variable {prog : Program} {w : World} {A : Around} {E : Value → Shared → Prop} {s : Shared}
theorem sliceApplied_back {sl : Addr} {vs : Value} {n : Nat} {Q : Int × Int × Nat → Shared → Prop} (hs : s.heap.IsSliceOf sl .none .none vs) (ps : IsPart vs (some (-1)))
    (h : Q ((n : Int) - 1, -1, n) s) : wpAny (model prog w) A (Builtin.Slice.sliceApplied (.ref sl) (pure (n : Int))) Q E s := by
  obtain ⟨os, hos, hcs, hds⟩ := id hs
  unfold Builtin.Slice.sliceApplied Builtin.Slice.sliceFields
  refine wpAny_bind (wpAny_bind (wpAny_field hos hds (x := .none) rfl (wpAny_bind (wpAny_field hos hds (x := .none) rfl (wpAny_bind (wpAny_field hos hds (x := vs) rfl (wpAny_pure ?_)))))))
  refine wpAny_bind (slicePart_ ps ?_)
  show wpAny _ _ (if ((-1 : Int) == 0) = true then _ else _) _ _ s
  rw [if_neg (by decide)]
  refine wpAny_bind (slicePart_ .none (wpAny_bind (slicePart_ .none (wpAny_bind (wpAny_pure ?_)))))
  show wpAny _ _ (match Builtin.Slice.sliceAdjust none none (-1) (n : Int) with | (lo, hi) => pure (lo, (-1 : Int), Builtin.Slice.slicePlaces lo hi (-1))) _ _ s
  rw [adjust_back n]
  show wpAny _ _ (pure ((n : Int) - 1, (-1 : Int), Builtin.Slice.slicePlaces ((n : Int) - 1) (-1) (-1))) _ _ s
  rw [places_back]
  exact wpAny_pure h
theorem getItem_tuple_back {t sl : Addr} {items : Array Value} {vs : Value} {Q : Value → Shared → Prop} (ht : IsTup s.heap t items) (hs : s.heap.IsSliceOf sl .none .none vs) (ps : IsPart vs (some (-1)))
    (h : Q (.ref s.heap.objs.size) { s with heap := s.heap.push { cls := .type "tuple", data := .seq items.toList.reverse.toArray } }) (hsz : items.size ≤ sizeLine) : wpAny (model prog w) A (getItem (.ref t) (.ref sl)) Q E s := by
  have fits : sizeOk (.seq items.toList.reverse.toArray) := by
    show items.toList.reverse.toArray.size ≤ sizeLine
    rw [List.size_toArray, List.length_reverse, Array.length_toList]
    exact hsz
  obtain ⟨os, hos, hcs, hds⟩ := id hs
  have hTs : s.TypeIs (.ref sl) "slice" := ⟨os, hos, hcs⟩
  unfold getItem
  try with_reducible refine wpAny_holding ?_
  first | refine wpAny_bind (wpAny_pure ?_) | skip
  refine wpAny_bind (wpAny_sequenceKey ht.typeIs (by decide) ?_)
  refine wpAny_bind (wpAny_callSpecial?_slot (name := Str.ofString "__getitem__") ht.typeIs PyProof.Rows.slot_tuple_getitem
    (wpAny_call_entry PyProof.Rows.slot_tuple_getitem ht.typeIs entry_tuple_getitem ?_ (args_tuple_getitem _ _)))
  show wpAny _ _ (Builtin.Tuple.tupleItemsOf (.ref t) >>= _) _ _ s
  refine wpAny_bind (tupleItemsOf_ ht ?_)
  refine wpAny_bind (wpAny_typeOf hTs ?_)
  rw [if_pos (by decide)]
  refine wpAny_bind (sliceApplied_back hs ps ?_)
  have no : ¬ ((((items.size : Int) - 1) == 0 && (-1 : Int) == 1 && items.size == items.size) = true) := by
    intro q
    rw [Bool.and_eq_true, Bool.and_eq_true] at q
    exact absurd q.1.2 (by decide)
  show wpAny _ _ (if (((items.size : Int) - 1) == 0 && (-1 : Int) == 1 && items.size == items.size) = true then _ else _) _ _ s
  rw [if_neg no, pick_back]
  first
    | exact wpAny_bind (m := Builtin.Tuple.tupleExact _) (wpAny_newObj_type (wpAny_pure ⟨_, rfl, wpAny_pure h⟩) fits)
    | exact wpAny_bind (m := Builtin.Tuple.tupleExact _) (wpAny_newObj_type (wpAny_bind (wpAny_pure (wpAny_pure ⟨_, rfl, wpAny_pure h⟩))) fits)
    | exact wpAny_bind (wpAny_bind (m := Builtin.Tuple.tupleExact _) (wpAny_newObj_type (wpAny_pure (wpAny_pure ⟨_, rfl, wpAny_pure h⟩)) fits))
    | exact wpAny_bind (wpAny_bind (m := Builtin.Tuple.tupleExact _) (wpAny_newObj_type (wpAny_pure ⟨_, rfl, wpAny_pure h⟩) fits))
end
end HT
namespace L2
open PySem PySem.Spec PyProof.Rows HT
section
variable {X : Cx}
/-- t[::-1], the items turned about -/
def tRevT (K : PySem.W.Frag) (te : TE) : TE := fun σ H Q => te σ H fun x H1 => ∃ a xs, x = .ref a ∧ SqT K H1 a xs ∧ ∀ p, H1 p = none → Q (.ref p) (upd H1 p (.tup xs.reverse))
theorem pe_revT {e : Expr} {te : TE} {k : Nat} {p1 p2 p3 pos : Pos} (he : PE X e te) : PE X (.Subscript e (.Slice none none (some (.UnaryOp .USub (.Constant (.int 1) k p1) p2)) p3) pos) (tRevT X.K te) := by
  refine ⟨fun pins s σ H Q I h => Subscript_ (thn (he.run pins s σ H _ I h) fun v s1 ⟨x, H1, I1, r1, q1⟩ => ?_)⟩
  obtain ⟨a, xs, rfl, hx, q⟩ := q1
  cases r1
  have hst : PO X (some (.UnaryOp .USub (.Constant (.int 1) k p1) p2)) (tPart (tUn (rU fun i => .int (-i)) (tC (.int 1)))) := po_some (pe_un un_neg pe_int)
  refine wpAny_Slice (thn (po_none.run pins s1 σ H1 (fun o H2 => o = none ∧ H2 = H1) I1 ⟨rfl, rfl⟩) fun vl s2 ⟨l, H2, I2, pl, el, e2⟩ => ?_)
  subst el e2
  refine thn (po_none.run pins s2 σ H2 (fun o H3 => o = none ∧ H3 = H2) I2 ⟨rfl, rfl⟩) fun vu s3 ⟨u, H3, I3, pu, eu, e3⟩ => ?_
  subst eu e3
  refine thn (hst.run pins s3 σ H3 (fun o H4 => o = some (-1) ∧ H4 = H3) I3 ⟨1, rfl, -1, rfl, rfl, rfl⟩) fun vs s4 ⟨o, H4, I4, ps, eo, e4⟩ => ?_
  subst eo e4
  have I5 : Inv X pins σ H4 { s4 with heap := s4.heap.push { cls := .type "slice", data := .fields #[vl, vu, vs] } } := I4.kept (t' := s4.toks) fun b ob q => Heap.get?_push_of_some _ q
  obtain ⟨its, r, ht, hz⟩ := I5.tuple hx
  have hlen := r.length
  cases pl
  cases pu
  show wpAny (model X.prog X.w) X.A (subscriptTail e (.Slice none none (some (.UnaryOp .USub (.Constant (.int 1) k p1) p2)) p3) (.ref a) (.ref s4.heap.objs.size)) (EP X pins σ Q) X.xe _
  refine tail_any (ops := [.ref a, .ref s4.heap.objs.size]) ht.typeIs PyProof.Rows.slot_tuple_getitem.lookup ?_ (by with_unfolding_all rfl)
  refine getItem_tuple_back ht (Heap.IsSliceOf.new _ .none .none vs) ps ?_ (by rw [List.size_toArray]; omega)
  refine ⟨.ref _, _, I5.laid (t' := s4.toks) (o := .tup xs.reverse) (fun b ob q => Heap.get?_push_of_some _ q) (Nat.le_refl _) ?_, rfl, q _ (I5.hok.fresh (Nat.le_refl _))⟩
  exact ⟨by rw [List.length_reverse]; exact hz, _, r.reverse, IsTup.new _ _⟩
end
end L2

namespace Q
open PySem L2 QR
abbrev sLR : Stmt := top 9999
abbrev sLRS : Stmt := top 9999
abbrev sTold : Stmt := top 9999
abbrev sOpen : Stmt := top 9999
/-- what the law's reader tells: (None, p) or ((t,), h) -/
def OutL (D : Nat) (x : R) (H : Hp) (Q : VK) : Prop :=
  (∀ t h v w z H', x = .ok t h → Same H H' → H' w = some (.tup [v]) → Rep H' D t v → H' z = some (.tup [.ref w, .int ((h : Nat) : Int)]) → Q (.ref z) H') ∧ ∀ p z H', x = .no p → Same H H' → H' z = some (.tup [.non, .int ((p : Nat) : Int)]) → Q (.ref z) H'
theorem OutL.from {D : Nat} {x : R} {H H1 : Hp} {Q : VK} (h : OutL D x H Q) (s : Same H H1) : OutL D x H1 Q :=
  ⟨fun t h' v w z H' e s' a b c => h.1 t h' v w z H' e (sT s s') a b c, fun p z H' e s' a => h.2 p z H' e (sT s s') a⟩
def strL (bs : List Int) (a : Nat) (n : Int) (h : Nat) : R := if 1 ≤ n ∧ n ≤ 20 then rdS bs n.toNat h [] else .no a
def spLRS : Sp := fun vs H Q _ => ∃ (q : Addr) (bs : List Int) (a h : Nat) (n : Int), vs = [.ref q, .int (a : Int), .int n, .int (h : Int)] ∧ RowAt H q bs ∧ h ≤ bs.length ∧ OutL 0 (strL bs a n h) H Q
def spLR (d : Nat) : Sp := fun vs H Q _ => ∃ (q : Addr) (bs : List Int) (a : Nat), vs = [.ref q, .int (a : Int), .int (d : Int)] ∧ RowAt H q bs ∧ a ≤ bs.length ∧ OutL d (rdP bs d a) H Q
def spTold : Sp := fun vs H Q _ => ∃ (q : Addr) (bs : List Int), vs = [.ref q] ∧ RowAt H q bs ∧ (∀ t h v w H', rdAll bs = .ok t h → Same H H' → H' w = some (.tup [v]) → Rep H' 20 t v → Q (.ref w) H') ∧ ∀ p H', rdAll bs = .no p → Same H H' → Q (.int ((p : Nat) : Int)) H'
def spOpen : Sp := fun vs H Q _ => ∃ (q : Addr) (bs : List Int), vs = [.ref q] ∧ RowAt H q bs ∧ ∀ u H', Same H H' → Rep H' 22 (unsT bs) u → Q u H'
theorem at_k {m : Int} {q : Addr} {bs : List Int} {i : Int} {a : Nat} {b : Int} (e : i = (a : Int)) (h : bs[a]? = some b) : atI (bs.map V.int) i = some (V.int b) := by
  rw [e]
  exact at_row h
theorem rdS_go {bs : List Int} : ∀ (m h : Nat) (acc : List Nat), (∀ i, i < m → ∃ b, bs[h + i]? = some b ∧ isSg b = true) → rdS bs m h acc = .ok (.str (acc ++ ((bs.drop h).take m).map Int.toNat)) (h + m)
  | 0, h, acc, _ => by simp [rdS]
  | m + 1, h, acc, k => by
    obtain ⟨b, e, sg⟩ := k 0 (by omega)
    have e : bs[h]? = some b := e
    rw [rdS_at e, if_pos sg, rdS_go m (h + 1) (acc ++ [b.toNat]) (fun i hi => by
      obtain ⟨c, e2, s2⟩ := k (i + 1) (by omega)
      exact ⟨c, by rw [← e2]; congr 1; omega, s2⟩)]
    obtain ⟨l1, e1⟩ := List.getElem?_eq_some_iff.mp e
    rw [List.drop_eq_getElem_cons l1, List.take_succ_cons, e1, List.map_cons, List.append_assoc]
    show R.ok _ _ = R.ok _ _
    congr 1
    omega
theorem rdS_stop {bs : List Int} : ∀ (i m h : Nat) (acc : List Nat), i < m → (∀ j, j < i → ∃ b, bs[h + j]? = some b ∧ isSg b = true) → (∀ b, bs[h + i]? = some b → isSg b = false) → rdS bs m h acc = .no (h + i)
  | 0, m + 1, h, acc, _, _, k => by
    cases e : bs[h]? with
    | none => exact rdS_no e
    | some b => rw [rdS_at e, k b e, if_neg Bool.false_ne_true]; rfl
  | i + 1, m + 1, h, acc, hi, g, k => by
    obtain ⟨b, e, sg⟩ := g 0 (by omega)
    have e : bs[h]? = some b := e
    rw [rdS_at e, if_pos sg, rdS_stop i m (h + 1) (acc ++ [b.toNat]) (by omega) (fun j hj => by
      obtain ⟨c, e2, s2⟩ := g (j + 1) (by omega)
      exact ⟨c, by rw [← e2]; congr 1; omega, s2⟩) (fun b hb => k b (by rw [← hb]; congr 1; omega))]
    congr 1
    omega
theorem dint (i j : Int) : decide (V.int i = V.int j) = decide (i = j) := by
  by_cases c : i = j
  · rw [c, decide_eq_true rfl, decide_eq_true rfl]
  · rw [decide_eq_false c, decide_eq_false fun z => c (V.int.inj z)]
section
variable {P : Program} {w : World} {K : PySem.W.Frag} {mg : Str → Option Value} {base : Heap}
end
end Q

namespace Q
open PySem L2 QR
section
variable {P : Program} {w : World} {K : PySem.W.Frag} {mg : Str → Option Value} {base : Heap}
end
end Q

namespace Q
open PySem L2 QR
abbrev sLaw : Stmt := top 45
def spLaw (K : PySem.W.Frag) : Sp := fun vs H Q _ => ∃ (a : Addr) (ns : List Int), vs = [.ref a] ∧ SqL K H a (ns.map V.int) ∧ ns.length ≤ 63 ∧ ∀ H', Q (.bl true) H'
/-- a row of few bytes -/
def Br (H : Hp) (v : V) (n : Nat) : Prop := ∃ (q : Addr) (bs : List Int), v = .ref q ∧ H q = some (.tup (bs.map V.int)) ∧ (∀ b ∈ bs, 0 ≤ b ∧ b < 256) ∧ bs.length ≤ n
theorem Br.tk {H H' : Hp} {v : V} {n : Nat} (h : Br H v n) (k : Tk H H') : Br H' v n := by
  obtain ⟨q, bs, e, a, b, c⟩ := h
  exact ⟨q, bs, e, k _ _ a, b, c⟩
theorem Br.same {H H' : Hp} {v : V} {n : Nat} (h : Br H v n) (s : Same H H') : Br H' v n := h.tk (.of s)
theorem Br.row {H : Hp} {v : V} {n : Nat} (h : Br H v n) (l : n ≤ 9000) : ∃ q bs, v = .ref q ∧ RowAt H q bs := by
  obtain ⟨q, bs, e, a, b, c⟩ := h
  exact ⟨q, bs, e, a, b, by omega⟩
theorem Br.up {H : Hp} {v : V} {n m : Nat} (h : Br H v n) (l : n ≤ m) : Br H v m := by
  obtain ⟨q, bs, e, a, b, c⟩ := h
  exact ⟨q, bs, e, a, b, by omega⟩
theorem cut_ints (bs : List Int) (lo hi : Option Int) : ∃ cs : List Int, cutV (bs.map V.int) lo hi = cs.map V.int ∧ (∀ b ∈ cs, b ∈ bs) ∧ cs.length ≤ bs.length := by
  unfold cutV
  rw [← List.map_drop, ← List.map_take]
  refine ⟨_, rfl, fun b hb => List.mem_of_mem_drop (List.mem_of_mem_take hb), ?_⟩
  rw [List.length_take, List.length_drop]
  omega
theorem Br.cut {H H' : Hp} {q z : Addr} {bs : List Int} {lo hi : Option Int} (h : RowAt H q bs) {n : Nat} (l : bs.length ≤ n) (e : H' z = some (.tup (cutV (bs.map V.int) lo hi))) : Br H' (.ref z) n := by
  obtain ⟨cs, e1, e2, e3⟩ := cut_ints bs lo hi
  rw [e1] at e
  exact ⟨z, cs, rfl, e, fun b hb => h.b b (e2 b hb), by omega⟩
theorem Br.one {H : Hp} {z : Addr} {b : Int} (e : H z = some (.tup [.int b])) (h0 : 0 ≤ b) (h1 : b < 256) : Br H (.ref z) 1 := ⟨z, [b], rfl, e, fun x hx => by rw [List.mem_singleton.mp hx]; exact ⟨h0, h1⟩, Nat.le_refl _⟩
/-- a sum of rows, read -/
theorem cat_br {H : Hp} {x y : V} {n m : Nat} {Q : VK} (a : Br H x n) (b : Br H y m) (l : n + m ≤ 20000) (k : ∀ z H', Same H H' → Br H' z (n + m) → Q z H') : rCatS x y H Q := by
  obtain ⟨q, bs, rfl, h1, h2, h3⟩ := a
  obtain ⟨r, cs, rfl, g1, g2, g3⟩ := b
  refine ⟨q, r, _, _, rfl, rfl, h1, g1, ?_, fun z H' s e => k _ H' s ⟨z, bs ++ cs, rfl, by rw [List.map_append]; exact e, fun x hx => ?_, by rw [List.length_append]; omega⟩⟩
  · rw [List.length_map, List.length_map]
    exact Nat.le_of_lt (size_ok (by omega))
  · exact (List.mem_append.mp hx).elim (h2 x) (g2 x)
/-- what is no row -/
def OddV (p l : Addr) (H : Hp) (v : V) : Prop := v = .non ∨ (∃ z, v = .str z) ∨ (∃ i, v = .int i) ∨ (∃ q xs, v = .ref q ∧ H q = some (.lst xs) ∧ q ≠ p ∧ q ≠ l) ∨ (∃ q, v = .ref q ∧ H q = some (.dK []) ∧ q ≠ p ∧ q ≠ l) ∨
  (∃ q, v = .ref q ∧ H q = some (.tup [])) ∨ ∃ q xs, v = .ref q ∧ H q = some (.tup xs) ∧ xs.length ≤ 9000 ∧ (∀ x ∈ xs, Sc x) ∧ xs.all isB = false
theorem OddV.kp {p l : Addr} {H H' : Hp} {v : V} (h : OddV p l H v) (g : PoolAt H p l) (k : Kp p l H H') : OddV p l H' v := by
  rcases h with h | h | h | ⟨q, xs, e, a, n1, n2⟩ | ⟨q, e, a, n1, n2⟩ | ⟨q, e, a⟩ | ⟨q, xs, e, a, r⟩
  · exact .inl h
  · exact .inr (.inl h)
  · exact .inr (.inr (.inl h))
  · exact .inr (.inr (.inr (.inl ⟨q, xs, e, k _ _ a n1 n2, n1, n2⟩)))
  · exact .inr (.inr (.inr (.inr (.inl ⟨q, e, k _ _ a n1 n2, n1, n2⟩))))
  · exact .inr (.inr (.inr (.inr (.inr (.inl ⟨q, e, g.tk k _ _ a⟩)))))
  · exact .inr (.inr (.inr (.inr (.inr (.inr ⟨q, xs, e, g.tk k _ _ a, r⟩)))))
theorem OddV.same {p l : Addr} {H H' : Hp} {v : V} (h : OddV p l H v) (s : Same H H') : OddV p l H' v := by
  rcases h with h | h | h | ⟨q, xs, e, a, n⟩ | ⟨q, e, a, n⟩ | ⟨q, e, a⟩ | ⟨q, xs, e, a, r⟩
  · exact .inl h
  · exact .inr (.inl h)
  · exact .inr (.inr (.inl h))
  · exact .inr (.inr (.inr (.inl ⟨q, xs, e, s _ _ a, n⟩)))
  · exact .inr (.inr (.inr (.inr (.inl ⟨q, e, s _ _ a, n⟩))))
  · exact .inr (.inr (.inr (.inr (.inr (.inl ⟨q, e, s _ _ a⟩)))))
  · exact .inr (.inr (.inr (.inr (.inr (.inr ⟨q, xs, e, s _ _ a, r⟩)))))
theorem OddV.uns {K : PySem.W.Frag} {p l : Addr} {H : Hp} {v : V} (h : OddV p l H v) : UnsIn K H v (.tup []) := by
  rcases h with rfl | ⟨z, rfl⟩ | ⟨i, rfl⟩ | ⟨q, xs, rfl, a, _⟩ | ⟨q, rfl, a, _⟩ | ⟨q, rfl, a⟩ | ⟨q, xs, rfl, a, r1, r2, r3⟩
  · exact .inr (.inr ⟨_, .base .non, kit_ty (by decide +kernel), rfl⟩)
  · exact .inr (.inr ⟨_, .base (.str _), kit_ty (by decide +kernel), rfl⟩)
  · exact .inr (.inr ⟨_, .base (.int _), kit_ty (by decide +kernel), rfl⟩)
  · exact .inr (.inr ⟨_, .base (.lst a), kit_ty (by decide +kernel), rfl⟩)
  · exact .inr (.inr ⟨_, .base (.dK a), kit_ty (by decide +kernel), rfl⟩)
  · refine .inl ⟨q, [], rfl, ⟨a, fun b hb => by simp at hb, Nat.zero_le _⟩, ?_⟩
    unfold unsT
    rw [if_neg fun z => absurd z.1 (by decide)]
  · exact .inr (.inl ⟨q, xs, rfl, a, r1, r2, r3, rfl⟩)
/-- a row and one more that is no byte -/
theorem odd_cat {p l : Addr} {H : Hp} {x : V} {n : Nat} {y : V} {b : Addr} {Q : VK} (a : Br H x n) (hb : H b = some (.tup [y])) (sc : Sc y) (nb : isB y = false) (ln : n ≤ 8000) (k : ∀ z H', Same H H' → OddV p l H' z → Q z H') : rCatS x (.ref b) H Q := by
  obtain ⟨q, bs, rfl, h1, h2, h3⟩ := a
  refine ⟨q, b, _, _, rfl, rfl, h1, hb, ?_, fun z H' s e => k _ H' s (.inr (.inr (.inr (.inr (.inr (.inr ⟨z, _, rfl, e, ?_, fun x hx => ?_, ?_⟩))))))⟩
  · rw [List.length_map]
    exact Nat.le_of_lt (size_ok (by show _ + 1 ≤ _; omega))
  · rw [List.length_append, List.length_map]
    show _ + 1 ≤ _
    omega
  · rcases List.mem_append.mp hx with hx | hx
    · exact sc_ints bs x hx
    · rw [List.mem_singleton.mp hx]
      exact sc
  · rw [List.all_append]
    show (_ && ([y].all isB)) = false
    rw [show [y].all isB = false by show (isB y && true) = false; rw [nb]; rfl, Bool.and_false]
theorem log_61 (bs : List Int) : (mkF bs).natAbs.log2 < 1920 := by
  obtain ⟨h0, h1⟩ := mkF_b bs
  refine Nat.lt_of_le_of_lt ?_ (show 61 < 1920 by decide)
  rcases Nat.eq_zero_or_pos (mkF bs).natAbs with z | z
  · rw [z]
    decide
  · have : (mkF bs).natAbs.log2 < 62 := (Nat.log2_lt (by omega)).mpr (Nat.lt_of_lt_of_le (show (mkF bs).natAbs < 2305843009213693951 by omega) (by decide))
    omega
-- the defs of rows
end Q

/-! an own error over ValueError whose __init__ says super().__init__() alone -/
namespace QS
open PySem PySem.W PySem.Calls PyProof.Rows PySem.HandSPX L2
/-- the body super().__init__() -/
def supB (q1 q2 q3 q4 q5 : Pos) : List Stmt := [.Expr (.Call (.Attribute (.Call (.Name "super" q1) [] [] q2) "__init__" q3) [] [] q4) q5]
def supSc : Scope := { kind := .function, names := [("self", .local), ("__class__", .free), ("super", .globalImplicit)], isGenerator := false, isCoroutine := false, more := [] }
def supAr (p : Pos) : Arguments := { posonlyargs := [], args := [{ arg := "self", annotation := none, pos := p }], vararg := none, kwonlyargs := [], kw_defaults := [], kwarg := none, defaults := [] }
theorem supSc_cell : ∀ x ∈ supSc.names, x.2 ≠ .cell := by decide
theorem supSc_loc (v : Value) : ∀ y ∈ [(("self" : Str), v)], supSc.names.lookup y.1 = some .local := fun y hy => by
  rw [List.mem_singleton.mp hy]
  show supSc.names.lookup ("self" : Str) = some .local
  decide
theorem he_sup {o : Expr} {env : Env} {q3 q4 : Pos} (hl : (q3.endLine == q4.line) = true) : eval (.Call (.Attribute o "__init__" q3) [] [] q4) env = (do
    let ov ← attributeBase o "__init__" env (eval o env)
    standAt q3.atName
    let (f, first) ← holding [ov] (getMethod ov "__init__" (do return (← importBound o env).getD true))
    callWith q4 f first (backTo q4 (starEach [] env)) []) := by
  rw [arm_eval_Call]
  have hp : methodCallPos true o env q3 q4 = pure q4 := by unfold methodCallPos; simp [hl]
  have hf : methodCallForm (([] : List Expr).length + ([] : List Keyword).length) (backTo q4 (starEach [] env)) (backToKw q4 (keywordEach [] env)) = true := rfl
  unfold methodCall
  rw [hf, hp]
  unfold calleeOf
  simp only [if_true, pure_bind]
  rfl
/-- what the written part says of such a class -/
structure SupC (prog : Program) (K : Frag) (mg : Str → Option Value) (C fI : Addr) (qual : Str) : Prop where
  cls : ∃ nm q N bs bm sn sub ab col dd k0 k1 k2 k3 k5, K.lookup C = some (excClassObj nm q C N bs bm true sn sub ab col dd k0 k1 k2 k3 k5 "ValueError.__new__") ∧ refsVE bm = true
  iC : findIn K (.ref C) "__init__" = some (some (.ref fI))
  tI : typeIn K (.ref fI) = some (.type "function")
  kC : keepIn K (.ref C) = true
  exC : subIn K (.ref C) (.type "BaseException") = some true
  veC : subIn K (.ref C) (.type "ValueError") = some true
  tyC : typeIn K (.ref C) = some (.type "type")
  me : mroIn K C (.ref C) = some true
  noS : mg "super" = none
  op : nsIn K cStatics "thirdparty.any" = some none
  al : ks_superIn K C C "__init__" = some (some (.builtin "ValueError.__init__"))
  top : (prog.main.scope.names.lookup ("super" : Str)).isSome = false
  fn : ∃ (oc : Value) (od : Option Addr) (doc pm : Value) (an : Option Addr) (cda cc : Addr) (ct : Value) (osl : Array (Option Value)) (p q1 q2 q3 q4 q5 : Pos) (ccl cl : Value) (cdd cld : Option Addr) (ccs csl : Array (Option Value)) (vs : Array Value) (file : Str) (tf : Tok),
    K.lookup fI = some ⟨oc, od, .func (ksFn "__init__" qual (supAr p) (supB q1 q2 q3 q4 q5) supSc .none .none doc pm an (.ref cda) ct cc), osl⟩ ∧ codeIn K (.ref cda) qual = true ∧ K.lookup cda = some ⟨ccl, cdd, .fields vs, ccs⟩ ∧ vs[2]? = some (.str file tf) ∧
      ((prog.main.file : Str) == file) = true ∧ K.lookup cc = some ⟨cl, cld, .cell (some (.ref C)), csl⟩ ∧ (q3.endLine == q4.line) = true
section
variable {prog : Program} {w : World} {A : Around} {E : Value → Shared → Prop} {R : Result → Shared → Prop} {s : Shared} {K : Frag} {mg : Str → Option Value} {C fI : Addr} {qual : Str} {base : Heap}
theorem sup_init (T : SupC prog K mg C fI qual) (M : Mod K mg base) (hk : ∀ b o, base.get? b = some o → s.heap.get? b = some o) {x t0 : Addr} (hx : s.heap.get? x = some (excO C t0)) (hroom : A.depth < recursionLimit)
    (hq : ∀ h' tk t1, (∀ b o, b ≠ x → s.heap.get? b = some o → h'.get? b = some o) → h'.get? x = some (excO C t1) → R (.ok (.ret .none)) { s with heap := h', toks := tk }) :
    codeAny (model prog w) A (.call (.ref fI) ⟨[.ref x], []⟩) R s := by
  have X : K.In s.heap := M.kin.keeps hk
  obtain ⟨oc, od, doc, pm, an, cda, cc, ct, osl, p, q1, q2, q3, q4, q5, ccl, cl, cdd, cld, ccs, csl, vs, file, tf, lk, hcd, hcode, hvs, hfile, hcell, hline⟩ := T.fn
  obtain ⟨nm, q, N, bs, bm, sn, sub, ab, col, dd, k0, k1, k2, k3, k5, hC, hbm⟩ := T.cls
  refine ks_codeAny_call_defAt (binds := [("self", .ref x)]) hroom (X _ _ lk) rfl (M.nolimit.keeps hk) (codeRec_of X hcd) rfl (BindsTo.of_eq (by first | rfl | with_unfolding_all rfl)) supSc_cell (supSc_loc _) (fun h1 hns kp => ?_) rfl rfl rfl
  have X1 : K.In h1 := X.keeps kp
  have b1 : ∀ b o, base.get? b = some o → h1.get? b = some o := fun b o e => kp b o (hk b o e)
  have hx1 := kp _ _ hx
  obtain ⟨mb, hmb, hbv⟩ := M.blt
  obtain ⟨hp, g, d, t, os⟩ := s
  show _root_.PySem.wpAt _ _ _ (execs (supB q1 q2 q3 q4 q5) (ksEnv qual supSc hp.objs.size fI (.ref cda) cc)) _ _ _
  refine ks_wpAt_execs_cons (ks_wpAt_Expr_any (ks_wpAt_MethodCall ?_ (he_sup hline)))
  refine ks_wpAt_super_base (env := ksEnv qual supSc hp.objs.size fI (.ref cda) cc) rfl rfl (by decide) rfl (X1 _ _ lk) rfl rfl rfl (X1 _ _ hcode) rfl hvs hfile T.top ?_
  refine ks_loadName_global rfl rfl (loadGlobal_builtin (M.glob.keeps b1) T.noS (hmb.keeps b1) ((hbv _ (by decide)).trans (by decide +kernel)) ⟨rfl, ?_⟩)
  refine wpAny_loadName_free rfl rfl rfl ⟨_, X1 _ _ hcell, rfl⟩ ?_
  refine wpAny_loadName_local rfl rfl hns rfl ?_
  have hC1 := X1 _ _ hC
  refine ks_wpAny_isType_cls hC1 rfl ⟨rfl, ?_⟩
  refine ks_wpAny_call_super hC1 rfl hx1 rfl (fun c e => nomatch e) (looks_mroIn X1 T.me) (fun h2 e2 k2 => ?_)
  have X2 : K.In h2 := X1.keeps k2
  have hx2 := k2 _ _ hx1
  have hC2 := X2 _ _ hC
  have hcl : clsIn K C = some { name := nm, bases := bs, mro := .ref C :: bm, ns := N, qualname := q, hasDict := true, slotNames := sn, subclasses := sub, abstract := ab, collection := col, hasDel := false } := by unfold clsIn; rw [hC] <;> rfl
  have hal : alongIn K "__init__" (((Value.ref C :: bm).dropWhile (· != .ref C)).drop 1) = some (some (.builtin "ValueError.__init__")) := by
    have z := T.al
    unfold ks_superIn at z
    rw [hcl] at z
    exact z
  have nxC : x ≠ C := fun e => by
    rw [e, hC1] at hx1
    cases hx1
  have hI : Looks (model prog w) h2 (isInstance (.ref x) (.type "ValueError")) true := by
    have I : InstAt h2 x (excO C t0) C none := ⟨hx2, rfl, rfl, trivial⟩
    exact I.type.andThen (looks_subIn X2 T.veC)
  refine kxs_getMethod kxs_ValueError e2 (looks_opaque X2 T.op) (l₀ := .ref C :: bm) ?_ rfl X2 hal hI nxC (by decide) ?_
  · exact fun A Q E s k q => wpAny_bind ((looks_clsIn X2 hcl) A _ E s k (wpAny_pure q))
  have k3 : ∀ b o, h2.get? b = some o → (h2.push (kxs_mw "ValueError.__init__" x)).get? b = some o := fun b o e => Heap.get?_push_of_some _ e
  refine kxs_callWith (i := "ValueError.__init__") (u := h2.objs.size) (x := x) rfl (evalArgs_empty ⟨Heap.get?_push_at rfl rfl, ?_⟩)
  refine wpAny_call (codeAny_of_tree ?_)
  show wpAny _ _ (callAny (.ref h2.objs.size) ⟨[], []⟩) _ _ _
  simp only [callAny]
  refine wpAny_bind (wpAny_load (Heap.get?_push_at rfl rfl) ?_)
  simp only [kxs_mw, show (Value.type "method-wrapper" == Value.type "method" || Value.type "method-wrapper" == Value.type "builtin_function_or_method" || Value.type "method-wrapper" == Value.type "method-wrapper") = true by decide, if_true]
  refine KFB.if_so (by decide) ?_
  refine wpAny_bind (check_bound_init F.excBase_ValueError.toExcCallFacts (k3 _ _ hC2) (k3 _ _ hx2) rfl ?_)
  refine wpAny_bind (wpAny_pure (wpAny_pure ?_))
  refine ⟨plainId_quiet F.excBase_ValueError.init.plain _, codeAny_builtin F.excBase_ValueError.initEntry ?_⟩
  refine exc_init_tree (cls := .ref C) (t0 := t0) (dv := none) (c2 := .none) (c3 := .none) (b4 := .bool false) (k3 _ _ hx2) (Nat.zero_le _) (fun h4 k4 e4 _ => ?_)
  show _root_.PySem.wpAt _ _ _ (execs [] _) _ _ _
  refine wpAt_of_wpAny (wpAny_execs_nil ?_)
  exact hq h4 _ _ (fun b o hb e => k4 b o hb (k3 b o (k2 b o (kp b o e)))) e4
end
section
variable {X : Cx} {p pos : Pos} {x : Str} {C fI : Addr} {k : Nat} {qual : Str}
/-- raise C(): a new error of the class at C, without a dict -/
theorem pmk_sup (T : SupC X.prog X.K X.mg C fI qual) (hr : Room k X.A) (hg : Gl X x) (hm : X.mg x = some (.ref C)) (hdb : (x == ("__debug__" : Str)) = false := by decide) :
    PMk X (.Call (.Name x p) [] [] pos) (fun _ H Q => Q (.ref C) none H) := by
  intro pins s σ H Q I h
  obtain ⟨nm, q, N, bs, bm, sn, sub, ab, col, dd, k0, k1, k2, k3, k5, hC, hbm⟩ := T.cls
  refine wpAny_Call_Name_kw (ld_glob I hg hm ?_ hdb)
  refine PySem.W.callWith_K0 I.kIn T.kC ?_
  show wpAny _ _ (call (.ref C) []) _ _ _
  have hdp := hr.dp
  have hbk := I.bk
  obtain ⟨hp, g, dr, tk, os⟩ := s
  have kk : ∀ b o, hp.get? b = some o → ((hp.push (kdv_tup [])).push (excO C hp.objs.size)).get? b = some o := fun b o e => Heap.get?_push_of_some _ (Heap.get?_push_of_some _ e)
  have hget : ((hp.push (kdv_tup [])).push (excO C hp.objs.size)).get? (hp.objs.size + 1) = some (excO C hp.objs.size) := by heap_get
  have hdep : (X.A.under (.builtin "type.__call__" ⟨[.ref C], []⟩)).depth < recursionLimit := by
    rw [make_depth]
    omega
  refine wpAny_call (call_own F.excBase_ValueError (fun Y => refsVE_contains Y bm hbm) (I.kIn _ _ hC) (looks_findIn I.kIn T.iC) (fun self => bind_fn I.kIn self T.tI) (Nat.zero_le _)
    (sup_init T I.ok.mod (fun b o e => kk b o (hbk b o e)) hget hdep fun h' tk' t1 k4 e4 => ⟨rfl, ?_⟩))
  obtain ⟨G, r1, r2⟩ := restrict h' fun b => decide (b ≠ hp.objs.size + 1)
  have gk : ∀ b, b ≠ hp.objs.size + 1 → G.get? b = h'.get? b := fun b hb => r1 b (decide_eq_true hb)
  have ge : G.get? (hp.objs.size + 1) = none := r2 _ (by simp)
  have old : ∀ b o, hp.get? b = some o → G.get? b = some o := fun b o e => by
    have hb : b ≠ hp.objs.size + 1 := Nat.ne_of_lt (Nat.lt_succ_of_lt (Heap.lt_size e))
    rw [gk b hb]
    exact k4 b o hb (kk b o e)
  have J : Inv X pins σ H ⟨G, g, dr, tk', os⟩ := I.kept (t' := tk') old
  refine ⟨hp.objs.size + 1, _, _, ⟨G, g, dr, tk', os⟩, H, .ref C, none, rfl, J, fun b o e => ?_, ge, e4, ⟨rfl, rfl⟩, rfl, rfl, I.hok.fresh (Nat.le_succ _), rfl, I.bare, raises_own T.exC T.tyC, h⟩
  by_cases hb : b = hp.objs.size + 1
  · have e' : G.get? b = some o := e
    rw [hb, ge] at e'
    cases e'
  · exact (gk b hb).symm.trans e
end
end QS

/-! what is no parcel, and what is asked of a caught error -/
namespace L2
open PySem PySem.Spec PyProof.Rows
/-- isinstance(e, C) of a caught error, with or without a dict of its own -/
def rIsX (K : PySem.W.Frag) (D a : Addr) (cls : Value) (d : Option Addr) : List V → Hp → VK → Prop := fun xs H Q => cls = .ref D ∧ (∀ dd, d = some dd → ∃ fs, H dd = some (.xd fs)) ∧ ∃ (c : V) (cv : Value) (b : Bool), xs = [.ref a, c] ∧ (∀ u, RelV c u → u = cv) ∧ PySem.W.kitOne K (.ref D) cv = some b ∧ Q (.bl b) H
theorem call_isX {X : Cx} {a D : Addr} {oe : Obj} {cls : Value} {d : Option Addr} {pn : List (Addr × Obj)} (C : ExcC X.K D) (hc : PySem.W.isClsIn X.K D = true) (hz : Zc cls d oe) (hf : ∃ vs, oe.data = .fields vs) : CallR (X.suite a ((a, oe) :: pn)) (.builtin "isinstance") (rIsX X.K D a cls d) := by
  intro pins s σ H xs us Q I r h
  obtain ⟨rfl, hd, c, cv, b, rfl, hcv, e, q⟩ := h
  cases r with
  | cons rx rr =>
    cases rr with
    | cons rt r0 =>
      cases r0
      cases rx
      have ec := hcv _ rt
      subst ec
      obtain ⟨hget, hn, _⟩ := I.pin (a, oe) (List.mem_append.mpr (.inl List.mem_cons_self))
      obtain ⟨vs, hv⟩ := hf
      have nc : PySem.W.notCls oe = true := by
        unfold PySem.W.notCls
        rw [hv]
      have main : ∀ od, PySem.W.InstAt s.heap a oe D od → wpAny (model (X.suite a ((a, oe) :: pn)).prog (X.suite a ((a, oe) :: pn)).w) (X.suite a ((a, oe) :: pn)).A (call (.builtin "isinstance") [.ref a, _]) (EP (X.suite a ((a, oe) :: pn)) pins σ Q) (X.suite a ((a, oe) :: pn)).xe s := fun od J =>
        PySem.W.kia_one (PySem.W.kitx_exc (x := a) (ox := oe) (od := od) hc C.hg C.hk C.hs C.ha C.hn C.ht C.hm) I.kIn J e (by intro z; cases z) (fun tk => ⟨.bl b, H, I.tok tk, rfl, q⟩)
      cases d with
      | none => exact main none ⟨hget, hz.1, nc, by rw [hz.2]; trivial⟩
      | some dd =>
        obtain ⟨fs, hfs⟩ := hd dd rfl
        have hok := I.hok dd _ hfs
        obtain ⟨o, ho⟩ : ∃ o, s.heap.get? dd = some o := by
          obtain ⟨es, hA, _⟩ := hok
          obtain ⟨e1, _, _, e4, _⟩ := hA
          exact ⟨e1, e4⟩
        exact main (some o) ⟨hget, hz.1, nc, by rw [hz.2]; exact ho⟩
end L2
namespace Q
open PySem L2 QR
/-- what never raises may be called where something is caught -/
theorem fn_up {P : Program} {w : World} {K : PySem.W.Frag} {mg : Str → Option Value} {base : Heap} {k : Nat} {f : Addr} {fd : FuncData} {ps : List Str} {sp : Sp} {CX : CXT} (F : FnOk P w K mg base CX0 k f fd ps sp) : FnOk P w K mg base CX k f fd ps sp :=
  ⟨F.len, fun A outer s H args us vs Q E hr he hb hv hs => codeAny_mono (F.run A outer s H args us vs Q E hr he hb hv hs) fun r s' h => by
    match r, h with
    | .ok (.ret u), h => exact h
    | .error e, h => exact h.elim⟩
/-- strings that are none -/
def badZ (z : List Nat) : Prop := z = [] ∨ 20 < z.length ∨ (1 ≤ z.length ∧ z.length ≤ 20 ∧ ∃ c ∈ z, c < 32)
def PG (H : Hp) (d : Nat) (v : V) : Prop := ∃ t, Rep H d t v ∧ OkT d t
/-- a list, a dict, a string of other signs -/
def BadA (p l : Addr) (H : Hp) (v : V) : Prop := (∃ a, v = .ref a ∧ ((∃ xs, H a = some (.lst xs)) ∨ H a = some (.dK [])) ∧ a ≠ p ∧ a ≠ l) ∨ ∃ z : List Nat, v = .str (sOf z) ∧ z.length ≤ 9000 ∧ badZ z
/-- no parcel within d -/
def BadU (p l : Addr) (H : Hp) : Nat → V → Prop
  | 0, v => BadA p l H v ∨ ∃ a xs, v = .ref a ∧ H a = some (.tup xs)
  | d + 1, v => BadA p l H v ∨ ∃ a xs, v = .ref a ∧ H a = some (.tup xs) ∧ xs.length ≤ 9000 ∧ (∀ x ∈ xs, PG H d x ∨ BadU p l H d x) ∧ ∃ x ∈ xs, BadU p l H d x
/-- all stands but the pool, tuples too -/
structure Fm (p l : Addr) (H H' : Hp) : Prop where
  tk : Tk H H'
  kp : Kp p l H H'
theorem Fm.of {p l : Addr} {H H' : Hp} (s : Same H H') : Fm p l H H' := ⟨.of s, .of s⟩
theorem Fm.kpg {p l : Addr} {H H' : Hp} (g : PoolAt H p l) (k : Kp p l H H') : Fm p l H H' := ⟨g.tk k, k⟩
theorem PG.tk {H H' : Hp} {d : Nat} {v : V} (h : PG H d v) (k : Tk H H') : PG H' d v := h.imp fun t h => ⟨h.1.tk k, h.2⟩
theorem BadA.fm {p l : Addr} {H H' : Hp} {v : V} (h : BadA p l H v) (f : Fm p l H H') : BadA p l H' v := by
  rcases h with ⟨a, e, h, n1, n2⟩ | h
  · exact .inl ⟨a, e, h.elim (fun ⟨xs, h⟩ => .inl ⟨xs, f.kp _ _ h n1 n2⟩) (fun h => .inr (f.kp _ _ h n1 n2)), n1, n2⟩
  · exact .inr h
theorem BadU.fm {p l : Addr} {H H' : Hp} (f : Fm p l H H') : ∀ {d : Nat} {v : V}, BadU p l H d v → BadU p l H' d v
  | 0, v, h => by
    rcases h with h | ⟨a, xs, e, h⟩
    · exact .inl (h.fm f)
    · exact .inr ⟨a, xs, e, f.tk _ _ h⟩
  | d + 1, v, h => by
    rcases h with h | ⟨a, xs, e, h, n, al, x, hx, b⟩
    · exact .inl (h.fm f)
    · exact .inr ⟨a, xs, e, f.tk _ _ h, n, fun x hx => (al x hx).elim (fun g => .inl (g.tk f.tk)) (fun g => .inr (BadU.fm f g)), x, hx, BadU.fm f b⟩
theorem BadU.atom {p l : Addr} {H : Hp} {d : Nat} {v : V} (h : BadA p l H v) : BadU p l H d v := by
  cases d with
  | zero => exact .inl h
  | succ d => exact .inl h
/-- b tells whether v is a parcel within d -/
def Dec (p l : Addr) (H : Hp) (d : Nat) (v : V) (b : Bool) : Prop := (b = true ∧ PG H d v) ∨ (b = false ∧ BadU p l H d v)
theorem Dec.fm {p l : Addr} {H H' : Hp} {d : Nat} {v : V} {b : Bool} (f : Fm p l H H') (h : Dec p l H d v b) : Dec p l H' d v b := h.elim (fun h => .inl ⟨h.1, h.2.tk f.tk⟩) fun h => .inr ⟨h.1, h.2.fm f⟩
theorem Dec.same {p l : Addr} {H H' : Hp} {d : Nat} {v : V} {b : Bool} (h : Dec p l H d v b) (s : Same H H') : Dec p l H' d v b := h.fm (.of s)
theorem Dec.ex {p l : Addr} {H : Hp} {d : Nat} {v : V} (h : PG H d v ∨ BadU p l H d v) : ∃ b, Dec p l H d v b := h.elim (fun h => ⟨true, .inl ⟨rfl, h⟩⟩) fun h => ⟨false, .inr ⟨rfl, h⟩⟩
/-- what is asked of it -/
def DecS (H : Hp) (v : V) (b : Bool) : Prop := (∃ z : List Nat, v = .str (sOf z) ∧ z.length ≤ 9000 ∧ ((b = true ∧ okA (.str z)) ∨ (b = false ∧ badZ z))) ∨ (b = false ∧ ∃ a, v = .ref a ∧ ((∃ xs, H a = some (.lst xs)) ∨ H a = some (.dK [])))
theorem Dec.cases {p l : Addr} {H : Hp} {d : Nat} {v : V} {b : Bool} (h : Dec p l H d v b) : (v = .non ∧ b = true) ∨ (∃ c, v = .bl c ∧ b = true) ∨ (∃ i, v = .int i ∧ b = true) ∨ DecS H v b ∨
    ∃ a xs, v = .ref a ∧ H a = some (.tup xs) ∧ ((d = 0 ∧ b = false) ∨ (xs.length ≤ 9000 ∧ ∃ d', d = d' + 1 ∧ ∃ B : V → Bool, (∀ x ∈ xs, Dec p l H d' x (B x)) ∧ xs.all B = b)) := by
  rcases h with ⟨rfl, t, rep, ok⟩ | ⟨rfl, h⟩
  · rcases rep.cases with ⟨rfl, rfl⟩ | ⟨b, rfl, rfl⟩ | ⟨i, rfl, rfl⟩ | ⟨z, rfl, rfl, zl⟩ | ⟨d', ls, a, xs, rfl, rfl, rfl, ha, hl, few, hk⟩
    · exact .inl ⟨rfl, rfl⟩
    · exact .inr (.inl ⟨_, rfl, rfl⟩)
    · exact .inr (.inr (.inl ⟨_, rfl, rfl⟩))
    · exact .inr (.inr (.inr (.inl (.inl ⟨z, rfl, zl, .inl ⟨rfl, okT_atom ok⟩⟩))))
    · have okl : ∀ t ∈ ls, OkT d' t := ok
      refine .inr (.inr (.inr (.inr ⟨a, xs, rfl, ha, .inr ⟨few, d', rfl, fun _ => true, fun x hx => ?_, ?_⟩⟩)))
      · obtain ⟨i, hi⟩ := List.mem_iff_getElem?.mp hx
        have hil := (List.getElem?_eq_some_iff.mp hi).1
        have ht : ls[i]? = some (ls[i]'(by omega)) := List.getElem?_eq_getElem (by omega)
        exact .inl ⟨rfl, _, hk i x _ hi ht, okl _ (List.mem_of_getElem? ht)⟩
      · rw [List.all_eq_true]
        intro _ _
        rfl
  · have at_ : BadA p l H v → DecS H v false := fun h => by
      rcases h with ⟨a, e, h, _⟩ | ⟨z, e, n, b⟩
      · exact .inr ⟨rfl, a, e, h⟩
      · exact .inl ⟨z, e, n, .inr ⟨rfl, b⟩⟩
    cases d with
    | zero =>
      rcases h with h | ⟨a, xs, e, h⟩
      · exact .inr (.inr (.inr (.inl (at_ h))))
      · exact .inr (.inr (.inr (.inr ⟨a, xs, e, h, .inl ⟨rfl, rfl⟩⟩)))
    | succ d =>
      rcases h with h | ⟨a, xs, e, h, n, al, x, hx, b⟩
      · exact .inr (.inr (.inr (.inl (at_ h))))
      · refine .inr (.inr (.inr (.inr ⟨a, xs, e, h, .inr ⟨n, d, rfl, ?_⟩⟩)))
        have dc : ∀ y : V, ∃ c : Bool, (y ∈ xs → Dec p l H d y c) ∧ (BadU p l H d y → c = false) := fun y => by
          by_cases u : BadU p l H d y
          · exact ⟨false, fun _ => .inr ⟨rfl, u⟩, fun _ => rfl⟩
          · exact ⟨true, fun hy => (al y hy).elim (fun g => .inl ⟨rfl, g⟩) (fun g => absurd g u), fun z => absurd z u⟩
        refine ⟨fun y => Classical.choose (dc y), fun y hy => (Classical.choose_spec (dc y)).1 hy, ?_⟩
        rw [List.all_eq_false]
        refine ⟨x, hx, ?_⟩
        rw [(Classical.choose_spec (dc x)).2 b]
        decide
def spIsStr2 : Sp := fun vs H Q _ => ∃ (v : V) (b : Bool), vs = [v] ∧ DecS H v b ∧ ∀ H', Same H H' → Q (.bl b) H'
def spIPW2 (d : Nat) : Sp := fun vs H Q _ => ∃ (p l : Addr) (v : V) (b : Bool), vs = [.int (d : Int), v] ∧ Dec p l H d v b ∧ ∀ H', Same H H' → Q (.bl b) H'
def spIsPar2 : Sp := fun vs H Q _ => ∃ (p l : Addr) (v : V) (b : Bool), vs = [v] ∧ Dec p l H 20 v b ∧ ∀ H', Same H H' → Q (.bl b) H'
theorem all_map_id {α : Type} (B : α → Bool) (xs : List α) : (xs.map B).all id = xs.all B := by
  rw [List.all_map]
  rfl
theorem noSg {c : Nat} (h : c < 32) : isSg (c : Int) = false := by
  cases e : isSg (c : Int) with
  | false => rfl
  | true => exact absurd (sg_b e).1 (by omega)
section
variable {P : Program} {w : World} {K : PySem.W.Frag} {mg : Str → Option Value} {base : Heap}
theorem DecS.ty {H : Hp} {v : V} {b : Bool} (h : DecS H v b) (n : ∀ z : List Nat, v ≠ .str (sOf z)) : b = false ∧ ∃ t, TyX K H v t ∧ PySem.W.kitOne K t (.type "str") = some false ∧ PySem.W.kitOne K t (.type "tuple") = some false ∧ PySem.W.kitOne K t (.type "int") = some false := by
  rcases h with ⟨z, rfl, _⟩ | ⟨rfl, a, rfl, ⟨xs, h⟩ | h⟩
  · exact absurd rfl (n z)
  · exact ⟨rfl, _, .base (.lst h), kit_ty (by decide +kernel), kit_ty (by decide +kernel), kit_ty (by decide +kernel)⟩
  · exact ⟨rfl, _, .base (.dK h), kit_ty (by decide +kernel), kit_ty (by decide +kernel), kit_ty (by decide +kernel)⟩
end
end Q

namespace Q
open PySem L2 QR
abbrev sParOf : Stmt := top 9999
abbrev sLDeep : Stmt := top 9999
abbrev sFlag : Stmt := top 9999
abbrev sNest : Stmt := top 9999
abbrev sLIsP : Stmt := top 9999
abbrev sWord : Stmt := top 9999
abbrev sRBy : Stmt := top 9999
/-- what is raised, what is caught -/
structure XTxt (P : Program) (K : PySem.W.Frag) (mg : Str → Option Value) (CE CN fN CB : Addr) : Prop where
  sup : QS.SupC P K mg CN fN "NoParcel.__init__"
  gN : mg "NoParcel" = some (.ref CN)
  gE : mg "RoundError" = some (.ref CE)
  exN : PySem.W.exmOne K (.ref CN) (.ref CE) = some true
  eN : ExcC K CN
  eB : ExcC K CB
  cN : PySem.W.isClsIn K CN = true
  cB : PySem.W.isClsIn K CB = true
  nN : PySem.W.kitOne K (.ref CN) (.ref CN) = some true
  nV : PySem.W.kitOne K (.ref CN) (.type "ValueError") = some true
  bE : PySem.W.kitOne K (.ref CB) (.ref CE) = some true
  bV : PySem.W.kitOne K (.ref CB) (.type "ValueError") = some true
  noV : mg "ValueError" = none
def spRowX (CN : Addr) : Sp := fun vs H Q E => ∃ (p l : Addr) (v : V) (b : Bool), vs = [v] ∧ Dec p l H 20 v b ∧ (∀ t, b = true → Rep H 20 t v → OkT 20 t → (enc 20 t).length ≤ 8000 ∧ ∀ q H', Same H H' → RowAt H' q (enc 20 t) → Q (.ref q) H') ∧ (b = false → ∀ H', Same H H' → E (.ref CN) none H')
def spWd (CN : Addr) : Sp := fun vs H Q E => ∃ (p l : Addr) (v : V) (b : Bool), vs = [v] ∧ Dec p l H 20 v b ∧ (∀ t, b = true → Rep H 20 t v → OkT 20 t → (enc 20 t).length ≤ 8000) ∧ (b = true → ∀ u H', Same H H' → Q u H') ∧ (b = false → ∀ H', Same H H' → E (.ref CN) none H')
def wordS (b : Bool) : Str := if b then "let" else "parcel"
def spWord : Sp := fun vs H Q _ => ∃ (p l : Addr) (n : Int) (v : V) (b : Bool), vs = [.int n, v] ∧ Dec p l H 20 v b ∧ (∀ t, b = true → Rep H 20 t v → OkT 20 t → (enc 20 t).length ≤ 8000) ∧ ∀ H', Same H H' → Q (.str (wordS b)) H'
def spLIsP (d : Nat) : Sp := fun vs H Q _ => ∃ (p l : Addr) (v : V) (b : Bool), vs = [v, .int (d : Int)] ∧ Dec p l H d v b ∧ ∀ H', Same H H' → Q (.bl b) H'
def spFlag : Sp := fun vs H Q _ => ∃ b c : Bool, vs = [.bl b, .bl c] ∧ Q (.bl (decide (b = c))) H
/-- a tuple within tuples -/
def nestAt (H : Hp) (x : V) : Nat → V → Prop
  | 0, v => v = x
  | n + 1, v => ∃ a u, v = .ref a ∧ H a = some (.tup [u]) ∧ nestAt H x n u
theorem nestAt.same {H H' : Hp} {x : V} (s : Same H H') : ∀ {n : Nat} {v : V}, nestAt H x n v → nestAt H' x n v
  | 0, v, h => h
  | n + 1, v, ⟨a, u, e, h, g⟩ => ⟨a, u, e, s _ _ h, nestAt.same s g⟩
def spNest : Sp := fun vs H Q _ => ∃ (n : Nat) (x : V), vs = [.int (n : Int), x] ∧ n ≤ 1000 ∧ ∀ v H', Same H H' → nestAt H' x n v → Q v H'
def spLDeep : Sp := fun vs H Q _ => vs = [] ∧ ∀ a xs H', Same H H' → H' a = some (.lst xs) → H a = none → Q (.ref a) H'
def spRBy : Sp := fun vs H Q _ => ∃ (q : Addr) (bs : List Int), vs = [.ref q] ∧ RowAt H q bs ∧ (∀ t h v a H', rdAll bs = .ok t h → Same H H' → H' a = some (.tup [v]) → Rep H' 20 t v → Q (.ref a) H') ∧ ∀ p H', rdAll bs = .no p → Same H H' → Q (.int (p : Int)) H'
section
variable {P : Program} {w : World} {K : PySem.W.Frag} {mg : Str → Option Value} {base : Heap}
theorem le_sg (c : Nat) : (!decide ((sOf [c]).cps.toList < (" " : Str).cps.toList)) = decide (32 ≤ c) := by
  show (!decide ([c] < [32])) = _
  by_cases h : 32 ≤ c
  · rw [decide_eq_true h, decide_eq_false]
    · rfl
    · intro z
      cases z with
      | rel h => exact absurd h (by omega)
      | cons h => cases h
  · rw [decide_eq_false h, decide_eq_true]
    · rfl
    · exact .rel (by omega)
theorem le_tl (c : Nat) : (!decide (("~" : Str).cps.toList < (sOf [c]).cps.toList)) = decide (c ≤ 126) := by
  show (!decide ([126] < [c])) = _
  by_cases h : c ≤ 126
  · rw [decide_eq_true h, decide_eq_false]
    · rfl
    · intro z
      cases z with
      | rel h => exact absurd h (by omega)
      | cons h => cases h
  · rw [decide_eq_false h, decide_eq_true]
    · rfl
    · exact .rel (by omega)
def lsg (c : Nat) : Bool := decide (32 ≤ c) && decide (c ≤ 126)
theorem place_look (y : V) : List.lookup ("place" : Str) ([(("place" : Str), y)] : List (Str × V)) = some y := by
  show (match (("place" : Str) == ("place" : Str)) with | true => some y | false => List.lookup ("place" : Str) []) = some y
  rw [show (("place" : Str) == ("place" : Str)) = true by decide]
end
end Q

namespace Q
open PySem L2 QR
abbrev sSpoil : Stmt := top 37
abbrev sRight : Stmt := top 9999
abbrev sFirst : Stmt := top 30
abbrev sSecond : Stmt := top 44
/-! "a" * n -/
theorem int_rmul_str (a : Int) (t : Tok) (z : Str) (u : Tok) : Gives (Builtin.«int.__rmul__» { pos := [.int a t, .str z u] }) (.val .notImplemented) := .of_wp fun M A E s Q q => by
  have f1 := AutoSeq1.idx_int
  unfold Builtin.«int.__rmul__»
  wp_walk
  exact ⟨_, rfl, q⟩
theorem op_repS {X : Cx} : OpR X (binaryOp .Mult) (fun x y H Q => ∃ (k : Int), x = .str "a" ∧ y = .int k ∧ (k = 20 ∨ k = 21) ∧ Q (.str (sOf (List.replicate k.toNat 97))) H) := by
  intro pins s σ H x y v u Q I rx ry h
  obtain ⟨k, rfl, rfl, hk, q⟩ := h
  obtain ⟨t, rfl⟩ := rx
  obtain ⟨r, rfl⟩ := ry
  refine wpAny_binaryOp_repeat (T := "str") (U := "int") (by decide) (fun s' => typeIs_str s' _ t) (fun s' => typeIs_int s' k r) noFill_str_mul F.fills_int_mul F.slot_int_rmul repeat_str F.slot_int_index.lookup ?_
  refine call_gives F.slot_int_rmul (typeIs_int s k r) F.entry_int_rmul (F.args_int_rmul_2 _ _) (int_rmul_str k r _ t) ?_
  refine ⟨rfl, ?_⟩
  rcases hk with rfl | rfl
  · refine call_gives F.slot_str_mul (typeIs_str s _ t) F.entry_str_mul (F.args_str_mul_2 _ _) (gives_str_mul ("a") 20 t r (by decide) (fun _ _ => by decide) (fun _ _ => by decide)) ?_
    rw [if_neg (by decide), if_neg (by decide)]
    exact ⟨by decide, .str (sOf (List.replicate 20 97)), H, I.tok _, ⟨_, rfl⟩, q⟩
  · refine call_gives F.slot_str_mul (typeIs_str s _ t) F.entry_str_mul (F.args_str_mul_2 _ _) (gives_str_mul ("a") 21 t r (by decide) (fun _ _ => by decide) (fun _ _ => by decide)) ?_
    rw [if_neg (by decide), if_neg (by decide)]
    exact ⟨by decide, .str (sOf (List.replicate 21 97)), H, I.tok _, ⟨_, rfl⟩, q⟩
/-- a call that never raises, of what may -/
theorem passF {P : Program} {w : World} {X : Cx} : Passes (L2.CX P w) X (fun _ _ _ => False) := fun pins σ H s e s' I h => by
  obtain ⟨_, _, _, _, _, _, _, _, _, _, _, _, hF⟩ := h
  exact hF.elim
/-! one tree stands at a place -/
theorem sOf_inj {z y : List Nat} (e : sOf z = sOf y) : z = y := by
  have e2 : z.toArray = y.toArray := congrArg Str.cps e
  have := congrArg Array.toList e2
  simpa using this
theorem rep_eq {H : Hp} : ∀ {d : Nat} {t t' : T} {v : V}, Rep H d t v → Rep H d t' v → t = t' := by
  have key : ∀ d, (∀ d', d = d' + 1 → ∀ t t' v, Rep H d' t v → Rep H d' t' v → t = t') → ∀ t t' v, Rep H d t v → Rep H d t' v → t = t' := by
    intro d IH t t' v r r'
    rcases r.cases with ⟨rfl, rfl⟩ | ⟨b, rfl, rfl⟩ | ⟨i, rfl, rfl⟩ | ⟨z, rfl, rfl, _⟩ | ⟨d1, l, a, xs, e1, rfl, rfl, ha, hl, _, hk⟩
    all_goals rcases r'.cases with ⟨rfl, e⟩ | ⟨b', rfl, e⟩ | ⟨i', rfl, e⟩ | ⟨z', rfl, e, _⟩ | ⟨d2, l', a', xs', e2, rfl, e, ha', hl', _, hk'⟩
    all_goals first
      | rfl
      | (cases V.bl.inj e; rfl)
      | (cases V.int.inj e; rfl)
      | (cases sOf_inj (V.str.inj e); rfl)
      | (exact V.noConfusion e)
      | skip
    cases V.ref.inj e
    rw [ha] at ha'
    cases ha'
    obtain rfl : d1 = d2 := by omega
    refine congrArg T.tup (List.ext_getElem? fun i => ?_)
    by_cases h : i < l.length
    · have hx : xs[i]? = some (xs[i]'(by omega)) := List.getElem?_eq_getElem (by omega)
      have h1 : l[i]? = some (l[i]'h) := List.getElem?_eq_getElem h
      have h2 : l'[i]? = some (l'[i]'(by omega)) := List.getElem?_eq_getElem (by omega)
      rw [h1, h2, IH d1 e1 _ _ _ (hk i _ _ hx h1) (hk' i _ _ hx h2)]
    · rw [List.getElem?_eq_none (by omega), List.getElem?_eq_none (by omega)]
  intro d
  induction d with
  | zero =>
    intro t t' v
    exact key 0 (fun d' e => by omega) t t' v
  | succ d ih =>
    intro t t' v
    refine key (d + 1) (fun d' e t t' v => ?_) t t' v
    obtain rfl : d' = d := by omega
    exact ih
theorem reps_of {H : Hp} {d : Nat} : ∀ {xs : List V}, (∀ x ∈ xs, PG H d x) → ∃ ts : List QR.T, xs.length = ts.length ∧ (∀ (i : Nat) (x : V) (t : QR.T), xs[i]? = some x → ts[i]? = some t → Rep H d t x) ∧ ∀ t ∈ ts, OkT d t
  | [], _ => ⟨[], rfl, fun i x t hx => by simp at hx, fun t ht => by simp at ht⟩
  | x :: xs, h => by
    obtain ⟨ts, l, r, o⟩ := reps_of (xs := xs) fun y hy => h y (List.mem_cons_of_mem _ hy)
    obtain ⟨t, rt, ot⟩ := h x List.mem_cons_self
    refine ⟨t :: ts, by rw [List.length_cons, List.length_cons, l], fun i y u hy hu => ?_, fun u hu => ?_⟩
    · cases i with
      | zero =>
        cases hy
        cases hu
        exact rt
      | succ i => exact r i y u hy hu
    · rcases List.mem_cons.mp hu with rfl | hu
      · exact ot
      · exact o u hu
theorem pg_tup' {H : Hp} {d : Nat} {a : Addr} {xs : List V} (ha : H a = some (.tup xs)) (few : xs.length ≤ 9000) (h : ∀ x ∈ xs, PG H d x) : PG H (d + 1) (.ref a) := by
  obtain ⟨ts, l, r, o⟩ := reps_of h
  exact ⟨.tup ts, ⟨a, xs, rfl, ha, l, few, r⟩, o⟩
theorem mem_at {α : Type} {xs : List α} {x : α} (h : x ∈ xs) : ∃ i : Nat, xs[i]? = some x := List.mem_iff_getElem?.mp h
/-- one less deep -/
theorem dn {p l : Addr} {H : Hp} : ∀ d, (∀ v, PG H (d + 1) v → PG H d v ∨ BadU p l H d v) ∧ ∀ v, BadU p l H (d + 1) v → BadU p l H d v := by
  have key : ∀ d, (∀ d', d = d' + 1 → (∀ v, PG H (d' + 1) v → PG H d' v ∨ BadU p l H d' v) ∧ ∀ v, BadU p l H (d' + 1) v → BadU p l H d' v) → (∀ v, PG H (d + 1) v → PG H d v ∨ BadU p l H d v) ∧ ∀ v, BadU p l H (d + 1) v → BadU p l H d v := by
    intro d IH
    refine ⟨fun v h => ?_, fun v h => ?_⟩
    · obtain ⟨t, rep, ok⟩ := h
      rcases rep.cases with ⟨rfl, rfl⟩ | ⟨b, rfl, rfl⟩ | ⟨i, rfl, rfl⟩ | ⟨z, rfl, rfl, zl⟩ | ⟨d1, ls, a, xs, e1, rfl, rfl, ha, hl, few, hk⟩
      · exact .inl ⟨.non, Rep.atom (t := .non) rfl, okT_at (t := .non) trivial⟩
      · exact .inl ⟨.bl b, Rep.atom (t := .bl b) rfl, okT_at (t := .bl b) trivial⟩
      · exact .inl ⟨.int i, Rep.atom (t := .int i) rfl, okT_at (t := .int i) trivial⟩
      · exact .inl ⟨.str z, Rep.atom (t := .str z) ⟨rfl, zl⟩, okT_at (okT_atom ok)⟩
      · obtain rfl : d = d1 := by omega
        have okl : ∀ t ∈ ls, OkT d t := ok
        have items : ∀ x ∈ xs, PG H d x := fun x hx => by
          obtain ⟨i, hi⟩ := mem_at hx
          have hil := (List.getElem?_eq_some_iff.mp hi).1
          have ht : ls[i]? = some (ls[i]'(by omega)) := List.getElem?_eq_getElem (by omega)
          exact ⟨_, hk i x _ hi ht, okl _ (List.mem_of_getElem? ht)⟩
        cases d with
        | zero => exact .inr (.inr ⟨a, xs, rfl, ha⟩)
        | succ d =>
          obtain ⟨i1, i2⟩ := IH d rfl
          by_cases al : ∀ x ∈ xs, PG H d x
          · exact .inl (pg_tup' ha few al)
          · obtain ⟨x, hx⟩ := Classical.not_forall.mp al
            obtain ⟨hx, nx⟩ := Classical.not_imp.mp hx
            exact .inr (.inr ⟨a, xs, rfl, ha, few, fun y hy => i1 y (items y hy), x, hx, (i1 x (items x hx)).elim (fun g => absurd g nx) id⟩)
    · rcases h with h | ⟨a, xs, e, h, n, al, x, hx, b⟩
      · exact .atom h
      · cases d with
        | zero => exact .inr ⟨a, xs, e, h⟩
        | succ d =>
          obtain ⟨i1, i2⟩ := IH d rfl
          exact .inr ⟨a, xs, e, h, n, fun y hy => (al y hy).elim (i1 y) (fun b => .inr (i2 y b)), x, hx, i2 x b⟩
  intro d
  induction d with
  | zero => exact key 0 fun d' e => by omega
  | succ d ih =>
    refine key (d + 1) fun d' e => ?_
    obtain rfl : d' = d := by omega
    exact ih
theorem no_badA {p l : Addr} {H : Hp} {d : Nat} {t : T} {v : V} (r : Rep H d t v) (o : OkT d t) (b : BadA p l H v) : False := by
  rcases b with ⟨a, rfl, h, _⟩ | ⟨z, rfl, n, bz⟩
  · rcases r.cases with ⟨_, e⟩ | ⟨_, _, e⟩ | ⟨_, _, e⟩ | ⟨_, _, e, _⟩ | ⟨d', ls, a', xs', e, rfl, e2, ha, hl, few, hk⟩
    · cases e
    · cases e
    · cases e
    · cases e
    · cases V.ref.inj e2
      rcases h with ⟨xs, h⟩ | h <;> (rw [h] at ha; cases ha)
  · rcases r.cases with ⟨_, e⟩ | ⟨_, _, e⟩ | ⟨_, _, e⟩ | ⟨y, rfl, e, _⟩ | ⟨d', ls, a', xs', e, rfl, e2, ha, hl, few, hk⟩
    · cases e
    · cases e
    · cases e
    · cases sOf_inj (V.str.inj e)
      obtain ⟨o1, o2, o3⟩ := okT_atom o
      rcases bz with h | h | ⟨_, _, c, hc, lt⟩
      · rw [h] at o1
        exact absurd o1 (by decide)
      · omega
      · have := (sg_b (o3 c hc)).1
        omega
    · cases e2
/-- not both -/
theorem no_bad {p l : Addr} {H : Hp} : ∀ {d : Nat} {t : T} {v : V}, Rep H d t v → OkT d t → BadU p l H d v → False
  | 0, t, v, r, o, b => by
    have at_ : BadA p l H v → False := fun h => no_badA r o h
    rcases b with h | ⟨a, xs, rfl, h⟩
    · exact at_ h
    · rcases r.cases with ⟨_, e⟩ | ⟨_, _, e⟩ | ⟨_, _, e⟩ | ⟨_, _, e, _⟩ | ⟨_, _, _, _, e, _⟩ <;> cases e
  | d + 1, t, v, r, o, b => by
    rcases b with h | ⟨a, xs, rfl, h, n, al, x, hx, bx⟩
    · exact no_badA r o h
    · rcases r.cases with ⟨_, e⟩ | ⟨_, _, e⟩ | ⟨_, _, e⟩ | ⟨_, _, e, _⟩ | ⟨d', ls, a', xs', e, rfl, e2, ha, hl, few, hk⟩
      · cases e
      · cases e
      · cases e
      · cases e
      · cases V.ref.inj e2
        rw [h] at ha
        cases ha
        obtain rfl : d = d' := by omega
        have okl : ∀ t ∈ ls, OkT d t := o
        obtain ⟨i, hi⟩ := mem_at hx
        have hil := (List.getElem?_eq_some_iff.mp hi).1
        have ht : ls[i]? = some (ls[i]'(by omega)) := List.getElem?_eq_getElem (by omega)
        exact no_bad (hk i x _ hi ht) (okl _ (List.mem_of_getElem? ht)) bx
def Sz (H : Hp) (v : V) (n : Nat) : Prop := ∀ t, Rep H 20 t v → OkT 20 t → (enc 20 t).length ≤ n
theorem Sz.of {H : Hp} {v : V} {n : Nat} {t : T} (r : Rep H 20 t v) (h : (enc 20 t).length ≤ n) : Sz H v n := fun t' r' _ => by
  rw [rep_eq r' r]
  exact h
/-- it is told whether it is a parcel, and one of few bytes -/
def DecZ (p l : Addr) (H : Hp) (v : V) (n : Nat) : Prop := ∃ b, Dec p l H 20 v b ∧ (b = true → Sz H v n)
theorem DecZ.fm {p l : Addr} {H H' : Hp} {v : V} {n : Nat} (f : Fm p l H H') (h : DecZ p l H v n) : DecZ p l H' v n := by
  obtain ⟨b, dec, s⟩ := h
  refine ⟨b, dec.fm f, fun e => ?_⟩
  rcases dec with ⟨_, t, rep, ok⟩ | ⟨e2, _⟩
  · exact .of (rep.tk f.tk) (s e t rep ok)
  · rw [e] at e2
    cases e2
theorem DecZ.good {p l : Addr} {H : Hp} {v : V} {n : Nat} {t : T} (r : Rep H 20 t v) (ok : OkT 20 t) (h : (enc 20 t).length ≤ n) : DecZ p l H v n := ⟨true, .inl ⟨rfl, t, r, ok⟩, fun _ => .of r h⟩
theorem DecZ.bad {p l : Addr} {H : Hp} {v : V} {n : Nat} (h : BadU p l H 20 v) : DecZ p l H v n := ⟨false, .inr ⟨rfl, h⟩, fun e => nomatch e⟩
theorem DecZ.up {p l : Addr} {H : Hp} {v : V} {n m : Nat} (h : DecZ p l H v n) (le : n ≤ m) : DecZ p l H v m := by
  obtain ⟨b, dec, s⟩ := h
  exact ⟨b, dec, fun e t r o => Nat.le_trans (s e t r o) le⟩
/-- a pair -/
theorem DecZ.pair {p l c : Addr} {H : Hp} {x y : V} {n m : Nat} (hc : H c = some (.tup [x, y])) (hx : DecZ p l H x n) (hy : DecZ p l H y m) : DecZ p l H (.ref c) (n + m + 2) := by
  have d19 : ∀ {v : V} {k : Nat}, DecZ p l H v k → PG H 19 v ∨ BadU p l H 19 v := fun h => by
    obtain ⟨b, dec, _⟩ := h
    rcases dec with ⟨_, g⟩ | ⟨_, g⟩
    · exact (dn 19).1 _ g
    · exact .inr ((dn 19).2 _ g)
  by_cases al : ∀ z ∈ [x, y], PG H 19 z
  · have px := al x List.mem_cons_self
    have py := al y (List.mem_cons_of_mem _ List.mem_cons_self)
    obtain ⟨t1, r1, o1⟩ := px
    obtain ⟨t2, r2, o2⟩ := py
    have sz : ∀ {v : V} {k : Nat} {t : T}, DecZ p l H v k → Rep H 19 t v → OkT 19 t → (enc 19 t).length ≤ k := fun {v k t} h r o => by
      obtain ⟨b, dec, s⟩ := h
      have e := (o.up 1).2
      rw [← e]
      rcases dec with ⟨rfl, _⟩ | ⟨_, g⟩
      · exact s rfl t r.more (o.up 1).1
      · exact absurd g (fun g => no_bad (r.more) (o.up 1).1 g)
    refine .good (t := .tup [t1, t2]) ⟨c, [x, y], rfl, hc, rfl, (by show 2 ≤ 9000; decide), fun i z t hz ht => ?_⟩ (fun t ht => ?_) ?_
    · match i with
      | 0 => cases hz; cases ht; exact r1
      | 1 => cases hz; cases ht; exact r2
      | i + 2 => simp at hz
    · simp only [List.mem_cons, List.not_mem_nil, or_false] at ht
      rcases ht with rfl | rfl
      · exact o1
      · exact o2
    · have s1 := sz hx r1 o1
      have s2 := sz hy r2 o2
      show (6 :: (vlq 2 ++ [enc 19 t1, enc 19 t2].flatten)).length ≤ _
      rw [List.length_cons, List.length_append, vlq_lt (by decide)]
      simp only [List.flatten_cons, List.flatten_nil, List.length_append, List.length_nil, List.length_cons]
      omega
  · obtain ⟨z, hz⟩ := Classical.not_forall.mp al
    obtain ⟨hz, nz⟩ := Classical.not_imp.mp hz
    have each : ∀ z ∈ [x, y], PG H 19 z ∨ BadU p l H 19 z := fun z hz => by
      simp only [List.mem_cons, List.not_mem_nil, or_false] at hz
      rcases hz with rfl | rfl
      · exact d19 hx
      · exact d19 hy
    exact .bad (.inr ⟨c, [x, y], rfl, hc, (by show 2 ≤ 9000; decide), each, z, hz, (each z hz).elim (fun g => absurd g nz) id⟩)
end Q

namespace Q
open PySem L2 QR
theorem nest_rep {H : Hp} {x : V} {d : Nat} {t : T} (r : Rep H d t x) (o : OkT d t) : ∀ {n : Nat} {v : V}, nestAt H x n v → ∃ t', Rep H (d + n) t' v ∧ OkT (d + n) t' ∧ (enc (d + n) t').length = (enc d t).length + 2 * n
  | 0, v, h => by
    obtain rfl : v = x := h
    exact ⟨t, r, o, rfl⟩
  | n + 1, v, h => by
    obtain ⟨a, u, rfl, ha, g⟩ := h
    obtain ⟨t', r', o', e'⟩ := nest_rep r o g
    refine ⟨.tup [t'], rep_one ha r', fun y hy => by rw [List.mem_singleton.mp hy]; exact o', ?_⟩
    show (6 :: (vlq 1 ++ [enc (d + n) t'].flatten)).length = _
    rw [List.length_cons, List.length_append, vlq_lt (by decide)]
    simp only [List.flatten_cons, List.flatten_nil, List.length_append, List.length_nil, List.length_cons]
    omega
theorem nest_bad {p l : Addr} {H : Hp} {x : V} {d : Nat} (b : BadU p l H d x) : ∀ {n : Nat} {v : V}, nestAt H x n v → BadU p l H (d + n) v
  | 0, v, h => by
    obtain rfl : v = x := h
    exact b
  | n + 1, v, h => by
    obtain ⟨a, u, rfl, ha, g⟩ := h
    have ih := nest_bad b g
    exact .inr ⟨a, [u], rfl, ha, (by show 1 ≤ 9000; decide), fun y hy => .inr (by rw [List.mem_singleton.mp hy]; exact ih), u, List.mem_cons_self, ih⟩
/-- more than so many -/
theorem nest_deep {p l : Addr} {H : Hp} {x : V} : ∀ {d n : Nat} {v : V}, d < n → nestAt H x n v → BadU p l H d v
  | d, 0, v, h, _ => absurd h (Nat.not_lt_zero _)
  | 0, n + 1, v, h, g => by
    obtain ⟨a, u, rfl, ha, g⟩ := g
    exact .inr ⟨a, _, rfl, ha⟩
  | d + 1, n + 1, v, h, g => by
    obtain ⟨a, u, rfl, ha, g⟩ := g
    have ih : BadU p l H d u := nest_deep (Nat.lt_of_succ_lt_succ h) g
    exact .inr ⟨a, [u], rfl, ha, (by show 1 ≤ 9000; decide), fun y hy => .inr (by rw [List.mem_singleton.mp hy]; exact ih), u, List.mem_cons_self, ih⟩
theorem nest_up {H : Hp} {x v : V} {d n k m : Nat} {t : T} (r : Rep H d t x) (o : OkT d t) (h : nestAt H x n v) (e : d + n + k = m) : ∃ t', Rep H m t' v ∧ OkT m t' ∧ (enc m t').length = (enc d t).length + 2 * n := by
  obtain ⟨t', r', o', e'⟩ := nest_rep r o h
  subst e
  exact ⟨t', r'.up k, (o'.up k).1, by rw [(o'.up k).2]; exact e'⟩
end Q

/-! xs[a:] = ys -/
namespace L2
open PySem PySem.Spec PyProof.Rows
theorem setItem_tail {prog : Program} {w : World} {A : Around} {E : Value → Shared → Prop} {s : Shared} {l b sl : Addr} {items new : Array Value} {n n2 : Nat} {vl : Value} {a : Nat} {Q : Unit → Shared → Prop}
    (e : s.heap.get? l = some { cls := Value.type "list", data := Data.seq items n }) (e2 : s.heap.get? b = some { cls := Value.type "list", data := Data.seq new n2 }) (hne : l ≠ b) (hs : s.heap.IsSliceOf sl vl Value.none Value.none)
    (pl : IsPart vl (some (a : Int))) (ha : a ≤ items.size) (hsz : items.size + new.size ≤ sizeLine)
    (h : Q () { heap := s.heap.update l (Obj.mapSeq fun xs => xs.extract 0 a ++ new ++ xs.extract items.size), gens := s.gens, drawn := s.drawn, toks := s.toks, os := s.os }) :
    wpAny (model prog w) A (setItem (.ref l) (.ref sl) (.ref b)) Q E s := by
  have hl : s.heap.IsList l items := IsL.isList e
  have hb : s.heap.IsList b new := IsL.isList e2
  obtain ⟨os, hos, hcs, hds⟩ := id hs
  have hTs : s.TypeIs (.ref sl) "slice" := ⟨os, hos, hcs⟩
  unfold setItem
  refine wpAny_holding ?_
  refine wpAny_bind (wpAny_sequenceKey hl.typeIs (by decide) ?_)
  refine wpAny_bind (wpAny_callSpecial?_slot hl.typeIs slot_list_setitem (wpAny_call_entry slot_list_setitem hl.typeIs entry_list_setitem ?_ (args_list_setitem _ _ _)))
  unfold Builtin.«list.__setitem__»
  have hb1 : (Value.ref l == Value.ref b) = false := beq_eq_false_iff_ne.mpr (fun z => hne (Value.ref.inj z))
  refine wpAny_bind (wpAny_pure (a := (Value.ref l, [Value.ref sl, Value.ref b])) ?_)
  refine wpAny_bind ?_
  unfold Builtin.List.listSubscript?
  refine wpAny_bind (wpAny_specialOf hTs slice_no_index ?_)
  refine wpAny_pure (a := (none : Option Int)) ?_
  refine wpAny_bind (wpAny_typeOf hTs ?_)
  have e0 : ((Value.type "slice" != Value.type "slice") = true) = False := by simp
  simp only [e0, if_false, listSliceParts_eq]
  refine wpAny_bind (wpAny_bind (wpAny_field hos hds rfl (wpAny_bind (wpAny_listPart IsPart.none ?_))))
  have e1 : ((rawPart none == rawInt 0) = true) = False := by simp [rawPart, rawInt]
  simp only [e1, if_false]
  refine wpAny_bind (wpAny_field hos hds rfl (wpAny_bind (wpAny_listPart pl ?_)))
  refine wpAny_bind (wpAny_field hos hds rfl (wpAny_bind (wpAny_listPart IsPart.none ?_)))
  refine wpAny_pure ?_
  have e3 : (Builtin.List.listSameRef (Value.ref l) (Value.ref b) = true) = False := by
    unfold Builtin.List.listSameRef
    simp [hne]
  simp only [e3, if_false]
  unfold Builtin.List.listAllItems
  refine wpAny_bind (wpAny_bind (wpAny_typeOf hb.typeIs ?_))
  have e4 : ((Value.type "list" == Value.type "list" || Value.type "list" == Value.type "tuple") = true) = True := by simp
  simp only [e4, if_true]
  unfold Builtin.List.listItems
  refine wpAny_bind (wpAny_seqItems e2 rfl (wpAny_pure ?_))
  refine wpAny_bind (wpAny_bind (wpAny_seqItems e rfl (wpAny_pure ?_)))
  rw [sliceIndices_raw _ _ _ _ (by simp)]
  refine wpAny_bind (wpAny_pure ?_)
  have e5 : sliceBounds (some (a : Int)) none none items.size = ((a : Int), (items.size : Int), 1) := by
    unfold sliceBounds
    simp
    omega
  rw [e5]
  have e6 : ((((1 : Int) == 1) = true)) = True := by simp
  simp only [e6, if_true]
  refine wpAny_bind (wpAny_rule ?_)
  have e7 : (Builtin.List.listTooLong (items.size + new.size) = true) = False := by
    unfold Builtin.List.listTooLong
    simp
    omega
  simp only [e7, if_false]
  have e8 : (max (a : Int) (items.size : Int)).toNat = items.size := by omega
  rw [e8]
  refine wpAny_bind (wpAny_updateSeq e rfl ?_ (by omega) (by simp; omega))
  refine wpAny_bind (wpAny_letGo ?_)
  exact wpAny_pure ⟨.none, rfl, wpAny_pure h⟩

def sSlPut (td tl' : TE) (tl : TO) : TE → TS := fun tv D σ H => tv σ H fun v H1 => td σ H1 fun x H2 => tl σ H2 fun a H3 => ∃ (l b : Addr) (xs ys : List V) (n : Nat), x = .ref l ∧ v = .ref b ∧ a = some (n : Int) ∧ H3 l = some (.lst xs) ∧ H3 b = some (.lst ys) ∧ l ≠ b ∧ n ≤ xs.length ∧ xs.length + ys.length ≤ sizeLine ∧ D.nx σ (upd H3 l (.lst (xs.take n ++ ys)))
section
variable {X : Cx} {o value : Expr} {lo : Option Expr} {pos pos' p2 : Pos} {td tv : TE} {tl : TO}
theorem ps_slput (ho : PE X o td) (hl : PO X lo tl) (hv : PE X value tv) (hs : swapsWith value (some (.Subscript o (.Slice lo none none p2) pos')) pos.line X.env = pure false := by rfl) : PS X (.Assign [.Subscript o (.Slice lo none none p2) pos'] value pos) (sSlPut td td tl tv) := by
  refine ⟨fun pins s σ H D I h => wpAny_Assign_Subscript (thn (hv.run pins s σ H _ I h) fun v s1 ⟨x1, H1, I1, r1, q1⟩ => thn (ho.run pins s1 σ H1 _ I1 q1) fun ov s2 ⟨x2, H2, I2, r2, q2⟩ => wpAny_Slice (thn (hl.run pins s2 σ H2 _ I2 q2) fun vl s3 ⟨a, H3, I3, pl, q3⟩ => ?_)) hs⟩
  rw [evalPart_none]
  refine wpAny_pure ?_
  refine wpAny_pure ?_
  obtain ⟨l, b, xs, ys, n, rfl, rfl, rfl, hL, hB, ne, le, sz, q⟩ := q3
  cases r1
  cases r2
  have I4 := I3.kept (t' := s3.toks) fun b ob q => Heap.get?_push_of_some { cls := Value.type "slice", data := Data.fields #[vl, Value.none, Value.none] } q
  obtain ⟨z, its, k, r, hlen, e⟩ := Inv.lstM I4 hL
  obtain ⟨z2, its2, k2, r2, hlen2, e2⟩ := Inv.lstM I4 hB
  refine setItem_tail e e2 ne (Heap.IsSliceOf.new s3.heap vl Value.none Value.none) pl (by rw [List.size_toArray]; omega) (by rw [List.size_toArray, List.size_toArray]; omega) ?_
  refine ⟨σ, _, I4.lset hL e (its' := its.take n ++ its2) ?_ ((r.take n).append r2) ?_, q⟩
  · show its.toArray.extract 0 n ++ its2.toArray ++ its.toArray.extract its.toArray.size = _
    simp
  · rw [List.length_append, List.length_take]
    omega
end
end L2

namespace Q
open PySem L2 QR
abbrev sDI : Stmt := inClass (top 9999) 0
abbrev sDW : Stmt := inClass (top 9999) 1
abbrev sDS : Stmt := inClass (top 9999) 2
abbrev sDB : Stmt := inClass (top 9999) 3
abbrev sDY : Stmt := inClass (top 9999) 4
abbrev sDC : Stmt := inClass (top 9999) 5
abbrev sDD : Stmt := inClass (top 9999) 6
abbrev sDK : Stmt := inClass (top 9999) 7
/-! rows in a list, by what they hold -/
def RowsV (H : Hp) (vs : List V) (bss : List (List Int)) : Prop := vs.length = bss.length ∧ ∀ (i : Nat) (v : V) (bs : List Int), vs[i]? = some v → bss[i]? = some bs → ∃ q, v = .ref q ∧ RowAt H q bs
theorem RowsV.tk {H H' : Hp} {vs : List V} {bss : List (List Int)} (h : RowsV H vs bss) (k : Tk H H') : RowsV H' vs bss := ⟨h.1, fun i v bs hv hb => by
  obtain ⟨q, e, r⟩ := h.2 i v bs hv hb
  exact ⟨q, e, r.tk k⟩⟩
theorem RowsV.nil {H : Hp} : RowsV H [] [] := ⟨rfl, fun i v bs hv => by simp at hv⟩
theorem RowsV.append {H : Hp} {vs us : List V} {bss css : List (List Int)} (h : RowsV H vs bss) (g : RowsV H us css) : RowsV H (vs ++ us) (bss ++ css) := by
  refine ⟨by rw [List.length_append, List.length_append, h.1, g.1], fun i v bs hv hb => ?_⟩
  by_cases c : i < vs.length
  · rw [List.getElem?_append_left c] at hv
    rw [List.getElem?_append_left (by rw [← h.1]; exact c)] at hb
    exact h.2 i v bs hv hb
  · rw [List.getElem?_append_right (by omega)] at hv
    rw [List.getElem?_append_right (by rw [← h.1]; omega), ← h.1] at hb
    exact g.2 _ v bs hv hb
theorem RowsV.one {H : Hp} {q : Addr} {bs : List Int} (h : RowAt H q bs) : RowsV H [.ref q] [bs] := ⟨rfl, fun i v cs hv hb => by
  cases i with
  | zero =>
    cases hv
    cases hb
    exact ⟨q, rfl, h⟩
  | succ i => simp at hv⟩
theorem RowsV.take {H : Hp} {vs : List V} {bss : List (List Int)} (h : RowsV H vs bss) (n : Nat) : RowsV H (vs.take n) (bss.take n) := by
  refine ⟨by rw [List.length_take, List.length_take, h.1], fun i v bs hv hb => ?_⟩
  have hi : i < (vs.take n).length := (List.getElem?_eq_some_iff.mp hv).1
  rw [List.length_take] at hi
  rw [List.getElem?_take_of_lt (by omega)] at hv hb
  exact h.2 i v bs hv hb
theorem RowsV.drop {H : Hp} {vs : List V} {bss : List (List Int)} (h : RowsV H vs bss) (n : Nat) : RowsV H (vs.drop n) (bss.drop n) := by
  refine ⟨by rw [List.length_drop, List.length_drop, h.1], fun i v bs hv hb => ?_⟩
  rw [List.getElem?_drop] at hv hb
  exact h.2 _ v bs hv hb
def RowsAt (H : Hp) (l : Addr) (bss : List (List Int)) : Prop := ∃ vs, H l = some (.lst vs) ∧ RowsV H vs bss
theorem RowsAt.same {H H' : Hp} {l : Addr} {bss : List (List Int)} (h : RowsAt H l bss) (s : Same H H') : RowsAt H' l bss := h.imp fun vs h => ⟨s _ _ h.1, h.2.tk (.of s)⟩
def dF (ra : Addr) (m : Nat) : List (Str × V) := [("_rows", .ref ra), ("_many_synced", .int (m : Int))]
theorem dF_m (ra : Addr) (m k : Nat) : putF "_many_synced" (.int (k : Int)) (dF ra m) = dF ra k := by
  unfold dF putF
  rw [if_neg (by decide +kernel)]
  unfold putF
  rw [if_pos rfl]
theorem dF_r (ra rb : Addr) (m : Nat) : putF "_rows" (.ref rb) (dF ra m) = dF rb m := by
  unfold dF putF
  rw [if_pos rfl]
/-- a disk -/
structure DiskX (CD : Addr) (H : Hp) (x dx ra : Addr) (bss : List (List Int)) (m : Nat) : Prop where
  at_ : H x = some (.ins CD dx (dF ra m))
  rows : RowsAt H ra bss
  le : m ≤ bss.length
  few : bss.length ≤ 200
theorem DiskX.same {CD : Addr} {H H' : Hp} {x dx ra : Addr} {bss : List (List Int)} {m : Nat} (h : DiskX CD H x dx ra bss m) (s : Same H H') : DiskX CD H' x dx ra bss m := ⟨s _ _ h.at_, h.rows.same s, h.le, h.few⟩
theorem DiskX.ne {CD : Addr} {H : Hp} {x dx ra : Addr} {bss : List (List Int)} {m : Nat} (h : DiskX CD H x dx ra bss m) : x ≠ ra := fun e => by
  obtain ⟨vs, hv, _⟩ := h.rows
  rw [← e, h.at_] at hv
  cases hv
/-- all stands but two -/
def B2 (a b : Addr) (H H' : Hp) : Prop := ∀ c o, H c = some o → c ≠ a → c ≠ b → H' c = some o
theorem B2.rf {a b : Addr} {H : Hp} : B2 a b H H := fun _ _ e _ _ => e
theorem B2.st {a b : Addr} {H H1 H2 : Hp} (h : B2 a b H H1) (s : Same H1 H2) : B2 a b H H2 := fun c o e n m => s _ _ (h c o e n m)
theorem B2.of {a b : Addr} {H H1 : Hp} (s : Same H H1) : B2 a b H H1 := fun c o e _ _ => s _ _ e
theorem B2.tr {a b : Addr} {H H1 H2 : Hp} (h : B2 a b H H1) (g : B2 a b H1 H2) : B2 a b H H2 := fun c o e n m => g c o (h c o e n m) n m
theorem B2.a {a b : Addr} {H H1 : Hp} {o : HO} (h : B2 a b H H1) : B2 a b H (upd H1 a o) := fun c u e n m => by rw [upd_ne n]; exact h c u e n m
theorem B2.b {a b : Addr} {H H1 : Hp} {o : HO} (h : B2 a b H H1) : B2 a b H (upd H1 b o) := fun c u e n m => by rw [upd_ne m]; exact h c u e n m
/-- what the top says of Disk -/
structure DTxt (K : PySem.W.Frag) (mg : Str → Option Value) (CD : Addr) : Prop where
  cl : Cls K CD
  nR : NoAttr K CD "_rows"
  nM : NoAttr K CD "_many_synced"
  mgC : mg "Disk" = some (.ref CD)
def spDI (CD : Addr) : Sp := fun vs H Q _ => ∃ (x dx : Addr), vs = [.ref x] ∧ H x = some (.ins CD dx []) ∧ ∀ ra H', H ra = none → ra ≠ x → Bu x H H' → DiskX CD H' x dx ra [] 0 → Q .non H'
def spDW (CD : Addr) : Sp := fun vs H Q _ => ∃ (x dx ra q : Addr) (bss : List (List Int)) (m : Nat) (bs : List Int), vs = [.ref x, .ref q] ∧ DiskX CD H x dx ra bss m ∧ bss.length < 200 ∧ RowAt H q bs ∧ ∀ H', Bu ra H H' → DiskX CD H' x dx ra (bss ++ [bs]) m → Q (.int (bss.length : Int)) H'
def spDS (CD : Addr) : Sp := fun vs H Q _ => ∃ (x dx ra : Addr) (bss : List (List Int)) (m : Nat), vs = [.ref x] ∧ DiskX CD H x dx ra bss m ∧ ∀ H', Bu x H H' → DiskX CD H' x dx ra bss bss.length → Q (.int ((bss.length : Int) - (m : Int))) H'
def spDB (CD : Addr) : Sp := fun vs H Q _ => ∃ (x dx ra : Addr) (bss : List (List Int)) (m : Nat), vs = [.ref x] ∧ DiskX CD H x dx ra bss m ∧ ∀ z H', H z = none → Same H H' → RowsAt H' z bss → Q (.ref z) H'
def spDY (CD : Addr) : Sp := fun vs H Q _ => ∃ (x dx ra : Addr) (bss : List (List Int)) (m : Nat), vs = [.ref x] ∧ DiskX CD H x dx ra bss m ∧ Q (.int (m : Int)) H
def spDD (CD : Addr) : Sp := fun vs H Q _ => ∃ (x dx ra : Addr) (bss : List (List Int)) (m n : Nat), vs = [.ref x, .int (n : Int)] ∧ DiskX CD H x dx ra bss m ∧ n ≤ bss.length ∧ ∀ rb H', H rb = none → Bu x H H' → DiskX CD H' x dx rb (bss.take n) (min m n) → Q .non H'
def spDK (CD : Addr) : Sp := fun vs H Q _ => ∃ (x dx ra : Addr) (bss : List (List Int)) (m : Nat), vs = [.ref x] ∧ DiskX CD H x dx ra bss m ∧ ∀ y dy rb H', H y = none → H rb = none → Same H H' → DiskX CD H' y dy rb bss m → Q (.ref y) H'
section
variable {P : Program} {w : World} {K : PySem.W.Frag} {mg : Str → Option Value} {base : Heap}
theorem cut_to (xs : List V) (n : Nat) : cutV xs none (some (n : Int)) = xs.take n := by
  unfold cutV
  rw [HT.sIx_none, HT.sIx_nat, List.drop_zero, Nat.sub_zero]
  rcases Nat.le_total n xs.length with c | c
  · rw [Nat.min_eq_left c]
  · rw [Nat.min_eq_right c, List.take_length, List.take_of_length_le c]
end
end Q

namespace L2
open PySem PySem.Spec PyProof.Rows
theorem ext_tuple {prog : Program} {w : World} {A : Around} {E : Value → Shared → Prop} {s : Shared} {l b : Addr} {items items2 : Array Value} {n : Nat} {Q : Value → Shared → Prop}
    (e : s.heap.get? l = some { cls := Value.type "list", data := Data.seq items n }) (hb : s.heap.IsTuple b items2) (hsz : items.size + items2.size ≤ sizeLine)
    (h : Q .none { heap := s.heap.update l (Obj.mapSeq fun x => x ++ items2), gens := s.gens, drawn := s.drawn, toks := s.toks, os := s.os }) :
    wpAny (model prog w) A (call (.builtin "list.extend") [.ref l, .ref b]) Q E s := by
  have hl : s.heap.IsList l items := IsL.isList e
  obtain ⟨ob, ho, hc, m, hd⟩ := id hb
  refine wpAny_call_entry F.slot_list_extend hl.typeIs F.entry_list_extend ?_ (F.args_list_extend_2 _ _)
  unfold Builtin.«list.extend»
  refine wpAny_bind (wpAny_pure (a := (Value.ref l, Value.ref b)) ?_)
  unfold Builtin.List.listExtendWith
  have hTs : s.TypeIs (.ref b) "tuple" := ⟨ob, ho, hc⟩
  refine wpAny_bind (wpAny_typeOf hTs ?_)
  have e1 : ((Builtin.List.listSameRef (Value.ref l) (Value.ref b) || Value.type "tuple" == Value.type "list" || Value.type "tuple" == Value.type "tuple") = true) = True := by simp
  simp only [e1, if_true]
  unfold Builtin.List.listItems
  refine wpAny_bind (wpAny_bind (wpAny_seqItems ho hd (wpAny_pure ?_)))
  refine wpAny_bind (wpAny_bind (wpAny_seqItems e rfl (wpAny_pure ?_)))
  have e2 : ((!items.isEmpty && Builtin.List.listTooLong (items.size + items2.size)) = true) = False := by
    rw [notLongL hsz, Bool.and_false]
    simp
  simp only [e2, if_false]
  unfold Builtin.List.listUpdate
  refine wpAny_bind (wpAny_updateSeq e rfl ?_ (by omega) (by simp; omega))
  exact wpAny_pure ⟨.none, rfl, h⟩
/-- xs.extend(t) -/
theorem mt_extT {X : Cx} : MtM X "list.extend" (fun x vs H Q => ∃ (l b : Addr) (xs zs : List V), x = .ref l ∧ vs = [.ref b] ∧ H l = some (.lst xs) ∧ H b = some (.tup zs) ∧ xs.length + zs.length ≤ sizeLine ∧ Q .non (upd H l (.lst (xs ++ zs)))) := by
  intro pins s σ H x vs v us Q I rx rv h
  obtain ⟨l, b, xs, zs, rfl, rfl, hH, hB, hz, q⟩ := h
  cases rx
  cases rv with
  | cons ru r0 =>
    cases r0
    cases ru
    obtain ⟨z, its, n, r, hl, e⟩ := Inv.lstM I hH
    obtain ⟨z2, its2, r2, ob, ho, hc, m, hd⟩ := I.hok b _ hB
    have hl2 := r2.length
    refine ext_tuple e ⟨ob, ho, hc, m, hd⟩ (by rw [List.size_toArray, List.size_toArray]; omega) ?_
    exact ⟨.non, _, I.lset hH e (its' := its ++ its2) (by simp) (r.append r2) (by rw [List.length_append]; omega), rfl, q⟩
end L2
namespace Q
open PySem L2 QR
abbrev sKP : Stmt := top 9999
abbrev sLKt : Stmt := top 9999
abbrev sLBk : Stmt := top 9999
abbrev sPR : Stmt := top 9999
theorem str_ok {z : List Nat} (h : ∀ c ∈ z, isSg (c : Int) = true) : PyData.canLay0 (.str (sOf z)) = true := by
  simp only [PyData.canLay0, PyData.strOk]
  show z.toArray.all _ = true
  rw [Array.all_eq_true_iff_forall_mem]
  intro c hc
  have := (sg_b (h c (by simpa using hc))).2.1
  exact decide_eq_true (by omega)
theorem rep_dp {K : PySem.W.Frag} {H : Hp} : ∀ {d : Nat} {t : QR.T} {v : V}, Rep H d t v → OkT d t → ∃ e, Dp K H v e ∧ PyData.canLay0 e = true ∧ e.depth ≤ d := by
  have key : ∀ d, (∀ d', d = d' + 1 → ∀ t v, Rep H d' t v → OkT d' t → ∃ e, Dp K H v e ∧ PyData.canLay0 e = true ∧ e.depth ≤ d') → ∀ t v, Rep H d t v → OkT d t → ∃ e, Dp K H v e ∧ PyData.canLay0 e = true ∧ e.depth ≤ d := by
    intro d IH t v r o
    rcases r.cases with ⟨rfl, rfl⟩ | ⟨b, rfl, rfl⟩ | ⟨i, rfl, rfl⟩ | ⟨z, rfl, rfl, _⟩ | ⟨d1, l, a, xs, e1, rfl, rfl, ha, hl, _, hk⟩
    · exact ⟨_, .non, by simp [PyData.canLay0], by simp [PyData.depth]⟩
    · exact ⟨_, .bl b, by simp [PyData.canLay0], by simp [PyData.depth]⟩
    · exact ⟨_, .int i, by simp [PyData.canLay0], by simp [PyData.depth]⟩
    · exact ⟨_, .str _, str_ok (okT_atom o).2.2, by simp [PyData.depth]⟩
    · subst e1
      have okl : ∀ t ∈ l, OkT d1 t := o
      have main : ∀ (xs : List V) (ls : List QR.T), xs.length = ls.length → (∀ (i : Nat) (x : V) (t : QR.T), xs[i]? = some x → ls[i]? = some t → Rep H d1 t x) → (∀ t ∈ ls, OkT d1 t) → ∃ es, DpAll K H xs es ∧ PyData.canLayAll0 es = true ∧ PyData.depthAll es ≤ d1 := by
        intro xs
        induction xs with
        | nil => exact fun ls _ _ _ => ⟨[], .nil, by simp [PyData.canLayAll0], by simp [PyData.depthAll]⟩
        | cons x xs ih =>
          intro ls hl hk ho
          cases ls with
          | nil => simp at hl
          | cons t ls =>
            obtain ⟨e, h1, h2, h3⟩ := IH d1 rfl t x (hk 0 x t rfl rfl) (ho t List.mem_cons_self)
            obtain ⟨es, g1, g2, g3⟩ := ih ls (by simpa using hl) (fun i x t hx ht => hk (i + 1) x t hx ht) fun t ht => ho t (List.mem_cons_of_mem _ ht)
            exact ⟨e :: es, .cons h1 g1, by simp [PyData.canLayAll0, h2, g2], by simp only [PyData.depthAll]; omega⟩
      obtain ⟨es, g1, g2, g3⟩ := main xs l hl hk okl
      exact ⟨.tuple es, .tup (SqT.of ha) g1, by simp [PyData.canLay0, g2], by simp only [PyData.depth]; omega⟩
  intro d
  induction d with
  | zero =>
    intro t v
    exact key 0 (fun d' e => by omega) t v
  | succ d ih =>
    intro t v
    refine key (d + 1) (fun d' e t v => ?_) t v
    obtain rfl : d' = d := by omega
    exact ih
/-- told == () -/
def rNil : R2 := fun x y H Q => ∃ (a b : Addr), x = .ref a ∧ y = .ref b ∧ H b = some (.tup []) ∧ ((H a = some (.tup []) ∧ Q (.bl true) H) ∨ ∃ (d : Nat) (t : QR.T) (v : V), H a = some (.tup [v]) ∧ Rep H d t v ∧ OkT d t ∧ d ≤ 40 ∧ Q (.bl false) H)
theorem op_eqN {X : Cx} (hu : X.A.units + 64 < cLine) : OpR X (compareOp .Eq) rNil := by
  intro pins s σ H x y v u Q I rx ry h
  obtain ⟨a, b, rfl, rfl, hb, ⟨ha, k⟩ | ⟨d, t, v, ha, rep, ok, le, k⟩⟩ := h
  · refine op_eqD hu pins s σ H _ _ _ u Q I rx ry ⟨.tuple [], .tuple [], .tup (SqT.of ha) .nil, .tup (SqT.of hb) .nil, by decide +kernel, by decide +kernel, ?_⟩
    rw [show PyData.eqv (.tuple []) (.tuple []) = true by decide +kernel]
    exact k
  · obtain ⟨e, h1, h2, h3⟩ := rep_dp (K := X.K) rep ok
    refine op_eqD hu pins s σ H _ _ _ u Q I rx ry ⟨.tuple [e], .tuple [], .tup (SqT.of ha) (.cons h1 .nil), .tup (SqT.of hb) .nil, ?_, by decide +kernel, ?_⟩
    · unfold SeqAt.shaped
      refine Bool.and_eq_true_iff.mpr ⟨?_, decide_eq_true ?_⟩
      · simp [PyData.canLay0, PyData.canLayAll0, h2]
      · simp only [PyData.depth, PyData.depthAll]
        omega
    · rw [show PyData.eqv (.tuple [e]) (.tuple []) = false by simp [PyData.eqv, PyData.eqvAll]]
      exact k
end Q

/-! zip of a list with a tuple -/
namespace L2
open PySem PySem.Spec PyProof.Rows
theorem zipM_next_item {prog : Program} {w : World} {A : Around} {E : Value → Shared → Prop} {s : Shared} {z TI TO i1 i2 l1 l2 : Addr} {k1 k2 : Nat} {xs ys : Array Value} {x y a b : Value} {Q : Value → Shared → Prop}
  (D : ZipApart z TI TO i1 i2 l1 l2) (hz : IsZip s.heap z TI TO Value.none) (hTI : IsPair s.heap TI (.ref i1) (.ref i2)) (hTO : IsPair s.heap TO a b) (h1 : s.heap.IsListIter i1 l1 k1) (h2 : s.heap.IsTupleIter i2 l2 k2)
  (hl1 : s.heap.IsList l1 xs) (hl2 : s.heap.IsTuple l2 ys) (hx : xs[k1]? = some x) (hy : ys[k2]? = some y)
  (hq : ∀ h' : Heap, IsZip h' z TI TO (rawInt s.heap.objs.size) → IsPair h' TO x y → h'.IsListIter i1 l1 (k1 + 1) → h'.IsTupleIter i2 l2 (k2 + 1) → IsPair h' s.heap.objs.size x y → h'.objs.size = s.heap.objs.size + 1 →
    (∀ (c : Addr) (o : Obj), c ≠ z → c ≠ TO → c ≠ i1 → c ≠ i2 → s.heap.get? c = some o → h'.get? c = some o) → Q (.ref s.heap.objs.size) { heap := h', gens := s.gens, drawn := s.drawn, toks := s.toks, os := s.os }) :
  wpAny (model prog w) A (Builtin.«zip.__next__» { pos := [.ref z] }) (fun fin s' => ∃ v, fin = Fin.done (Flow.ret v) ∧ Q v s') E s := by
  have u1 : ∀ (b : Addr) (o : Obj), b ≠ z → s.heap.get? b = some o → (s.heap.update z (Obj.mapFields fun x => x.setIfInBounds 0 Value.ellipsis)).get? b = some o := fun b o ne e => Heap.get?_update_of_ne _ ne.symm e
  have g1 := h1.at (fun o e => u1 i1 o D.i1z e)
  have gl1 : (s.heap.update z (Obj.mapFields fun x => x.setIfInBounds 0 Value.ellipsis)).IsList l1 xs := hl1.imp fun o h => ⟨u1 _ _ D.l1z h.1, h.2⟩
  unfold Builtin.«zip.__next__»
  wp_walk using wpAny_field hz rfl rfl, wpAny_seqItems hTI rfl, wpAny_nextOf_list_item g1 gl1 hx, wpAny_onRaise
  intro h3 g3 sb3
  have k3 : ∀ (b : Addr) (o : Obj), b ≠ z → b ≠ i1 → s.heap.get? b = some o → h3.get? b = some o := fun b o n1 n2 e => (sb3.2 b n2).trans (u1 b o n1 e)
  have hTO3 : IsPair h3 TO a b := k3 TO _ D.TOz D.TOi1 hTO
  have u4 : ∀ (b : Addr) (o : Obj), b ≠ TO → h3.get? b = some o → (h3.update TO (Obj.mapSeq fun x_1 => x_1.setIfInBounds 0 x)).get? b = some o := fun b o ne e => Heap.get?_update_of_ne _ ne.symm e
  have g4 := h2.at (h' := h3.update TO (Obj.mapSeq fun x_1 => x_1.setIfInBounds 0 x)) (fun o e => u4 i2 o D.TOi2.symm (k3 i2 o D.i2z D.i12.symm e))
  have gl4 : (h3.update TO (Obj.mapSeq fun x_1 => x_1.setIfInBounds 0 x)).IsTuple l2 ys := hl2.imp fun o h => ⟨u4 _ _ D.l2TO (k3 _ _ D.l2z D.l2i1 h.1), h.2⟩
  wp_walk using wpAny_seqItems hTO3 rfl, RZ.nextOf_tuple_item g4 gl4 hy, wpAny_onRaise, wpAny_letGo
  intro h5 g5 sb5
  have hTO4 : IsPair (h3.update TO (Obj.mapSeq fun x_1 => x_1.setIfInBounds 0 x)) TO x b := (Heap.get?_update_self _ hTO3 rfl).trans (by rfl)
  have hTO5 : IsPair h5 TO x b := (sb5.2 TO D.TOi2).trans hTO4
  have hTO6 : IsPair (h5.update TO (Obj.mapSeq fun x_1 => x_1.setIfInBounds (0 + 1) y)) TO x y := (Heap.get?_update_self _ hTO5 rfl).trans (by rfl)
  have hz1 : (s.heap.update z (Obj.mapFields fun x => x.setIfInBounds 0 Value.ellipsis)).get? z = some { cls := Value.type "zip", data := Data.fields #[Value.ellipsis, Value.bool false, Value.bool false, Value.ref TI, Value.ref TO] } := (Heap.get?_update_self _ hz rfl).trans (by rfl)
  have hz3 := (sb3.2 z D.i1z.symm).trans hz1
  have hz4 := Heap.get?_update_of_ne (Obj.mapSeq fun x_1 => x_1.setIfInBounds 0 x) D.TOz hz3
  have hz5 := (sb5.2 z D.i2z.symm).trans hz4
  have hz6 := Heap.get?_update_of_ne (Obj.mapSeq fun x_1 => x_1.setIfInBounds (0 + 1) y) D.TOz hz5
  wp_walk using wpAny_seqItems hTO5 rfl, wpAny_seqItems hTO6 rfl, wpAny_letGo
  have sz : (h5.update TO (Obj.mapSeq fun x_1 => x_1.setIfInBounds (0 + 1) y)).objs.size = s.heap.objs.size := by
    rw [Heap.size_update, sb5.1]
    show (h3.update TO _).objs.size = _
    rw [Heap.size_update, sb3.1]
    show (s.heap.update z _).objs.size = _
    rw [Heap.size_update]
  have nz : (h5.update TO (Obj.mapSeq fun x_1 => x_1.setIfInBounds (0 + 1) y)).objs.size ≠ z := (Nat.ne_of_lt (Heap.lt_size hz6)).symm
  refine ⟨_, rfl, ?_⟩
  have c6 : ∀ (b : Addr) (o : Obj), b ≠ z → (h5.update TO (Obj.mapSeq fun x_1 => x_1.setIfInBounds (0 + 1) y)).get? b = some o → ((((h5.update TO (Obj.mapSeq fun x => x.setIfInBounds (0 + 1) y)).push { cls := Value.type "tuple", data := Data.seq #[x, y].toList.toArray }).update z (Obj.mapFields fun x => x.setIfInBounds 0 (rawInt ↑(h5.update TO (Obj.mapSeq fun x => x.setIfInBounds (0 + 1) y)).objs.size))).update z (Obj.mapFields fun x => x.setIfInBounds 1 (Value.bool false))).get? b = some o := fun b o n e => Heap.get?_update_of_ne _ n.symm (Heap.get?_update_of_ne _ n.symm (Heap.get?_push_of_some _ e))
  have c5 : ∀ (b : Addr) (o : Obj), b ≠ z → b ≠ TO → h5.get? b = some o → _ := fun b o n m e => c6 b o n (Heap.get?_update_of_ne _ m.symm e)
  have c3 : ∀ (b : Addr) (o : Obj), b ≠ z → b ≠ TO → b ≠ i2 → h3.get? b = some o → _ := fun b o n m q e => c5 b o n m ((sb5.2 b q).trans (u4 b o m e))
  have hz7 := Heap.get?_push_of_some { cls := Value.type "tuple", data := Data.seq #[x, y].toList.toArray } hz6
  have hz8 := (Heap.get?_update_self (Obj.mapFields fun x => x.setIfInBounds 0 (rawInt ↑(h5.update TO (Obj.mapSeq fun x => x.setIfInBounds (0 + 1) y)).objs.size)) hz7 rfl)
  have hz9 := (Heap.get?_update_self (Obj.mapFields fun x => x.setIfInBounds 1 (Value.bool false)) hz8 rfl)
  have pT : ((h5.update TO (Obj.mapSeq fun x => x.setIfInBounds (0 + 1) y)).push { cls := Value.type "tuple", data := Data.seq #[x, y].toList.toArray }).get? (h5.update TO (Obj.mapSeq fun x => x.setIfInBounds (0 + 1) y)).objs.size = some { cls := Value.type "tuple", data := Data.seq #[x, y].toList.toArray } := Heap.get?_push_size _ rfl
  have p9 := Heap.get?_update_of_ne (Obj.mapFields fun x => x.setIfInBounds 1 (Value.bool false)) nz.symm (Heap.get?_update_of_ne (Obj.mapFields fun x => x.setIfInBounds 0 (rawInt ↑(h5.update TO (Obj.mapSeq fun x => x.setIfInBounds (0 + 1) y)).objs.size)) nz.symm pT)
  have s9 : ((((h5.update TO (Obj.mapSeq fun x => x.setIfInBounds (0 + 1) y)).push { cls := Value.type "tuple", data := Data.seq #[x, y].toList.toArray }).update z (Obj.mapFields fun x => x.setIfInBounds 0 (rawInt ↑(h5.update TO (Obj.mapSeq fun x => x.setIfInBounds (0 + 1) y)).objs.size))).update z (Obj.mapFields fun x => x.setIfInBounds 1 (Value.bool false))).objs.size = s.heap.objs.size + 1 := by
    rw [Heap.size_update, Heap.size_update, Heap.size_push, sz]
  revert c6 c5 c3 hz9 p9 s9
  generalize ((((h5.update TO (Obj.mapSeq fun x => x.setIfInBounds (0 + 1) y)).push { cls := Value.type "tuple", data := Data.seq #[x, y].toList.toArray }).update z (Obj.mapFields fun x => x.setIfInBounds 0 (rawInt ↑(h5.update TO (Obj.mapSeq fun x => x.setIfInBounds (0 + 1) y)).objs.size))).update z (Obj.mapFields fun x => x.setIfInBounds 1 (Value.bool false))) = h9
  intro c6 c5 c3 hz9 p9 s9
  rw [sz] at hz9 p9 ⊢
  exact hq h9 (hz9.trans (by rfl)) (c6 TO _ D.TOz hTO6) (g3.at fun o e => c3 i1 o D.i1z D.TOi1.symm D.i12 e) (g5.at fun o e => c5 i2 o D.i2z D.TOi2.symm e) (p9.trans (by rfl)) s9 fun c o n1 n2 n3 n4 e => c3 c o n1 n2 n4 (k3 c o n1 n3 e)
theorem zipM_next_end {prog : Program} {w : World} {A : Around} {E : Value → Shared → Prop} {s : Shared} {z TI TO i1 i2 l1 l2 : Addr} {k1 : Nat} {xs : Array Value} {a b : Value} {Q : PySem.Fin → Shared → Prop}
  (hh : A.handled = none) (D : ZipApart z TI TO i1 i2 l1 l2) (hz : IsZip s.heap z TI TO Value.none) (hTI : IsPair s.heap TI (.ref i1) (.ref i2)) (hTO : IsPair s.heap TO a b) (h1 : s.heap.IsListIter i1 l1 k1)
  (hl1 : s.heap.IsList l1 xs) (hx : xs[k1]? = none)
  (hq : ∀ (h' : Heap) (e : Addr), (∀ (c : Addr) (o : Obj), c ≠ z → c ≠ i1 → s.heap.get? c = some o → h'.get? c = some o) → (∃ o, h'.get? e = some o ∧ o.cls = Value.type "StopIteration") → E (.ref e) { heap := h', gens := s.gens, drawn := s.drawn, toks := s.toks, os := s.os }) :
  wpAny (model prog w) A (Builtin.«zip.__next__» { pos := [.ref z] }) Q E s := by
  have u1 : ∀ (b : Addr) (o : Obj), b ≠ z → s.heap.get? b = some o → (s.heap.update z (Obj.mapFields fun x => x.setIfInBounds 0 Value.ellipsis)).get? b = some o := fun b o ne e => Heap.get?_update_of_ne _ ne.symm e
  have g1 := h1.at (fun o e => u1 i1 o D.i1z e)
  have gl1 : (s.heap.update z (Obj.mapFields fun x => x.setIfInBounds 0 Value.ellipsis)).IsList l1 xs := hl1.imp fun o h => ⟨u1 _ _ D.l1z h.1, h.2⟩
  have hz1 : (s.heap.update z (Obj.mapFields fun x => x.setIfInBounds 0 Value.ellipsis)).get? z = some { cls := Value.type "zip", data := Data.fields #[Value.ellipsis, Value.bool false, Value.bool false, Value.ref TI, Value.ref TO] } := (Heap.get?_update_self _ hz rfl).trans (by rfl)
  unfold Builtin.«zip.__next__»
  wp_walk using wpAny_field hz rfl rfl, wpAny_seqItems hTI rfl, wpAny_nextOf_list_end hh g1 gl1 hx, wpAny_onRaise
  intro h3 e3 xb3 he3
  have hz3 := xb3 z _ D.i1z.symm hz1
  refine wpAny_setField_rec hz3 (by show 0 < 5; decide) fun h4 hz4 sb4 => ?_
  obtain ⟨o, ho, hc⟩ := he3
  have ne : e3 ≠ z := fun q => by
    rw [q, hz3] at ho
    cases ho
    exact absurd (show Value.type "zip" = Value.type "StopIteration" from hc) (by decide)
  exact hq h4 e3 (fun c o n1 n2 e => (sb4.2 c n1).trans (xb3 c o n2 (u1 c o n1 e))) ⟨o, (sb4.2 e3 ne).trans ho, hc⟩
theorem pyNext_zipM_item {prog : Program} {w : World} {A : Around} {E : Value → Shared → Prop} {s : Shared} {z TI TO i1 i2 l1 l2 : Addr} {k1 k2 : Nat} {xs ys : Array Value} {x y a b : Value} {Q : Option Value → Shared → Prop}
  (D : ZipApart z TI TO i1 i2 l1 l2) (hz : IsZip s.heap z TI TO Value.none) (hTI : IsPair s.heap TI (.ref i1) (.ref i2)) (hTO : IsPair s.heap TO a b) (h1 : s.heap.IsListIter i1 l1 k1) (h2 : s.heap.IsTupleIter i2 l2 k2)
  (hl1 : s.heap.IsList l1 xs) (hl2 : s.heap.IsTuple l2 ys) (hx : xs[k1]? = some x) (hy : ys[k2]? = some y)
  (hq : ∀ h' : Heap, IsZip h' z TI TO (rawInt s.heap.objs.size) → IsPair h' TO x y → h'.IsListIter i1 l1 (k1 + 1) → h'.IsTupleIter i2 l2 (k2 + 1) → IsPair h' s.heap.objs.size x y → h'.objs.size = s.heap.objs.size + 1 →
    (∀ (c : Addr) (o : Obj), c ≠ z → c ≠ TO → c ≠ i1 → c ≠ i2 → s.heap.get? c = some o → h'.get? c = some o) → Q (some (.ref s.heap.objs.size)) { heap := h', gens := s.gens, drawn := s.drawn, toks := s.toks, os := s.os }) :
  wpAny (model prog w) A (pyNext (.ref z)) Q E s := by
  have hT : s.TypeIs (.ref z) "zip" := ⟨_, hz, rfl⟩
  exact wpAny_bind (wpAny_attempt (wpAny_callSpecial?_slot hT F.slot_zip_next (wpAny_call_entry F.slot_zip_next hT F.entry_zip_next (zipM_next_item D hz hTI hTO h1 h2 hl1 hl2 hx hy fun h' a1 a2 a3 a4 a5 a6 a7 => wpAny_pure (hq h' a1 a2 a3 a4 a5 a6 a7)) (F.args_zip_next_1 _))))
theorem pyNext_zipM_end {prog : Program} {w : World} {A : Around} {E : Value → Shared → Prop} {s : Shared} {z TI TO i1 i2 l1 l2 : Addr} {k1 : Nat} {xs : Array Value} {a b : Value} {Q : Option Value → Shared → Prop}
  (hh : A.handled = none) (D : ZipApart z TI TO i1 i2 l1 l2) (hz : IsZip s.heap z TI TO Value.none) (hTI : IsPair s.heap TI (.ref i1) (.ref i2)) (hTO : IsPair s.heap TO a b) (h1 : s.heap.IsListIter i1 l1 k1)
  (hl1 : s.heap.IsList l1 xs) (hx : xs[k1]? = none)
  (hq : ∀ (h' : Heap), (∀ (c : Addr) (o : Obj), c ≠ z → c ≠ i1 → s.heap.get? c = some o → h'.get? c = some o) → Q none { heap := h', gens := s.gens, drawn := s.drawn, toks := s.toks, os := s.os }) :
  wpAny (model prog w) A (pyNext (.ref z)) Q E s := by
  have hT : s.TypeIs (.ref z) "zip" := ⟨_, hz, rfl⟩
  exact wpAny_bind (wpAny_attempt (wpAny_callSpecial?_slot hT F.slot_zip_next (wpAny_call_entry F.slot_zip_next hT F.entry_zip_next (zipM_next_end hh D hz hTI hTO h1 hl1 hx fun h' e hk ⟨o, ho, hc⟩ => wpAny_bind (wpAny_isInstance ⟨o, ho, hc⟩ isSubtype_stop (wpAny_pure (hq h' hk)))) (F.args_zip_next_1 _))))
def ItzM (K : PySem.W.Frag) (a b : Addr) : It where
  go := fun i H => ∃ xs ys x y, SqL K H a xs ∧ SqT K H b ys ∧ xs[i]? = some x ∧ ys[i]? = some y
  yld := fun i H v H' => ∃ T x y, v = V.ref T ∧ H T = none ∧ H' = upd H T (HO.tup [x, y]) ∧ (∀ xs, SqL K H a xs → xs[i]? = some x) ∧ ∀ ys, SqT K H b ys → ys[i]? = some y
  stop := fun i H => ∃ xs, SqL K H a xs ∧ xs.length ≤ i
theorem turn_zipM {P : Program} {w : World} {K : PySem.W.Frag} {elts : List Expr} {kk : Nat} {tpos : Pos} {a b z TI TO i1 i2 : Addr} (D : ZipApart z TI TO i1 i2 a b) :
    Turn P w K (.Tuple elts kk tpos) (ItzM K a b) [z, TI, TO, i1, i2] z fun i h => IsZip h z TI TO Value.none ∧ IsPair h TI (.ref i1) (.ref i2) ∧ (∃ x y, IsPair h TO x y) ∧ h.IsListIter i1 a i ∧ h.IsTupleIter i2 b i where
  mem := by simp
  obj := by
    rintro i h ⟨hz, hTI, ⟨x, y, hTO⟩, ⟨o1, e1, _, d1⟩, ⟨o2, e2, _, d2⟩⟩ c hc
    simp only [List.mem_cons, List.not_mem_nil, or_false] at hc
    rcases hc with rfl | rfl | rfl | rfl | rfl
    · exact ⟨_, hz, fun v q => nomatch q⟩
    · exact ⟨_, hTI, fun v q => nomatch q⟩
    · exact ⟨_, hTO, fun v q => nomatch q⟩
    · exact ⟨o1, e1, fun v q => by rw [d1] at q; cases q⟩
    · exact ⟨o2, e2, fun v q => by rw [d2] at q; cases q⟩
  keep := by
    rintro i h h' ⟨hz, hTI, ⟨x, y, hTO⟩, h1, h2⟩ k
    exact ⟨k z (by simp) _ hz, k TI (by simp) _ hTI, ⟨x, y, k TO (by simp) _ hTO⟩, h1.at (k i1 (by simp)), h2.at (k i2 (by simp))⟩
  item := by
    intro X hP hw hK hc i pins s σ H E I hf st hg
    subst hP
    subst hw
    subst hK
    obtain ⟨hz, hTI, ⟨x0, y0, hTO⟩, h1, h2⟩ := st
    obtain ⟨xs, ys, x, y, hqx, hqy, hx, hy⟩ := hg
    obtain ⟨its, rv, p, _⟩ := I.list hqx
    obtain ⟨its2, rv2, p2, _⟩ := I.tuple hqy
    obtain ⟨u, hu, ru⟩ := rv.get hx
    obtain ⟨u2, hu2, ru2⟩ := rv2.get hy
    have hzl := Heap.lt_size hz
    refine pyNext_zipM_item D hz hTI hTO h1 h2 (PlainL.isList p) p2 (by rw [List.getElem?_toArray]; exact hu) (by rw [List.getElem?_toArray]; exact hu2) fun h' z' TO' h1' h2' hT hsz hk => ?_
    refine ⟨.ref s.heap.objs.size, rfl, wpAny_letOwnedTupleGo_zip z' fun h'' z'' sb => ?_⟩
    have hT2 := (sb.2 s.heap.objs.size (Nat.ne_of_gt hzl)).trans hT
    have I1 := I.turnedNew (h' := h'') (t' := s.toks) (ch := [z, TI, TO, i1, i2]) (T := s.heap.objs.size) (ob := .tup [x, y])
      (fun c o hb q => (sb.2 c (fun e => hb (by simp [e]))).trans (hk c o (fun e => hb (by simp [e])) (fun e => hb (by simp [e])) (fun e => hb (by simp [e])) (fun e => hb (by simp [e])) q)) hf (Nat.le_refl _)
      ⟨(by show 2 ≤ sizeLine; decide), [u, u2], .cons ru (.cons ru2 .nil), _, hT2, rfl, 0, rfl⟩
    refine ⟨.ref s.heap.objs.size, _, I1, rfl, ⟨s.heap.objs.size, x, y, rfl, I.hok.fresh (Nat.le_refl _), rfl, fun l hl => by rw [I.list_inj hl hqx]; exact hx, fun l hl => by rw [I.tuple_inj hl hqy]; exact hy⟩,
      ⟨z'', (sb.2 TI D.TIz).trans (hk TI _ D.TIz D.TITO D.TIi1 D.TIi2 hTI), ⟨u, u2, (sb.2 TO D.TOz).trans TO'⟩, h1'.at (fun o q => (sb.2 i1 D.i1z).trans q), h2'.at (fun o q => (sb.2 i2 D.i2z).trans q)⟩, fun c hcm => ?_⟩
    have hlt : c < s.heap.objs.size := by
      obtain ⟨o1, e1, _⟩ := h1
      obtain ⟨o2, e2, _⟩ := h2
      simp only [List.mem_cons, List.not_mem_nil, or_false] at hcm
      rcases hcm with rfl | rfl | rfl | rfl | rfl
      · exact hzl
      · exact Heap.lt_size hTI
      · exact Heap.lt_size hTO
      · exact Heap.lt_size e1
      · exact Heap.lt_size e2
    rw [upd_ne (Nat.ne_of_lt hlt)]
    exact (hf c hcm).1
  done := by
    intro X hP hw hK hc i pins s σ H E I hf st hg
    subst hP
    subst hw
    subst hK
    obtain ⟨hz, hTI, ⟨x0, y0, hTO⟩, h1, h2⟩ := st
    obtain ⟨xs, hqx, hend⟩ := hg
    obtain ⟨its, rv, p, _⟩ := I.list hqx
    have l1 := rv.length
    refine pyNext_zipM_end (I.ok.hd hc) D hz hTI hTO h1 (PlainL.isList p) (by rw [List.getElem?_toArray]; exact List.getElem?_eq_none (by omega)) fun h' hk => ⟨rfl, I.turnedL (t' := s.toks) (ch := [z, TI, TO, i1, i2]) (fun c o hb q => hk c o (fun e => hb (by simp [e])) (fun e => hb (by simp [e])) q) hf⟩
  self := fun A i s Q E st h => wpAny_pyIter_zip st.1 h
end L2

/-! for x, y in zip(list, tuple) -/
namespace L2
open PySem PySem.Spec PyProof.Rows
abbrev zM1 (h : Heap) (l1 : Addr) : Heap := h.push { cls := Value.type "list_iterator", data := Data.fields #[Value.ref l1, Value.int 0 0] }
abbrev zM2 (h : Heap) (l1 l2 : Addr) : Heap := (zM1 h l1).push { cls := Value.type "tuple_iterator", data := Data.fields #[Value.ref l2, Value.int 0 0] }
abbrev zM3 (h : Heap) (l1 l2 : Addr) : Heap := (zM2 h l1 l2).push { cls := Value.type "tuple", data := Data.seq #[Value.ref h.objs.size, Value.ref (zM1 h l1).objs.size] }
abbrev zM4 (h : Heap) (l1 l2 : Addr) : Heap := (zM3 h l1 l2).push { cls := Value.type "tuple", data := Data.seq #[Value.none, Value.none] }
abbrev zM5 (h : Heap) (l1 l2 : Addr) : Heap := (zM4 h l1 l2).push { cls := Value.type "zip", data := Data.fields #[Value.none, Value.bool false, Value.bool false, Value.ref (zM2 h l1 l2).objs.size, Value.ref (zM3 h l1 l2).objs.size] }
theorem meets_zipM_new (l1 l2 : Addr) (xs ys : Array Value) : Meets (Builtin.«zip.__new__» { pos := [.type "zip", .ref l1, .ref l2] }) fun x R s =>
    s.heap.IsList l1 xs ∧ s.heap.IsTuple l2 ys ∧ R (.ok (.ret (.ref (zM4 s.heap l1 l2).objs.size))) { heap := zM5 s.heap l1 l2, gens := s.gens, drawn := s.drawn, toks := s.toks, os := s.os } := .of_wp fun prog w A R s h => by
  obtain ⟨hp, g, d, tk, os⟩ := s
  obtain ⟨hl1, hl2, h⟩ := h
  have hsub := sub_zip
  have hL1 := hl1
  have hL2 := Heap.IsTuple.push hl2 { cls := Value.type "list_iterator", data := Data.fields #[Value.ref l1, Value.int 0 0] }
  unfold Builtin.«zip.__new__»
  wp_walk using wpAny_pyIter_list hL1, wpAny_pyIter_tuple hL2
  exact ⟨_, rfl, h⟩
theorem call_zipM {prog : Program} {w : World} {A : Around} {E : Value → Shared → Prop} {s : Shared} {l1 l2 : Addr} {xs ys : Array Value} {Q : Value → Shared → Prop} (hl1 : s.heap.IsList l1 xs) (hl2 : s.heap.IsTuple l2 ys)
    (h : ∀ h' : Heap, IsZip h' (s.heap.objs.size + 4) (s.heap.objs.size + 2) (s.heap.objs.size + 3) Value.none → IsPair h' (s.heap.objs.size + 2) (.ref s.heap.objs.size) (.ref (s.heap.objs.size + 1)) → IsPair h' (s.heap.objs.size + 3) Value.none Value.none →
      h'.IsListIter s.heap.objs.size l1 0 → h'.IsTupleIter (s.heap.objs.size + 1) l2 0 → (∀ (c : Addr) (o : Obj), s.heap.get? c = some o → h'.get? c = some o) → Q (.ref (s.heap.objs.size + 4)) { heap := h', gens := s.gens, drawn := s.drawn, toks := s.toks, os := s.os }) :
    wpAny (model prog w) A (call (.type "zip") [.ref l1, .ref l2]) Q E s := by
  refine callType_new F.called_zip (by decide) (F.typeCall_zip_2 _ _) (F.newCall_zip_2 _ _) (fun obj => F.args_object_init_3 obj _ _) F.entry_zip_new (meets_zipM_new l1 l2 xs ys) ⟨hl1, hl2, ?_⟩
  have z1 : (zM1 s.heap l1).objs.size = s.heap.objs.size + 1 := Heap.size_push _ _
  have z2 : (zM2 s.heap l1 l2).objs.size = s.heap.objs.size + 2 := by
    show ((zM1 s.heap l1).push _).objs.size = _
    rw [Heap.size_push, z1]
  have z3 : (zM3 s.heap l1 l2).objs.size = s.heap.objs.size + 3 := by
    show ((zM2 s.heap l1 l2).push _).objs.size = _
    rw [Heap.size_push, z2]
  have z4 : (zM4 s.heap l1 l2).objs.size = s.heap.objs.size + 4 := by
    show ((zM3 s.heap l1 l2).push _).objs.size = _
    rw [Heap.size_push, z3]
  have g5 : (zM5 s.heap l1 l2).get? (zM4 s.heap l1 l2).objs.size = some { cls := Value.type "zip", data := Data.fields #[Value.none, Value.bool false, Value.bool false, Value.ref (zM2 s.heap l1 l2).objs.size, Value.ref (zM3 s.heap l1 l2).objs.size] } := Heap.get?_push_size (zM4 s.heap l1 l2) rfl
  have g4 : (zM5 s.heap l1 l2).get? (zM3 s.heap l1 l2).objs.size = some { cls := Value.type "tuple", data := Data.seq #[Value.none, Value.none] } := Heap.get?_push_of_some _ (Heap.get?_push_size (zM3 s.heap l1 l2) rfl)
  have g3 : (zM5 s.heap l1 l2).get? (zM2 s.heap l1 l2).objs.size = some { cls := Value.type "tuple", data := Data.seq #[Value.ref s.heap.objs.size, Value.ref (zM1 s.heap l1).objs.size] } := Heap.get?_push_of_some _ (Heap.get?_push_of_some _ (Heap.get?_push_size (zM2 s.heap l1 l2) rfl))
  have g2 : (zM5 s.heap l1 l2).get? (zM1 s.heap l1).objs.size = some { cls := Value.type "tuple_iterator", data := Data.fields #[Value.ref l2, Value.int 0 0] } := Heap.get?_push_of_some _ (Heap.get?_push_of_some _ (Heap.get?_push_of_some _ (Heap.get?_push_size (zM1 s.heap l1) rfl)))
  have g1 : (zM5 s.heap l1 l2).get? s.heap.objs.size = some { cls := Value.type "list_iterator", data := Data.fields #[Value.ref l1, Value.int 0 0] } := Heap.get?_push_of_some _ (Heap.get?_push_of_some _ (Heap.get?_push_of_some _ (Heap.get?_push_of_some _ (Heap.get?_push_size s.heap rfl))))
  have hk : ∀ (c : Addr) (o : Obj), s.heap.get? c = some o → (zM5 s.heap l1 l2).get? c = some o := fun c o e => Heap.get?_push_of_some _ (Heap.get?_push_of_some _ (Heap.get?_push_of_some _ (Heap.get?_push_of_some _ (Heap.get?_push_of_some _ e))))
  rw [z4, z2, z3] at g5
  rw [z3] at g4
  rw [z2, z1] at g3
  rw [z1] at g2
  show Shared.TypeIs _ (.ref (zM4 s.heap l1 l2).objs.size) "zip" ∧ _
  rw [z4]
  exact ⟨⟨_, g5, rfl⟩, h _ g5 g3 g4 ⟨_, g1, rfl, rfl⟩ ⟨_, g2, rfl, rfl⟩ hk⟩
def iZipM (K : PySem.W.Frag) (ta : TA) : TI := fun σ H R => ta σ H fun vs H1 => ∃ a b xs ys, vs = [.ref a, .ref b] ∧ SqL K H1 a xs ∧ SqT K H1 b ys ∧ R (ItzM K a b) H1
theorem pi_zipM {X : Cx} {e e2 : Expr} {ta : TA} {p pos tpos : Pos} {elts : List Expr} {kk : Nat} (hg : Gl X "zip") (hm : X.mg "zip" = none) (ha : PA X [e, e2] ta)
    (hs : starEach [e, e2] X.env = (false, eval e X.env) :: starEach [e2] X.env := by rfl) (hpl : (backTo pos (starEach [e2] X.env)).any (·.1) = false := by rfl) : PI X (.Tuple elts kk tpos) (.Call (.Name "zip" p) [e, e2] [] pos) (iZipM X.K ta) := by
  refine ⟨fun pins s σ H R I h => Call_ (ld_blt I hg hm boot_zip (callWith_type1 (thn (ha.run pos pins s σ H _ I h) fun us s1 ⟨vs, H1, I1, r1, q1⟩ => ?_) hs hpl))⟩
  obtain ⟨a, b, xs, ys, rfl, hqx, hqy, q⟩ := q1
  cases r1 with
  | cons r rr =>
    cases rr with
    | cons r' r0 =>
      cases r0
      cases r
      cases r'
      obtain ⟨its, rv, p1, _⟩ := I1.list hqx
      obtain ⟨its2, rv2, p2, _⟩ := I1.tuple hqy
      obtain ⟨o2, ho2, hc2⟩ := id p2
      refine call_zipM (PlainL.isList p1) p2 fun h' hz hTI hTO h1 h2 hk => wpAny_pyIter_zip hz ?_
      have I2 := I1.kept (t' := s1.toks) hk
      refine ⟨s1.heap.objs.size + 4, [s1.heap.objs.size + 4, s1.heap.objs.size + 2, s1.heap.objs.size + 3, s1.heap.objs.size, s1.heap.objs.size + 1], _, ItzM X.K a b, H1, rfl, I2, turn_zipM (PySem.W.ktu_apart s1.heap.objs.size a b (PlainL.lt p1) (Heap.lt_size ho2)), ⟨hz, hTI, ⟨_, _, hTO⟩, h1, h2⟩, fun c hcm => ?_, q⟩
      have hle : s1.heap.objs.size ≤ c := by
        simp only [List.mem_cons, List.not_mem_nil, or_false] at hcm
        rcases hcm with h | h | h | h | h <;> (rw [h]; first | exact Nat.le_add_right _ _ | exact Nat.le_refl _)
      exact I1.fpOk hle (I1.hok.fresh hle)
theorem walk_zipM {K : PySem.W.Frag} {a b : Addr} {xs ys : List V} (hn : xs.length = ys.length) : Walk (ItzM K a b) xs.length (fun H => SqL K H a xs ∧ SqT K H b ys) (YPair (fun i => xs[i]?) (fun i => ys[i]?)) := by
  refine ⟨fun i H hi q => ?_, fun H q => ⟨xs, q.1, Nat.le_refl _⟩, fun i H v H' hi q y => ?_⟩
  · exact ⟨xs, ys, _, _, q.1, q.2, List.getElem?_eq_getElem hi, List.getElem?_eq_getElem (by omega)⟩
  · obtain ⟨T, x, z, e1, e2, e3, e4, e5⟩ := y
    exact ⟨T, x, z, e1, e2, e3, e4 xs q.1, e5 ys q.2⟩
end L2

/-! zip of a list with a tuple -/
namespace L2
open PySem PySem.Spec PyProof.Rows
theorem zipN_next_item {prog : Program} {w : World} {A : Around} {E : Value → Shared → Prop} {s : Shared} {z TI TO i1 i2 l1 l2 : Addr} {k1 k2 : Nat} {xs ys : Array Value} {x y a b : Value} {Q : Value → Shared → Prop}
  (D : ZipApart z TI TO i1 i2 l1 l2) (hz : IsZip s.heap z TI TO Value.none) (hTI : IsPair s.heap TI (.ref i1) (.ref i2)) (hTO : IsPair s.heap TO a b) (h1 : s.heap.IsTupleIter i1 l1 k1) (h2 : s.heap.IsListIter i2 l2 k2)
  (hl1 : s.heap.IsTuple l1 xs) (hl2 : s.heap.IsList l2 ys) (hx : xs[k1]? = some x) (hy : ys[k2]? = some y)
  (hq : ∀ h' : Heap, IsZip h' z TI TO (rawInt s.heap.objs.size) → IsPair h' TO x y → h'.IsTupleIter i1 l1 (k1 + 1) → h'.IsListIter i2 l2 (k2 + 1) → IsPair h' s.heap.objs.size x y → h'.objs.size = s.heap.objs.size + 1 →
    (∀ (c : Addr) (o : Obj), c ≠ z → c ≠ TO → c ≠ i1 → c ≠ i2 → s.heap.get? c = some o → h'.get? c = some o) → Q (.ref s.heap.objs.size) { heap := h', gens := s.gens, drawn := s.drawn, toks := s.toks, os := s.os }) :
  wpAny (model prog w) A (Builtin.«zip.__next__» { pos := [.ref z] }) (fun fin s' => ∃ v, fin = Fin.done (Flow.ret v) ∧ Q v s') E s := by
  have u1 : ∀ (b : Addr) (o : Obj), b ≠ z → s.heap.get? b = some o → (s.heap.update z (Obj.mapFields fun x => x.setIfInBounds 0 Value.ellipsis)).get? b = some o := fun b o ne e => Heap.get?_update_of_ne _ ne.symm e
  have g1 := h1.at (fun o e => u1 i1 o D.i1z e)
  have gl1 : (s.heap.update z (Obj.mapFields fun x => x.setIfInBounds 0 Value.ellipsis)).IsTuple l1 xs := hl1.imp fun o h => ⟨u1 _ _ D.l1z h.1, h.2⟩
  unfold Builtin.«zip.__next__»
  wp_walk using wpAny_field hz rfl rfl, wpAny_seqItems hTI rfl, RZ.nextOf_tuple_item g1 gl1 hx, wpAny_onRaise
  intro h3 g3 sb3
  have k3 : ∀ (b : Addr) (o : Obj), b ≠ z → b ≠ i1 → s.heap.get? b = some o → h3.get? b = some o := fun b o n1 n2 e => (sb3.2 b n2).trans (u1 b o n1 e)
  have hTO3 : IsPair h3 TO a b := k3 TO _ D.TOz D.TOi1 hTO
  have u4 : ∀ (b : Addr) (o : Obj), b ≠ TO → h3.get? b = some o → (h3.update TO (Obj.mapSeq fun x_1 => x_1.setIfInBounds 0 x)).get? b = some o := fun b o ne e => Heap.get?_update_of_ne _ ne.symm e
  have g4 := h2.at (h' := h3.update TO (Obj.mapSeq fun x_1 => x_1.setIfInBounds 0 x)) (fun o e => u4 i2 o D.TOi2.symm (k3 i2 o D.i2z D.i12.symm e))
  have gl4 : (h3.update TO (Obj.mapSeq fun x_1 => x_1.setIfInBounds 0 x)).IsList l2 ys := hl2.imp fun o h => ⟨u4 _ _ D.l2TO (k3 _ _ D.l2z D.l2i1 h.1), h.2⟩
  wp_walk using wpAny_seqItems hTO3 rfl, wpAny_nextOf_list_item g4 gl4 hy, wpAny_onRaise, wpAny_letGo
  intro h5 g5 sb5
  have hTO4 : IsPair (h3.update TO (Obj.mapSeq fun x_1 => x_1.setIfInBounds 0 x)) TO x b := (Heap.get?_update_self _ hTO3 rfl).trans (by rfl)
  have hTO5 : IsPair h5 TO x b := (sb5.2 TO D.TOi2).trans hTO4
  have hTO6 : IsPair (h5.update TO (Obj.mapSeq fun x_1 => x_1.setIfInBounds (0 + 1) y)) TO x y := (Heap.get?_update_self _ hTO5 rfl).trans (by rfl)
  have hz1 : (s.heap.update z (Obj.mapFields fun x => x.setIfInBounds 0 Value.ellipsis)).get? z = some { cls := Value.type "zip", data := Data.fields #[Value.ellipsis, Value.bool false, Value.bool false, Value.ref TI, Value.ref TO] } := (Heap.get?_update_self _ hz rfl).trans (by rfl)
  have hz3 := (sb3.2 z D.i1z.symm).trans hz1
  have hz4 := Heap.get?_update_of_ne (Obj.mapSeq fun x_1 => x_1.setIfInBounds 0 x) D.TOz hz3
  have hz5 := (sb5.2 z D.i2z.symm).trans hz4
  have hz6 := Heap.get?_update_of_ne (Obj.mapSeq fun x_1 => x_1.setIfInBounds (0 + 1) y) D.TOz hz5
  wp_walk using wpAny_seqItems hTO5 rfl, wpAny_seqItems hTO6 rfl, wpAny_letGo
  have sz : (h5.update TO (Obj.mapSeq fun x_1 => x_1.setIfInBounds (0 + 1) y)).objs.size = s.heap.objs.size := by
    rw [Heap.size_update, sb5.1]
    show (h3.update TO _).objs.size = _
    rw [Heap.size_update, sb3.1]
    show (s.heap.update z _).objs.size = _
    rw [Heap.size_update]
  have nz : (h5.update TO (Obj.mapSeq fun x_1 => x_1.setIfInBounds (0 + 1) y)).objs.size ≠ z := (Nat.ne_of_lt (Heap.lt_size hz6)).symm
  refine ⟨_, rfl, ?_⟩
  have c6 : ∀ (b : Addr) (o : Obj), b ≠ z → (h5.update TO (Obj.mapSeq fun x_1 => x_1.setIfInBounds (0 + 1) y)).get? b = some o → ((((h5.update TO (Obj.mapSeq fun x => x.setIfInBounds (0 + 1) y)).push { cls := Value.type "tuple", data := Data.seq #[x, y].toList.toArray }).update z (Obj.mapFields fun x => x.setIfInBounds 0 (rawInt ↑(h5.update TO (Obj.mapSeq fun x => x.setIfInBounds (0 + 1) y)).objs.size))).update z (Obj.mapFields fun x => x.setIfInBounds 1 (Value.bool false))).get? b = some o := fun b o n e => Heap.get?_update_of_ne _ n.symm (Heap.get?_update_of_ne _ n.symm (Heap.get?_push_of_some _ e))
  have c5 : ∀ (b : Addr) (o : Obj), b ≠ z → b ≠ TO → h5.get? b = some o → _ := fun b o n m e => c6 b o n (Heap.get?_update_of_ne _ m.symm e)
  have c3 : ∀ (b : Addr) (o : Obj), b ≠ z → b ≠ TO → b ≠ i2 → h3.get? b = some o → _ := fun b o n m q e => c5 b o n m ((sb5.2 b q).trans (u4 b o m e))
  have hz7 := Heap.get?_push_of_some { cls := Value.type "tuple", data := Data.seq #[x, y].toList.toArray } hz6
  have hz8 := (Heap.get?_update_self (Obj.mapFields fun x => x.setIfInBounds 0 (rawInt ↑(h5.update TO (Obj.mapSeq fun x => x.setIfInBounds (0 + 1) y)).objs.size)) hz7 rfl)
  have hz9 := (Heap.get?_update_self (Obj.mapFields fun x => x.setIfInBounds 1 (Value.bool false)) hz8 rfl)
  have pT : ((h5.update TO (Obj.mapSeq fun x => x.setIfInBounds (0 + 1) y)).push { cls := Value.type "tuple", data := Data.seq #[x, y].toList.toArray }).get? (h5.update TO (Obj.mapSeq fun x => x.setIfInBounds (0 + 1) y)).objs.size = some { cls := Value.type "tuple", data := Data.seq #[x, y].toList.toArray } := Heap.get?_push_size _ rfl
  have p9 := Heap.get?_update_of_ne (Obj.mapFields fun x => x.setIfInBounds 1 (Value.bool false)) nz.symm (Heap.get?_update_of_ne (Obj.mapFields fun x => x.setIfInBounds 0 (rawInt ↑(h5.update TO (Obj.mapSeq fun x => x.setIfInBounds (0 + 1) y)).objs.size)) nz.symm pT)
  have s9 : ((((h5.update TO (Obj.mapSeq fun x => x.setIfInBounds (0 + 1) y)).push { cls := Value.type "tuple", data := Data.seq #[x, y].toList.toArray }).update z (Obj.mapFields fun x => x.setIfInBounds 0 (rawInt ↑(h5.update TO (Obj.mapSeq fun x => x.setIfInBounds (0 + 1) y)).objs.size))).update z (Obj.mapFields fun x => x.setIfInBounds 1 (Value.bool false))).objs.size = s.heap.objs.size + 1 := by
    rw [Heap.size_update, Heap.size_update, Heap.size_push, sz]
  revert c6 c5 c3 hz9 p9 s9
  generalize ((((h5.update TO (Obj.mapSeq fun x => x.setIfInBounds (0 + 1) y)).push { cls := Value.type "tuple", data := Data.seq #[x, y].toList.toArray }).update z (Obj.mapFields fun x => x.setIfInBounds 0 (rawInt ↑(h5.update TO (Obj.mapSeq fun x => x.setIfInBounds (0 + 1) y)).objs.size))).update z (Obj.mapFields fun x => x.setIfInBounds 1 (Value.bool false))) = h9
  intro c6 c5 c3 hz9 p9 s9
  rw [sz] at hz9 p9 ⊢
  exact hq h9 (hz9.trans (by rfl)) (c6 TO _ D.TOz hTO6) (g3.at fun o e => c3 i1 o D.i1z D.TOi1.symm D.i12 e) (g5.at fun o e => c5 i2 o D.i2z D.TOi2.symm e) (p9.trans (by rfl)) s9 fun c o n1 n2 n3 n4 e => c3 c o n1 n2 n4 (k3 c o n1 n3 e)
theorem zipN_next_end {prog : Program} {w : World} {A : Around} {E : Value → Shared → Prop} {s : Shared} {z TI TO i1 i2 l1 l2 : Addr} {k1 : Nat} {xs : Array Value} {a b : Value} {Q : PySem.Fin → Shared → Prop}
  (hh : A.handled = none) (D : ZipApart z TI TO i1 i2 l1 l2) (hz : IsZip s.heap z TI TO Value.none) (hTI : IsPair s.heap TI (.ref i1) (.ref i2)) (hTO : IsPair s.heap TO a b) (h1 : s.heap.IsTupleIter i1 l1 k1)
  (hl1 : s.heap.IsTuple l1 xs) (hx : xs[k1]? = none)
  (hq : ∀ (h' : Heap) (e : Addr), (∀ (c : Addr) (o : Obj), c ≠ z → c ≠ i1 → s.heap.get? c = some o → h'.get? c = some o) → (∃ o, h'.get? e = some o ∧ o.cls = Value.type "StopIteration") → E (.ref e) { heap := h', gens := s.gens, drawn := s.drawn, toks := s.toks, os := s.os }) :
  wpAny (model prog w) A (Builtin.«zip.__next__» { pos := [.ref z] }) Q E s := by
  have u1 : ∀ (b : Addr) (o : Obj), b ≠ z → s.heap.get? b = some o → (s.heap.update z (Obj.mapFields fun x => x.setIfInBounds 0 Value.ellipsis)).get? b = some o := fun b o ne e => Heap.get?_update_of_ne _ ne.symm e
  have g1 := h1.at (fun o e => u1 i1 o D.i1z e)
  have gl1 : (s.heap.update z (Obj.mapFields fun x => x.setIfInBounds 0 Value.ellipsis)).IsTuple l1 xs := hl1.imp fun o h => ⟨u1 _ _ D.l1z h.1, h.2⟩
  have hz1 : (s.heap.update z (Obj.mapFields fun x => x.setIfInBounds 0 Value.ellipsis)).get? z = some { cls := Value.type "zip", data := Data.fields #[Value.ellipsis, Value.bool false, Value.bool false, Value.ref TI, Value.ref TO] } := (Heap.get?_update_self _ hz rfl).trans (by rfl)
  unfold Builtin.«zip.__next__»
  wp_walk using wpAny_field hz rfl rfl, wpAny_seqItems hTI rfl, RZ.nextOf_tuple_end hh g1 gl1 hx, wpAny_onRaise
  intro h3 e3 xb3 he3
  have hz3 := xb3 z _ D.i1z.symm hz1
  refine wpAny_setField_rec hz3 (by show 0 < 5; decide) fun h4 hz4 sb4 => ?_
  obtain ⟨o, ho, hc⟩ := he3
  have ne : e3 ≠ z := fun q => by
    rw [q, hz3] at ho
    cases ho
    exact absurd (show Value.type "zip" = Value.type "StopIteration" from hc) (by decide)
  exact hq h4 e3 (fun c o n1 n2 e => (sb4.2 c n1).trans (xb3 c o n2 (u1 c o n1 e))) ⟨o, (sb4.2 e3 ne).trans ho, hc⟩
theorem pyNext_zipN_item {prog : Program} {w : World} {A : Around} {E : Value → Shared → Prop} {s : Shared} {z TI TO i1 i2 l1 l2 : Addr} {k1 k2 : Nat} {xs ys : Array Value} {x y a b : Value} {Q : Option Value → Shared → Prop}
  (D : ZipApart z TI TO i1 i2 l1 l2) (hz : IsZip s.heap z TI TO Value.none) (hTI : IsPair s.heap TI (.ref i1) (.ref i2)) (hTO : IsPair s.heap TO a b) (h1 : s.heap.IsTupleIter i1 l1 k1) (h2 : s.heap.IsListIter i2 l2 k2)
  (hl1 : s.heap.IsTuple l1 xs) (hl2 : s.heap.IsList l2 ys) (hx : xs[k1]? = some x) (hy : ys[k2]? = some y)
  (hq : ∀ h' : Heap, IsZip h' z TI TO (rawInt s.heap.objs.size) → IsPair h' TO x y → h'.IsTupleIter i1 l1 (k1 + 1) → h'.IsListIter i2 l2 (k2 + 1) → IsPair h' s.heap.objs.size x y → h'.objs.size = s.heap.objs.size + 1 →
    (∀ (c : Addr) (o : Obj), c ≠ z → c ≠ TO → c ≠ i1 → c ≠ i2 → s.heap.get? c = some o → h'.get? c = some o) → Q (some (.ref s.heap.objs.size)) { heap := h', gens := s.gens, drawn := s.drawn, toks := s.toks, os := s.os }) :
  wpAny (model prog w) A (pyNext (.ref z)) Q E s := by
  have hT : s.TypeIs (.ref z) "zip" := ⟨_, hz, rfl⟩
  exact wpAny_bind (wpAny_attempt (wpAny_callSpecial?_slot hT F.slot_zip_next (wpAny_call_entry F.slot_zip_next hT F.entry_zip_next (zipN_next_item D hz hTI hTO h1 h2 hl1 hl2 hx hy fun h' a1 a2 a3 a4 a5 a6 a7 => wpAny_pure (hq h' a1 a2 a3 a4 a5 a6 a7)) (F.args_zip_next_1 _))))
theorem pyNext_zipN_end {prog : Program} {w : World} {A : Around} {E : Value → Shared → Prop} {s : Shared} {z TI TO i1 i2 l1 l2 : Addr} {k1 : Nat} {xs : Array Value} {a b : Value} {Q : Option Value → Shared → Prop}
  (hh : A.handled = none) (D : ZipApart z TI TO i1 i2 l1 l2) (hz : IsZip s.heap z TI TO Value.none) (hTI : IsPair s.heap TI (.ref i1) (.ref i2)) (hTO : IsPair s.heap TO a b) (h1 : s.heap.IsTupleIter i1 l1 k1)
  (hl1 : s.heap.IsTuple l1 xs) (hx : xs[k1]? = none)
  (hq : ∀ (h' : Heap), (∀ (c : Addr) (o : Obj), c ≠ z → c ≠ i1 → s.heap.get? c = some o → h'.get? c = some o) → Q none { heap := h', gens := s.gens, drawn := s.drawn, toks := s.toks, os := s.os }) :
  wpAny (model prog w) A (pyNext (.ref z)) Q E s := by
  have hT : s.TypeIs (.ref z) "zip" := ⟨_, hz, rfl⟩
  exact wpAny_bind (wpAny_attempt (wpAny_callSpecial?_slot hT F.slot_zip_next (wpAny_call_entry F.slot_zip_next hT F.entry_zip_next (zipN_next_end hh D hz hTI hTO h1 hl1 hx fun h' e hk ⟨o, ho, hc⟩ => wpAny_bind (wpAny_isInstance ⟨o, ho, hc⟩ isSubtype_stop (wpAny_pure (hq h' hk)))) (F.args_zip_next_1 _))))
def ItzN (K : PySem.W.Frag) (a b : Addr) : It where
  go := fun i H => ∃ xs ys x y, SqT K H a xs ∧ SqL K H b ys ∧ xs[i]? = some x ∧ ys[i]? = some y
  yld := fun i H v H' => ∃ T x y, v = V.ref T ∧ H T = none ∧ H' = upd H T (HO.tup [x, y]) ∧ (∀ xs, SqT K H a xs → xs[i]? = some x) ∧ ∀ ys, SqL K H b ys → ys[i]? = some y
  stop := fun i H => ∃ xs, SqT K H a xs ∧ xs.length ≤ i
theorem turn_zipN {P : Program} {w : World} {K : PySem.W.Frag} {elts : List Expr} {kk : Nat} {tpos : Pos} {a b z TI TO i1 i2 : Addr} (D : ZipApart z TI TO i1 i2 a b) :
    Turn P w K (.Tuple elts kk tpos) (ItzN K a b) [z, TI, TO, i1, i2] z fun i h => IsZip h z TI TO Value.none ∧ IsPair h TI (.ref i1) (.ref i2) ∧ (∃ x y, IsPair h TO x y) ∧ h.IsTupleIter i1 a i ∧ h.IsListIter i2 b i where
  mem := by simp
  obj := by
    rintro i h ⟨hz, hTI, ⟨x, y, hTO⟩, ⟨o1, e1, _, d1⟩, ⟨o2, e2, _, d2⟩⟩ c hc
    simp only [List.mem_cons, List.not_mem_nil, or_false] at hc
    rcases hc with rfl | rfl | rfl | rfl | rfl
    · exact ⟨_, hz, fun v q => nomatch q⟩
    · exact ⟨_, hTI, fun v q => nomatch q⟩
    · exact ⟨_, hTO, fun v q => nomatch q⟩
    · exact ⟨o1, e1, fun v q => by rw [d1] at q; cases q⟩
    · exact ⟨o2, e2, fun v q => by rw [d2] at q; cases q⟩
  keep := by
    rintro i h h' ⟨hz, hTI, ⟨x, y, hTO⟩, h1, h2⟩ k
    exact ⟨k z (by simp) _ hz, k TI (by simp) _ hTI, ⟨x, y, k TO (by simp) _ hTO⟩, h1.at (k i1 (by simp)), h2.at (k i2 (by simp))⟩
  item := by
    intro X hP hw hK hc i pins s σ H E I hf st hg
    subst hP
    subst hw
    subst hK
    obtain ⟨hz, hTI, ⟨x0, y0, hTO⟩, h1, h2⟩ := st
    obtain ⟨xs, ys, x, y, hqx, hqy, hx, hy⟩ := hg
    obtain ⟨its, rv, p, _⟩ := I.tuple hqx
    obtain ⟨its2, rv2, p2, _⟩ := I.list hqy
    obtain ⟨u, hu, ru⟩ := rv.get hx
    obtain ⟨u2, hu2, ru2⟩ := rv2.get hy
    have hzl := Heap.lt_size hz
    refine pyNext_zipN_item D hz hTI hTO h1 h2 p (PlainL.isList p2) (by rw [List.getElem?_toArray]; exact hu) (by rw [List.getElem?_toArray]; exact hu2) fun h' z' TO' h1' h2' hT hsz hk => ?_
    refine ⟨.ref s.heap.objs.size, rfl, wpAny_letOwnedTupleGo_zip z' fun h'' z'' sb => ?_⟩
    have hT2 := (sb.2 s.heap.objs.size (Nat.ne_of_gt hzl)).trans hT
    have I1 := I.turnedNew (h' := h'') (t' := s.toks) (ch := [z, TI, TO, i1, i2]) (T := s.heap.objs.size) (ob := .tup [x, y])
      (fun c o hb q => (sb.2 c (fun e => hb (by simp [e]))).trans (hk c o (fun e => hb (by simp [e])) (fun e => hb (by simp [e])) (fun e => hb (by simp [e])) (fun e => hb (by simp [e])) q)) hf (Nat.le_refl _)
      ⟨(by show 2 ≤ sizeLine; decide), [u, u2], .cons ru (.cons ru2 .nil), _, hT2, rfl, 0, rfl⟩
    refine ⟨.ref s.heap.objs.size, _, I1, rfl, ⟨s.heap.objs.size, x, y, rfl, I.hok.fresh (Nat.le_refl _), rfl, fun l hl => by rw [I.tuple_inj hl hqx]; exact hx, fun l hl => by rw [I.list_inj hl hqy]; exact hy⟩,
      ⟨z'', (sb.2 TI D.TIz).trans (hk TI _ D.TIz D.TITO D.TIi1 D.TIi2 hTI), ⟨u, u2, (sb.2 TO D.TOz).trans TO'⟩, h1'.at (fun o q => (sb.2 i1 D.i1z).trans q), h2'.at (fun o q => (sb.2 i2 D.i2z).trans q)⟩, fun c hcm => ?_⟩
    have hlt : c < s.heap.objs.size := by
      obtain ⟨o1, e1, _⟩ := h1
      obtain ⟨o2, e2, _⟩ := h2
      simp only [List.mem_cons, List.not_mem_nil, or_false] at hcm
      rcases hcm with rfl | rfl | rfl | rfl | rfl
      · exact hzl
      · exact Heap.lt_size hTI
      · exact Heap.lt_size hTO
      · exact Heap.lt_size e1
      · exact Heap.lt_size e2
    rw [upd_ne (Nat.ne_of_lt hlt)]
    exact (hf c hcm).1
  done := by
    intro X hP hw hK hc i pins s σ H E I hf st hg
    subst hP
    subst hw
    subst hK
    obtain ⟨hz, hTI, ⟨x0, y0, hTO⟩, h1, h2⟩ := st
    obtain ⟨xs, hqx, hend⟩ := hg
    obtain ⟨its, rv, p, _⟩ := I.tuple hqx
    have l1 := rv.length
    refine pyNext_zipN_end (I.ok.hd hc) D hz hTI hTO h1 p (by rw [List.getElem?_toArray]; exact List.getElem?_eq_none (by omega)) fun h' hk => ⟨rfl, I.turnedL (t' := s.toks) (ch := [z, TI, TO, i1, i2]) (fun c o hb q => hk c o (fun e => hb (by simp [e])) (fun e => hb (by simp [e])) q) hf⟩
  self := fun A i s Q E st h => wpAny_pyIter_zip st.1 h
end L2

/-! for x, y in zip(list, tuple) -/
namespace L2
open PySem PySem.Spec PyProof.Rows
abbrev zN1 (h : Heap) (l1 : Addr) : Heap := h.push { cls := Value.type "tuple_iterator", data := Data.fields #[Value.ref l1, Value.int 0 0] }
abbrev zN2 (h : Heap) (l1 l2 : Addr) : Heap := (zN1 h l1).push { cls := Value.type "list_iterator", data := Data.fields #[Value.ref l2, Value.int 0 0] }
abbrev zN3 (h : Heap) (l1 l2 : Addr) : Heap := (zN2 h l1 l2).push { cls := Value.type "tuple", data := Data.seq #[Value.ref h.objs.size, Value.ref (zN1 h l1).objs.size] }
abbrev zN4 (h : Heap) (l1 l2 : Addr) : Heap := (zN3 h l1 l2).push { cls := Value.type "tuple", data := Data.seq #[Value.none, Value.none] }
abbrev zN5 (h : Heap) (l1 l2 : Addr) : Heap := (zN4 h l1 l2).push { cls := Value.type "zip", data := Data.fields #[Value.none, Value.bool false, Value.bool false, Value.ref (zN2 h l1 l2).objs.size, Value.ref (zN3 h l1 l2).objs.size] }
theorem meets_zipN_new (l1 l2 : Addr) (xs ys : Array Value) : Meets (Builtin.«zip.__new__» { pos := [.type "zip", .ref l1, .ref l2] }) fun x R s =>
    s.heap.IsTuple l1 xs ∧ s.heap.IsList l2 ys ∧ R (.ok (.ret (.ref (zN4 s.heap l1 l2).objs.size))) { heap := zN5 s.heap l1 l2, gens := s.gens, drawn := s.drawn, toks := s.toks, os := s.os } := .of_wp fun prog w A R s h => by
  obtain ⟨hp, g, d, tk, os⟩ := s
  obtain ⟨hl1, hl2, h⟩ := h
  have hsub := sub_zip
  have hL1 := hl1
  have hL2 : (hp.push { cls := Value.type "tuple_iterator", data := Data.fields #[Value.ref l1, Value.int 0 0] }).IsList l2 ys := hl2.imp fun o h => ⟨Heap.get?_push_of_some _ h.1, h.2⟩
  unfold Builtin.«zip.__new__»
  wp_walk using wpAny_pyIter_tuple hL1, wpAny_pyIter_list hL2
  exact ⟨_, rfl, h⟩
theorem call_zipN {prog : Program} {w : World} {A : Around} {E : Value → Shared → Prop} {s : Shared} {l1 l2 : Addr} {xs ys : Array Value} {Q : Value → Shared → Prop} (hl1 : s.heap.IsTuple l1 xs) (hl2 : s.heap.IsList l2 ys)
    (h : ∀ h' : Heap, IsZip h' (s.heap.objs.size + 4) (s.heap.objs.size + 2) (s.heap.objs.size + 3) Value.none → IsPair h' (s.heap.objs.size + 2) (.ref s.heap.objs.size) (.ref (s.heap.objs.size + 1)) → IsPair h' (s.heap.objs.size + 3) Value.none Value.none →
      h'.IsTupleIter s.heap.objs.size l1 0 → h'.IsListIter (s.heap.objs.size + 1) l2 0 → (∀ (c : Addr) (o : Obj), s.heap.get? c = some o → h'.get? c = some o) → Q (.ref (s.heap.objs.size + 4)) { heap := h', gens := s.gens, drawn := s.drawn, toks := s.toks, os := s.os }) :
    wpAny (model prog w) A (call (.type "zip") [.ref l1, .ref l2]) Q E s := by
  refine callType_new F.called_zip (by decide) (F.typeCall_zip_2 _ _) (F.newCall_zip_2 _ _) (fun obj => F.args_object_init_3 obj _ _) F.entry_zip_new (meets_zipN_new l1 l2 xs ys) ⟨hl1, hl2, ?_⟩
  have z1 : (zN1 s.heap l1).objs.size = s.heap.objs.size + 1 := Heap.size_push _ _
  have z2 : (zN2 s.heap l1 l2).objs.size = s.heap.objs.size + 2 := by
    show ((zN1 s.heap l1).push _).objs.size = _
    rw [Heap.size_push, z1]
  have z3 : (zN3 s.heap l1 l2).objs.size = s.heap.objs.size + 3 := by
    show ((zN2 s.heap l1 l2).push _).objs.size = _
    rw [Heap.size_push, z2]
  have z4 : (zN4 s.heap l1 l2).objs.size = s.heap.objs.size + 4 := by
    show ((zN3 s.heap l1 l2).push _).objs.size = _
    rw [Heap.size_push, z3]
  have g5 : (zN5 s.heap l1 l2).get? (zN4 s.heap l1 l2).objs.size = some { cls := Value.type "zip", data := Data.fields #[Value.none, Value.bool false, Value.bool false, Value.ref (zN2 s.heap l1 l2).objs.size, Value.ref (zN3 s.heap l1 l2).objs.size] } := Heap.get?_push_size (zN4 s.heap l1 l2) rfl
  have g4 : (zN5 s.heap l1 l2).get? (zN3 s.heap l1 l2).objs.size = some { cls := Value.type "tuple", data := Data.seq #[Value.none, Value.none] } := Heap.get?_push_of_some _ (Heap.get?_push_size (zN3 s.heap l1 l2) rfl)
  have g3 : (zN5 s.heap l1 l2).get? (zN2 s.heap l1 l2).objs.size = some { cls := Value.type "tuple", data := Data.seq #[Value.ref s.heap.objs.size, Value.ref (zN1 s.heap l1).objs.size] } := Heap.get?_push_of_some _ (Heap.get?_push_of_some _ (Heap.get?_push_size (zN2 s.heap l1 l2) rfl))
  have g2 : (zN5 s.heap l1 l2).get? (zN1 s.heap l1).objs.size = some { cls := Value.type "list_iterator", data := Data.fields #[Value.ref l2, Value.int 0 0] } := Heap.get?_push_of_some _ (Heap.get?_push_of_some _ (Heap.get?_push_of_some _ (Heap.get?_push_size (zN1 s.heap l1) rfl)))
  have g1 : (zN5 s.heap l1 l2).get? s.heap.objs.size = some { cls := Value.type "tuple_iterator", data := Data.fields #[Value.ref l1, Value.int 0 0] } := Heap.get?_push_of_some _ (Heap.get?_push_of_some _ (Heap.get?_push_of_some _ (Heap.get?_push_of_some _ (Heap.get?_push_size s.heap rfl))))
  have hk : ∀ (c : Addr) (o : Obj), s.heap.get? c = some o → (zN5 s.heap l1 l2).get? c = some o := fun c o e => Heap.get?_push_of_some _ (Heap.get?_push_of_some _ (Heap.get?_push_of_some _ (Heap.get?_push_of_some _ (Heap.get?_push_of_some _ e))))
  rw [z4, z2, z3] at g5
  rw [z3] at g4
  rw [z2, z1] at g3
  rw [z1] at g2
  show Shared.TypeIs _ (.ref (zN4 s.heap l1 l2).objs.size) "zip" ∧ _
  rw [z4]
  exact ⟨⟨_, g5, rfl⟩, h _ g5 g3 g4 ⟨_, g1, rfl, rfl⟩ ⟨_, g2, rfl, rfl⟩ hk⟩
def iZipN (K : PySem.W.Frag) (ta : TA) : TI := fun σ H R => ta σ H fun vs H1 => ∃ a b xs ys, vs = [.ref a, .ref b] ∧ SqT K H1 a xs ∧ SqL K H1 b ys ∧ R (ItzN K a b) H1
theorem pi_zipN {X : Cx} {e e2 : Expr} {ta : TA} {p pos tpos : Pos} {elts : List Expr} {kk : Nat} (hg : Gl X "zip") (hm : X.mg "zip" = none) (ha : PA X [e, e2] ta)
    (hs : starEach [e, e2] X.env = (false, eval e X.env) :: starEach [e2] X.env := by rfl) (hpl : (backTo pos (starEach [e2] X.env)).any (·.1) = false := by rfl) : PI X (.Tuple elts kk tpos) (.Call (.Name "zip" p) [e, e2] [] pos) (iZipN X.K ta) := by
  refine ⟨fun pins s σ H R I h => Call_ (ld_blt I hg hm boot_zip (callWith_type1 (thn (ha.run pos pins s σ H _ I h) fun us s1 ⟨vs, H1, I1, r1, q1⟩ => ?_) hs hpl))⟩
  obtain ⟨a, b, xs, ys, rfl, hqx, hqy, q⟩ := q1
  cases r1 with
  | cons r rr =>
    cases rr with
    | cons r' r0 =>
      cases r0
      cases r
      cases r'
      obtain ⟨its, rv, p1, _⟩ := I1.tuple hqx
      obtain ⟨its2, rv2, p2, _⟩ := I1.list hqy
      obtain ⟨o2, ho2, hc2⟩ := id p1
      refine call_zipN p1 (PlainL.isList p2) fun h' hz hTI hTO h1 h2 hk => wpAny_pyIter_zip hz ?_
      have I2 := I1.kept (t' := s1.toks) hk
      refine ⟨s1.heap.objs.size + 4, [s1.heap.objs.size + 4, s1.heap.objs.size + 2, s1.heap.objs.size + 3, s1.heap.objs.size, s1.heap.objs.size + 1], _, ItzN X.K a b, H1, rfl, I2, turn_zipN (PySem.W.ktu_apart s1.heap.objs.size a b (Heap.lt_size ho2) (PlainL.lt p2)), ⟨hz, hTI, ⟨_, _, hTO⟩, h1, h2⟩, fun c hcm => ?_, q⟩
      have hle : s1.heap.objs.size ≤ c := by
        simp only [List.mem_cons, List.not_mem_nil, or_false] at hcm
        rcases hcm with h | h | h | h | h <;> (rw [h]; first | exact Nat.le_add_right _ _ | exact Nat.le_refl _)
      exact I1.fpOk hle (I1.hok.fresh hle)
theorem walk_zipN {K : PySem.W.Frag} {a b : Addr} {xs ys : List V} (hn : xs.length = ys.length) : Walk (ItzN K a b) xs.length (fun H => SqT K H a xs ∧ SqL K H b ys) (YPair (fun i => xs[i]?) (fun i => ys[i]?)) := by
  refine ⟨fun i H hi q => ?_, fun H q => ⟨xs, q.1, Nat.le_refl _⟩, fun i H v H' hi q y => ?_⟩
  · exact ⟨xs, ys, _, _, q.1, q.2, List.getElem?_eq_getElem hi, List.getElem?_eq_getElem (by omega)⟩
  · obtain ⟨T, x, z, e1, e2, e3, e4, e5⟩ := y
    exact ⟨T, x, z, e1, e2, e3, e4 xs q.1, e5 ys q.2⟩
end L2

namespace Q
open PySem L2 QR
abbrev sCut : Stmt := top 9999
/-- how much is left of each -/
def CutOk (ns : List Int) (bss : List (List Int)) : Prop := ns.length = bss.length ∧ ∀ (i : Nat) (n : Int) (bs : List Int), ns[i]? = some n → bss[i]? = some bs → 0 ≤ n ∧ n ≤ (bs.length : Int)
def cutL : List (List Int) → List Int → List (List Int)
  | bs :: bss, n :: ns => bs.take n.toNat :: cutL bss ns
  | _, _ => []
theorem cutL_len : ∀ {bss : List (List Int)} {ns : List Int}, ns.length = bss.length → (cutL bss ns).length = bss.length
  | [], _, _ => rfl
  | bs :: bss, [], h => by simp at h
  | bs :: bss, n :: ns, h => by
    show (cutL bss ns).length + 1 = _
    rw [cutL_len (by simpa using h)]
    rfl
theorem cutL_at : ∀ {bss : List (List Int)} {ns : List Int} {i : Nat} {n : Int} {bs : List Int}, ns[i]? = some n → bss[i]? = some bs → (cutL bss ns)[i]? = some (bs.take n.toNat)
  | [], _, i, n, bs, _, h => by simp at h
  | b :: bss, [], i, n, bs, h, _ => by simp at h
  | b :: bss, m :: ns, 0, n, bs, h, g => by
    cases h
    cases g
    rfl
  | b :: bss, m :: ns, i + 1, n, bs, h, g => cutL_at (bss := bss) (ns := ns) (i := i) h g
def spCut : Sp := fun vs H Q _ => ∃ (wl tq : Addr) (us : List V) (bss : List (List Int)) (ns : List Int), vs = [.ref wl, .ref tq] ∧ H wl = some (.lst us) ∧ RowsV H us bss ∧ H tq = some (.tup (ns.map V.int)) ∧ CutOk ns bss ∧ bss.length ≤ 200 ∧ ∀ H', Same H H' → Q (.bl true) H'
def spDC (CD : Addr) : Sp := fun vs H Q _ => ∃ (x dx ra tq : Addr) (bss : List (List Int)) (m : Nat) (ns : List Int), vs = [.ref x, .ref tq] ∧ DiskX CD H x dx ra bss m ∧ H tq = some (.tup (ns.map V.int)) ∧ CutOk ns (bss.drop m) ∧ ∀ H', B2 x ra H H' → DiskX CD H' x dx ra (bss.take m ++ cutL (bss.drop m) ns) bss.length → Q .non H'
section
variable {P : Program} {w : World} {K : PySem.W.Frag} {mg : Str → Option Value} {base : Heap}
theorem cut_fromV (xs : List V) (n : Nat) : cutV xs (some (n : Int)) none = xs.drop n := by
  unfold cutV
  rw [HT.sIx_none, HT.sIx_nat, List.take_of_length_le (by rw [List.length_drop]; omega)]
  rcases Nat.le_total n xs.length with c | c
  · rw [Nat.min_eq_left c]
  · rw [Nat.min_eq_right c, List.drop_of_length_le (Nat.le_refl _), List.drop_of_length_le c]
end
end Q

namespace Q
open PySem L2 QR
/-- the parcels, as far as each is sealed of one -/
def keptT : List (List Int) → List QR.T
  | [] => []
  | r :: rs => match unsT r with
    | .tup [t] => t :: keptT rs
    | _ => []
def KeptV (H : Hp) (ws : List V) (ts : List QR.T) : Prop := ws.length = ts.length ∧ ∀ (i : Nat) (v : V) (t : QR.T), ws[i]? = some v → ts[i]? = some t → Rep H 21 t v
theorem KeptV.tk {H H' : Hp} {ws : List V} {ts : List QR.T} (h : KeptV H ws ts) (k : Tk H H') : KeptV H' ws ts := ⟨h.1, fun i v t a b => (h.2 i v t a b).tk k⟩
theorem KeptV.snoc {H : Hp} {ws : List V} {ts : List QR.T} {v : V} {t : QR.T} (h : KeptV H ws ts) (r : Rep H 21 t v) : KeptV H (ws ++ [v]) (ts ++ [t]) := by
  refine ⟨by rw [List.length_append, List.length_append, h.1]; rfl, fun i x u hx hu => ?_⟩
  by_cases c : i < ws.length
  · rw [List.getElem?_append_left c] at hx
    rw [List.getElem?_append_left (by rw [← h.1]; exact c)] at hu
    exact h.2 i x u hx hu
  · rw [List.getElem?_append_right (by omega)] at hx
    rw [List.getElem?_append_right (by rw [← h.1]; omega)] at hu
    have z1 : i - ws.length = 0 := by
      have := (List.getElem?_eq_some_iff.mp hx).1
      have : i - ws.length < 1 := this
      omega
    rw [z1] at hx
    rw [← h.1, z1] at hu
    cases hx
    cases hu
    exact r
theorem uns_cases {r : List Int} (hb : ∀ b ∈ r, 0 ≤ b ∧ b < 256) : unsT r = .tup [] ∨ ∃ t, unsT r = .tup [t] ∧ OkT 20 t := by
  unfold unsT
  split
  · cases e : rdAll (r.take (r.length - 4)) with
    | ok t h => exact .inr ⟨t, rfl, (rdAll_back (fun b hb' => hb b (List.mem_of_mem_take hb')) e).1⟩
    | no p => exact .inl rfl
  · exact .inl rfl
theorem kept_stop {bss : List (List Int)} {i : Nat} {r : List Int} (h : bss[i]? = some r) (u : unsT r = .tup []) : keptT (bss.drop i) = [] := by
  obtain ⟨hi, e⟩ := List.getElem?_eq_some_iff.mp h
  rw [List.drop_eq_getElem_cons hi, e]
  unfold keptT
  rw [u]
theorem kept_go {bss : List (List Int)} {i : Nat} {r : List Int} {t : QR.T} (h : bss[i]? = some r) (u : unsT r = .tup [t]) : keptT (bss.drop i) = t :: keptT (bss.drop (i + 1)) := by
  obtain ⟨hi, e⟩ := List.getElem?_eq_some_iff.mp h
  rw [List.drop_eq_getElem_cons hi, e]
  conv => lhs; unfold keptT
  rw [u]
def spKP (tp : Bool) : Sp := fun vs H Q _ => ∃ (b : Addr) (us : List V) (bss : List (List Int)), vs = [.ref b] ∧ H b = some (if tp = true then .tup us else .lst us) ∧ RowsV H us bss ∧ bss.length ≤ 200 ∧ ∀ z ws H', Same H H' → H' z = some (.lst ws) → KeptV H' ws (keptT bss) → Q (.ref z) H'
def spLKt : Sp := fun vs H Q _ => ∃ (b : Addr) (us : List V) (bss : List (List Int)), vs = [.ref b] ∧ H b = some (.lst us) ∧ RowsV H us bss ∧ bss.length ≤ 200 ∧ ∀ z ws H', Same H H' → H' z = some (.lst ws) → KeptV H' ws (keptT bss) → Q (.ref z) H'
section
variable {P : Program} {w : World} {K : PySem.W.Frag} {mg : Str → Option Value} {base : Heap}
theorem kit_lst : PySem.W.kitAny K (.type "list") [.type "list", .type "tuple"] = some true := by
  simp [PySem.W.kitAny, show PySem.W.kitOne K (.type "list") (.type "list") = some true from kit_ty (by decide +kernel)]
theorem kit_tup : PySem.W.kitAny K (.type "tuple") [.type "list", .type "tuple"] = some true := by
  simp [PySem.W.kitAny, show PySem.W.kitOne K (.type "tuple") (.type "list") = some false from kit_ty (by decide +kernel), show PySem.W.kitOne K (.type "tuple") (.type "tuple") = some true from kit_ty (by decide +kernel)]
end
end Q

namespace Q
open PySem L2
abbrev sHand : Stmt := top 19
abbrev sTake : Stmt := top 20
abbrev sPick : Stmt := top 21
def HL (l : Addr) (i : Nat) (r s c : Int) : List V := [.ref l, .int (i : Int), .int r, .int s, .int c]
/-- the drawing hand at p -/
structure HandX (H : Hp) (p l : Addr) (ns : List Int) (i : Nat) (r s c : Int) : Prop where
  at_ : H p = some (.lst (HL l i r s c))
  lst : H l = some (.lst (ns.map V.int))
  len : ns.length ≤ 63
  r0 : 0 ≤ r
  s0 : 0 ≤ s
  s1 : s < 2147483647
def HandAt (H : Hp) (p l : Addr) : Prop := ∃ ns i r s c, HandX H p l ns i r s c
/-- nothing is otherwise but at p -/
def But (p : Addr) (H H' : Hp) : Prop := ∀ b, b ≠ p → H' b = H b
theorem But.rfl' {p : Addr} {H : Hp} : But p H H := fun _ _ => rfl
theorem But.upd {p : Addr} {H H' : Hp} {o : HO} (h : But p H H') : But p H (upd H' p o) := fun b hb => by rw [upd_ne hb]; exact h b hb
theorem But.trans {p : Addr} {H H1 H2 : Hp} (h : But p H H1) (g : But p H1 H2) : But p H H2 := fun b hb => (g b hb).trans (h b hb)
theorem HandX.np {H : Hp} {p l : Addr} {ns : List Int} {i : Nat} {r s c : Int} (h : HandX H p l ns i r s c) : l ≠ p := fun e => by
  have h1 := h.at_
  rw [← e, h.lst] at h1
  have h2 := HO.lst.inj (Option.some.inj h1)
  cases ns with
  | nil => exact absurd h2 (by simp [HL])
  | cons a t =>
    rw [List.map_cons] at h2
    exact V.noConfusion (List.cons.inj h2).1
theorem HandX.put {H H' : Hp} {p l : Addr} {ns : List Int} {i i' : Nat} {r s c r' s' c' : Int} (h : HandX H p l ns i r s c) (e : H' p = some (.lst (HL l i' r' s' c'))) (b : But p H H') (h0 : 0 ≤ r') (h1 : 0 ≤ s') (h2 : s' < 2147483647) : HandX H' p l ns i' r' s' c' :=
  ⟨e, by rw [b l h.np]; exact h.lst, h.len, h0, h1, h2⟩
def spHand (K : PySem.W.Frag) : Sp := fun vs H Q _ => ∃ (a : Addr) (ns : List Int), vs = [.ref a] ∧ SqL K H a (ns.map V.int) ∧ ns.length ≤ 63 ∧
  ∀ (p l : Addr) (H' : Hp), HandAt H' p l → H p = none → H l = none → Same H H' → Q (.ref p) H'
def spTake : Sp := fun vs H Q _ => ∃ (p l : Addr) (m : Int), vs = [.ref p, .int m] ∧ HandAt H p l ∧ 0 < m ∧ m < 1099511627776 ∧ ∀ (d : Int) (H' : Hp), 0 ≤ d → d < m → HandAt H' p l → But p H H' → Q (.int d) H'
section
variable {P : Program} {w : World} {K : PySem.W.Frag} {mg : Str → Option Value} {base : Heap}
theorem scHand : FnScope ["script"] ["script"] (defScope sHand) := ⟨rfl, rfl, rfl, by decide +kernel, rfl, by decide +kernel, by decide +kernel⟩
theorem ok_hand {f : Addr} {fd : FuncData} (F : Fun K "_law_hand" "_law_hand" sHand f fd) (B : Bts mg) : FnOk P w K mg base CX0 1 f fd ["script"] (spHand K) := by
  refine F.ok scHand (fun vs H Q E h => ?_) (fun cdv A outer s H vs Q E hr h => ?_)
  · obtain ⟨a, ns, rfl, _⟩ := h
    rfl
  · obtain ⟨a, ns, rfl, hS, hlen, k⟩ := h
    refine ⟨_, pss_one (ps_ret (pe_lst (pa_cons (pe_callTy call_list_of (by rfl) B.list PyProof.Rows.boot_list (pa_cons (pv 0) pa_nil)) (pa_cons pe_int (pa_cons pe_int (pa_cons pe_int (pa_cons pe_int pa_nil))))))), ?_⟩
    refine ⟨_, rfl, a, _, rfl, .inl hS, fun l hl => ?_⟩
    refine ⟨(by show 5 ≤ sizeLine; decide), fun p hp => ?_⟩
    have npl : p ≠ l := fun e => by rw [e, upd_same] at hp; cases hp
    rw [upd_ne npl] at hp
    refine k p l _ ⟨ns, 0, 0, 1, 0, upd_same, ?_, hlen, by decide, by decide, by decide⟩ hp hl fun b o e => ?_
    · rw [upd_ne npl.symm, upd_same]
    · rw [upd_ne (ne_of_none e hp), upd_ne (ne_of_none e hl)]
      exact e
theorem scTake : FnScope ["hand", "many", "cell", "found", "number"] ["hand", "many"] (defScope sTake) := ⟨rfl, rfl, rfl, by decide +kernel, rfl, by decide +kernel, by decide +kernel⟩
theorem ok_take {f : Addr} {fd : FuncData} (F : Fun K "_law_take" "_law_take" sTake f fd) (B : Bts mg) : FnOk P w K mg base CX0 1 f fd ["hand", "many"] spTake := by
  refine F.ok scTake (fun vs H Q E h => ?_) (fun cdv A outer s H vs Q E hr h => ?_)
  · obtain ⟨p, l, m, rfl, _⟩ := h
    rfl
  · obtain ⟨p, l, m, rfl, ⟨ns, i, r, s, c, hx⟩, hm0, hm1, k⟩ := h
    have nd := scTake.nd
    refine ⟨_, pss_cons (ps_asg (pe_op op_add (pe_ix ix_list (pv 0) pe_int (fun _ _ => rfl)) pe_int) (pg_sub (pv 0) pe_int set_list))
      (C8.pss_cut (ps_if (PW.pt (pw_and (pt_cmpR op_eq (pe_ix ix_list (pv 0) pe_int (fun _ _ => rfl)) pe_int (nomark _))
            (pw_and1 (pt_cmpR op_lt (pe_ix ix_list (pv 0) pe_int (fun _ _ => rfl)) (pe_callB call_len_seq (by rfl) B.len PySem.boot_len (pa_cons (pe_ix ix_list (pv 0) pe_int (fun _ _ => rfl)) pa_nil)) (nomark _)))))
          (pss_cons (ps_set (i := 2) nd rfl (.inl rfl) (pe_callTy call_int1 (by rfl) B.int PyProof.Rows.boot_int (pa_cons (pe_ix ix_list (pe_ix ix_list (pv 0) pe_int (fun _ _ => rfl)) (pe_ix ix_list (pv 0) pe_int (fun _ _ => rfl)) (fun _ _ => rfl)) pa_nil)))
          (pss_cons (ps_asg (pe_op op_add (pe_ix ix_list (pv 0) pe_int (fun _ _ => rfl)) pe_int) (pg_sub (pv 0) pe_int set_list))
          (pss_one (ps_if (pt_cmpR op_ge (pv 2) (pe_op op_pow pe_int pe_int) (nomark _))
            (pss_one (ps_asg (pv 2) (pg_sub (pv 0) pe_int set_list)))
            (pss_one (ps_asg (pe_op op_mod (pe_callTy call_int1 (by rfl) B.int PyProof.Rows.boot_int (pa_cons (pe_op op_add (pe_op op_add (pe_op op_mul (pe_ix ix_list (pv 0) pe_int (fun _ _ => rfl)) pe_int) (pe_op op_mod (pe_callTy call_int1 (by rfl) B.int PyProof.Rows.boot_int (pa_cons (pv 2) pa_nil)) pe_int)) pe_int) pa_nil)) pe_int) (pg_sub (pv 0) pe_int set_list)))))))
          pss_nil)
      (pss_cons (ps_if (pt_cmpR op_gt (pe_ix ix_list (pv 0) pe_int (fun _ _ => rfl)) pe_int (nomark _))
          (pss_cons (ps_set (i := 3) nd rfl (.inl rfl) (pe_op op_mod (pe_callTy call_int1 (by rfl) B.int PyProof.Rows.boot_int (pa_cons (pe_ix ix_list (pv 0) pe_int (fun _ _ => rfl)) pa_nil)) (pv 1)))
          (pss_cons (ps_asg (pe_op op_fdivW (pe_callTy call_int1 (by rfl) B.int PyProof.Rows.boot_int (pa_cons (pe_ix ix_list (pv 0) pe_int (fun _ _ => rfl)) pa_nil)) (pv 1)) (pg_sub (pv 0) pe_int set_list))
          (pss_one (ps_ret (pv 3)))))
          pss_nil)
      (pss_cons (ps_asg (pe_op op_mod (pe_callTy call_int1 (by rfl) B.int PyProof.Rows.boot_int (pa_cons (pe_op op_add (pe_op op_mul (pe_ix ix_list (pv 0) pe_int (fun _ _ => rfl)) pe_int) (pe_op op_mul pe_int (pe_ix ix_list (pv 0) pe_int (fun _ _ => rfl)))) pa_nil)) pe_int) (pg_sub (pv 0) pe_int set_list))
      (pss_cons (ps_set (i := 4) nd rfl (.inl rfl) (pe_op op_mod (pe_callTy call_int1 (by rfl) B.int PyProof.Rows.boot_int (pa_cons (pe_op op_mul (pe_ix ix_list (pv 0) pe_int (fun _ _ => rfl)) (pe_op op_add (pe_op op_fdiv (pe_ix ix_list (pv 0) pe_int (fun _ _ => rfl)) pe_int) pe_int)) pa_nil)) pe_int))
      (pss_cons (ps_set (i := 4) nd rfl (.inl rfl) (pe_op op_mod (pe_callTy call_int1 (by rfl) B.int PyProof.Rows.boot_int (pa_cons (pe_op op_mul (pv 4) (pe_op op_add (pe_op op_fdiv (pv 4) pe_int) pe_int)) pa_nil)) pe_int))
      (pss_one (ps_ret (pe_op op_mod (pe_callTy call_int1 (by rfl) B.int PyProof.Rows.boot_int (pa_cons (pe_op op_fdiv (pv 4) pe_int) pa_nil)) (pv 1))))))))), ?_⟩
    -- hand[4] = hand[4] + 1
    refine ⟨_, rfl, p, _, 4, _, rfl, rfl, SqL.of hx.at_, rfl, _, _, rfl, rfl, _, rfl, p, _, 4, 4, rfl, rfl, hx.at_, rfl, ?_⟩
    have b1 : But p H (upd H p (.lst (HL l i r s (c + 1)))) := But.rfl'.upd
    have x1 : HandX (upd H p (.lst (HL l i r s (c + 1)))) p l ns i r s (c + 1) := hx.put upd_same b1 hx.r0 hx.s0 hx.s1
    show C8.tCut _ _ _ _ (upd H p (.lst (HL l i r s (c + 1))))
    revert b1 x1
    generalize upd H p (.lst (HL l i r s (c + 1))) = H1
    intro b1 x1
    refine ⟨fun σ H2 => ∃ x2 i r s c, σ = [some (.ref p), some (.int m), x2, none, none] ∧ HandX H2 p l ns i r s c ∧ But p H H2, ?_, ?_⟩
    · refine ⟨_, rfl, p, _, 2, _, rfl, rfl, SqL.of x1.at_, rfl, rfl, _, rfl, ?_⟩
      refine ite2 (fun _ => ?_) (fun _ => ?_)
      · refine ⟨_, rfl, p, _, 1, _, rfl, rfl, SqL.of x1.at_, rfl, _, rfl, p, _, 0, _, rfl, rfl, SqL.of x1.at_, rfl, l, _, rfl, .inl (SqL.of x1.lst), _, _, rfl, rfl, _, rfl, ?_⟩
        refine ite2 (fun c2 => ?_) (fun _ => ?_)
        · -- cell = int(hand[0][hand[1]])
          have hi : i < ns.length := by
            have z := of_decide_eq_true c2
            rw [List.length_map] at z
            omega
          have hg : atI (ns.map V.int) (i : Int) = some (V.int ns[i]) := atI_nat (by rw [List.getElem?_map, List.getElem?_eq_getElem hi]; rfl)
          refine ⟨_, rfl, p, _, 0, _, rfl, rfl, SqL.of x1.at_, rfl, _, rfl, p, _, 1, _, rfl, rfl, SqL.of x1.at_, rfl, l, _, _, _, rfl, rfl, SqL.of x1.lst, hg, .inl ⟨_, rfl, ?_⟩⟩
          -- hand[1] = hand[1] + 1
          refine ⟨_, rfl, p, _, 1, _, rfl, rfl, SqL.of x1.at_, rfl, _, _, rfl, rfl, _, rfl, p, _, 1, 1, rfl, rfl, x1.at_, rfl, ?_⟩
          have e1 : ((i : Int) + 1) = ((i + 1 : Nat) : Int) := by omega
          have b2 : But p H (upd H1 p (.lst (HL l (i + 1) r s (c + 1)))) := b1.upd
          have x2 : HandX (upd H1 p (.lst (HL l (i + 1) r s (c + 1)))) p l ns (i + 1) r s (c + 1) := x1.put upd_same But.rfl'.upd x1.r0 x1.s0 x1.s1
          have eH : upd H1 p (.lst ((HL l i r s (c + 1)).set 1 (V.int ((i : Int) + 1)))) = upd H1 p (.lst (HL l (i + 1) r s (c + 1))) := by
            rw [e1]
            rfl
          rw [eH]
          revert b2 x2
          generalize upd H1 p (.lst (HL l (i + 1) r s (c + 1))) = H2
          intro b2 x2
          refine ⟨_, rfl, _, _, rfl, rfl, ⟨by decide, by decide, by decide⟩, _, _, rfl, rfl, _, rfl, ?_⟩
          refine ite2 (fun c3 => ?_) (fun _ => ?_)
          · refine ⟨_, rfl, _, rfl, p, _, 2, 2, rfl, rfl, x2.at_, rfl, ?_⟩
            refine ⟨_, i + 1, ns[i], s, c + 1, rfl, x2.put upd_same But.rfl'.upd ?_ x2.s0 x2.s1, b2.upd⟩
            have z := of_decide_eq_true c3
            refine Int.le_trans ?_ z
            decide
          · refine ⟨_, rfl, p, _, 3, _, rfl, rfl, SqL.of x2.at_, rfl, _, _, rfl, rfl, .inr ⟨by decide, by decide⟩, _, rfl, .inl ⟨_, rfl, ?_⟩⟩
            refine ⟨_, _, rfl, rfl, (by decide : (0 : Int) < 2147483647), _, _, rfl, rfl, _, _, rfl, rfl, .inl ⟨_, rfl, ?_⟩⟩
            refine ⟨_, _, rfl, rfl, (by decide : (0 : Int) < 2147483647), _, rfl, p, _, 3, 3, rfl, rfl, x2.at_, rfl, ?_⟩
            exact ⟨_, i + 1, r, _, c + 1, rfl, x2.put upd_same But.rfl'.upd x2.r0 (Int.emod_nonneg _ (by decide)) (Int.emod_lt_of_pos _ (by decide)), b2.upd⟩
        · exact ⟨_, i, r, s, c + 1, rfl, x1, b1⟩
      · exact ⟨_, i, r, s, c + 1, rfl, x1, b1⟩
    · rintro σ H2 ⟨x2, i, r, s, c, rfl, y1, c1⟩
      refine ⟨_, rfl, p, _, 2, _, rfl, rfl, SqL.of y1.at_, rfl, _, _, rfl, rfl, _, rfl, ?_⟩
      refine ite2 (fun _ => ?_) (fun _ => ?_)
      · -- found = int(hand[2]) % many; hand[2] = int(hand[2]) // many; return found
        refine ⟨_, rfl, p, _, 2, _, rfl, rfl, SqL.of y1.at_, rfl, .inl ⟨_, rfl, ?_⟩⟩
        refine ⟨_, rfl, _, _, rfl, rfl, hm0, ?_⟩
        refine ⟨_, rfl, p, _, 2, _, rfl, rfl, SqL.of y1.at_, rfl, .inl ⟨_, rfl, ?_⟩⟩
        refine ⟨_, rfl, _, _, rfl, rfl, wide_div (b := 40) hm0 (by omega) (by decide) (by decide), _, rfl, p, _, 2, 2, rfl, rfl, y1.at_, rfl, ?_⟩
        refine ⟨_, rfl, k _ _ (Int.emod_nonneg _ (by omega)) (Int.emod_lt_of_pos _ hm0) ⟨ns, i, _, s, c, y1.put upd_same But.rfl'.upd (Int.ediv_nonneg y1.r0 (by omega)) y1.s0 y1.s1⟩ c1.upd⟩
      · -- hand[3] = int(hand[3] * 69621 + 7919 * hand[4]) % 2147483647
        refine ⟨_, rfl, p, _, 3, _, rfl, rfl, SqL.of y1.at_, rfl, _, _, rfl, rfl, .inr ⟨by decide, by decide⟩, _, rfl, p, _, 4, _, rfl, rfl, SqL.of y1.at_, rfl, _, _, rfl, rfl, .inl ⟨by decide, by decide⟩, _, _, rfl, rfl, .inl ⟨_, rfl, ?_⟩⟩
        refine ⟨_, _, rfl, rfl, (by decide : (0 : Int) < 2147483647), _, rfl, p, _, 3, 3, rfl, rfl, y1.at_, rfl, ?_⟩
        have z0 : 0 ≤ (s * 69621 + 7919 * c) % 2147483647 := Int.emod_nonneg _ (by decide)
        have z1 : (s * 69621 + 7919 * c) % 2147483647 < 2147483647 := Int.emod_lt_of_pos _ (by decide)
        have b2 : But p H (upd H2 p (.lst (HL l i r ((s * 69621 + 7919 * c) % 2147483647) c))) := c1.upd
        have y2 : HandX (upd H2 p (.lst (HL l i r ((s * 69621 + 7919 * c) % 2147483647) c))) p l ns i r ((s * 69621 + 7919 * c) % 2147483647) c := y1.put upd_same But.rfl'.upd y1.r0 z0 z1
        show tSeq _ _ _ _ (upd H2 p (.lst (HL l i r ((s * 69621 + 7919 * c) % 2147483647) c)))
        revert b2 y2
        generalize upd H2 p (.lst (HL l i r ((s * 69621 + 7919 * c) % 2147483647) c)) = H3
        revert z0 z1
        generalize (s * 69621 + 7919 * c) % 2147483647 = s2
        intro z0 z1 b2 y2
        refine ⟨_, rfl, p, _, 3, _, rfl, rfl, SqL.of y2.at_, rfl, _, rfl, p, _, 3, _, rfl, rfl, SqL.of y2.at_, rfl, _, _, rfl, rfl, ⟨by decide, by decide⟩, _, _, rfl, rfl, _, _, rfl, rfl, .inl ⟨by omega, by omega⟩, .inl ⟨_, rfl, ?_⟩⟩
        refine ⟨_, _, rfl, rfl, (by decide : (0 : Int) < 2147483647), ?_⟩
        have q0 : 0 ≤ (s2 * (s2 / 1009 + 69621)) % 2147483647 := Int.emod_nonneg _ (by decide)
        have q1 : (s2 * (s2 / 1009 + 69621)) % 2147483647 < 2147483647 := Int.emod_lt_of_pos _ (by decide)
        revert q0 q1
        generalize (s2 * (s2 / 1009 + 69621)) % 2147483647 = n1
        intro q0 q1
        refine ⟨_, rfl, _, rfl, _, _, rfl, rfl, ⟨by decide, by decide⟩, _, _, rfl, rfl, _, _, rfl, rfl, .inl ⟨by omega, by omega⟩, .inl ⟨_, rfl, ?_⟩⟩
        refine ⟨_, _, rfl, rfl, (by decide : (0 : Int) < 2147483399), ?_⟩
        refine ⟨_, rfl, _, _, rfl, rfl, ⟨by decide, by decide⟩, .inl ⟨_, rfl, ?_⟩⟩
        refine ⟨_, rfl, _, _, rfl, rfl, hm0, ?_⟩
        exact k _ _ (Int.emod_nonneg _ (by omega)) (Int.emod_lt_of_pos _ hm0) ⟨ns, i, r, s2, c, y2⟩ b2
end
end Q

/-! a def that is handed the error that a suite has caught -/
namespace L2
open PySem PySem.Spec PyProof.Rows L2H
/-- what such a def is worth: at the error's address, class, own dict -/
abbrev SpE := Addr → Value → Option Addr → Sp
structure FnE (P : Program) (w : World) (K : PySem.W.Frag) (mg : Str → Option Value) (base : Heap) (k : Nat) (f : Addr) (fd : FuncData) (ps : List Str) (sp : SpE) : Prop where
  len : ∀ a c d xs H Q E, sp a c d xs H Q E → xs.length = ps.length
  run : ∀ (A : Around) (fr : List Env) (s : Shared) (H : Hp) (gs : Args) (us : List Value) (xs : List V) (Q : VK) (E : XK) (pe : Addr × Obj) (c : Value) (d : Option Addr), RoomH k A → PinOk fr H s pe → Zc c d pe.2 → (∃ vs, pe.2.data = .fields vs) →
    Env0 P w K mg base A fr s H → BindsTo s fd gs (ps.zip us) → Vals xs us → sp pe.1 c d xs H Q E → codeAny (model P w) A (.call (.ref f) gs) (CR CX0 fr P w H s Q E) s
/-- such a def of the text, by its body -/
theorem fn_err {P : Program} {w : World} {K : PySem.W.Frag} {mg : Str → Option Value} {base : Heap} {k : Nat} {x qual : Str} {st : Stmt} {f : Addr} {fd : FuncData} {N ps : List Str} {sp : SpE} (F : Fun K x qual st f fd) (S : FnScope N ps (defScope st))
    (len : ∀ a c d xs H Q E, sp a c d xs H Q E → xs.length = ps.length)
    (hbody : ∀ (cdv : Value) (A : Around) (fr : List Env) (s : Shared) (H : Hp) (xs : List V) (Q : VK) (E : XK) (pe : Addr × Obj) (c : Value) (d : Option Addr), RoomH k (A.deeper (envOfC qual (defScope st) s.heap.objs.size f cdv)) → Zc c d pe.2 → (∃ vs, pe.2.data = .fields vs) → sp pe.1 c d xs H Q E →
      ∃ t, PSs (cxH CX0 P w K mg base N qual (defScope st) f cdv A fr s H E pe) (defBody st) t ∧ t { nx := fun _ H' => Q .non H', rt := Q } (L2.start N xs) H) : FnE P w K mg base (k + 1) f fd ps sp := by
  obtain ⟨oc, od, kV, dc, pm, an, cdv, ct, osl, rfl, lk, hcd⟩ := F.ex
  refine ⟨len, fun A fr s H gs us xs Q E pe c d room pin zc zf en bd rl want => ?_⟩
  have kin : K.In s.heap := en.mod.kin.keeps fun b o q => (en.bs b o q).1
  have nol : s.heap.NoLimit := en.mod.nolimit.keeps fun b o q => (en.bs b o q).1
  refine codeAny_call_function room.depth (kin _ _ lk) rfl S.co S.gen rfl (PySem.W.codeRec_of kin hcd) (bd _ _ _ _ ?_)
  refine wpAny_newFunctionEnv_cells S.kind (fun ⟨n, v⟩ hn => ?_) fun env eq s1 J => ?_
  · rcases S.par n (List.of_mem_zip hn).1 with z | z
    · exact Or.inl z
    · exact Or.inr ⟨z, PySem.W.cellsFrom_some _ _ _ (Or.inl z)⟩
  subst eq
  refine ⟨nol.keeps J.toInCall.keep, codeAny_func ?_⟩
  obtain ⟨t, ht, hq⟩ := hbody cdv A fr s H xs Q E pe c d (room.deeper _) zc zf want
  refine wpAny_mono (ht.run [] s1 (L2.start N xs) H _ (inv_startH S pin en (len _ _ _ _ _ _ _ want) rl J) hq) (fun fl s2 z => ?_) fun _ _ z => z
  match fl, z with
  | .ret u, ⟨v, _, H2, I2, rv, q⟩ => exact ⟨v, H2, I2.os, I2.bare, I2.base, I2.hok, rv, q⟩
  | .next, ⟨_, H2, I2, q⟩ => exact ⟨V.non, H2, I2.os, I2.bare, I2.base, I2.hok, rfl, q⟩
  | .brk, ⟨_, _, _, q⟩ => exact q.elim
  | .cont, ⟨_, _, _, q⟩ => exact q.elim
/-- a call of it in the suite -/
def tCallE (sp : SpE) (a : Addr) (c : Value) (d : Option Addr) (t : TA) : TE := fun σ H Q => t σ H fun xs H1 => sp a c d xs H1 Q E0
theorem pe_callE {X : Cx} {k : Nat} {f a : Addr} {fd : FuncData} {ps : List Str} {sp : SpE} {oe : Obj} {pn : List (Addr × Obj)} {c : Value} {d : Option Addr} {x : Str} {e : Expr} {es : List Expr} {q pos : Pos} {t : TA} (F : FnE X.prog X.w X.K X.mg X.base k f fd ps sp) (hr : Room k X.A) (zc : Zc c d oe) (zf : ∃ vs, oe.data = .fields vs)
    (hg : Gl X x) (hm : X.mg x = some (.ref f)) (hk : PySem.W.keepIn X.K (.ref f) = true) (hb : Binds X.K fd ps []) (ha : PA (X.suite a ((a, oe) :: pn)) (e :: es) t)
    (hdb : (x == ("__debug__" : Str)) = false := by decide) (he : starEach (e :: es) X.env = (false, eval e X.env) :: starEach es X.env := by rfl) (hpl : (backTo pos (starEach es X.env)).any (·.1) = false := by rfl) :
    PE (X.suite a ((a, oe) :: pn)) (.Call (.Name x q) (e :: es) [] pos) (tCallE sp a c d t) := by
  refine ⟨fun pins s σ H Q I h => wpAny_Call_Name_kw (ld_glob I hg hm ?_ hdb)⟩
  refine PySem.W.callWith_K (h₀ := X.base) I.ok.mod.kin hk (thn (ha.run pos pins s σ H _ I h) fun us s1 ⟨xs, H1, I1, rl, want⟩ => ⟨I1.kIn, ?_⟩) he hpl
  have hl : us.length = ps.length := rl.length.symm.trans (F.len _ _ _ _ _ _ _ want)
  have bd := hb s1 us I1.kIn (by rw [List.append_nil]; exact hl)
  rw [List.append_nil] at bd
  obtain ⟨p1, p2, p3, p4, p5⟩ := I1.pin (a, oe) (List.mem_append_left _ List.mem_cons_self)
  have pin : PinOk X.stack H1 s1 (a, oe) := ⟨p1, p2, fun m => (List.mem_cons.mp (I1.stkSub a m)).elim p3 p4, p5⟩
  refine wpAny_call (codeAny_mono (F.run (X.suite a ((a, oe) :: pn)).A X.stack s1 H1 ⟨us, []⟩ us xs Q E0 (a, oe) c d ⟨hr.dp, hr.un⟩ pin zc zf I1.env0 bd rl want) fun r s2 z => ?_)
  match r, z with
  | .ok (.ret u), z => exact I1.after z
  | .error _, z => exact z.elim
/-- isinstance of the error that was handed in -/
theorem call_isP {X : Cx} {pe : Addr × Obj} {D : Addr} {cls : Value} {d : Option Addr} (C : ExcC X.K D) (hc : PySem.W.isClsIn X.K D = true) (hp : pe ∈ X.pn) (hz : Zc cls d pe.2) (hf : ∃ vs, pe.2.data = .fields vs) : CallR X (.builtin "isinstance") (rIsX X.K D pe.1 cls d) := by
  intro pins s σ H xs us Q I r h
  obtain ⟨rfl, hd, c, cv, b, rfl, hcv, e, q⟩ := h
  obtain ⟨hget, hn, _⟩ := I.pin pe (List.mem_append_left _ hp)
  cases r with
  | cons rx rr =>
    cases rr with
    | cons rt r0 =>
      cases r0
      cases rx
      have ec := hcv _ rt
      subst ec
      obtain ⟨vs, hv⟩ := hf
      have nc : PySem.W.notCls pe.2 = true := by
        unfold PySem.W.notCls
        rw [hv]
      have main : ∀ od, PySem.W.InstAt s.heap pe.1 pe.2 D od → wpAny (model X.prog X.w) X.A (call (.builtin "isinstance") [.ref pe.1, _]) (EP X pins σ Q) X.xe s := fun od J =>
        PySem.W.kia_one (PySem.W.kitx_exc (x := pe.1) (ox := pe.2) (od := od) hc C.hg C.hk C.hs C.ha C.hn C.ht C.hm) I.kIn J e (by intro z; cases z) (fun tk => ⟨.bl b, H, I.tok tk, rfl, q⟩)
      cases d with
      | none => exact main none ⟨hget, hz.1, nc, by rw [hz.2]; trivial⟩
      | some dd =>
        obtain ⟨fs, hfs⟩ := hd dd rfl
        obtain ⟨es, ⟨e1, _, _, e4, _⟩, _⟩ := I.hok dd _ hfs
        exact main (some e1) ⟨hget, hz.1, nc, by rw [hz.2]; exact e4⟩
end L2

namespace L2
open PySem PySem.Spec PyProof.Rows
/-! xs.count(y) of flat things -/
theorem cnt_flat {y : V} : ∀ {ys : List V} {us : List Value}, Vals ys us → ys.all flatV = true → us.countP (eqU y) = ys.countP fun z => eqV z y
  | _, _, .nil, _ => rfl
  | z :: ys, u :: us, .cons r t, f => by
    rw [List.all_cons, Bool.and_eq_true] at f
    rw [List.countP_cons, List.countP_cons, cnt_flat t f.2, eqU_of r f.1]
theorem mt_cntF {X : Cx} : MtR X "list.count" (fun x xs H Q => ∃ (a : Addr) (ys : List V) (y : V), x = .ref a ∧ xs = [y] ∧ SqL X.K H a ys ∧ flatV y = true ∧ ys.all flatV = true ∧ Q (.int ((ys.countP fun z => eqV z y : Nat) : Int)) H) := by
  intro pins s σ H x xs v us Q I rx rxs h
  obtain ⟨a, ys, y, rfl, rfl, hs, fy, fys, q⟩ := h
  cases rx
  obtain ⟨u, rfl, ru⟩ := rxs.one
  obtain ⟨its, rv, ⟨⟨cls, dd, data, sl⟩, n, ho, hc, hdn, hd⟩, hlen⟩ := I.list hs
  simp only at hc hd
  subst hc hd
  refine call_meets PySem.F.slot_list_count ⟨_, ho, rfl⟩ PySem.F.entry_list_count (PySem.F.args_list_count_2 _ _)
    (SeqAt.list_countAt a its.toArray n dd sl u (eqU y)) ⟨ho, fun u' hu' => mem_eqAt ru fy rv fys u' (by simpa using hu'), ?_⟩
  have ec := cnt_flat (y := y) rv fys
  refine ⟨.int ((ys.countP fun z => eqV z y : Nat) : Int), H, I.tok _, ⟨s.toks, ?_⟩, q⟩
  show Value.int ((its.toArray.toList.countP (eqU y) : Nat) : Int) s.toks = Value.int ((ys.countP fun z => eqV z y : Nat) : Int) s.toks
  rw [← ec]
end L2
namespace Q
open PySem L2 QR
abbrev sName : Stmt := top 9999
def nmS : Nat → Str
  | 0 => "NoRow"
  | 1 => "NoParcel"
  | 2 => "NoCut"
  | 3 => "NoNumber"
  | _ => "NoBlocks"
def nmI : Nat → Str
  | 0 => "NoRow.__init__"
  | 1 => "NoParcel.__init__"
  | 2 => "NoCut.__init__"
  | 3 => "NoNumber.__init__"
  | _ => "NoBlocks.__init__"
def wdS : Nat → Str
  | 0 => "row"
  | 1 => "parcel"
  | 2 => "cut"
  | 3 => "number"
  | _ => "blocks"
/-- the five errors -/
structure Errs (P : Program) (K : PySem.W.Frag) (mg : Str → Option Value) (CE : Addr) where
  cl : Nat → Addr
  fl : Nat → Addr
  sup : ∀ i, i < 5 → QS.SupC P K mg (cl i) (fl i) (nmI i)
  g : ∀ i, i < 5 → mg (nmS i) = some (.ref (cl i))
  ex : ∀ i, i < 5 → PySem.W.exmOne K (.ref (cl i)) (.ref CE) = some true
  exO : ∀ i, i < 5 → PySem.W.exmOne K (.ref (cl i)) (.ref (cl i)) = some true
  e : ∀ i, i < 5 → ExcC K (cl i)
  c : ∀ i, i < 5 → PySem.W.isClsIn K (cl i) = true
  v : ∀ i, i < 5 → PySem.W.kitOne K (.ref (cl i)) (.type "ValueError") = some true
  k : ∀ i j, i < 5 → j < 5 → PySem.W.kitOne K (.ref (cl i)) (.ref (cl j)) = some (decide (i = j))
  gE : mg "RoundError" = some (.ref CE)
  noV : mg "ValueError" = none
def spName {P : Program} {K : PySem.W.Frag} {mg : Str → Option Value} {CE : Addr} (X : Errs P K mg CE) : SpE := fun a c d vs H Q _ => ∃ i, i < 5 ∧ c = .ref (X.cl i) ∧ d = none ∧ vs = [.ref a] ∧ ∀ H', Same H H' → Q (.str (wdS i)) H'
section
variable {P : Program} {w : World} {K : PySem.W.Frag} {mg : Str → Option Value} {base : Heap}
end
end Q

namespace Q
open PySem L2 QR
abbrev sLIsRow : Stmt := top 9999
abbrev sLInt : Stmt := top 22
abbrev sLWin : Stmt := top 31
abbrev sParO : Stmt := top 9999
/-! things of known kind; S: what may change -/
def KnA (S : Addr → Prop) (H : Hp) (v : V) : Prop := Sc v ∨ (∃ z, v = .str z) ∨ ∃ a, v = .ref a ∧ ¬ S a ∧ ((∃ xs, H a = some (.lst xs)) ∨ (∃ xs, H a = some (.tup xs)) ∨ H a = some (.dK []))
/-- what stands, stands -/
def Mv (S S' : Addr → Prop) (H H' : Hp) : Prop := ∀ a o, H a = some o → ¬ S a → ¬ S' a ∧ H' a = some o
theorem Mv.of {S : Addr → Prop} {H H' : Hp} (s : Same H H') : Mv S S H H' := fun a o e n => ⟨n, s a o e⟩
theorem KnA.mv {S S' : Addr → Prop} {H H' : Hp} {v : V} (h : KnA S H v) (m : Mv S S' H H') : KnA S' H' v := by
  rcases h with h | h | ⟨a, e, n, ⟨xs, h⟩ | ⟨xs, h⟩ | h⟩
  · exact .inl h
  · exact .inr (.inl h)
  · obtain ⟨n', h'⟩ := m a _ h n
    exact .inr (.inr ⟨a, e, n', .inl ⟨xs, h'⟩⟩)
  · obtain ⟨n', h'⟩ := m a _ h n
    exact .inr (.inr ⟨a, e, n', .inr (.inl ⟨xs, h'⟩)⟩)
  · obtain ⟨n', h'⟩ := m a _ h n
    exact .inr (.inr ⟨a, e, n', .inr (.inr h')⟩)
theorem KnA.same {S : Addr → Prop} {H H' : Hp} {v : V} (h : KnA S H v) (s : Same H H') : KnA S H' v := h.mv (.of s)
/-- it is a tuple at a -/
def TupV (H : Hp) (v : V) : Prop := ∃ a xs, v = .ref a ∧ H a = some (.tup xs)
def LstV (H : Hp) (v : V) : Prop := ∃ a xs, v = .ref a ∧ H a = some (.lst xs)
/-- whether a number below n -/
def numB (n : Int) : V → Bool
  | .int i => decide (0 ≤ i) && decide (i < n)
  | _ => false
def winB (a b : Int) : V → Bool
  | .int i => decide (a ≤ i) && decide (i ≤ b)
  | _ => false
def intB : V → Bool
  | .int _ => true
  | _ => false
def RowD (S : Addr → Prop) (H : Hp) (v : V) (b : Bool) : Prop := (∃ q xs, v = .ref q ∧ ¬ S q ∧ H q = some (.tup xs) ∧ xs.length ≤ 9000 ∧ (∀ x ∈ xs, KnA S H x) ∧ xs.all isB = b) ∨ (b = false ∧ KnA S H v ∧ ¬ TupV H v)
theorem tupV_back {S S' : Addr → Prop} {H H' : Hp} {v : V} (k : KnA S H v) (m : Mv S S' H H') (h : TupV H' v) : TupV H v := by
  obtain ⟨a, xs, rfl, e⟩ := h
  rcases k with k | ⟨z, k⟩ | ⟨b, eb, n, k⟩
  · rcases k with k | ⟨_, k⟩ | ⟨_, k⟩ <;> cases k
  · cases k
  · cases eb
    rcases k with ⟨ys, k⟩ | ⟨ys, k⟩ | k
    · rw [(m _ _ k n).2] at e
      cases e
    · exact ⟨a, ys, rfl, k⟩
    · rw [(m _ _ k n).2] at e
      cases e
theorem lstV_back {S S' : Addr → Prop} {H H' : Hp} {v : V} (k : KnA S H v) (m : Mv S S' H H') (h : LstV H' v) : LstV H v := by
  obtain ⟨a, xs, rfl, e⟩ := h
  rcases k with k | ⟨z, k⟩ | ⟨b, eb, n, k⟩
  · rcases k with k | ⟨_, k⟩ | ⟨_, k⟩ <;> cases k
  · cases k
  · cases eb
    rcases k with ⟨ys, k⟩ | ⟨ys, k⟩ | k
    · exact ⟨a, ys, rfl, k⟩
    · rw [(m _ _ k n).2] at e
      cases e
    · rw [(m _ _ k n).2] at e
      cases e
theorem RowD.mv {S S' : Addr → Prop} {H H' : Hp} {v : V} {b : Bool} (h : RowD S H v b) (m : Mv S S' H H') : RowD S' H' v b := by
  rcases h with ⟨q, xs, e, n, h, l, k, a⟩ | ⟨e, k, n⟩
  · obtain ⟨n', h'⟩ := m q _ h n
    exact .inl ⟨q, xs, e, n', h', l, fun x hx => (k x hx).mv m, a⟩
  · exact .inr ⟨e, k.mv m, fun t => n (tupV_back k m t)⟩
theorem RowD.same {S : Addr → Prop} {H H' : Hp} {v : V} {b : Bool} (h : RowD S H v b) (s : Same H H') : RowD S H' v b := h.mv (.of s)
theorem RowD.kn {S : Addr → Prop} {H : Hp} {v : V} {b : Bool} (h : RowD S H v b) : KnA S H v := by
  rcases h with ⟨q, xs, e, n, h, _⟩ | ⟨_, k, _⟩
  · exact .inr (.inr ⟨q, e, n, .inr (.inl ⟨xs, h⟩)⟩)
  · exact k
theorem bytes_of : ∀ {xs : List V}, xs.all isB = true → ∃ bs : List Int, xs = bs.map V.int ∧ ∀ b ∈ bs, 0 ≤ b ∧ b < 256
  | [], _ => ⟨[], rfl, fun b hb => by simp at hb⟩
  | x :: xs, h => by
    rw [List.all_cons, Bool.and_eq_true] at h
    obtain ⟨bs, e, k⟩ := bytes_of h.2
    cases x with
    | int i =>
      have h1 : (decide (0 ≤ i) && decide (i < 256)) = true := h.1
      rw [Bool.and_eq_true, decide_eq_true_eq, decide_eq_true_eq] at h1
      refine ⟨i :: bs, by rw [List.map_cons, e], fun b hb => ?_⟩
      rcases List.mem_cons.mp hb with rfl | hb
      · exact h1
      · exact k b hb
    | _ => exact Bool.noConfusion (show false = true from h.1)
theorem RowD.row {S : Addr → Prop} {H : Hp} {v : V} (h : RowD S H v true) : ∃ q bs, v = .ref q ∧ RowAt H q bs := by
  rcases h with ⟨q, xs, e, _, h, l, k, a⟩ | ⟨z, _⟩
  · obtain ⟨bs, rfl, hb⟩ := bytes_of a
    exact ⟨q, bs, e, h, hb, by rw [List.length_map] at l; exact l⟩
  · cases z
def spIsRow2 : Sp := fun vs H Q _ => ∃ (S : Addr → Prop) (v : V) (b : Bool), vs = [v] ∧ RowD S H v b ∧ ∀ H', Same H H' → Q (.bl b) H'
def spInt2 : Sp := fun vs H Q _ => ∃ (S : Addr → Prop) (v : V), vs = [v] ∧ KnA S H v ∧ Q (.bl (intB v)) H
def spWin2 : Sp := fun vs H Q _ => ∃ (S : Addr → Prop) (v : V) (a b : Int), vs = [v, .int a, .int b] ∧ KnA S H v ∧ Q (.bl (winB a b v)) H
section
variable {P : Program} {w : World} {K : PySem.W.Frag} {mg : Str → Option Value} {base : Heap}
theorem KnA.ty {S : Addr → Prop} {H : Hp} {v : V} (h : KnA S H v) : ∃ t b c, TyX K H v t ∧ kInt K t b ∧ kBool K t c ∧ (b && !c) = intB v := by
  rcases h with h | ⟨z, rfl⟩ | ⟨a, rfl, n, ⟨xs, h⟩ | ⟨xs, h⟩ | h⟩
  · rcases h with rfl | ⟨b, rfl⟩ | ⟨i, rfl⟩
    · exact ⟨.type "NoneType", false, false, .base .non, kit_ty (by decide +kernel), kit_ty (by decide +kernel), rfl⟩
    · exact ⟨.type "bool", true, true, .base (.bl _), kit_ty (by decide +kernel), kit_ty (by decide +kernel), rfl⟩
    · exact ⟨.type "int", true, false, .base (.int _), kInt_int, kBool_int, rfl⟩
  · exact ⟨.type "str", false, false, .base (.str _), kit_ty (by decide +kernel), kit_ty (by decide +kernel), rfl⟩
  · exact ⟨.type "list", false, false, .base (.lst h), kit_ty (by decide +kernel), kit_ty (by decide +kernel), rfl⟩
  · exact ⟨.type "tuple", false, false, .base (.tup h), kit_ty (by decide +kernel), kit_ty (by decide +kernel), rfl⟩
  · exact ⟨.type "dict", false, false, .base (.dK h), kit_ty (by decide +kernel), kit_ty (by decide +kernel), rfl⟩
theorem KnA.nt {S : Addr → Prop} {H : Hp} {v : V} (h : KnA S H v) (nt : ¬ TupV H v) : ∃ t, TyX K H v t ∧ PySem.W.kitOne K t (.type "tuple") = some false := by
  rcases h with h | ⟨z, rfl⟩ | ⟨a, rfl, n, ⟨xs, h⟩ | ⟨xs, h⟩ | h⟩
  · rcases h with rfl | ⟨b, rfl⟩ | ⟨i, rfl⟩
    · exact ⟨.type "NoneType", .base .non, kit_ty (by decide +kernel)⟩
    · exact ⟨.type "bool", .base (.bl _), kit_ty (by decide +kernel)⟩
    · exact ⟨.type "int", .base (.int _), kit_ty (by decide +kernel)⟩
  · exact ⟨.type "str", .base (.str _), kit_ty (by decide +kernel)⟩
  · exact ⟨.type "list", .base (.lst h), kit_ty (by decide +kernel)⟩
  · exact absurd ⟨a, xs, rfl, h⟩ nt
  · exact ⟨.type "dict", .base (.dK h), kit_ty (by decide +kernel)⟩
theorem KnA.no {S : Addr → Prop} {H : Hp} {v : V} (h : KnA S H v) : (∃ i, v = .int i) ∨ (intB v = false ∧ NoInt K H v) := by
  obtain ⟨t, b, c, ty, kb, kc, e⟩ := h.ty (K := K)
  cases v with
  | int i => exact .inl ⟨i, rfl⟩
  | _ => exact .inr ⟨rfl, t, b, c, ty, kb, kc, e⟩
theorem isB_num (v : V) : numB 256 v = isB v := by cases v <;> rfl
theorem scLInt : FnScope ["thing"] ["thing"] (defScope sLInt) := ⟨rfl, rfl, rfl, by decide +kernel, rfl, by decide +kernel, by decide +kernel⟩
theorem ok_lint {f : Addr} {fd : FuncData} (D : Df K mg "_law_is_integer" sLInt ["thing"] f fd) (B : Bts mg) : FnOk P w K mg base CX0 1 f fd ["thing"] spInt2 := by
  refine D.F.ok scLInt (fun vs H Q E h => ?_) (fun cdv A outer s H vs Q E hr h => ?_)
  · obtain ⟨S, v, rfl, _⟩ := h
    rfl
  · obtain ⟨S, v, rfl, kn, k⟩ := h
    obtain ⟨t, b, c, ty, kb, kc, e⟩ := kn.ty (K := K)
    refine ⟨_, pss_one (ps_ret (pe_and (pe_callB call_isi (by rfl) B.isinstance PyProof.Rows.boot_isinstance (pa_cons (pv 0) (pa_cons (pe_bltn (v := .ty "int") rfl B.int PyProof.Rows.boot_int rfl) pa_nil)))
      (pe_one (pe_not (pe_callB call_isi (by rfl) B.isinstance PyProof.Rows.boot_isinstance (pa_cons (pv 0) (pa_cons (pe_bltn (v := .ty "bool") rfl B.bool (by decide +kernel) rfl) pa_nil))))))), ?_⟩
    refine ⟨_, rfl, v, .ty "int", t, .type "int", b, rfl, .ty _, ty, kb, _, rfl, ?_⟩
    rw [← e] at k
    cases b with
    | false => exact iteF k
    | true => exact iteT ⟨_, rfl, v, .ty "bool", t, .type "bool", c, rfl, .ty _, ty, kc, _, rfl, k⟩
theorem scLWin : FnScope ["thing", "least", "most"] ["thing", "least", "most"] (defScope sLWin) := ⟨rfl, rfl, rfl, by decide +kernel, rfl, by decide +kernel, by decide +kernel⟩
theorem ok_lwin {f fI : Addr} {fd dI : FuncData} (D : Df K mg "_law_is_within" sLWin ["thing", "least", "most"] f fd) (B : Bts mg) (DI : Df K mg "_law_is_integer" sLInt ["thing"] fI dI) : FnOk P w K mg base CX0 2 f fd ["thing", "least", "most"] spWin2 := by
  have GI : FnOk P w K mg base CX0 1 fI dI ["thing"] spInt2 := ok_lint DI B
  refine D.F.ok scLWin (fun vs H Q E h => ?_) (fun cdv A outer s H vs Q E hr h => ?_)
  · obtain ⟨S, v, a, b, rfl, _⟩ := h
    rfl
  · obtain ⟨S, v, a, b, rfl, kn, k⟩ := h
    refine ⟨_, pss_one (ps_ret (pe_and (pe_call GI hr rfl DI.m DI.k DI.b .nil pass0 (pa_cons (pv 0) pa_nil)) (pe_and (pe_cmpR op_le (pv 1) (pv 0) (nomark _)) (pe_one (pe_cmpR op_le (pv 0) (pv 2) (nomark _)))))), ?_⟩
    refine ⟨_, rfl, S, v, rfl, kn, _, rfl, ?_⟩
    cases v with
    | int i =>
      refine iteT ⟨_, rfl, _, rfl, _, _, rfl, rfl, _, rfl, ?_⟩
      have k : Q (.bl (decide (a ≤ i) && decide (i ≤ b))) H := k
      by_cases c : a ≤ i
      · rw [decide_eq_true c] at k ⊢
        exact iteT ⟨_, rfl, _, rfl, _, _, rfl, rfl, k⟩
      · rw [decide_eq_false c] at k ⊢
        exact iteF k
    | _ => exact iteF k
end
end Q

namespace Q
open PySem L2 QR
theorem fn_or {P : Program} {w : World} {K : PySem.W.Frag} {mg : Str → Option Value} {base : Heap} {CX : CXT} {k : Nat} {f : Addr} {fd : FuncData} {ps : List Str} {sp sp' : Sp} (F : FnOk P w K mg base CX k f fd ps sp) (G : FnOk P w K mg base CX k f fd ps sp') : FnOk P w K mg base CX k f fd ps (fun vs H Q E => sp vs H Q E ∨ sp' vs H Q E) :=
  ⟨fun vs H Q E h => h.elim (F.len vs H Q E) (G.len vs H Q E), fun A outer s H args us vs Q E hr he hb hv hs => hs.elim (F.run A outer s H args us vs Q E hr he hb hv) (G.run A outer s H args us vs Q E hr he hb hv)⟩
/-- how much of each is left: whether this is right -/
def cutB : List V → List (List Int) → Bool
  | x :: xs, bs :: bss => numB ((bs.length : Int) + 1) x && cutB xs bss
  | _, _ => true
def CutD (S : Addr → Prop) (H : Hp) (v : V) (bss : List (List Int)) (b : Bool) : Prop := (∃ a xs, v = .ref a ∧ ¬ S a ∧ H a = some (.tup xs) ∧ xs.length = bss.length ∧ (∀ x ∈ xs, KnA S H x) ∧ b = cutB xs bss) ∨ (b = false ∧ ∃ a xs, v = .ref a ∧ ¬ S a ∧ H a = some (.tup xs) ∧ xs.length ≠ bss.length) ∨ (b = false ∧ KnA S H v ∧ ¬ TupV H v)
theorem CutD.mv {S S' : Addr → Prop} {H H' : Hp} {v : V} {bss : List (List Int)} {b : Bool} (h : CutD S H v bss b) (m : Mv S S' H H') : CutD S' H' v bss b := by
  rcases h with ⟨a, xs, e, n, h, l, k, d⟩ | ⟨eb, a, xs, e, n, h, l⟩ | ⟨e, k, n⟩
  · obtain ⟨n', h'⟩ := m a _ h n
    exact .inl ⟨a, xs, e, n', h', l, fun x hx => (k x hx).mv m, d⟩
  · obtain ⟨n', h'⟩ := m a _ h n
    exact .inr (.inl ⟨eb, a, xs, e, n', h', l⟩)
  · exact .inr (.inr ⟨e, k.mv m, fun t => n (tupV_back k m t)⟩)
theorem cutB_ok : ∀ {xs : List V} {bss : List (List Int)}, xs.length = bss.length → cutB xs bss = true → ∃ ns : List Int, xs = ns.map V.int ∧ CutOk ns bss
  | [], [], _, _ => ⟨[], rfl, rfl, fun i n bs h => by simp at h⟩
  | [], _ :: _, h, _ => by simp at h
  | _ :: _, [], h, _ => by simp at h
  | x :: xs, bs :: bss, h, d => by
    have d : (numB ((bs.length : Int) + 1) x && cutB xs bss) = true := d
    rw [Bool.and_eq_true] at d
    obtain ⟨ns, e, l, k⟩ := cutB_ok (by simpa using h) d.2
    cases x with
    | int i =>
      have h1 : (decide (0 ≤ i) && decide (i < (bs.length : Int) + 1)) = true := d.1
      rw [Bool.and_eq_true, decide_eq_true_eq, decide_eq_true_eq] at h1
      refine ⟨i :: ns, by rw [List.map_cons, e], by rw [List.length_cons, List.length_cons, l], fun j n cs hn hc => ?_⟩
      cases j with
      | zero =>
        cases hn
        cases hc
        exact ⟨h1.1, by omega⟩
      | succ j => exact k j n cs hn hc
    | _ => exact Bool.noConfusion (show false = true from d.1)
def BlkD (S : Addr → Prop) (H : Hp) (v : V) (b : Bool) : Prop := (∃ a xs, v = .ref a ∧ ¬ S a ∧ (H a = some (.lst xs) ∨ H a = some (.tup xs)) ∧ xs.length ≤ 200 ∧ ∃ B : V → Bool, (∀ x ∈ xs, RowD S H x (B x)) ∧ xs.all B = b) ∨ (b = false ∧ KnA S H v ∧ ¬ TupV H v ∧ ¬ LstV H v)
theorem BlkD.mv {S S' : Addr → Prop} {H H' : Hp} {v : V} {b : Bool} (h : BlkD S H v b) (m : Mv S S' H H') : BlkD S' H' v b := by
  rcases h with ⟨a, xs, e, n, h, l, B, k, d⟩ | ⟨e, k, n1, n2⟩
  · have h' : ¬ S' a ∧ (H' a = some (.lst xs) ∨ H' a = some (.tup xs)) := h.elim (fun h => ⟨(m a _ h n).1, .inl (m a _ h n).2⟩) (fun h => ⟨(m a _ h n).1, .inr (m a _ h n).2⟩)
    exact .inl ⟨a, xs, e, h'.1, h'.2, l, B, fun x hx => (k x hx).mv m, d⟩
  · exact .inr ⟨e, k.mv m, fun t => n1 (tupV_back k m t), fun t => n2 (lstV_back k m t)⟩
theorem rows_back {S : Addr → Prop} {H : Hp} : ∀ {xs : List V} {B : V → Bool}, (∀ x ∈ xs, RowD S H x (B x)) → xs.all B = true → ∃ bss, RowsV H xs bss
  | [], _, _, _ => ⟨[], .nil⟩
  | x :: xs, B, k, d => by
    rw [List.all_cons, Bool.and_eq_true] at d
    obtain ⟨bss, r⟩ := rows_back (xs := xs) (B := B) (fun y hy => k y (List.mem_cons_of_mem _ hy)) d.2
    have kx := k x List.mem_cons_self
    rw [d.1] at kx
    obtain ⟨q, bs, rfl, hq⟩ := kx.row
    exact ⟨[bs] ++ bss, RowsV.append (RowsV.one hq) r⟩
/-- what is let, what is refused -/
def spMkX (C : Addr) : Sp := fun vs H Q E => ∃ (S : Addr → Prop) (v : V) (b : Bool), vs = [v] ∧ RowD S H v b ∧ (b = true → ∀ u H', Same H H' → Q u H') ∧ (b = false → ∀ H', Same H H' → E (.ref C) none H')
def spPaX (C : Addr) : Sp := fun vs H Q E => ∃ (S : Addr → Prop) (v : V), vs = [v] ∧ RowD S H v false ∧ ∀ H', Same H H' → E (.ref C) none H'
def spDWX (CD C : Addr) : Sp := fun vs H Q E => ∃ (S : Addr → Prop) (x dx ra : Addr) (v : V) (bss : List (List Int)) (m : Nat) (b : Bool), vs = [.ref x, v] ∧ DiskX CD H x dx ra bss m ∧ bss.length < 200 ∧ RowD S H v b ∧
  (b = true → ∀ u bs H', Bu ra H H' → DiskX CD H' x dx ra (bss ++ [bs]) m → Q u H') ∧ (b = false → ∀ H', Same H H' → E (.ref C) none H')
def spDCX (CD C : Addr) : Sp := fun vs H Q E => ∃ (S : Addr → Prop) (x dx ra : Addr) (v : V) (bss : List (List Int)) (m : Nat) (b : Bool), vs = [.ref x, v] ∧ DiskX CD H x dx ra bss m ∧ CutD S H v (bss.drop m) b ∧
  (b = true → ∀ css H', B2 x ra H H' → css.length = bss.length → DiskX CD H' x dx ra css bss.length → Q .non H') ∧ (b = false → ∀ H', Same H H' → E (.ref C) none H')
def spDDX (CD C : Addr) : Sp := fun vs H Q E => ∃ (S : Addr → Prop) (x dx ra : Addr) (v : V) (bss : List (List Int)) (m : Nat) (b : Bool), vs = [.ref x, v] ∧ DiskX CD H x dx ra bss m ∧ KnA S H v ∧ numB ((bss.length : Int) + 1) v = b ∧
  (b = true → ∀ rb n k H', H rb = none → Bu x H H' → n ≤ bss.length → DiskX CD H' x dx rb (bss.take n) k → Q .non H') ∧ (b = false → E (.ref C) none H)
def spKPX (C : Addr) : Sp := fun vs H Q E => ∃ (S : Addr → Prop) (v : V) (b : Bool), vs = [v] ∧ BlkD S H v b ∧ (b = true → ∀ u H', Same H H' → Q u H') ∧ (b = false → ∀ H', Same H H' → E (.ref C) none H')
section
variable {P : Program} {w : World} {K : PySem.W.Frag} {mg : Str → Option Value} {base : Heap} {CE : Addr}
def spCutN : Sp := fun vs H Q _ => ∃ (S : Addr → Prop) (wl : Addr) (v : V) (us : List V) (bss : List (List Int)) (b : Bool), vs = [.ref wl, v] ∧ H wl = some (.lst us) ∧ RowsV H us bss ∧ CutD S H v bss b ∧ bss.length ≤ 200 ∧ ∀ H', Same H H' → Q (.bl b) H'
/-- of so many beginnings -/
def cutL2 : Nat → List V → List (List Int) → List Bool
  | 0, _, _ => []
  | n + 1, x :: xs, bs :: bss => numB ((bs.length : Int) + 1) x :: cutL2 n xs bss
  | _, _, _ => []
def cutAt (xs : List V) (bss : List (List Int)) (i : Nat) : Bool := match xs[i]?, bss[i]? with
  | some x, some bs => numB ((bs.length : Int) + 1) x
  | _, _ => true
theorem cutB_all : ∀ {xs : List V} {bss : List (List Int)}, xs.length = bss.length → ((List.range xs.length).map (cutAt xs bss)).all id = cutB xs bss
  | [], [], _ => rfl
  | [], _ :: _, h => by simp at h
  | _ :: _, [], h => by simp at h
  | x :: xs, bs :: bss, h => by
    have ih := cutB_all (xs := xs) (bss := bss) (by simpa using h)
    rw [List.length_cons, List.range_succ_eq_map, List.map_cons, List.all_cons, List.map_map]
    show (numB ((bs.length : Int) + 1) x && _) = (numB ((bs.length : Int) + 1) x && cutB xs bss)
    rw [← ih]
    rfl
end
end Q

namespace Q
open PySem L2 QR
abbrev sLCall : Stmt := top 9999
abbrev sLWord : Stmt := top 9999
def spNoP (C : Addr) : Sp := fun vs H Q E => ∃ (p l : Addr) (v : V), vs = [v] ∧ Dec p l H 20 v false ∧ ∀ H', Same H H' → E (.ref C) none H'
/-- what is called -/
def D8 {P : Program} {K : PySem.W.Frag} {mg : Str → Option Value} {CE : Addr} (CD : Addr) (X : Errs P K mg CE) (H : Hp) (n : Int) (x : Addr) (v : V) (Q : VK) (E : XK) : Prop :=
  ((n = 0 ∧ spPaX (X.cl 0) [v] H (fun _ H' => Q .non H') E) ∨ (n = 1 ∧ spMkX (X.cl 0) [v] H (fun _ H' => Q .non H') E) ∨ (n = 2 ∧ spDWX CD (X.cl 0) [.ref x, v] H (fun _ H' => Q .non H') E) ∨
   (n = 3 ∧ spNoP (X.cl 1) [v] H (fun _ H' => Q .non H') E) ∨ (n = 4 ∧ spNoP (X.cl 1) [v] H (fun _ H' => Q .non H') E) ∨ (n = 5 ∧ spDCX CD (X.cl 2) [.ref x, v] H (fun _ H' => Q .non H') E) ∨
   (n = 6 ∧ spDDX CD (X.cl 3) [.ref x, v] H (fun _ H' => Q .non H') E) ∨ (n = 7 ∧ spKPX (X.cl 4) [v] H (fun _ H' => Q .non H') E))
def spLC {P : Program} {K : PySem.W.Frag} {mg : Str → Option Value} {CE : Addr} (CD : Addr) (X : Errs P K mg CE) : Sp := fun vs H Q E => ∃ (n : Int) (x : Addr) (v : V), vs = [.int n, .ref x, v] ∧ (∃ dx ra bss m, DiskX CD H x dx ra bss m) ∧ D8 CD X H n x v Q E
theorem D8.mono {P : Program} {K : PySem.W.Frag} {mg : Str → Option Value} {CE : Addr} {CD : Addr} {X : Errs P K mg CE} {H : Hp} {n : Int} {x : Addr} {v : V} {Q Q' : VK} {E E' : XK} (hQ : ∀ v H', Q v H' → Q' v H') (hE : ∀ c d H', E c d H' → E' c d H') (h : D8 CD X H n x v Q E) : D8 CD X H n x v Q' E' := by
  rcases h with ⟨z, S, v', e, r, k⟩ | ⟨z, S, v', b, e, r, k1, k2⟩ | ⟨z, S, x', dx, ra, v', bss, m, b, e, d, l, r, k1, k2⟩ | ⟨z, p, l, v', e, r, k⟩ | ⟨z, p, l, v', e, r, k⟩ | ⟨z, S, x', dx, ra, v', bss, m, b, e, d, r, k1, k2⟩ | ⟨z, S, x', dx, ra, v', bss, m, b, e, d, r, r2, k1, k2⟩ | ⟨z, S, v', b, e, r, k1, k2⟩
  · exact .inl ⟨z, S, v', e, r, fun H' s => hE _ _ _ (k H' s)⟩
  · exact .inr (.inl ⟨z, S, v', b, e, r, fun eb u H' s => hQ _ _ (k1 eb u H' s), fun eb H' s => hE _ _ _ (k2 eb H' s)⟩)
  · exact .inr (.inr (.inl ⟨z, S, x', dx, ra, v', bss, m, b, e, d, l, r, fun eb u bs H' s d' => hQ _ _ (k1 eb u bs H' s d'), fun eb H' s => hE _ _ _ (k2 eb H' s)⟩))
  · exact .inr (.inr (.inr (.inl ⟨z, p, l, v', e, r, fun H' s => hE _ _ _ (k H' s)⟩)))
  · exact .inr (.inr (.inr (.inr (.inl ⟨z, p, l, v', e, r, fun H' s => hE _ _ _ (k H' s)⟩))))
  · exact .inr (.inr (.inr (.inr (.inr (.inl ⟨z, S, x', dx, ra, v', bss, m, b, e, d, r, fun eb css H' s l d' => hQ _ _ (k1 eb css H' s l d'), fun eb H' s => hE _ _ _ (k2 eb H' s)⟩)))))
  · exact .inr (.inr (.inr (.inr (.inr (.inr (.inl ⟨z, S, x', dx, ra, v', bss, m, b, e, d, r, r2, fun eb rb n k H' h s l d' => hQ _ _ (k1 eb rb n k H' h s l d'), fun eb => hE _ _ _ (k2 eb)⟩))))))
  · exact .inr (.inr (.inr (.inr (.inr (.inr (.inr ⟨z, S, v', b, e, r, fun eb u H' s => hQ _ _ (k1 eb u H' s), fun eb H' s => hE _ _ _ (k2 eb H' s)⟩))))))
def spWordL {P : Program} {K : PySem.W.Frag} {mg : Str → Option Value} {CE : Addr} (CD : Addr) (X : Errs P K mg CE) : Sp := fun vs H Q _ => spLC CD X vs H (fun _ H' => Q (.str "let") H') (fun c d H' => ∃ i, i < 5 ∧ c = .ref (X.cl i) ∧ d = none ∧ ∀ H2, Same H' H2 → Q (.str (wdS i)) H2)
section
variable {P : Program} {w : World} {K : PySem.W.Frag} {mg : Str → Option Value} {base : Heap} {CE : Addr}
theorem KnA.nlt {S : Addr → Prop} {H : Hp} {v : V} (h : KnA S H v) (nt : ¬ TupV H v) (nl : ¬ LstV H v) : ∃ t, TyX K H v t ∧ PySem.W.kitAny K t [.type "list", .type "tuple"] = some false := by
  have two : ∀ t, PySem.W.kitOne K t (.type "list") = some false → PySem.W.kitOne K t (.type "tuple") = some false → PySem.W.kitAny K t [.type "list", .type "tuple"] = some false := fun t h1 h2 => by simp [PySem.W.kitAny, h1, h2]
  rcases h with h | ⟨z, rfl⟩ | ⟨a, rfl, n, ⟨xs, h⟩ | ⟨xs, h⟩ | h⟩
  · rcases h with rfl | ⟨b, rfl⟩ | ⟨i, rfl⟩
    · exact ⟨.type "NoneType", .base .non, two _ (kit_ty (by decide +kernel)) (kit_ty (by decide +kernel))⟩
    · exact ⟨.type "bool", .base (.bl _), two _ (kit_ty (by decide +kernel)) (kit_ty (by decide +kernel))⟩
    · exact ⟨.type "int", .base (.int _), two _ (kit_ty (by decide +kernel)) (kit_ty (by decide +kernel))⟩
  · exact ⟨.type "str", .base (.str _), two _ (kit_ty (by decide +kernel)) (kit_ty (by decide +kernel))⟩
  · exact absurd ⟨a, xs, rfl, h⟩ nl
  · exact absurd ⟨a, xs, rfl, h⟩ nt
  · exact ⟨.type "dict", .base (.dK h), two _ (kit_ty (by decide +kernel)) (kit_ty (by decide +kernel))⟩
end
end Q

namespace Q
open PySem L2 QR
abbrev sLSome : Stmt := top 9999
/-- a thing, and what it is made of -/
def Thg (S : Addr → Prop) (H : Hp) (v : V) : Prop := KnA S H v ∧ ∀ a xs, v = .ref a → (H a = some (.lst xs) ∨ H a = some (.tup xs)) → xs.length ≤ 9 ∧ ∀ x ∈ xs, KnA S H x ∧ ∀ b ys, x = .ref b → H b = some (.tup ys) → ys = []
theorem KnA.w {S S' : Addr → Prop} {H : Hp} {v : V} (h : KnA S H v) (m : ∀ a, S' a → S a) : KnA S' H v := h.mv fun a o e n => ⟨fun z => n (m a z), e⟩
theorem Thg.mv {S S' : Addr → Prop} {H H' : Hp} {v : V} (h : Thg S H v) (m : Mv S S' H H') : Thg S' H' v := by
  refine ⟨h.1.mv m, fun a xs e hx => ?_⟩
  subst e
  have hx' : H a = some (.lst xs) ∨ H a = some (.tup xs) := by
    rcases h.1 with k | ⟨z, k⟩ | ⟨b, eb, n, k⟩
    · rcases k with k | ⟨_, k⟩ | ⟨_, k⟩ <;> cases k
    · cases k
    · cases eb
      rcases k with ⟨ys, k⟩ | ⟨ys, k⟩ | k
      · have k' := (m _ _ k n).2
        rw [k'] at hx
        rcases hx with hx | hx
        · cases hx
          exact .inl k
        · cases hx
      · have k' := (m _ _ k n).2
        rw [k'] at hx
        rcases hx with hx | hx
        · cases hx
        · cases hx
          exact .inr k
      · have k' := (m _ _ k n).2
        rw [k'] at hx
        rcases hx with hx | hx <;> cases hx
  obtain ⟨l, al⟩ := h.2 a xs rfl hx'
  refine ⟨l, fun x hx => ⟨(al x hx).1.mv m, fun b ys e hb => ?_⟩⟩
  obtain ⟨b', ys', e', hb'⟩ := tupV_back (al x hx).1 m ⟨b, ys, e, hb⟩
  have := (al x hx).2 b' ys' e' hb'
  subst e
  cases e'
  have k := (al (.ref b) hx).1
  rcases k with k | ⟨z, k⟩ | ⟨c, ec, n, k⟩
  · rcases k with k | ⟨_, k⟩ | ⟨_, k⟩ <;> cases k
  · cases k
  · cases ec
    have := (m _ _ hb' n).2
    rw [this] at hb
    cases hb
    assumption
theorem Thg.same {S : Addr → Prop} {H H' : Hp} {v : V} (h : Thg S H v) (s : Same H H') : Thg S H' v := h.mv (.of s)
theorem thg_sc {S : Addr → Prop} {H : Hp} {v : V} (h : Sc v) : Thg S H v := ⟨.inl h, fun a xs e _ => by
  subst e
  rcases h with k | ⟨_, k⟩ | ⟨_, k⟩ <;> cases k⟩
theorem thg_str {S : Addr → Prop} {H : Hp} {z : Str} : Thg S H (.str z) := ⟨.inr (.inl ⟨z, rfl⟩), fun a xs e _ => by cases e⟩
theorem thg_lst {S : Addr → Prop} {H : Hp} {a : Addr} {xs : List V} (n : ¬ S a) (h : H a = some (.lst xs)) (l : xs.length ≤ 9) (k : ∀ x ∈ xs, KnA S H x ∧ ∀ b ys, x = .ref b → H b = some (.tup ys) → ys = []) : Thg S H (.ref a) := ⟨.inr (.inr ⟨a, rfl, n, .inl ⟨xs, h⟩⟩), fun b ys e hb => by
  cases e
  rw [h] at hb
  rcases hb with hb | hb
  · cases hb
    exact ⟨l, k⟩
  · cases hb⟩
theorem thg_tup {S : Addr → Prop} {H : Hp} {a : Addr} {xs : List V} (n : ¬ S a) (h : H a = some (.tup xs)) (l : xs.length ≤ 9) (k : ∀ x ∈ xs, KnA S H x ∧ ∀ b ys, x = .ref b → H b = some (.tup ys) → ys = []) : Thg S H (.ref a) := ⟨.inr (.inr ⟨a, rfl, n, .inr (.inl ⟨xs, h⟩)⟩), fun b ys e hb => by
  cases e
  rw [h] at hb
  rcases hb with hb | hb
  · cases hb
  · cases hb
    exact ⟨l, k⟩⟩
theorem thg_dct {S : Addr → Prop} {H : Hp} {a : Addr} (n : ¬ S a) (h : H a = some (.dK [])) : Thg S H (.ref a) := ⟨.inr (.inr ⟨a, rfl, n, .inr (.inr h)⟩), fun b ys e hb => by
  cases e
  rw [h] at hb
  rcases hb with hb | hb <;> cases hb⟩
theorem sc_it {S : Addr → Prop} {H : Hp} {x : V} (h : Sc x ∨ ∃ z, x = .str z) : KnA S H x ∧ ∀ b ys, x = .ref b → H b = some (.tup ys) → ys = [] := by
  refine ⟨h.elim .inl (fun h => .inr (.inl h)), fun b ys e _ => ?_⟩
  subst e
  rcases h with (k | ⟨_, k⟩ | ⟨_, k⟩) | ⟨_, k⟩ <;> cases k
/-- things side by side -/
def Thgs (S : Addr → Prop) (H : Hp) (xs : List V) : Prop := ∀ x ∈ xs, Thg S H x
theorem Thgs.same {S : Addr → Prop} {H H' : Hp} {xs : List V} (h : Thgs S H xs) (s : Same H H') : Thgs S H' xs := fun x hx => (h x hx).same s
theorem Thgs.nil {S : Addr → Prop} {H : Hp} : Thgs S H [] := fun x hx => by simp at hx
theorem Thgs.cons {S : Addr → Prop} {H : Hp} {x : V} {xs : List V} (h : Thg S H x) (k : Thgs S H xs) : Thgs S H (x :: xs) := fun y hy => by
  rcases List.mem_cons.mp hy with rfl | hy
  · exact h
  · exact k y hy
def Was (H : Hp) : Addr → Prop := fun a => H a ≠ none
def spDeep2 : Sp := fun vs H Q _ => vs = [] ∧ ∀ a H', Same H H' → Thg (Was H) H' (.ref a) → Q (.ref a) H'
def spLSome : Sp := fun vs H Q _ => ∃ (p l : Addr), vs = [.ref p] ∧ PoolAt H p l ∧ ∀ v H', PoolAt H' p l → Kp p l H H' → Thg (Was H) H' v → Q v H'
theorem was_no {H H1 : Hp} {a : Addr} (s : Same H H1) (n : H1 a = none) : ¬ Was H a := fun z => z (sNo s n)
section
variable {P : Program} {w : World} {K : PySem.W.Frag} {mg : Str → Option Value} {base : Heap}
end
end Q

namespace Q
open PySem L2 QR
abbrev sLDue : Stmt := top 9999
def duS (b : Bool) (w : Str) : Str := if b then "let" else w
theorem win_num (v : V) (n : Int) : winB 0 n v = numB (n + 1) v := by
  cases v with
  | int i =>
    show (decide (0 ≤ i) && decide (i ≤ n)) = (decide (0 ≤ i) && decide (i < n + 1))
    by_cases c : i ≤ n
    · rw [decide_eq_true c, decide_eq_true (show i < n + 1 by omega)]
    · rw [decide_eq_false c, decide_eq_false (show ¬ i < n + 1 by omega)]
  | _ => rfl
abbrev ND : List Str := ["which", "blocks", "synced", "thing", "sizes", "right", "row", "many", "size"]
def spDu1 : Sp := fun vs H Q _ => ∃ (S : Addr → Prop) (n : Int) (u w v : V) (b : Bool), vs = [.int n, u, w, v] ∧ n < 3 ∧ RowD S H v b ∧ ∀ H', Same H H' → Q (.str (duS b "row")) H'
def spDu5 : Sp := fun vs H Q _ => ∃ (S : Addr → Prop) (bl : Addr) (us : List V) (bss : List (List Int)) (m : Nat) (v : V) (b : Bool), vs = [.int 5, .ref bl, .int (m : Int), v] ∧ H bl = some (.lst us) ∧ RowsV H us bss ∧ bss.length ≤ 200 ∧ CutD S H v (bss.drop m) b ∧ ∀ H', Same H H' → Q (.str (duS b "cut")) H'
def spDu6 (K : PySem.W.Frag) : Sp := fun vs H Q _ => ∃ (S : Addr → Prop) (bl : Addr) (us : List V) (w v : V) (b : Bool), vs = [.int 6, .ref bl, w, v] ∧ H bl = some (.lst us) ∧ KnA S H v ∧ numB ((us.length : Int) + 1) v = b ∧ Q (.str (duS b "number")) H
def spDu7 : Sp := fun vs H Q _ => ∃ (S : Addr → Prop) (u w v : V) (b : Bool), vs = [.int 7, u, w, v] ∧ BlkD S H v b ∧ ∀ H', Same H H' → Q (.str (duS b "blocks")) H'
section
variable {P : Program} {w : World} {K : PySem.W.Frag} {mg : Str → Option Value} {base : Heap}
theorem no_eq {a b : Int} {A B : Prop} (n : a ≠ b) (h : B) : if decide (V.int a = V.int b) = true then A else B := by
  rw [decide_eq_false fun z => n (V.int.inj z)]
  exact iteF h
theorem yes_eq {a : Int} {A B : Prop} (h : A) : if decide (V.int a = V.int a) = true then A else B := by
  rw [decide_eq_true rfl]
  exact iteT h
theorem no_lt {a b : Int} {A B : Prop} (n : ¬ a < b) (h : B) : if decide (a < b) = true then A else B := by
  rw [decide_eq_false n]
  exact iteF h
theorem yes_lt {a b : Int} {A B : Prop} (n : a < b) (h : A) : if decide (a < b) = true then A else B := by
  rw [decide_eq_true n]
  exact iteT h
/-- what is due, of each of the five -/
def spLDue (K : PySem.W.Frag) : Sp := fun vs H Q _ => ∃ (S : Addr → Prop) (n : Int) (bl : Addr) (us : List V) (bss : List (List Int)) (m : Nat) (v : V), vs = [.int n, .ref bl, .int (m : Int), v] ∧ H bl = some (.lst us) ∧ RowsV H us bss ∧ bss.length ≤ 200 ∧
  (((n = 1 ∨ n = 2) ∧ ∃ b, RowD S H v b ∧ ∀ H', Same H H' → Q (.str (duS b "row")) H') ∨ (n = 5 ∧ ∃ b, CutD S H v (bss.drop m) b ∧ ∀ H', Same H H' → Q (.str (duS b "cut")) H') ∨
   (n = 6 ∧ ∃ b, KnA S H v ∧ numB ((bss.length : Int) + 1) v = b ∧ Q (.str (duS b "number")) H) ∨ (n = 7 ∧ ∃ b, BlkD S H v b ∧ ∀ H', Same H H' → Q (.str (duS b "blocks")) H'))
end
end Q

namespace Q
open PySem L2 QR
abbrev sSnd : Stmt := top 44
def spSnd (K : PySem.W.Frag) : Sp := fun vs H Q _ => ∃ (a : Addr) (ns : List Int), vs = [.ref a] ∧ SqL K H a (ns.map V.int) ∧ ns.length ≤ 63 ∧ ∀ H', Q (.bl true) H'
def spHalf (K : PySem.W.Frag) : Sp := fun vs H Q _ => ∃ (a : Addr) (ns : List Int), vs = [.ref a] ∧ SqL K H a (ns.map V.int) ∧ ns.length ≤ 63 ∧ ∀ H', (SqL K H' a (ns.map V.int)) → Q (.bl true) H'
theorem Thg.in {S : Addr → Prop} {H : Hp} {a : Addr} (h : Thg S H (.ref a)) : ¬ S a := by
  rcases h.1 with k | ⟨z, k⟩ | ⟨b, eb, n, k⟩
  · rcases k with k | ⟨_, k⟩ | ⟨_, k⟩ <;> cases k
  · cases k
  · cases eb
    exact n
theorem Thg.row {S : Addr → Prop} {H : Hp} {v : V} (h : Thg S H v) : ∃ b, RowD S H v b := by
  by_cases t : TupV H v
  · obtain ⟨a, xs, rfl, ha⟩ := t
    obtain ⟨l, al⟩ := h.2 a xs rfl (.inr ha)
    exact ⟨_, .inl ⟨a, xs, rfl, h.in, ha, by omega, fun x hx => (al x hx).1, rfl⟩⟩
  · exact ⟨false, .inr ⟨rfl, h.1, t⟩⟩
theorem Thg.cut {S : Addr → Prop} {H : Hp} {v : V} (h : Thg S H v) (bss : List (List Int)) : ∃ b, CutD S H v bss b := by
  by_cases t : TupV H v
  · obtain ⟨a, xs, rfl, ha⟩ := t
    obtain ⟨l, al⟩ := h.2 a xs rfl (.inr ha)
    by_cases c : xs.length = bss.length
    · exact ⟨_, .inl ⟨a, xs, rfl, h.in, ha, c, fun x hx => (al x hx).1, rfl⟩⟩
    · exact ⟨false, .inr (.inl ⟨rfl, a, xs, rfl, h.in, ha, c⟩)⟩
  · exact ⟨false, .inr (.inr ⟨rfl, h.1, t⟩)⟩
theorem it_row {S : Addr → Prop} {H : Hp} {x : V} (k : KnA S H x) (e : ∀ b ys, x = .ref b → H b = some (.tup ys) → ys = []) : ∃ b, RowD S H x b := by
  by_cases t : TupV H x
  · obtain ⟨a, xs, rfl, ha⟩ := t
    have := e a xs rfl ha
    subst this
    have n : ¬ S a := by
      rcases k with k | ⟨z, k⟩ | ⟨b, eb, n, k⟩
      · rcases k with k | ⟨_, k⟩ | ⟨_, k⟩ <;> cases k
      · cases k
      · cases eb
        exact n
    exact ⟨true, .inl ⟨a, [], rfl, n, ha, Nat.zero_le _, fun x hx => by simp at hx, rfl⟩⟩
  · exact ⟨false, .inr ⟨rfl, k, t⟩⟩
theorem Thg.blk {S : Addr → Prop} {H : Hp} {v : V} (h : Thg S H v) : ∃ b, BlkD S H v b := by
  have main : ∀ a xs, v = .ref a → (H a = some (.lst xs) ∨ H a = some (.tup xs)) → ∃ b, BlkD S H v b := fun a xs e hx => by
    obtain ⟨l, al⟩ := h.2 a xs e hx
    subst e
    have ex : ∀ x : V, ∃ b : Bool, x ∈ xs → RowD S H x b := fun x => by
      by_cases hm : x ∈ xs
      · obtain ⟨b, hb⟩ := it_row (al x hm).1 (al x hm).2
        exact ⟨b, fun _ => hb⟩
      · exact ⟨true, fun z => absurd z hm⟩
    exact ⟨_, .inl ⟨a, xs, rfl, h.in, hx, by omega, fun x => Classical.choose (ex x), fun x hx => Classical.choose_spec (ex x) hx, rfl⟩⟩
  by_cases t : TupV H v
  · obtain ⟨a, xs, e, ha⟩ := t
    exact main a xs e (.inr ha)
  · by_cases t2 : LstV H v
    · obtain ⟨a, xs, e, ha⟩ := t2
      exact main a xs e (.inl ha)
    · exact ⟨false, .inr ⟨rfl, h.1, t, t2⟩⟩
/-- the pool and a disk -/
structure D3 (CD : Addr) (H : Hp) (p l x dx ra : Addr) (bss : List (List Int)) (m : Nat) : Prop where
  g : PoolAt H p l
  d : DiskX CD H x dx ra bss m
  n1 : ra ≠ p
  n2 : ra ≠ l
def Sx (p l x ra : Addr) : Addr → Prop := fun a => a = p ∨ a = l ∨ a = x ∨ a = ra
theorem D3.nx {CD : Addr} {H : Hp} {p l x dx ra : Addr} {bss : List (List Int)} {m : Nat} (h : D3 CD H p l x dx ra bss m) : x ≠ p ∧ x ≠ l := by
  obtain ⟨seed, cnt, cs, g⟩ := h.g
  exact ⟨ne_of h.d.at_ g.at_ (fun z => by cases z), ne_of h.d.at_ g.lst (fun z => by cases z)⟩
theorem D3.same {CD : Addr} {H H' : Hp} {p l x dx ra : Addr} {bss : List (List Int)} {m : Nat} (h : D3 CD H p l x dx ra bss m) (s : Same H H') : D3 CD H' p l x dx ra bss m := ⟨h.g.same s, h.d.same s, h.n1, h.n2⟩
theorem D3.kp {CD : Addr} {H H' : Hp} {p l x dx ra : Addr} {bss : List (List Int)} {m : Nat} (h : D3 CD H p l x dx ra bss m) (g : PoolAt H' p l) (k : Kp p l H H') : D3 CD H' p l x dx ra bss m := by
  have tk := h.g.tk k
  obtain ⟨n1, n2⟩ := h.nx
  obtain ⟨vs, hv, rv⟩ := h.d.rows
  exact ⟨g, ⟨k _ _ h.d.at_ n1 n2, ⟨vs, k _ _ hv h.n1 h.n2, rv.tk tk⟩, h.d.le, h.d.few⟩, h.n1, h.n2⟩
theorem D3.mv {CD : Addr} {H H' : Hp} {p l x dx ra rb : Addr} {bss bss' : List (List Int)} {m m' : Nat} (h : D3 CD H p l x dx ra bss m) (u : B2 x ra H H') (d : DiskX CD H' x dx rb bss' m') (nb : rb = ra ∨ H rb = none) : D3 CD H' p l x dx rb bss' m' ∧ Mv (Sx p l x ra) (Sx p l x rb) H H' := by
  obtain ⟨x1, x2⟩ := h.nx
  obtain ⟨seed, cnt, cs, g⟩ := h.g
  have m1 : rb ≠ p := nb.elim (fun e => by rw [e]; exact h.n1) fun n => (ne_of_none g.at_ n).symm
  have m2 : rb ≠ l := nb.elim (fun e => by rw [e]; exact h.n2) fun n => (ne_of_none g.lst n).symm
  refine ⟨⟨⟨seed, cnt, cs, u _ _ g.at_ x1.symm h.n1.symm, u _ _ g.lst x2.symm h.n2.symm, g.ne, g.s0, g.s1⟩, d, m1, m2⟩, fun a o e n => ⟨fun z => ?_, u a o e (fun z => n (.inr (.inr (.inl z)))) (fun z => n (.inr (.inr (.inr z))))⟩⟩
  rcases z with z | z | z | z
  · exact n (.inl z)
  · exact n (.inr (.inl z))
  · exact n (.inr (.inr (.inl z)))
  · rcases nb with e2 | e2
    · exact n (.inr (.inr (.inr (z.trans e2))))
    · rw [← z, e] at e2
      cases e2
theorem D3.tno {CD : Addr} {H : Hp} {p l x dx ra t : Addr} {bss : List (List Int)} {m : Nat} {xs : List V} (h : D3 CD H p l x dx ra bss m) (e : H t = some (.tup xs)) : ¬ Sx p l x ra t := by
  obtain ⟨seed, cnt, cs, g⟩ := h.g
  obtain ⟨vs, hv, _⟩ := h.d.rows
  rintro (z | z | z | z)
  · rw [z, g.at_] at e; cases e
  · rw [z, g.lst] at e; cases e
  · rw [z, h.d.at_] at e; cases e
  · rw [z, hv] at e; cases e
theorem thg_was {H H' : Hp} {v : V} {p l x ra : Addr} (h : Thg (Was H) H' v) (w1 : Was H p) (w2 : Was H l) (w3 : Was H x) (w4 : Was H ra) : Thg (Sx p l x ra) H' v := h.mv fun a o e n => ⟨fun z => n (by
  rcases z with rfl | rfl | rfl | rfl
  · exact w1
  · exact w2
  · exact w3
  · exact w4), e⟩
theorem pa_eq {K : PySem.W.Frag} {H : Hp} {a b : Addr} (ha : H a = some (.lst [.str "parcel", .str "parcel"])) (hb : H b = some (.lst [.str "parcel", .str "parcel"])) {Q : VK} (k : Q (.bl false) H) : rNeD K (.ref a) (.ref b) H Q := by
  refine ⟨.list [.str "parcel", .str "parcel"], .list [.str "parcel", .str "parcel"], .lst (SqL.of ha) (.cons (.str _) (.cons (.str _) .nil)), .lst (SqL.of hb) (.cons (.str _) (.cons (.str _) .nil)), by decide +kernel, by decide +kernel, ?_⟩
  have e : PyData.eqv (.list [.str "parcel", .str "parcel"]) (.list [.str "parcel", .str "parcel"]) = true := by decide +kernel
  rw [e]
  exact k
section
variable {P : Program} {w : World} {K : PySem.W.Frag} {mg : Str → Option Value} {base : Heap} {CE : Addr}
theorem scSnd : FnScope ["script", "pool", "turn", "disk", "block", "thing", "which", "blocks", "synced", "none"] ["script"] (defScope sSnd) := ⟨rfl, rfl, rfl, by decide +kernel, rfl, by decide +kernel, by decide +kernel⟩
end
end Q

namespace L2
open PySem PySem.Spec PyProof.Rows
/-! o.m(e) within a try: what is raised, by the slots -/
def tMethW (C : Addr) (m : Str) (sp : Sp) (E : List (Option V) → XK) (ta : TE) (t : TA) : TE := fun σ H Q => ta σ H fun x H1 => ∃ a dx fs, x = .ref a ∧ H1 a = some (.ins C dx fs) ∧ fs.lookup m = none ∧ t σ H1 fun xs H2 => sp (x :: xs) H2 Q (E σ)
theorem pe_methW {X : Cx} {CX : CXT} {k : Nat} {C g : Addr} {gd : FuncData} {ps : List Str} {sp : Sp} {m : Str} {o e : Expr} {es : List Expr} {ta : TE} {t : TA} {apos cpos : Pos} {E : List (Option V) → XK} {pl : Sem Bool} (ho : PE X o ta) (cc : Cls X.K C) (hm : Meth X.K C m g) (G : FnOk X.prog X.w X.K X.mg X.base CX k g gd ps sp) (room : Room k X.A) (bd : Binds X.K gd ps []) (px : ∀ σ, PassesAt CX X σ (E σ)) (hs : PA X (e :: es) t)
    (h1 : starEach (e :: es) X.env = (false, eval e X.env) :: starEach es X.env := by rfl) (h2 : (backTo cpos (starEach es X.env)).any (·.1) = false := by rfl)
    (h3 : eval (.Call (.Attribute o m apos) (e :: es) [] cpos) X.env = (do
      let rv ← eval o X.env
      standAt apos.atName
      let (gf, fst) ← holding [rv] (getMethod rv m pl)
      callWith cpos gf fst (backTo cpos (starEach (e :: es) X.env)) (backToKw cpos (keywordEach [] X.env))) := by rfl) :
    PE X (.Call (.Attribute o m apos) (e :: es) [] cpos) (tMethW C m sp E ta t) := by
  refine ⟨fun pins s σ H Q I want => PySem.W.methodCall_KW (pl := pl) (thn (ho.run pins s σ H _ I want) fun u s1 ⟨x, H1, I1, rx, a, dx, fs, ex, ea, l, q⟩ => ?_) h3⟩
  subst ex
  cases rx
  refine getmeth_ok I1 ea cc hm l ?_
  refine PySem.W.callWith_K (first := [.ref a]) (h₀ := X.base) I.ok.mod.kin hm.kp (thn (hs.run cpos pins s1 σ H1 _ I1 q) fun us s2 ⟨xs, H2, I2, rs, q2⟩ => ⟨I2.kIn, ?_⟩) h1 h2
  exact run_fnS (us := .ref a :: us) (vs := .ref a :: xs) G room bd (px σ) I2 (.cons rfl rs) q2
end L2
namespace Q
open PySem L2 QR
abbrev sSameG : Stmt := top 23
abbrev sOddL : Stmt := top 32
theorem op_alt {X : Cx} {f : Value → Value → Sem Value} {r1 r2 : R2} (h1 : OpR X f r1) (h2 : OpR X f r2) : OpR X f (fun x y H Q => r1 x y H Q ∨ r2 x y H Q) := by
  intro pins s σ H x y v u Q I rx ry h
  exact h.elim (h1 pins s σ H x y v u Q I rx ry) (h2 pins s σ H x y v u Q I rx ry)
/-- alike, of nesting below n -/
def Sm (H : Hp) : Nat → V → V → Prop
  | 0 => fun _ _ => False
  | n + 1 => fun u v => (Sc u ∧ u = v) ∨ (∃ z : Str, u = .str z ∧ v = .str z) ∨
      ∃ (a b : Addr) (xs ys : List V), u = .ref a ∧ v = .ref b ∧ ((H a = some (.tup xs) ∧ H b = some (.tup ys)) ∨ (H a = some (.lst xs) ∧ H b = some (.lst ys))) ∧ xs.length = ys.length ∧ ∀ (i : Nat) (x y : V), xs[i]? = some x → ys[i]? = some y → Sm H n x y
theorem Sm.same {H H' : Hp} (s : Same H H') : ∀ {n : Nat} {u v : V}, Sm H n u v → Sm H' n u v
  | 0, _, _, h => h.elim
  | n + 1, u, v, h => by
    rcases h with h | h | ⟨a, b, xs, ys, e1, e2, h1, hl, k⟩
    · exact .inl h
    · exact .inr (.inl h)
    · exact .inr (.inr ⟨a, b, xs, ys, e1, e2, h1.elim (fun h => .inl ⟨s _ _ h.1, s _ _ h.2⟩) (fun h => .inr ⟨s _ _ h.1, s _ _ h.2⟩), hl, fun i x y hx hy => (k i x y hx hy).same s⟩)
theorem sm_sc {H : Hp} {n : Nat} {u : V} (h : Sc u) : Sm H (n + 1) u u := .inl ⟨h, rfl⟩
theorem sm_i {H : Hp} {n : Nat} (i : Int) : Sm H (n + 1) (.int i) (.int i) := sm_sc (.inr (.inr ⟨i, rfl⟩))
theorem sm_s {H : Hp} {n : Nat} (z : Str) : Sm H (n + 1) (.str z) (.str z) := .inr (.inl ⟨z, rfl, rfl⟩)
/-- side by side -/
def Sms (H : Hp) (n : Nat) : List V → List V → Prop
  | [], [] => True
  | x :: xs, y :: ys => Sm H n x y ∧ Sms H n xs ys
  | _, _ => False
theorem Sms.len {H : Hp} {n : Nat} : ∀ {xs ys : List V}, Sms H n xs ys → xs.length = ys.length
  | [], [], _ => rfl
  | x :: xs, y :: ys, h => by rw [List.length_cons, List.length_cons, Sms.len h.2]
  | [], _ :: _, h => h.elim
  | _ :: _, [], h => h.elim
theorem Sms.at {H : Hp} {n : Nat} : ∀ {xs ys : List V}, Sms H n xs ys → ∀ (i : Nat) (x y : V), xs[i]? = some x → ys[i]? = some y → Sm H n x y
  | [], [], _, i, x, y, hx, _ => by simp at hx
  | a :: xs, b :: ys, h, 0, x, y, hx, hy => by
    cases hx
    cases hy
    exact h.1
  | a :: xs, b :: ys, h, i + 1, x, y, hx, hy => Sms.at h.2 i x y hx hy
  | [], _ :: _, h, _, _, _, _, _ => h.elim
  | _ :: _, [], h, _, _, _, _, _ => h.elim
theorem sm_tup {H : Hp} {n : Nat} {a b : Addr} {xs ys : List V} (ha : H a = some (.tup xs)) (hb : H b = some (.tup ys)) (h : Sms H n xs ys) : Sm H (n + 1) (.ref a) (.ref b) := .inr (.inr ⟨a, b, xs, ys, rfl, rfl, .inl ⟨ha, hb⟩, h.len, h.at⟩)
theorem sm_lst {H : Hp} {n : Nat} {a b : Addr} {xs ys : List V} (ha : H a = some (.lst xs)) (hb : H b = some (.lst ys)) (h : Sms H n xs ys) : Sm H (n + 1) (.ref a) (.ref b) := .inr (.inr ⟨a, b, xs, ys, rfl, rfl, .inr ⟨ha, hb⟩, h.len, h.at⟩)
def spSameG (n : Nat) : Sp := fun vs H Q _ => ∃ u v : V, vs = [u, v] ∧ Sm H n u v ∧ ∀ H', Same H H' → Q (.bl true) H'
/-- all but the hand's list -/
def XtP (p : Addr) (H H' : Hp) : Prop := ∀ b o, H b = some o → b ≠ p → H' b = some o
theorem XtP.but {p : Addr} {H H1 H2 : Hp} (h : XtP p H H1) (b : But p H1 H2) : XtP p H H2 := fun c o e n => by rw [b c n]; exact h c o e n
theorem XtP.st {p : Addr} {H H1 H2 : Hp} (h : XtP p H H1) (s : Same H1 H2) : XtP p H H2 := fun c o e n => s c o (h c o e n)
def spOddL : Sp := fun vs H Q _ => ∃ (p l : Addr), vs = [.ref p] ∧ HandAt H p l ∧ ∀ v H', HandAt H' p l → XtP p H H' → Thg (Was H) H' v → Q v H'
def spPickL : Sp := fun vs H Q _ => ∃ (p l t : Addr) (xs : List V), vs = [.ref p, .ref t] ∧ HandAt H p l ∧ H t = some (.lst xs) ∧ t ≠ p ∧ 0 < xs.length ∧ xs.length < 1000 ∧
  ∀ (v : V) (H' : Hp), v ∈ xs → HandAt H' p l → But p H H' → Q v H'
theorem HandAt.same {H H' : Hp} {p l : Addr} (h : HandAt H p l) (s : Same H H') : HandAt H' p l := by
  obtain ⟨ns, i, r, t, c, x⟩ := h
  exact ⟨ns, i, r, t, c, s _ _ x.at_, s _ _ x.lst, x.len, x.r0, x.s0, x.s1⟩
section
variable {P : Program} {w : World} {K : PySem.W.Frag} {mg : Str → Option Value} {base : Heap}
theorem op_isB {X : Cx} : OpR X (compareOp .Is) (fun x y H Q => ((∃ i : Int, x = .int i) ∨ (∃ z : Str, x = .str z) ∨ ∃ a : Addr, x = .ref a) ∧ (∃ b : Bool, y = .bl b ∧ Q (.bl false) H) ∨ ∃ a b, x = .bl a ∧ y = .bl b ∧ Q (.bl (decide (a = b))) H) := op_alt op_is_xb op_is_bl
theorem scSameG : FnScope ["actual", "due", "one", "other"] ["actual", "due"] (defScope sSameG) := ⟨rfl, rfl, rfl, by decide +kernel, rfl, by decide +kernel, by decide +kernel⟩
theorem ok_sameG {f fI : Addr} {fd fdI : FuncData} (D : Df K mg "_law_same" sSameG ["actual", "due"] f fd) (B : Bts mg) (DI : Df K mg "_law_is_integer" sLInt ["thing"] fI fdI) : ∀ n, FnOk P w K mg base CX0 (n + 1) f fd ["actual", "due"] (spSameG n)
  | 0 => by
    refine D.F.ok scSameG (fun vs H Q E h => ?_) (fun cdv A outer s H vs Q E hr h => ?_)
    · obtain ⟨u, v, rfl, _⟩ := h
      rfl
    · obtain ⟨u, v, rfl, h, _⟩ := h
      exact h.elim
  | n + 1 => by
    have IH := ok_sameG D B DI n
    have GI : FnOk P w K mg base CX0 1 fI fdI ["thing"] spInt2 := ok_lint DI B
    refine D.F.ok scSameG (fun vs H Q E h => ?_) (fun cdv A outer s H vs Q E hr h => ?_)
    · obtain ⟨u, v, rfl, _⟩ := h
      rfl
    · obtain ⟨u, v, rfl, h, k⟩ := h
      have nd := scSameG.nd
      have hr1 : Room 1 _ := hr.mono (by omega)
      have hrn : Room (n + 1) _ := hr.mono (by omega)
      refine ⟨_, pss_cons (ps_if (pt_cmp (pc_isN (pv 1))) (pss_one (ps_ret (pe_cmp (pc_isN (pv 0)) rfl))) pss_nil)
        (pss_cons (ps_if (pt_cmpR op_isB (pv 1) pe_bl (nomark _)) (pss_one (ps_ret (pe_cmpR op_isB (pv 0) pe_bl (nomark _)))) pss_nil)
        (pss_cons (ps_if (pt_cmpR op_isB (pv 1) pe_bl (nomark _)) (pss_one (ps_ret (pe_cmpR op_isB (pv 0) pe_bl (nomark _)))) pss_nil)
        (pss_cons (ps_if (pt_val (pe_callB call_isi (by rfl) B.isinstance PyProof.Rows.boot_isinstance (pa_cons (pv 1) (pa_cons (pe_bltn (v := .ty "int") rfl B.int PyProof.Rows.boot_int rfl) pa_nil))))
          (pss_one (ps_ret (pe_and (pe_call GI hr1 rfl DI.m DI.k DI.b .nil pass0 (pa_cons (pv 0) pa_nil)) (pe_one (pe_cmpR op_eq (pv 0) (pv 1) (nomark _)))))) pss_nil)
        (pss_cons (ps_if (pt_val (pe_callB call_isi (by rfl) B.isinstance PyProof.Rows.boot_isinstance (pa_cons (pv 1) (pa_cons (pe_bltn (v := .ty "str") rfl B.str PyProof.Rows.boot_str rfl) pa_nil))))
          (pss_one (ps_ret (pe_and (pe_callB call_isi (by rfl) B.isinstance PyProof.Rows.boot_isinstance (pa_cons (pv 0) (pa_cons (pe_bltn (v := .ty "str") rfl B.str PyProof.Rows.boot_str rfl) pa_nil))) (pe_one (pe_cmpR op_eq (pv 0) (pv 1) (nomark _)))))) pss_nil)
        (pss_cons (ps_if (PW.pt (pw_or (pt_cmpR op_ne (pe_callB call_isi (by rfl) B.isinstance PyProof.Rows.boot_isinstance (pa_cons (pv 1) (pa_cons (pe_bltn (v := .ty "tuple") rfl B.tuple PyProof.Rows.boot_tuple rfl) pa_nil))) (pe_callB call_isi (by rfl) B.isinstance PyProof.Rows.boot_isinstance (pa_cons (pv 0) (pa_cons (pe_bltn (v := .ty "tuple") rfl B.tuple PyProof.Rows.boot_tuple rfl) pa_nil))) (nomark _))
          (pw_or1 (pt_cmpR op_ne (pe_callB call_isi (by rfl) B.isinstance PyProof.Rows.boot_isinstance (pa_cons (pv 1) (pa_cons (pe_bltn (v := .ty "list") rfl B.list PyProof.Rows.boot_list rfl) pa_nil))) (pe_callB call_isi (by rfl) B.isinstance PyProof.Rows.boot_isinstance (pa_cons (pv 0) (pa_cons (pe_bltn (v := .ty "list") rfl B.list PyProof.Rows.boot_list rfl) pa_nil))) (nomark _))))) pss_never pss_nil)
        (pss_cons (ps_if (pt_cmpR op_ne (pe_callB call_len_seq (by rfl) B.len PySem.boot_len (pa_cons (pv 0) pa_nil)) (pe_callB call_len_seq (by rfl) B.len PySem.boot_len (pa_cons (pv 1) pa_nil)) (nomark _)) pss_never pss_nil)
        (pss_cons (ps_for PassesOwn.never rfl (RZ.pi_zipA rfl B.zip (pa_cons (pv 0) (pa_cons (pv 1) pa_nil))) (pg_tup rfl (pgs_cons (pg_name (i := 2) nd rfl (.inl rfl)) (pgs_cons (pg_name (i := 3) nd rfl (.inl rfl)) pgs_nil)))
          (pss_one (ps_if (pt_not (pt_val (pe_call IH hrn rfl D.m D.k D.b .nil pass0 (pa_cons (pv 2) (pa_cons (pv 3) pa_nil))))) pss_never pss_nil)))
        (pss_one (ps_ret pe_bl))))))))), ?_⟩
      rcases h with ⟨(rfl | ⟨b, rfl⟩ | ⟨i, rfl⟩), rfl⟩ | ⟨z, rfl, rfl⟩ | ⟨a, b, xs, ys, rfl, rfl, hab, hl, hk⟩
      · refine ⟨_, rfl, _, rfl, iteT ?_⟩
        exact ⟨_, rfl, k _ sR⟩
      · refine ⟨_, rfl, _, rfl, iteF ?_⟩
        refine ⟨_, rfl, .inr ⟨b, true, rfl, rfl, _, rfl, ?_⟩⟩
        cases b with
        | true => exact iteT ⟨_, rfl, .inr ⟨true, true, rfl, rfl, k _ sR⟩⟩
        | false =>
          refine iteF ⟨_, rfl, .inr ⟨false, false, rfl, rfl, _, rfl, iteT ?_⟩⟩
          exact ⟨_, rfl, .inr ⟨false, false, rfl, rfl, k _ sR⟩⟩
      · refine ⟨_, rfl, _, rfl, iteF ?_⟩
        refine ⟨_, rfl, .inl ⟨.inl ⟨i, rfl⟩, true, rfl, _, rfl, iteF ?_⟩⟩
        refine ⟨_, rfl, .inl ⟨.inl ⟨i, rfl⟩, false, rfl, _, rfl, iteF ?_⟩⟩
        refine ⟨_, rfl, .int i, .ty "int", .type "int", .type "int", true, rfl, .ty _, .base (.int _), kInt_int, _, rfl, iteT ?_⟩
        refine ⟨_, rfl, (fun _ => False), .int i, rfl, .inl (.inr (.inr ⟨i, rfl⟩)), _, rfl, iteT ?_⟩
        refine ⟨_, rfl, _, rfl, rfl, ?_⟩
        rw [decide_eq_true rfl]
        exact k _ sR
      · refine ⟨_, rfl, _, rfl, iteF ?_⟩
        refine ⟨_, rfl, .inl ⟨.inr (.inl ⟨z, rfl⟩), true, rfl, _, rfl, iteF ?_⟩⟩
        refine ⟨_, rfl, .inl ⟨.inr (.inl ⟨z, rfl⟩), false, rfl, _, rfl, iteF ?_⟩⟩
        refine ⟨_, rfl, .str z, .ty "int", .type "str", .type "int", false, rfl, .ty _, .base (.str _), kit_ty (by decide +kernel), _, rfl, iteF ?_⟩
        refine ⟨_, rfl, .str z, .ty "str", .type "str", .type "str", true, rfl, .ty _, .base (.str _), kit_ty (by decide +kernel), _, rfl, iteT ?_⟩
        refine ⟨_, rfl, .str z, .ty "str", .type "str", .type "str", true, rfl, .ty _, .base (.str _), kit_ty (by decide +kernel), _, rfl, iteT ?_⟩
        refine ⟨_, rfl, _, rfl, rfl, ?_⟩
        rw [decide_eq_true rfl]
        exact k _ sR
      · refine ⟨_, rfl, _, rfl, iteF ?_⟩
        refine ⟨_, rfl, .inl ⟨.inr (.inr ⟨b, rfl⟩), true, rfl, _, rfl, iteF ?_⟩⟩
        refine ⟨_, rfl, .inl ⟨.inr (.inr ⟨b, rfl⟩), false, rfl, _, rfl, iteF ?_⟩⟩
        rcases hab with ⟨ha, hb⟩ | ⟨ha, hb⟩
        · refine ⟨_, rfl, .ref b, .ty "int", .type "tuple", .type "int", false, rfl, .ty _, .base (.tup hb), kit_ty (by decide +kernel), _, rfl, iteF ?_⟩
          refine ⟨_, rfl, .ref b, .ty "str", .type "tuple", .type "str", false, rfl, .ty _, .base (.tup hb), kit_ty (by decide +kernel), _, rfl, iteF ?_⟩
          refine ⟨_, rfl, .ref b, .ty "tuple", .type "tuple", .type "tuple", true, rfl, .ty _, .base (.tup hb), kit_ty (by decide +kernel), _, rfl, .ref a, .ty "tuple", .type "tuple", .type "tuple", true, rfl, .ty _, .base (.tup ha), kit_ty (by decide +kernel), rfl, _, rfl, iteF ?_⟩
          refine ⟨_, rfl, .ref b, .ty "list", .type "tuple", .type "list", false, rfl, .ty _, .base (.tup hb), kit_ty (by decide +kernel), _, rfl, .ref a, .ty "list", .type "tuple", .type "list", false, rfl, .ty _, .base (.tup ha), kit_ty (by decide +kernel), rfl, _, rfl, iteF ?_⟩
          refine ⟨_, rfl, a, xs, rfl, .inr (SqT.of ha), _, rfl, b, ys, rfl, .inr (SqT.of hb), rfl, _, rfl, ?_⟩
          rw [hl, decide_eq_true rfl]
          refine iteF ⟨_, rfl, _, rfl, a, b, xs, ys, rfl, .inr ⟨SqT.of ha, SqT.of hb, RZ.for_zipT hl (fun i σ H' => ∃ x2 x3, σ = [some (.ref a), some (.ref b), x2, x3] ∧ Same H H') ⟨none, none, rfl, sR⟩ ?_ ?_ ?_⟩⟩
          · rintro i σ H' ⟨x2, x3, rfl, s1⟩
            exact ⟨SqT.of (s1 _ _ ha), SqT.of (s1 _ _ hb)⟩
          · rintro i x y T σ H' hx hy ⟨x2, x3, rfl, s1⟩ hT
            have s2 : Same H (upd H' T (.tup [x, y])) := sT s1 (sN hT)
            refine ⟨T, _, rfl, SqT.of upd_same, rfl, _, _, rfl, _, _, rfl, rfl, ?_⟩
            refine ⟨_, rfl, _, rfl, x, y, rfl, (hk i x y hx hy).same s2, fun H2 s3 => ⟨_, rfl, iteF ?_⟩⟩
            exact ⟨_, _, rfl, sT s2 s3⟩
          · rintro σ H' ⟨x2, x3, rfl, s1⟩
            exact k _ s1
        · refine ⟨_, rfl, .ref b, .ty "int", .type "list", .type "int", false, rfl, .ty _, .base (.lst hb), kit_ty (by decide +kernel), _, rfl, iteF ?_⟩
          refine ⟨_, rfl, .ref b, .ty "str", .type "list", .type "str", false, rfl, .ty _, .base (.lst hb), kit_ty (by decide +kernel), _, rfl, iteF ?_⟩
          refine ⟨_, rfl, .ref b, .ty "tuple", .type "list", .type "tuple", false, rfl, .ty _, .base (.lst hb), kit_ty (by decide +kernel), _, rfl, .ref a, .ty "tuple", .type "list", .type "tuple", false, rfl, .ty _, .base (.lst ha), kit_ty (by decide +kernel), rfl, _, rfl, iteF ?_⟩
          refine ⟨_, rfl, .ref b, .ty "list", .type "list", .type "list", true, rfl, .ty _, .base (.lst hb), kit_ty (by decide +kernel), _, rfl, .ref a, .ty "list", .type "list", .type "list", true, rfl, .ty _, .base (.lst ha), kit_ty (by decide +kernel), rfl, _, rfl, iteF ?_⟩
          refine ⟨_, rfl, a, xs, rfl, .inl (SqL.of ha), _, rfl, b, ys, rfl, .inl (SqL.of hb), rfl, _, rfl, ?_⟩
          rw [hl, decide_eq_true rfl]
          refine iteF ⟨_, rfl, _, rfl, a, b, xs, ys, rfl, .inl ⟨SqL.of ha, SqL.of hb, RZ.for_zipL hl (fun i σ H' => ∃ x2 x3, σ = [some (.ref a), some (.ref b), x2, x3] ∧ Same H H') ⟨none, none, rfl, sR⟩ ?_ ?_ ?_⟩⟩
          · rintro i σ H' ⟨x2, x3, rfl, s1⟩
            exact ⟨SqL.of (s1 _ _ ha), SqL.of (s1 _ _ hb)⟩
          · rintro i x y T σ H' hx hy ⟨x2, x3, rfl, s1⟩ hT
            have s2 : Same H (upd H' T (.tup [x, y])) := sT s1 (sN hT)
            refine ⟨T, _, rfl, SqT.of upd_same, rfl, _, _, rfl, _, _, rfl, rfl, ?_⟩
            refine ⟨_, rfl, _, rfl, x, y, rfl, (hk i x y hx hy).same s2, fun H2 s3 => ⟨_, rfl, iteF ?_⟩⟩
            exact ⟨_, _, rfl, sT s2 s3⟩
          · rintro σ H' ⟨x2, x3, rfl, s1⟩
            exact k _ s1
theorem scPick : FnScope ["hand", "things"] ["hand", "things"] (defScope sPick) := ⟨rfl, rfl, rfl, by decide +kernel, rfl, by decide +kernel, by decide +kernel⟩
theorem ok_pickL {f fT : Addr} {fd fdT : FuncData} (D : Df K mg "_law_pick" sPick ["hand", "things"] f fd) (B : Bts mg) (DT : Df K mg "_law_take" sTake ["hand", "many"] fT fdT) : FnOk P w K mg base CX0 2 f fd ["hand", "things"] spPickL := by
  have GT : FnOk P w K mg base CX0 1 fT fdT ["hand", "many"] spTake := ok_take DT.F B
  refine D.F.ok scPick (fun vs H Q E h => ?_) (fun cdv A outer s H vs Q E hr h => ?_)
  · obtain ⟨p, l, t, xs, rfl, _⟩ := h
    rfl
  · obtain ⟨p, l, t, xs, rfl, hh, ht, ntp, h0, h1, k⟩ := h
    refine ⟨_, pss_one (ps_ret (pe_ix ix_list (pv 1) (pe_call GT hr rfl DT.m DT.k DT.b .nil pass0 (pa_cons (pv 0) (pa_cons (pe_callB call_len_seq (by rfl) B.len PySem.boot_len (pa_cons (pv 1) pa_nil)) pa_nil))) (fun _ _ => rfl))), ?_⟩
    refine ⟨_, rfl, _, rfl, _, rfl, t, _, rfl, .inl (SqL.of ht), p, l, _, rfl, hh, by omega, by omega, fun d H' d0 d1 hh' hb => ?_⟩
    obtain ⟨v, hv, ev⟩ := at_in xs d0 d1
    exact ⟨t, xs, d, v, rfl, rfl, SqL.of (by rw [hb t ntp]; exact ht), ev, k _ _ hv hh' hb⟩
theorem scOddL : FnScope ["hand", "way"] ["hand"] (defScope sOddL) := ⟨rfl, rfl, rfl, by decide +kernel, rfl, by decide +kernel, by decide +kernel⟩
end
end Q

namespace Q
open PySem L2 QR
section
variable {P : Program} {w : World} {K : PySem.W.Frag} {mg : Str → Option Value} {base : Heap}
theorem ok_oddL {f fT : Addr} {fd dT : FuncData} (D : Df K mg "_law_odd" sOddL ["hand"] f fd) (B : Bts mg) (DT : Df K mg "_law_take" sTake ["hand", "many"] fT dT) : FnOk P w K mg base CX0 2 f fd ["hand"] spOddL := by
  have GT : FnOk P w K mg base CX0 1 fT dT ["hand", "many"] spTake := ok_take DT.F B
  refine D.F.ok scOddL (fun vs H Q E h => ?_) (fun cdv A outer s H vs Q E hr h => ?_)
  · obtain ⟨p, l, rfl, _⟩ := h
    rfl
  · obtain ⟨p, l, rfl, g, k⟩ := h
    have nd := scOddL.nd
    refine ⟨_, pss_cons (ps_set (i := 1) nd rfl (.inl rfl) (pe_call GT hr rfl DT.m DT.k DT.b .nil pass0 (pa_cons (pv 0) (pa_cons pe_int pa_nil))))
      (pss_cons (ps_if (pt_cmpR op_lt (pv 1) pe_int (nomark _)) (pss_one (ps_ret (pe_ix ix_list (pe_lst (pa_cons pe_non (pa_cons pe_bl (pa_cons pe_bl (pa_cons pe_str (pa_cons pe_str (pa_cons pe_str pa_nil))))))) (pv 1) (fun _ _ => rfl)))) pss_nil)
      (pss_cons (ps_if (pt_cmpR op_lt (pv 1) pe_int (nomark _)) (pss_one (ps_ret (pe_ix ix_list (pe_lst (pa_cons (pe_tup pa_nil) (pa_cons (pe_lst pa_nil) (pa_cons pe_dnewK (pa_cons (pe_tup (pa_cons pe_int pa_nil)) (pa_cons (pe_lst (pa_cons pe_int (pa_cons pe_int pa_nil))) (pa_cons (pe_tup (pa_cons (pe_tup pa_nil) pa_nil)) pa_nil))))))) (pe_op op_sub (pv 1) pe_int) (fun _ _ => rfl)))) pss_nil)
      (pss_one (ps_ret (pe_ix ix_list (pe_lst (pa_cons (pe_un un_neg pe_int) (pa_cons pe_int (pa_cons (pe_op op_sub (pe_op op_pow pe_int pe_int) pe_int) (pa_cons (pe_tup (pa_cons pe_int (pa_cons pe_int pa_nil))) (pa_cons (pe_tup (pa_cons pe_bl (pa_cons pe_int pa_nil))) (pa_cons (pe_tup (pa_cons pe_int (pa_cons pe_int (pa_cons pe_int pa_nil)))) pa_nil))))))) (pe_op op_sub (pv 1) pe_int) (fun _ _ => rfl)))))), ?_⟩
    have it : ∀ {S : Addr → Prop} {H : Hp} {xs : List V}, (∀ x ∈ xs, Sc x ∨ ∃ z, x = .str z) → ∀ x ∈ xs, KnA S H x ∧ ∀ b ys, x = .ref b → H b = some (.tup ys) → ys = [] := fun h x hx => sc_it (h x hx)
    refine ⟨_, rfl, p, l, 18, rfl, g, by decide, by decide, fun way H0 w0 w1 g0 b0 => ?_⟩
    have W0 : ∀ {a : Addr} {H1 : Hp}, Same H0 H1 → H1 a = none → ¬ Was H a := fun {a H1} s n z => by
      have n0 := sNo s n
      by_cases e : a = p
      · obtain ⟨ns, i, r, t, c, x⟩ := g0
        rw [e, x.at_] at n0
        cases n0
      · rw [b0 a e] at n0
        exact z n0
    have X0 : XtP p H H0 := fun b o e n => by rw [b0 b n]; exact e
    refine ⟨_, rfl, _, _, rfl, rfl, _, rfl, ite2 (fun c => ?_) (fun c => ?_)⟩
    · have c : way < 6 := of_decide_eq_true c
      refine ⟨(by show 6 ≤ sizeLine; decide), fun m hm => ?_⟩
      obtain ⟨v, hv, ev⟩ := at_in ([.non, .bl true, .bl false, .str "", .str "do", .str "0"] : List V) w0 c
      have s1 := sN (o := .lst [.non, .bl true, .bl false, .str "", .str "do", .str "0"]) hm
      refine ⟨_, rfl, m, _, way, v, rfl, rfl, SqL.of upd_same, ev, k v _ (g0.same s1) (X0.st s1) ?_⟩
      simp only [List.mem_cons, List.not_mem_nil, or_false] at hv
      rcases hv with rfl | rfl | rfl | rfl | rfl | rfl
      · exact thg_sc (.inl rfl)
      · exact thg_sc (.inr (.inl ⟨_, rfl⟩))
      · exact thg_sc (.inr (.inl ⟨_, rfl⟩))
      all_goals exact thg_str
    have c : ¬ way < 6 := fun z => c (decide_eq_true z)
    refine ⟨_, rfl, _, _, rfl, rfl, _, rfl, ite2 (fun c2 => ?_) (fun c2 => ?_)⟩
    · have c2 : way < 12 := of_decide_eq_true c2
      refine ⟨Nat.zero_le _, fun a1 n1 => ?_⟩
      have S1 := sN (o := .tup []) n1
      have T1 : Thgs (Was H) (upd H0 a1 (.tup [])) [.ref a1] := .cons (thg_tup (W0 sR n1) upd_same (by decide) (fun x hx => by simp at hx)) .nil
      revert S1 T1
      generalize upd H0 a1 (.tup []) = H1
      intro S1 T1
      refine ⟨Nat.zero_le _, fun a2 n2 => ?_⟩
      have S2 := sT S1 (sN (o := .lst []) n2)
      have T2 := (T1.same (sN (o := .lst []) n2)).cons (thg_lst (W0 S1 n2) upd_same (by decide) (fun x hx => by simp at hx))
      clear T1
      revert S2 T2
      generalize upd H1 a2 (.lst []) = H2
      intro S2 T2
      clear S1 n2
      refine fun a3 n3 => ?_
      have S3 := sT S2 (sN (o := .dK []) n3)
      have T3 := (T2.same (sN (o := .dK []) n3)).cons (thg_dct (W0 S2 n3) upd_same)
      clear T2
      revert S3 T3
      generalize upd H2 a3 (.dK []) = H3
      intro S3 T3
      clear S2 n3
      refine ⟨(by show 1 ≤ sizeLine; decide), fun a4 n4 => ?_⟩
      have S4 := sT S3 (sN (o := .tup [.int 0]) n4)
      have T4 := (T3.same (sN (o := .tup [.int 0]) n4)).cons (thg_tup (W0 S3 n4) upd_same (by show 1 ≤ 9; decide) (it fun x hx => by rw [List.mem_singleton.mp hx]; exact .inl (.inr (.inr ⟨_, rfl⟩))))
      clear T3
      revert S4 T4
      generalize upd H3 a4 (.tup [.int 0]) = H4
      intro S4 T4
      clear S3 n4
      refine ⟨(by show 2 ≤ sizeLine; decide), fun a5 n5 => ?_⟩
      have S5 := sT S4 (sN (o := .lst [.int 0, .int 0]) n5)
      have T5 := (T4.same (sN (o := .lst [.int 0, .int 0]) n5)).cons (thg_lst (W0 S4 n5) upd_same (by show 2 ≤ 9; decide) (it fun x hx => by
        simp only [List.mem_cons, List.not_mem_nil, or_false] at hx
        rcases hx with rfl | rfl <;> exact .inl (.inr (.inr ⟨_, rfl⟩))))
      clear T4
      revert S5 T5
      generalize upd H4 a5 (.lst [.int 0, .int 0]) = H5
      intro S5 T5
      clear S4 n5
      refine ⟨Nat.zero_le _, fun a6 n6 => ?_⟩
      have S6 := sT S5 (sN (o := .tup []) n6)
      have T6 := T5.same (sN (o := .tup []) n6)
      have e6 : (upd H5 a6 (.tup [])) a6 = some (.tup []) := upd_same
      have w6 := W0 S5 n6
      clear T5
      revert S6 T6 e6
      generalize upd H5 a6 (.tup []) = H6
      intro S6 T6 e6
      clear S5 n6
      refine ⟨(by show 1 ≤ sizeLine; decide), fun a7 n7 => ?_⟩
      have S7 := sT S6 (sN (o := .tup [.ref a6]) n7)
      have e67 := sN (o := .tup [.ref a6]) n7 _ _ e6
      have T7 := (T6.same (sN (o := .tup [.ref a6]) n7)).cons (thg_tup (W0 S6 n7) upd_same (by show 1 ≤ 9; decide) (fun x hx => by
        rw [List.mem_singleton.mp hx]
        refine ⟨.inr (.inr ⟨a6, rfl, w6, .inr (.inl ⟨[], e67⟩)⟩), fun b ys e hb => ?_⟩
        cases e
        rw [e67] at hb
        cases hb
        rfl))
      clear T6 e67
      revert S7 T7
      generalize upd H6 a7 (.tup [.ref a6]) = H7
      intro S7 T7
      clear S6 n7 e6 w6
      refine ⟨(by show 6 ≤ sizeLine; decide), fun m hm => ?_⟩
      obtain ⟨v, hv, ev⟩ := at_in ([.ref a1, .ref a2, .ref a3, .ref a4, .ref a5, .ref a7] : List V) (d := way - 6) (by omega) (by show way - 6 < 6; omega)
      have s8 := sN (o := .lst [.ref a1, .ref a2, .ref a3, .ref a4, .ref a5, .ref a7]) hm
      refine ⟨_, rfl, _, _, rfl, rfl, m, _, way - 6, v, rfl, rfl, SqL.of upd_same, ev, k v _ (g0.same (sT S7 s8)) (X0.st (sT S7 s8)) (T7.same s8 v ?_)⟩
      simp only [List.mem_cons, List.not_mem_nil, or_false] at hv ⊢
      rcases hv with rfl | rfl | rfl | rfl | rfl | rfl <;> simp
    · have c2 : ¬ way < 12 := fun z => c2 (decide_eq_true z)
      refine ⟨_, rfl, _, _, rfl, rfl, ⟨by decide, by decide, by decide⟩, _, _, rfl, rfl, (by show 2 ≤ sizeLine; decide), fun a1 n1 => ?_⟩
      have S1 := sN (o := .tup [.int 0, .int 13]) n1
      have T1 : Thgs (Was H) (upd H0 a1 (.tup [.int 0, .int 13])) [.ref a1] := .cons (thg_tup (W0 sR n1) upd_same (by show 2 ≤ 9; decide) (it fun x hx => by
        simp only [List.mem_cons, List.not_mem_nil, or_false] at hx
        rcases hx with rfl | rfl <;> exact .inl (.inr (.inr ⟨_, rfl⟩)))) .nil
      revert S1 T1
      generalize upd H0 a1 (.tup [.int 0, .int 13]) = H1
      intro S1 T1
      refine ⟨(by show 2 ≤ sizeLine; decide), fun a2 n2 => ?_⟩
      have S2 := sT S1 (sN (o := .tup [.bl true, .int 0]) n2)
      have T2 := (T1.same (sN (o := .tup [.bl true, .int 0]) n2)).cons (thg_tup (W0 S1 n2) upd_same (by show 2 ≤ 9; decide) (it fun x hx => by
        simp only [List.mem_cons, List.not_mem_nil, or_false] at hx
        rcases hx with rfl | rfl
        · exact .inl (.inr (.inl ⟨_, rfl⟩))
        · exact .inl (.inr (.inr ⟨_, rfl⟩))))
      clear T1
      revert S2 T2
      generalize upd H1 a2 (.tup [.bl true, .int 0]) = H2
      intro S2 T2
      clear S1 n2
      refine ⟨(by show 3 ≤ sizeLine; decide), fun a3 n3 => ?_⟩
      have S3 := sT S2 (sN (o := .tup [.int 0, .int 0, .int 0]) n3)
      have T3 := (T2.same (sN (o := .tup [.int 0, .int 0, .int 0]) n3)).cons (thg_tup (W0 S2 n3) upd_same (by show 3 ≤ 9; decide) (it fun x hx => by
        simp only [List.mem_cons, List.not_mem_nil, or_false] at hx
        rcases hx with rfl | rfl | rfl <;> exact .inl (.inr (.inr ⟨_, rfl⟩))))
      clear T2
      revert S3 T3
      generalize upd H2 a3 (.tup [.int 0, .int 0, .int 0]) = H3
      intro S3 T3
      clear S2 n3
      refine ⟨(by show 6 ≤ sizeLine; decide), fun m hm => ?_⟩
      obtain ⟨v, hv, ev⟩ := at_in ([.int (-1), .int 13, .int (10 ^ (20 : Int).toNat - 1), .ref a1, .ref a2, .ref a3] : List V) (d := way - 12) (by omega) (by show way - 12 < 6; omega)
      have s8 := sN (o := .lst [.int (-1), .int 13, .int (10 ^ (20 : Int).toNat - 1), .ref a1, .ref a2, .ref a3]) hm
      refine ⟨_, rfl, _, _, rfl, rfl, m, _, way - 12, v, rfl, rfl, SqL.of upd_same, ev, k v _ (g0.same (sT S3 s8)) (X0.st (sT S3 s8)) ?_⟩
      have T8 := T3.same s8
      simp only [List.mem_cons, List.not_mem_nil, or_false] at hv
      rcases hv with rfl | rfl | rfl | rfl | rfl | rfl
      · exact thg_sc (.inr (.inr ⟨_, rfl⟩))
      · exact thg_sc (.inr (.inr ⟨_, rfl⟩))
      · exact thg_sc (.inr (.inr ⟨_, rfl⟩))
      all_goals exact T8 _ (by simp)
end
end Q

namespace Q
open PySem L2 QR
abbrev sOI : Stmt := inClass (top 10) 0
abbrev sOP : Stmt := inClass (top 10) 1
abbrev sOK : Stmt := inClass (top 10) 2
abbrev sOM : Stmt := inClass (top 10) 4
abbrev sOS : Stmt := inClass (top 10) 5
abbrev sNI : Stmt := inClass (top 11) 0
abbrev sNT : Stmt := inClass (top 11) 1
abbrev sNN : Stmt := inClass (top 11) 2
abbrev sNH : Stmt := inClass (top 11) 3
abbrev sNS : Stmt := inClass (top 11) 4
structure LCst (mg : Str → Option Value) : Prop where
  numbers : ∃ t, mg "NUMBERS" = some (.int 4294967296 t)
  held : ∃ t, mg "HELD_AHEAD" = some (.int 1000 t)
  max : mg "max" = none
  sorted : mg "sorted" = none
def oF (kt : Nat) (la : Addr) : List (Str × V) := [("_known_taken", .int (kt : Int)), ("_things", .ref la)]
def nF (t : Nat) (d : Addr) : List (Str × V) := [("_many_taken", .int (t : Int)), ("_kept", .ref d)]
theorem oF_k (kt k2 : Nat) (la : Addr) : putF "_known_taken" (.int (k2 : Int)) (oF kt la) = oF k2 la := by
  unfold oF putF
  rw [if_pos rfl]
theorem oF_t (kt : Nat) (la lb : Addr) : putF "_things" (.ref lb) (oF kt la) = oF kt lb := by
  unfold oF putF
  rw [if_neg (by decide +kernel)]
  unfold putF
  rw [if_pos rfl]
theorem nF_m (t t2 : Nat) (d : Addr) : putF "_many_taken" (.int (t2 : Int)) (nF t d) = nF t2 d := by
  unfold nF putF
  rw [if_pos rfl]
/-- the end at which things are put -/
structure OutX (CO : Addr) (H : Hp) (x dx la : Addr) (kt : Nat) (xs : List V) : Prop where
  at_ : H x = some (.ins CO dx (oF kt la))
  lst : H la = some (.lst xs)
  few : xs.length ≤ 9000
/-- the end at which things are taken -/
structure IncX (CN : Addr) (H : Hp) (x dx d : Addr) (t : Nat) (kvs : List (Key × V)) : Prop where
  at_ : H x = some (.ins CN dx (nF t d))
  dct : H d = some (.dK kvs)
  few : kvs.length ≤ 9000
theorem OutX.same {CO : Addr} {H H' : Hp} {x dx la : Addr} {kt : Nat} {xs : List V} (h : OutX CO H x dx la kt xs) (s : Same H H') : OutX CO H' x dx la kt xs := ⟨s _ _ h.at_, s _ _ h.lst, h.few⟩
theorem OutX.ne {CO : Addr} {H : Hp} {x dx la : Addr} {kt : Nat} {xs : List V} (h : OutX CO H x dx la kt xs) : x ≠ la := ne_of h.at_ h.lst (fun z => by cases z)
theorem IncX.same {CO : Addr} {H H' : Hp} {x dx d : Addr} {t : Nat} {kvs : List (Key × V)} (h : IncX CO H x dx d t kvs) (s : Same H H') : IncX CO H' x dx d t kvs := ⟨s _ _ h.at_, s _ _ h.dct, h.few⟩
theorem IncX.ne {CO : Addr} {H : Hp} {x dx d : Addr} {t : Nat} {kvs : List (Key × V)} (h : IncX CO H x dx d t kvs) : x ≠ d := ne_of h.at_ h.dct (fun z => by cases z)
/-- what is taken now, how many are taken then, what is held -/
def drain : Nat → Nat → List (Key × V) → List V × Nat × List (Key × V)
  | 0, t, kvs => ([], t, kvs)
  | n + 1, t, kvs => match valV kvs (.inl (t : Int)) with
    | none => ([], t, kvs)
    | some v => (v :: (drain n (t + 1) (dropK kvs (.inl (t : Int)))).1, (drain n (t + 1) (dropK kvs (.inl (t : Int)))).2)
theorem drop_lt {kvs : List (Key × V)} {k : Key} {v : V} (h : valV kvs k = some v) : (dropK kvs k).length < kvs.length := by
  unfold dropK
  induction kvs with
  | nil => cases h
  | cons p r ih =>
    by_cases e : p.1 = k
    · rw [List.filter_cons, if_neg (by simp [e])]
      exact Nat.lt_succ_of_le (List.length_filter_le _ _)
    · rw [List.filter_cons, if_pos (by simp [e])]
      rw [valV_neg e] at h
      exact Nat.succ_lt_succ (ih h)
theorem drain_fuel : ∀ (n m t : Nat) (kvs : List (Key × V)), kvs.length ≤ n → kvs.length ≤ m → drain n t kvs = drain m t kvs
  | 0, 0, t, kvs, _, _ => rfl
  | 0, m + 1, t, kvs, h, _ => by
    have : kvs = [] := List.eq_nil_of_length_eq_zero (by omega)
    subst this
    rfl
  | n + 1, 0, t, kvs, _, h => by
    have : kvs = [] := List.eq_nil_of_length_eq_zero (by omega)
    subst this
    rfl
  | n + 1, m + 1, t, kvs, h1, h2 => by
    unfold drain
    cases e : valV kvs (.inl (t : Int)) with
    | none => rfl
    | some v =>
      have l := drop_lt e
      rw [drain_fuel n m (t + 1) _ (by omega) (by omega)]
def drn (t : Nat) (kvs : List (Key × V)) : List V × Nat × List (Key × V) := drain kvs.length t kvs
theorem drn_none {t : Nat} {kvs : List (Key × V)} (h : valV kvs (.inl (t : Int)) = none) : drn t kvs = ([], t, kvs) := by
  unfold drn
  cases kvs with
  | nil => rfl
  | cons p r =>
    rw [List.length_cons]
    unfold drain
    rw [h]
theorem drn_some {t : Nat} {kvs : List (Key × V)} {v : V} (h : valV kvs (.inl (t : Int)) = some v) : drn t kvs = (v :: (drn (t + 1) (dropK kvs (.inl (t : Int)))).1, (drn (t + 1) (dropK kvs (.inl (t : Int)))).2) := by
  have l := drop_lt h
  unfold drn
  cases e : kvs.length with
  | zero => omega
  | succ n =>
    conv => lhs; unfold drain
    rw [h]
    show (v :: (drain n _ _).1, (drain n _ _).2) = _
    rw [drain_fuel n (dropK kvs (.inl (t : Int))).length (t + 1) _ (by omega) (Nat.le_refl _)]
/-- what is held behind hearing -/
def held1 (t i : Nat) (v : V) (kvs : List (Key × V)) : List (Key × V) := if t ≤ i ∧ i < t + 1000 ∧ (valV kvs (.inl (i : Int))).isSome = false then putK kvs (.inl (i : Int)) v else kvs
structure OTxt (K : PySem.W.Frag) (mg : Str → Option Value) (CO : Addr) : Prop where
  cl : Cls K CO
  nK : NoAttr K CO "_known_taken"
  nT : NoAttr K CO "_things"
  mgC : mg "Outgoing" = some (.ref CO)
structure NTxt (K : PySem.W.Frag) (mg : Str → Option Value) (CN : Addr) : Prop where
  cl : Cls K CN
  nM : NoAttr K CN "_many_taken"
  nK : NoAttr K CN "_kept"
  mgC : mg "Incoming" = some (.ref CN)
structure ODefs (K : PySem.W.Frag) (CO : Addr) where
  fI : Addr
  dI : FuncData
  FI : Fun K "__init__" "Outgoing.__init__" sOI fI dI
  bI : Binds K dI ["self"] []
  mM : Mk K CO fI
  fP : Addr
  dP : FuncData
  FP : Fun K "put" "Outgoing.put" sOP fP dP
  bP : Binds K dP ["self", "thing"] []
  mP : Meth K CO "put" fP
  fK : Addr
  dK : FuncData
  FK : Fun K "known" "Outgoing.known" sOK fK dK
  bK : Binds K dK ["self", "number"] []
  mK : Meth K CO "known" fK
  fM : Addr
  dM : FuncData
  FM : Fun K "many_put" "Outgoing.many_put" sOM fM dM
  bM : Binds K dM ["self"] []
  mP2 : Meth K CO "many_put" fM
  fS : Addr
  dS : FuncData
  FS : Fun K "state" "Outgoing.state" sOS fS dS
  bS : Binds K dS ["self"] []
  mS : Meth K CO "state" fS
structure NDefs (K : PySem.W.Frag) (CN : Addr) where
  fI : Addr
  dI : FuncData
  FI : Fun K "__init__" "Incoming.__init__" sNI fI dI
  bI : Binds K dI ["self"] []
  mM : Mk K CN fI
  fT : Addr
  dT : FuncData
  FT : Fun K "take" "Incoming.take" sNT fT dT
  bT : Binds K dT ["self", "number", "thing"] []
  mT : Meth K CN "take" fT
  fN : Addr
  dN : FuncData
  FN : Fun K "taken" "Incoming.taken" sNN fN dN
  bN : Binds K dN ["self"] []
  mN : Meth K CN "taken" fN
  fH : Addr
  dH : FuncData
  FH : Fun K "held" "Incoming.held" sNH fH dH
  bH : Binds K dH ["self"] []
  mH : Meth K CN "held" fH
  fS : Addr
  dS : FuncData
  FS : Fun K "state" "Incoming.state" sNS fS dS
  bS : Binds K dS ["self"] []
  mS : Meth K CN "state" fS
def spOI (CO : Addr) : Sp := fun vs H Q _ => ∃ (x dx : Addr), vs = [.ref x] ∧ H x = some (.ins CO dx []) ∧ ∀ la H', H la = none → la ≠ x → Bu x H H' → OutX CO H' x dx la 0 [] → Q .non H'
def spOP (CO : Addr) : Sp := fun vs H Q _ => ∃ (x dx la : Addr) (kt : Nat) (xs : List V) (v : V), vs = [.ref x, v] ∧ OutX CO H x dx la kt xs ∧ xs.length < 9000 ∧ ∀ H', Bu la H H' → OutX CO H' x dx la kt (xs ++ [v]) → Q (.int ((kt + xs.length : Nat) : Int)) H'
def spOM (CO : Addr) : Sp := fun vs H Q _ => ∃ (x dx la : Addr) (kt : Nat) (xs : List V), vs = [.ref x] ∧ OutX CO H x dx la kt xs ∧ Q (.int ((kt + xs.length : Nat) : Int)) H
def spOS (CO : Addr) : Sp := fun vs H Q _ => ∃ (x dx la : Addr) (kt : Nat) (xs : List V), vs = [.ref x] ∧ OutX CO H x dx la kt xs ∧ ∀ t u H', Same H H' → H' t = some (.tup [.int (kt : Int), .ref u]) → H' u = some (.tup xs) → Q (.ref t) H'
def spOK (CO CX : Addr) : Sp := fun vs H Q E => ∃ (S : Addr → Prop) (x dx la : Addr) (kt : Nat) (xs : List V) (v : V), vs = [.ref x, v] ∧ OutX CO H x dx la kt xs ∧ KnA S H v ∧
  (∀ i : Nat, v = .int (i : Int) → i ≤ kt + xs.length → ∀ lb H', H lb = none → Bu x H H' → OutX CO H' x dx lb (kt + (i - kt)) (xs.drop (i - kt)) → Q (.int ((i - kt : Nat) : Int)) H') ∧ (numB ((kt + xs.length : Nat) + 1 : Int) v = false → E (.ref CX) none H)
def spNI (CN : Addr) : Sp := fun vs H Q _ => ∃ (x dx : Addr), vs = [.ref x] ∧ H x = some (.ins CN dx []) ∧ ∀ d H', H d = none → d ≠ x → Bu x H H' → IncX CN H' x dx d 0 [] → Q .non H'
def spNN (CN : Addr) : Sp := fun vs H Q _ => ∃ (x dx d : Addr) (t : Nat) (kvs : List (Key × V)), vs = [.ref x] ∧ IncX CN H x dx d t kvs ∧ Q (.int (t : Int)) H
def spNT (CN CX : Addr) : Sp := fun vs H Q E => ∃ (S : Addr → Prop) (x dx d : Addr) (t : Nat) (kvs : List (Key × V)) (v thing : V), vs = [.ref x, v, thing] ∧ IncX CN H x dx d t kvs ∧ kvs.length < 9000 ∧ KnA S H v ∧
  (∀ i : Nat, v = .int (i : Int) → i < 4294967296 → ∀ z H', H z = none → B2 x d H H' → H' z = some (.lst (drn t (held1 t i thing kvs)).1) → IncX CN H' x dx d (drn t (held1 t i thing kvs)).2.1 (drn t (held1 t i thing kvs)).2.2 → Q (.ref z) H') ∧ (numB 4294967296 v = false → E (.ref CX) none H)
section
variable {P : Program} {w : World} {K : PySem.W.Frag} {mg : Str → Option Value} {base : Heap}
theorem scOI : FnScope ["self"] ["self"] (defScope sOI) := ⟨rfl, rfl, rfl, by decide +kernel, rfl, by decide +kernel, by decide +kernel⟩
theorem ok_oI {CO : Addr} (T : OTxt K mg CO) (M : ODefs K CO) : FnOk P w K mg base CX0 1 M.fI M.dI ["self"] (spOI CO) := by
  refine M.FI.ok scOI (fun vs H Q E h => ?_) (fun cdv A outer s H vs Q E hr h => ?_)
  · obtain ⟨x, dx, rfl, _⟩ := h
    rfl
  · obtain ⟨x, dx, rfl, e, k⟩ := h
    refine ⟨_, pss_cons (ps_fld (pv 0) pe_int rfl) (pss_one (ps_fld (pv 0) (pe_lst pa_nil) rfl)), ?_⟩
    refine ⟨_, rfl, x, CO, dx, _, rfl, e, T.cl, T.nK, (by show 0 < 1000; decide), ?_⟩
    refine ⟨Nat.zero_le _, fun la hla => ?_⟩
    have nx : la ≠ x := fun z => by rw [z, upd_same] at hla; cases hla
    have hla' : H la = none := by rw [upd_ne nx] at hla; exact hla
    refine ⟨_, rfl, x, CO, dx, _, rfl, by rw [upd_ne nx.symm, upd_same], T.cl, T.nT, (by show 1 < 1000; decide), ?_⟩
    refine k la _ hla' nx (fun b o eb n => by rw [upd_ne n, upd_ne (ne_of_none eb hla'), upd_ne n]; exact eb) ⟨?_, by rw [upd_ne nx, upd_same], Nat.zero_le _⟩
    rw [upd_same]
    show some (HO.ins CO dx (putF "_things" (.ref la) [("_known_taken", V.int ((0 : Nat) : Int))])) = _
    unfold putF
    rw [if_neg (by decide +kernel)]
    rfl
theorem scOM : FnScope ["self"] ["self"] (defScope sOM) := ⟨rfl, rfl, rfl, by decide +kernel, rfl, by decide +kernel, by decide +kernel⟩
theorem ok_oM {CO : Addr} (T : OTxt K mg CO) (M : ODefs K CO) (B : Bts mg) : FnOk P w K mg base CX0 1 M.fM M.dM ["self"] (spOM CO) := by
  refine M.FM.ok scOM (fun vs H Q E h => ?_) (fun cdv A outer s H vs Q E hr h => ?_)
  · obtain ⟨x, dx, la, kt, xs, rfl, _⟩ := h
    rfl
  · obtain ⟨x, dx, la, kt, xs, rfl, o, k⟩ := h
    refine ⟨_, pss_one (ps_ret (pe_op op_add (pe_fld (pv 0) rfl) (pe_callB call_len_seq (by rfl) B.len PySem.boot_len (pa_cons (pe_fld (pv 0) rfl) pa_nil)))), ?_⟩
    exact ⟨_, rfl, x, CO, dx, _, _, rfl, o.at_, T.cl, T.nK, rfl, _, rfl, x, CO, dx, _, _, rfl, o.at_, T.cl, T.nT, rfl, la, _, rfl, .inl (SqL.of o.lst), _, _, rfl, rfl, k⟩
theorem scOP : FnScope ["self", "thing"] ["self", "thing"] (defScope sOP) := ⟨rfl, rfl, rfl, by decide +kernel, rfl, by decide +kernel, by decide +kernel⟩
theorem ok_oP {CO : Addr} (T : OTxt K mg CO) (M : ODefs K CO) (B : Bts mg) : FnOk P w K mg base CX0 2 M.fP M.dP ["self", "thing"] (spOP CO) := by
  have GM : FnOk P w K mg base CX0 1 M.fM M.dM ["self"] (spOM CO) := ok_oM T M B
  refine M.FP.ok scOP (fun vs H Q E h => ?_) (fun cdv A outer s H vs Q E hr h => ?_)
  · obtain ⟨x, dx, la, kt, xs, v, rfl, _⟩ := h
    rfl
  · obtain ⟨x, dx, la, kt, xs, v, rfl, o, lt, k⟩ := h
    refine ⟨_, pss_cons (ps_expr (pe_bm PySem.F.plainAttrs_list PySem.F.slot_list_append PySem.F.type_list_append mt_append (pe_fld (pv 0) rfl) (pa_cons (pv 1) pa_nil)))
      (pss_one (ps_ret (pe_op op_sub (pe_meth0 (pv 0) T.cl M.mP2 GM hr M.bM .nil pass0) pe_int))), ?_⟩
    refine ⟨_, rfl, x, CO, dx, _, _, rfl, o.at_, T.cl, T.nT, rfl, .inl ⟨rfl, _, SqL.of o.lst⟩, _, rfl, la, _, _, rfl, rfl, o.lst, size_ok (by omega), ?_⟩
    have o2 : OutX CO (upd H la (.lst (xs ++ [v]))) x dx la kt (xs ++ [v]) := ⟨by rw [upd_ne o.ne]; exact o.at_, upd_same, by rw [List.length_append]; show _ + 1 ≤ _; omega⟩
    refine ⟨_, rfl, x, dx, _, rfl, o2.at_, rfl, x, dx, la, kt, xs ++ [v], rfl, o2, _, _, rfl, rfl, ?_⟩
    have e : ((kt + (xs ++ [v]).length : Nat) : Int) - 1 = ((kt + xs.length : Nat) : Int) := by
      rw [List.length_append]
      show ((kt + (xs.length + 1) : Nat) : Int) - 1 = _
      omega
    show Q (V.int (((kt + (xs ++ [v]).length : Nat) : Int) - 1)) _
    rw [e]
    exact k _ (Bu.rf.at) o2
theorem scOS : FnScope ["self"] ["self"] (defScope sOS) := ⟨rfl, rfl, rfl, by decide +kernel, rfl, by decide +kernel, by decide +kernel⟩
theorem ok_oS {CO : Addr} (T : OTxt K mg CO) (M : ODefs K CO) (B : Bts mg) : FnOk P w K mg base CX0 1 M.fS M.dS ["self"] (spOS CO) := by
  refine M.FS.ok scOS (fun vs H Q E h => ?_) (fun cdv A outer s H vs Q E hr h => ?_)
  · obtain ⟨x, dx, la, kt, xs, rfl, _⟩ := h
    rfl
  · obtain ⟨x, dx, la, kt, xs, rfl, o, k⟩ := h
    refine ⟨_, pss_one (ps_ret (pe_tup (pa_cons (pe_fld (pv 0) rfl) (pa_cons (pe_callTy call_tuple_of (by rfl) B.tuple PyProof.Rows.boot_tuple (pa_cons (pe_fld (pv 0) rfl) pa_nil)) pa_nil)))), ?_⟩
    refine ⟨_, rfl, x, CO, dx, _, _, rfl, o.at_, T.cl, T.nK, rfl, _, rfl, x, CO, dx, _, _, rfl, o.at_, T.cl, T.nT, rfl, la, _, rfl, .inl ⟨SqL.of o.lst, fun u hu => ?_⟩⟩
    exact ⟨(by show 2 ≤ sizeLine; decide), fun t ht => k t u _ (sT (sN hu) (sN ht)) upd_same (sN ht _ _ upd_same)⟩
theorem scOK : FnScope ["self", "number", "let_go"] ["self", "number"] (defScope sOK) := ⟨rfl, rfl, rfl, by decide +kernel, rfl, by decide +kernel, by decide +kernel⟩
theorem ok_oK {CO CX fX fN fP : Addr} {dN dP : FuncData} (T : OTxt K mg CO) (M : ODefs K CO) (B : Bts mg) (L : LCst mg) (XS : QS.SupC P K mg CX fX "NoNumber.__init__") (gX : mg "NoNumber" = some (.ref CX)) (DN : Df K mg "is_number_below" sNum ["limit", "thing"] fN dN) (DP : Df K mg "is_plain_int" sPlain ["thing"] fP dP) : FnOk P w K mg base (L2.CX P w) 3 M.fK M.dK ["self", "number"] (spOK CO CX) := by
  have GM : FnOk P w K mg base CX0 1 M.fM M.dM ["self"] (spOM CO) := ok_oM T M B
  have GN : FnOk P w K mg base CX0 2 fN dN ["limit", "thing"] (spNum K) := ok_num DN B DP
  refine M.FK.okX scOK (fun vs H Q E h => ?_) (fun cdv A outer s H vs Q E hr h => ?_)
  · obtain ⟨S, x, dx, la, kt, xs, v, rfl, _⟩ := h
    rfl
  · obtain ⟨S, x, dx, la, kt, xs, v, rfl, o, kn, k1, k2⟩ := h
    have nd := scOK.nd
    have hr1 : Room 1 _ := hr.mono (by decide)
    refine ⟨_, pss_cons (ps_if (pt_not (pt_val (pe_call GN hr rfl DN.m DN.k DN.b .nil pass0 (pa_cons (pe_op op_add (pe_meth0 (pv 0) T.cl M.mP2 GM hr1 M.bM .nil pass0) pe_int) (pa_cons (pv 1) pa_nil))))) (pss_one (ps_raise rfl (takes_of rfl rfl rfl rfl) (QS.pmk_sup XS hr rfl gX))) pss_nil)
      (pss_cons (ps_set (i := 2) nd rfl (.inl rfl) (pe_callB (call_max2 rfl) (by rfl) L.max PyProof.Rows.boot_max (pa_cons pe_int (pa_cons (pe_op op_sub (pv 1) (pe_fld (pv 0) rfl)) pa_nil))))
      (pss_cons (ps_fld (pv 0) (pe_slice sl_list (pe_fld (pv 0) rfl) (po_some (pv 2)) po_none) rfl)
      (pss_cons (ps_fldaug (pv 0) (pv 2) in_add)
      (pss_one (ps_ret (pv 2)))))), ?_⟩
    refine ⟨_, rfl, x, dx, _, rfl, o.at_, rfl, x, dx, la, kt, xs, rfl, o, _, _, rfl, rfl, _, rfl, _, _, rfl, ?_⟩
    by_cases nb : numB ((kt + xs.length : Nat) + 1 : Int) v = true
    case neg =>
      have nb : numB ((kt + xs.length : Nat) + 1 : Int) v = false := by
        cases e : numB ((kt + xs.length : Nat) + 1 : Int) v with
        | false => rfl
        | true => exact absurd e nb
      rcases kn.no (K := K) with ⟨j, rfl⟩ | ⟨e, ni⟩
      · refine .inl ⟨j, rfl, _, rfl, ?_⟩
        have nb' : (decide (0 ≤ j) && decide (j < ((kt + xs.length : Nat) : Int) + 1)) = false := nb
        rw [nb']
        exact iteT (k2 nb)
      · exact .inr ⟨ni, _, rfl, iteT (k2 nb)⟩
    cases v with
    | int j =>
      have nb' : (decide (0 ≤ j) && decide (j < ((kt + xs.length : Nat) : Int) + 1)) = true := nb
      have nb2 := nb'
      rw [Bool.and_eq_true, decide_eq_true_eq, decide_eq_true_eq] at nb2
      obtain ⟨i, rfl⟩ : ∃ i : Nat, j = (i : Int) := ⟨j.toNat, by omega⟩
      refine .inl ⟨(i : Int), rfl, _, rfl, ?_⟩
      rw [nb']
      refine iteF ?_
      refine ⟨_, rfl, _, rfl, x, CO, dx, _, _, rfl, o.at_, T.cl, T.nK, rfl, _, _, rfl, rfl, _, _, rfl, ?_⟩
      have em : (if (i : Int) - (kt : Int) > 0 then (i : Int) - (kt : Int) else 0) = ((i - kt : Nat) : Int) := by
        by_cases c : (i : Int) - (kt : Int) > 0
        · rw [if_pos c]; omega
        · rw [if_neg c]; omega
      show gName 2 (V.int (if (i : Int) - (kt : Int) > 0 then (i : Int) - (kt : Int) else 0)) _ _ _
      rw [em]
      refine ⟨_, rfl, x, CO, dx, _, _, rfl, o.at_, T.cl, T.nT, rfl, _, rfl, _, rfl, la, xs, rfl, SqL.of o.lst, fun lb hlb => ?_⟩
      rw [cut_fromV]
      have nx : x ≠ lb := ne_of_none o.at_ hlb
      refine ⟨_, rfl, x, CO, dx, _, rfl, by rw [upd_ne nx]; exact o.at_, T.cl, T.nT, (by show 2 < 1000; decide), ?_⟩
      rw [oF_t]
      refine ⟨_, rfl, x, CO, dx, _, _, rfl, upd_same, T.cl, T.nK, rfl, _, rfl, _, _, rfl, rfl, dx, _, upd_same, (by show 2 < 1000; decide), ?_⟩
      rw [show ((kt : Nat) : Int) + ((i - kt : Nat) : Int) = ((kt + (i - kt) : Nat) : Int) by omega, oF_k]
      refine ⟨_, rfl, k1 i rfl (by omega) lb _ hlb (fun b u eb n => ?_) ⟨upd_same, by rw [upd_ne nx.symm, upd_ne nx.symm, upd_same], by rw [List.length_drop]; have := o.few; omega⟩⟩
      rw [upd_ne n, upd_ne n, upd_ne (ne_of_none eb hlb)]
      exact eb
    | _ => cases nb
theorem scNI : FnScope ["self"] ["self"] (defScope sNI) := ⟨rfl, rfl, rfl, by decide +kernel, rfl, by decide +kernel, by decide +kernel⟩
theorem ok_nI {CN : Addr} (T : NTxt K mg CN) (M : NDefs K CN) : FnOk P w K mg base CX0 1 M.fI M.dI ["self"] (spNI CN) := by
  refine M.FI.ok scNI (fun vs H Q E h => ?_) (fun cdv A outer s H vs Q E hr h => ?_)
  · obtain ⟨x, dx, rfl, _⟩ := h
    rfl
  · obtain ⟨x, dx, rfl, e, k⟩ := h
    refine ⟨_, pss_cons (ps_fld (pv 0) pe_int rfl) (pss_one (ps_fld (pv 0) pe_dnewK rfl)), ?_⟩
    refine ⟨_, rfl, x, CN, dx, _, rfl, e, T.cl, T.nM, (by show 0 < 1000; decide), ?_⟩
    refine fun d hd => ?_
    have nx : d ≠ x := fun z => by rw [z, upd_same] at hd; cases hd
    have hd' : H d = none := by rw [upd_ne nx] at hd; exact hd
    refine ⟨_, rfl, x, CN, dx, _, rfl, by rw [upd_ne nx.symm, upd_same], T.cl, T.nK, (by show 1 < 1000; decide), ?_⟩
    refine k d _ hd' nx (fun b o eb n => by rw [upd_ne n, upd_ne (ne_of_none eb hd'), upd_ne n]; exact eb) ⟨?_, by rw [upd_ne nx, upd_same], Nat.zero_le _⟩
    rw [upd_same]
    show some (HO.ins CN dx (putF "_kept" (.ref d) [("_many_taken", V.int ((0 : Nat) : Int))])) = _
    unfold putF
    rw [if_neg (by decide +kernel)]
    rfl
theorem scNN : FnScope ["self"] ["self"] (defScope sNN) := ⟨rfl, rfl, rfl, by decide +kernel, rfl, by decide +kernel, by decide +kernel⟩
theorem ok_nN {CN : Addr} (T : NTxt K mg CN) (M : NDefs K CN) : FnOk P w K mg base CX0 1 M.fN M.dN ["self"] (spNN CN) := by
  refine M.FN.ok scNN (fun vs H Q E h => ?_) (fun cdv A outer s H vs Q E hr h => ?_)
  · obtain ⟨x, dx, d, t, kvs, rfl, _⟩ := h
    rfl
  · obtain ⟨x, dx, d, t, kvs, rfl, o, k⟩ := h
    refine ⟨_, pss_one (ps_ret (pe_fld (pv 0) rfl)), ?_⟩
    exact ⟨_, rfl, x, CN, dx, _, _, rfl, o.at_, T.cl, T.nM, rfl, k⟩
theorem scNT : FnScope ["self", "number", "thing", "now"] ["self", "number", "thing"] (defScope sNT) := ⟨rfl, rfl, rfl, by decide +kernel, rfl, by decide +kernel, by decide +kernel⟩
theorem ok_nT {CN CX fX fN fP : Addr} {dN dP : FuncData} (T : NTxt K mg CN) (M : NDefs K CN) (B : Bts mg) (L : LCst mg) (XS : QS.SupC P K mg CX fX "NoNumber.__init__") (gX : mg "NoNumber" = some (.ref CX)) (DN : Df K mg "is_number_below" sNum ["limit", "thing"] fN dN) (DP : Df K mg "is_plain_int" sPlain ["thing"] fP dP) : FnOk P w K mg base (L2.CX P w) 3 M.fT M.dT ["self", "number", "thing"] (spNT CN CX) := by
  have GN : FnOk P w K mg base CX0 2 fN dN ["limit", "thing"] (spNum K) := ok_num DN B DP
  obtain ⟨t1, h1⟩ := L.numbers
  obtain ⟨t2, h2⟩ := L.held
  refine M.FT.okX scNT (fun vs H Q E h => ?_) (fun cdv A outer s H vs Q E hr h => ?_)
  · obtain ⟨S, x, dx, d, t, kvs, v, thing, rfl, _⟩ := h
    rfl
  · obtain ⟨S, x, dx, d, t, kvs, v, thing, rfl, o, few, kn, k1, k2⟩ := h
    have nd := scNT.nd
    have hu := hu_of hr
    refine ⟨_, pss_cons (ps_if (pt_not (pt_val (pe_call GN hr rfl DN.m DN.k DN.b .nil pass0 (pa_cons (pe_glob (v := .int 4294967296) rfl h1 ⟨_, rfl⟩) (pa_cons (pv 1) pa_nil))))) (pss_one (ps_raise rfl (takes_of rfl rfl rfl rfl) (QS.pmk_sup XS hr rfl gX))) pss_nil)
      (C8.pss_cut (ps_if (PW.pt (pw_and (pt_chain op_le op_lt (pe_fld (pv 0) rfl) (pv 1) (pe_op op_add (pe_fld (pv 0) rfl) (pe_glob (v := .int 1000) rfl h2 ⟨_, rfl⟩))) (pw_and1 (pt_cmp (pc_dnotin hu (pv 1) (pe_fld (pv 0) rfl)))))) (pss_one (ps_dput hu (pe_fld (pv 0) rfl) (pv 1) (pv 2) rfl)) pss_nil)
      (pss_cons (ps_set (i := 3) nd rfl (.inl rfl) (pe_lst pa_nil))
      (pss_cons (ps_while (passes_of rfl) (pt_cmp (pc_din hu (pe_fld (pv 0) rfl) (pe_fld (pv 0) rfl)))
        (pss_cons (ps_expr (pe_bm PySem.F.plainAttrs_list PySem.F.slot_list_append PySem.F.type_list_append mt_append (pv 3) (pa_cons (pe_dpop1 (pe_fld (pv 0) rfl) (pe_fld (pv 0) rfl) ⟨rfl, rfl, rfl, rfl⟩) pa_nil)))
        (pss_one (ps_fldaug (pv 0) pe_int in_add))))
      (pss_one (ps_ret (pv 3)))))), ?_⟩
    refine ⟨_, rfl, _, _, rfl, ?_⟩
    by_cases nb : numB 4294967296 v = true
    case neg =>
      have nb : numB 4294967296 v = false := by
        cases e : numB 4294967296 v with
        | false => rfl
        | true => exact absurd e nb
      rcases kn.no (K := K) with ⟨j, rfl⟩ | ⟨e, ni⟩
      · refine .inl ⟨j, rfl, _, rfl, ?_⟩
        have nb' : (decide (0 ≤ j) && decide (j < 4294967296)) = false := nb
        rw [nb']
        exact iteT (k2 nb)
      · exact .inr ⟨ni, _, rfl, iteT (k2 nb)⟩
    cases v with
    | int j =>
      have nb' : (decide (0 ≤ j) && decide (j < 4294967296)) = true := nb
      have nb2 := nb'
      rw [Bool.and_eq_true, decide_eq_true_eq, decide_eq_true_eq] at nb2
      obtain ⟨i, rfl⟩ : ∃ i : Nat, j = (i : Int) := ⟨j.toNat, by omega⟩
      refine .inl ⟨(i : Int), rfl, _, rfl, ?_⟩
      rw [nb']
      refine iteF ?_
      have kk := k1 i rfl (by omega)
      clear k1 k2 nb nb' kn
      refine ⟨fun σ H' => σ = [some (.ref x), some (.int (i : Int)), some thing, none] ∧ IncX CN H' x dx d t (held1 t i thing kvs) ∧ B2 x d H H', ?_, ?_⟩
      · refine ⟨_, rfl, x, CN, dx, _, _, rfl, o.at_, T.cl, T.nM, rfl, _, rfl, _, _, rfl, rfl, _, rfl, ?_⟩
        by_cases c1 : t ≤ i
        case neg =>
          rw [decide_eq_false (by omega : ¬ ((t : Int) ≤ (i : Int)))]
          exact iteF ⟨_, rfl, iteF ⟨rfl, by unfold held1; rw [if_neg (fun z => c1 z.1)]; exact o, .rf⟩⟩
        rw [decide_eq_true (by omega : ((t : Int) ≤ (i : Int)))]
        refine iteT ⟨_, rfl, x, CN, dx, _, _, rfl, o.at_, T.cl, T.nM, rfl, _, _, rfl, rfl, _, _, rfl, rfl, ?_⟩
        refine ⟨_, rfl, ite2 (fun c2 => ?_) (fun c2 => ?_)⟩
        case refine_2 =>
          have c2 : ¬ ((i : Int) < (t : Int) + 1000) := fun z => c2 (decide_eq_true z)
          exact ⟨rfl, by unfold held1; rw [if_neg (fun z => c2 (by have := z.2.1; omega))]; exact o, .rf⟩
        have c2 : (i : Int) < (t : Int) + 1000 := of_decide_eq_true c2
        have c2 : i < t + 1000 := by omega
        refine ⟨_, rfl, _, rfl, x, CN, dx, _, _, rfl, o.at_, T.cl, T.nK, rfl, d, _, rfl, DGet.k (k := Sum.inl (i : Int)) o.dct, _, rfl, ?_⟩
        cases ev : valV kvs (Sum.inl (i : Int) : Key) with
        | some u =>
          exact iteF ⟨rfl, by unfold held1; rw [if_neg (fun z => by rw [ev] at z; cases z.2.2)]; exact o, .rf⟩
        | none =>
          refine iteT ⟨_, rfl, _, rfl, x, CN, dx, _, _, rfl, o.at_, T.cl, T.nK, rfl, _, rfl, d, _, rfl, DPut.k (k := Sum.inl (i : Int)) o.dct (size_ok (by omega)), rfl, ?_, fun b u e n1 n2 => by rw [upd_ne n2]; exact e⟩
          unfold held1
          rw [if_pos ⟨c1, c2, by rw [ev]; rfl⟩]
          refine ⟨by rw [upd_ne o.ne]; exact o.at_, upd_same, ?_⟩
          rw [putK_new _ ev, List.length_append]
          show _ + 1 ≤ _
          omega
      · rintro σ H1 ⟨rfl, o1, b1⟩
        refine ⟨Nat.zero_le _, fun z hz => ?_⟩
        have s2 := sN (o := .lst []) hz
        have hz0 : H z = none := by
          cases e : H z with
          | none => rfl
          | some u =>
            have n1 : z ≠ x := (ne_of_none o1.at_ hz).symm
            have n2 : z ≠ d := (ne_of_none o1.dct hz).symm
            rw [b1 z u e n1 n2] at hz
            cases hz
        refine ⟨fun m σ H' => ∃ (t' : Nat) (kvs' : List (Key × V)) (acc : List V), σ = [some (.ref x), some (.int (i : Int)), some thing, some (.ref z)] ∧ IncX CN H' x dx d t' kvs' ∧ H' z = some (.lst acc) ∧ drn t (held1 t i thing kvs) = (acc ++ (drn t' kvs').1, (drn t' kvs').2) ∧ B2 x d H H' ∧ acc.length + kvs'.length ≤ 9000 ∧ m = kvs'.length, ⟨_, t, _, [], rfl, o1.same s2, upd_same, rfl, b1.st s2, by have := o1.few; show 0 + _ ≤ _; omega, rfl⟩, ?_⟩
        rintro m σ H2 ⟨t', kvs', acc, rfl, o2, ez, ed, b2, fw, rfl⟩
        refine ⟨_, rfl, x, CN, dx, _, _, rfl, o2.at_, T.cl, T.nM, rfl, _, rfl, x, CN, dx, _, _, rfl, o2.at_, T.cl, T.nK, rfl, d, _, rfl, DGet.k (k := Sum.inl (t' : Int)) o2.dct, _, rfl, ?_⟩
        have nzd : z ≠ d := ne_of ez o2.dct (fun q => by cases q)
        have nzx : z ≠ x := ne_of ez o2.at_ (fun q => by cases q)
        cases ev : valV kvs' (Sum.inl (t' : Int) : Key) with
        | none =>
          refine iteF ⟨_, rfl, ?_⟩
          rw [drn_none ev, List.append_nil] at ed
          rw [ed] at kk
          exact kk z H2 hz0 b2 ez o2
        | some v =>
          have lt := drop_lt ev
          refine iteT ⟨fun σ' H' => σ' = [some (.ref x), some (.int (i : Int)), some thing, some (.ref z)] ∧ IncX CN H' x dx d (t' + 1) (dropK kvs' (.inl (t' : Int))) ∧ H' z = some (.lst (acc ++ [v])) ∧ B2 x d H H', ?_, ?_⟩
          · rintro σ' H' ⟨rfl, o3, e3, b3⟩
            refine ⟨_, lt, t' + 1, _, acc ++ [v], rfl, o3, e3, ?_, b3, ?_, rfl⟩
            · rw [ed, drn_some ev, List.append_assoc]
              rfl
            · rw [List.length_append]
              show _ + 1 + _ ≤ _
              omega
          refine ⟨_, rfl, .inl ⟨rfl, _, SqL.of ez⟩, _, rfl, x, CN, dx, _, _, rfl, o2.at_, T.cl, T.nK, rfl, d, rfl, .inl ⟨_, .inl o2.dct⟩, _, rfl, x, CN, dx, _, _, rfl, o2.at_, T.cl, T.nM, rfl, kvs', Sum.inl (t' : Int), v, o2.dct, rfl, ev, ?_⟩
          refine ⟨z, acc, v, rfl, rfl, by rw [upd_ne nzd]; exact ez, size_ok (by omega), ?_⟩
          have ex : (upd (upd H2 d (.dK (dropK kvs' (.inl (t' : Int))))) z (.lst (acc ++ [v]))) x = some (.ins CN dx (nF t' d)) := by
            rw [upd_ne nzx.symm, upd_ne o2.ne]
            exact o2.at_
          refine ⟨_, rfl, x, CN, dx, _, _, rfl, ex, T.cl, T.nM, rfl, _, _, rfl, rfl, dx, _, ex, (by show 2 < 1000; decide), rfl, ⟨?_, ?_, by have := o2.few; omega⟩, ?_, ?_⟩
          · rw [upd_same]
            exact congrArg (fun l => some (HO.ins CN dx l)) (nF_m t' (t' + 1) d)
          · rw [upd_ne o2.ne.symm, upd_ne nzd.symm, upd_same]
          · rw [upd_ne nzx, upd_same]
          · intro b u e n1 n2
            have nbz : b ≠ z := ne_of_none e hz0
            rw [upd_ne n1, upd_ne nbz, upd_ne n2]
            exact b2 b u e n1 n2
    | _ => cases nb
end
end Q

namespace L2
open PySem PySem.Spec PyProof.Rows
theorem pe_fldK {X : Cx} {K : PySem.W.Frag} {e : Expr} {f : Str} {pos : Pos} {ta : TE} (hK : X.K = K) (he : PE X e ta) (hb : attributeBase e f X.env (eval e X.env) = eval e X.env) : PE X (.Attribute e f pos) (tFld K ta f) := by
  subst hK
  exact pe_fld he hb
end L2
namespace Q
open PySem L2 QR
abbrev sKnown : Stmt := top 9999
abbrev sTaken : Stmt := top 9999
def spNH (CN : Addr) : Sp := fun vs H Q _ => ∃ (x dx d : Addr) (t : Nat), vs = [.ref x] ∧ IncX CN H x dx d t [] ∧ ∀ u H', Same H H' → H' u = some (.tup []) → Q (.ref u) H'
def spNS (CN : Addr) : Sp := fun vs H Q _ => ∃ (x dx d : Addr) (t : Nat), vs = [.ref x] ∧ IncX CN H x dx d t [] ∧ ∀ r u H', Same H H' → H' r = some (.tup [.int (t : Int), .ref u]) → H' u = some (.tup []) → Q (.ref r) H'
def spKnown (CO : Addr) : Sp := fun vs H Q _ => ∃ (S : Addr → Prop) (x dx la : Addr) (kt : Nat) (xs : List V) (v : V), vs = [.ref x, v] ∧ OutX CO H x dx la kt xs ∧ KnA S H v ∧
  (∀ i : Nat, v = .int (i : Int) → i ≤ kt + xs.length → ∀ r lb H', H lb = none → Bu x H H' → OutX CO H' x dx lb (kt + (i - kt)) (xs.drop (i - kt)) → H' r = some (.tup [.str "told", .int ((i - kt : Nat) : Int)]) → Q (.ref r) H') ∧
  (numB ((kt + xs.length : Nat) + 1 : Int) v = false → ∀ r H', Same H H' → H' r = some (.tup [.str "NoNumber"]) → Q (.ref r) H')
def spTaken (CN : Addr) : Sp := fun vs H Q _ => ∃ (S : Addr → Prop) (x dx d : Addr) (t : Nat) (v : V), vs = [.ref x, v] ∧ IncX CN H x dx d t [] ∧ KnA S H v ∧ (∀ i : Nat, v = .int (i : Int) → ¬ (t < i ∧ i < t + 1000)) ∧
  (v = .int (t : Int) → t < 4294967296 → ∀ r z th H', B2 x d H H' → IncX CN H' x dx d (t + 1) [] → H' r = some (.tup [.str "told", .ref z]) → H' z = some (.lst [.ref th]) → H' th = some (.tup [.str "x", .int (t : Int)]) → Q (.ref r) H') ∧
  (∀ i : Nat, v = .int (i : Int) → i < 4294967296 → ¬ (t ≤ i ∧ i < t + 1000) → ∀ r z H', B2 x d H H' → IncX CN H' x dx d t [] → H' r = some (.tup [.str "told", .ref z]) → H' z = some (.lst []) → Q (.ref r) H') ∧
  (numB 4294967296 v = false → ∀ r H', Same H H' → H' r = some (.tup [.str "NoNumber"]) → Q (.ref r) H')
theorem drn_nil (t : Nat) : drn t [] = ([], t, []) := drn_none valV_nil
theorem held_one (t : Nat) (v : V) : held1 t t v [] = [(.inl (t : Int), v)] := by
  unfold held1
  rw [if_pos ⟨Nat.le_refl _, by omega, rfl⟩]
  rfl
theorem held_no {t i : Nat} (v : V) (h : ¬ (t ≤ i ∧ i < t + 1000)) : held1 t i v [] = [] := by
  unfold held1
  rw [if_neg (fun z => h ⟨z.1, z.2.1⟩)]
theorem drn_one (t : Nat) (v : V) : drn t [((.inl (t : Int) : Key), v)] = ([v], t + 1, []) := by
  have e : valV [((.inl (t : Int) : Key), v)] (.inl (t : Int)) = some v := valV_pos rfl
  rw [drn_some e]
  have d : dropK [((.inl (t : Int) : Key), v)] (.inl (t : Int)) = [] := by
    unfold dropK
    rw [List.filter_cons, if_neg (by simp)]
    rfl
  rw [d, drn_nil]
theorem ne_of_none' {H : Hp} {a b : Addr} {o : HO} (h : H a = some o) (n : H b = none) : b ≠ a := fun e => by rw [e, h] at n; cases n
section
variable {P : Program} {w : World} {K : PySem.W.Frag} {mg : Str → Option Value} {base : Heap}
theorem scNH : FnScope ["self"] ["self"] (defScope sNH) := ⟨rfl, rfl, rfl, by decide +kernel, rfl, by decide +kernel, by decide +kernel⟩
theorem ok_nH {CN : Addr} (T : NTxt K mg CN) (M : NDefs K CN) (B : Bts mg) (L : LCst mg) : FnOk P w K mg base CX0 1 M.fH M.dH ["self"] (spNH CN) := by
  refine M.FH.ok scNH (fun vs H Q E h => ?_) (fun cdv A outer s H vs Q E hr h => ?_)
  · obtain ⟨x, dx, d, t, rfl, _⟩ := h
    rfl
  · obtain ⟨x, dx, d, t, rfl, o, k⟩ := h
    refine ⟨_, pss_one (ps_ret (pe_callTy call_tuple_of (by rfl) B.tuple PyProof.Rows.boot_tuple (pa_cons (pe_callB cr_sortedI (by rfl) L.sorted PyProof.Rows.boot_sorted (pa_cons (pe_callTy (call_listD rfl) (by rfl) B.list PyProof.Rows.boot_list (pa_cons (pe_fld (pv 0) rfl) pa_nil)) pa_nil)) pa_nil))), ?_⟩
    refine ⟨_, rfl, x, CN, dx, _, _, rfl, o.at_, T.cl, T.nK, rfl, d, _, rfl, .inl o.dct, fun a ha => ?_⟩
    have s1 := sN (o := .lst []) ha
    refine ⟨a, [], rfl, SqL.of upd_same, fun ns' b hp _ hb => ?_⟩
    have e : ns' = [] := List.Perm.eq_nil hp
    subst e
    have s2 := sT s1 (sN (o := .lst []) hb)
    exact ⟨b, _, rfl, .inl ⟨SqL.of upd_same, fun u hu => k u _ (sT s2 (sN hu)) upd_same⟩⟩
theorem scNS : FnScope ["self", "number"] ["self"] (defScope sNS) := ⟨rfl, rfl, rfl, by decide +kernel, rfl, by decide +kernel, by decide +kernel⟩
theorem ok_nS {CN : Addr} (T : NTxt K mg CN) (M : NDefs K CN) (B : Bts mg) (L : LCst mg) : FnOk P w K mg base CX0 2 M.fS M.dS ["self"] (spNS CN) := by
  have GH : FnOk P w K mg base CX0 1 M.fH M.dH ["self"] (spNH CN) := ok_nH T M B L
  refine M.FS.ok scNS (fun vs H Q E h => ?_) (fun cdv A outer s H vs Q E hr h => ?_)
  · obtain ⟨x, dx, d, t, rfl, _⟩ := h
    rfl
  · obtain ⟨x, dx, d, t, rfl, o, k⟩ := h
    have nd := scNS.nd
    have hu := hu_of hr
    refine ⟨_, pss_one (ps_ret (pe_tup (pa_cons (pe_fld (pv 0) rfl) (pa_cons (pe_callTy call_tuple_of (by rfl) B.tuple PyProof.Rows.boot_tuple (pa_cons (pe_lc (own := [("number", 1)]) (g := gName 1) (tt := tYes) rfl nd (pi_tup (pe_meth0 (pv 0) T.cl M.mH GH hr M.bH .nil pass0))
      (blkOk_by (N := ["self", "number"]) (sc := defScope sNS) (by decide +kernel)) (fun _ _ _ _ _ => pg_name (i := 1) nd rfl (.inl rfl)) (fun _ _ _ _ _ => pts_nil)
      (fun _ _ _ _ _ => pe_tup (pa_cons (pv 1) (pa_cons (pe_dget (hu_of hr) (pe_fldK (K := K) rfl (pv 0) rfl) (pv 1) (by intro _ _; rfl)) pa_nil)))) pa_nil)) pa_nil)))), ?_⟩
    refine ⟨_, rfl, x, CN, dx, _, _, rfl, o.at_, T.cl, T.nM, rfl, _, rfl, x, dx, _, rfl, o.at_, rfl, x, dx, d, t, rfl, o, fun u H1 s1 hu1 => ?_⟩
    refine ⟨u, rfl, ⟨_, SqT.of hu1⟩, fun D hD => lc_tup (K := K) (a := u) (xs := []) (fun i H' => H' = upd H1 D (.lst [])) rfl ?_ ?_ ?_⟩
    · rintro i H' _ rfl
      exact SqT.of (sN hD _ _ hu1)
    · rintro i y H' hi
      cases hi
    · rintro H' rfl
      have s2 := sT s1 (sN (o := .lst []) hD)
      refine ⟨D, _, rfl, .inl ⟨SqL.of upd_same, fun v hv => ?_⟩⟩
      have s3 := sT s2 (sN (o := .tup []) hv)
      exact ⟨(by show 2 ≤ sizeLine; decide), fun r hr2 => k r v _ (sT s3 (sN hr2)) upd_same (sN hr2 _ _ upd_same)⟩
end
end Q

/-! list(enumerate(xs, start=k)) -/
namespace LE
open PySem PySem.Spec PyProof.Rows PySem.W
/-- the enumerate at e has handed out a pair that is kept -/
abbrev EnO (h : Heap) (e it : Addr) (c : Int) (a : Addr) (b : Bool) (old : Value) : Prop :=
  h.get? e = some { cls := .type "enumerate", data := .fields #[rawInt a, .bool b, .ref it, rawInt c, .none, old] }
def EnS (h : Heap) (e it S : Addr) (c : Int) : Prop := (∃ old, IsEnum h e it c old) ∨ ∃ a b old oa, EnO h e it c a b old ∧ h.get? a = some oa ∧ a ≠ e ∧ a ≠ it ∧ a ≠ S
theorem EnS.keep {h h' : Heap} {e it S : Addr} {c : Int} (x : EnS h e it S c) (k : ∀ b o, b ≠ S → h.get? b = some o → h'.get? b = some o) (n : e ≠ S) : EnS h' e it S c := by
  rcases x with ⟨old, z⟩ | ⟨a, b, old, oa, z, q, n1, n2, n3⟩
  · exact .inl ⟨old, k _ _ n z⟩
  · exact .inr ⟨a, b, old, oa, k _ _ n z, k _ _ n3 q, n1, n2, n3⟩
theorem no_len_en : typeLookup (.type "enumerate") "__len__" = pure none := by rw [typeLookup_type, builtinLookup_eq_fast]; kernel_rfl
theorem no_hint_en : typeLookup (.type "enumerate") "__length_hint__" = pure none := by rw [typeLookup_type, builtinLookup_eq_fast]; kernel_rfl
section
variable {prog : Program} {w : World} {A : Around} {E : Value → Shared → Prop} {s : Shared}
theorem next_out {e it a : Addr} {fp : List Addr} {n i : Nat} {c : Int} {P : Nat → Value → Prop} {St : Nat → Heap → Prop} {b : Bool} {old : Value} {Q : Value → Shared → Prop}
    (D : Draws prog w A it fp n P St) (he : EnO s.heap e it c a b old) (hst : St i s.heap) (hlt : i < n) (hne : e ≠ it) (hef : e ∉ fp) (ha : ∃ o, s.heap.get? a = some o) (nae : a ≠ e) (nai : a ≠ it)
    (hQ : ∀ x h' tk, P i x → EnO h' e it (c + 1) a true old → St (i + 1) h' → h'.get? s.heap.objs.size = some { cls := .type "tuple", data := .seq #[.int c tk, x] } → h'.objs.size = s.heap.objs.size + 1 →
      (∀ b o, b ≠ e → b ≠ it → s.heap.get? b = some o → h'.get? b = some o) → Q (.ref s.heap.objs.size) { s with heap := h', toks := tk + 1 }) :
    wpAny (model prog w) A (Builtin.«enumerate.__next__» ⟨[.ref e], []⟩) (fun fin s' => ∃ v, fin = .done (.ret v) ∧ Q v s') E s := by
  obtain ⟨h0, g, d, t0, os⟩ := s
  refine wpAny_bind (m := field (.ref e) 2) (wpAny_field (x := .ref it) he rfl rfl (wpAny_bind (D.item i _ _ _ hlt hst fun x h1 tk px st1 sb1 => ?_)))
  have he1 : EnO h1 e it c a b old := (sb1.2 e hne).trans he
  obtain ⟨oa, ha⟩ := ha
  have ha1 : h1.get? a = some oa := (sb1.2 a nai).trans ha
  have le1 : e < h1.objs.size := Heap.lt_size he1
  have la1 : a < h1.objs.size := Heap.lt_size ha1
  wp_walk using wpAny_field he1 rfl rfl
  have z2 := Heap.get?_update_self (Obj.mapFields fun x => x.setIfInBounds 3 (rawInt (c + 1))) he1 rfl
  have z3 := Heap.get?_update_self (Obj.mapFields fun x => x.setIfInBounds 4 Value.none) z2 rfl
  have u3 : ∀ (q : Addr) (o : Obj), q ≠ e → h1.get? q = some o → ((h1.update e (Obj.mapFields fun x => x.setIfInBounds 3 (rawInt (c + 1)))).update e (Obj.mapFields fun x => x.setIfInBounds 4 Value.none)).get? q = some o := fun q o nq eq => Heap.get?_update_of_ne _ nq.symm (Heap.get?_update_of_ne _ nq.symm eq)
  have sz3 : ((h1.update e (Obj.mapFields fun x => x.setIfInBounds 3 (rawInt (c + 1)))).update e (Obj.mapFields fun x => x.setIfInBounds 4 Value.none)).objs.size = h0.objs.size := by rw [Heap.size_update, Heap.size_update, sb1.1]
  revert z3 u3 sz3
  generalize ((h1.update e (Obj.mapFields fun x => x.setIfInBounds 3 (rawInt (c + 1)))).update e (Obj.mapFields fun x => x.setIfInBounds 4 Value.none)) = h3
  intro z3 u3 sz3
  have z3 : EnO h3 e it (c + 1) a b old := z3.trans (by rfl)
  have z4 := Heap.get?_push_of_some { cls := Value.type "tuple", data := Data.seq #[Value.int c tk, x] } z3
  have a4 := Heap.get?_push_of_some { cls := Value.type "tuple", data := Data.seq #[Value.int c tk, x] } (u3 a oa nae ha1)
  have t4 : (h3.push { cls := Value.type "tuple", data := Data.seq #[Value.int c tk, x] }).get? h3.objs.size = some { cls := Value.type "tuple", data := Data.seq #[Value.int c tk, x] } := Heap.get?_push_size _ rfl
  have k4 : ∀ (q : Addr) (o : Obj), q ≠ e → h1.get? q = some o → (h3.push { cls := Value.type "tuple", data := Data.seq #[Value.int c tk, x] }).get? q = some o := fun q o nq eq => Heap.get?_push_of_some _ (u3 q o nq eq)
  have s4 : (h3.push { cls := Value.type "tuple", data := Data.seq #[Value.int c tk, x] }).objs.size = h0.objs.size + 1 := by rw [Heap.size_push, sz3]
  rw [sz3] at t4 ⊢
  revert z4 a4 t4 k4 s4
  generalize (h3.push { cls := Value.type "tuple", data := Data.seq #[Value.int c tk, x] }) = h4
  intro z4 a4 t4 k4 s4
  have n4 : h0.objs.size ≠ e := Nat.ne_of_gt (Heap.lt_size he)
  rw [show ((a : Nat) : Int).toNat = a from Int.toNat_natCast a]
  refine kdx_alive a4 ?_
  wp_walk using wpAny_field z4 rfl rfl
  have st4 : St (i + 1) h4 := D.frame _ _ _ st1 fun q hq o eq => k4 q o (fun z => hef (by rw [← z]; exact hq)) eq
  have o4 : ∀ (q : Addr) (o : Obj), q ≠ e → q ≠ it → h0.get? q = some o → h4.get? q = some o := fun q o n1 n2 eq => k4 q o n1 ((sb1.2 q n2).trans eq)
  cases b with
  | true =>
    wp_walk
    exact ⟨_, rfl, hQ x h4 tk px z4 st4 t4 s4 o4⟩
  | false =>
    wp_walk
    refine ⟨_, rfl, ?_⟩
    have z5 : EnO (h4.update e (Obj.mapFields fun x => x.setIfInBounds 1 (Value.bool true))) e it (c + 1) a true old := (Heap.get?_update_self (Obj.mapFields fun x => x.setIfInBounds 1 (Value.bool true)) z4 rfl).trans (by rfl)
    have u5 : ∀ (q : Addr) (o : Obj), q ≠ e → h4.get? q = some o → (h4.update e (Obj.mapFields fun x => x.setIfInBounds 1 (Value.bool true))).get? q = some o := fun q o nq eq => Heap.get?_update_of_ne _ nq.symm eq
    exact hQ x _ tk px z5 (D.frame _ _ _ st4 fun q hq o eq => u5 q o (fun z => hef (by rw [← z]; exact hq)) eq) (u5 _ _ n4 t4) (by rw [Heap.size_update]; exact s4) fun q o n1 n2 eq => u5 q o n1 (o4 q o n1 n2 eq)
theorem go_next {e it S l : Addr} {i : Nat} {c : Int} {items : Array Value} {x : Value} {Q : Option Value → Shared → Prop}
    (st : EnS s.heap e it S c) (hi : s.heap.IsListIter it l i) (hl : s.heap.IsList l items) (nli : l ≠ it) (nei : e ≠ it) (nle : l ≠ e) (hh : A.handled = none) (hx : items[i]? = some x) (hS : S < s.heap.objs.size)
    (hQ : ∀ h' tk, EnS h' e it S (c + 1) → h'.IsListIter it l (i + 1) → h'.IsList l items → h'.get? s.heap.objs.size = some { cls := .type "tuple", data := .seq #[.int c tk, x] } → h'.objs.size = s.heap.objs.size + 1 →
      (∀ b o, b ≠ e → b ≠ it → s.heap.get? b = some o → h'.get? b = some o) → Q (some (.ref s.heap.objs.size)) { s with heap := h', toks := tk + 1 }) :
    wpAny (model prog w) A (pyNext (.ref e)) Q E s := by
  have DL : Draws prog w A.in1 it [it, l] items.size (fun i v => items[i]? = some v) (fun i h => h.IsListIter it l i ∧ h.IsList l items) := Draws.list (A := A.in1) hh it l nli items
  have lt : i < items.size := (Array.getElem?_eq_some_iff.mp hx).1
  have nf : e ∉ [it, l] := fun z => by
    rcases List.mem_cons.mp z with z | z
    · exact nei z
    · exact nle (List.mem_singleton.mp z).symm
  have li : it < s.heap.objs.size := by obtain ⟨_, q, _⟩ := hi; exact Heap.lt_size q
  rcases st with ⟨old, z⟩ | ⟨a, b, old, oa, z, ha, n1, n2, n3⟩
  · have le : e < s.heap.objs.size := Heap.lt_size z
    refine wpAny_pyNext_enum_itemC DL z ⟨hi, hl⟩ lt nei nf fun y h' tk hy z' st' ht hz hk => ?_
    have ey : y = x := by
      have q : items[i]? = some y := hy
      rw [hx] at q
      exact (Option.some.inj q).symm
    subst ey
    exact hQ h' tk (.inr ⟨s.heap.objs.size, false, y, _, z', ht, Nat.ne_of_gt le, Nat.ne_of_gt li, Nat.ne_of_gt hS⟩) st'.1 st'.2 ht hz hk
  · have tt : s.TypeIs (.ref e) "enumerate" := ⟨_, z, rfl⟩
    refine wpAny_bind (wpAny_attempt (wpAny_callSpecial?_slot (name := Str.ofString "__next__") tt F.slot_enumerate_next (wpAny_call_entry F.slot_enumerate_next tt F.entry_enumerate_next
      (next_out DL z ⟨hi, hl⟩ lt nei nf ⟨oa, ha⟩ n1 n2 fun y h' tk hy z' st' ht hz hk => ?_) (F.args_enumerate_next_1 _))))
    have ey : y = x := by
      have q : items[i]? = some y := hy
      rw [hx] at q
      exact (Option.some.inj q).symm
    subst ey
    exact wpAny_pure (hQ h' tk (.inr ⟨a, true, old, oa, z', hk a oa n1 n2 ha, n1, n2, n3⟩) st'.1 st'.2 ht hz hk)
theorem go_end {e it S l : Addr} {c : Int} {items : Array Value} {Q : Option Value → Shared → Prop}
    (st : EnS s.heap e it S c) (hi : s.heap.IsListIter it l items.size) (hl : s.heap.IsList l items) (nli : l ≠ it) (hh : A.handled = none)
    (hQ : ∀ h', Heap.ExtBut it s.heap h' → Q none { s with heap := h' }) : wpAny (model prog w) A (pyNext (.ref e)) Q E s := by
  have DL : Draws prog w A.in1 it [it, l] items.size (fun i v => items[i]? = some v) (fun i h => h.IsListIter it l i ∧ h.IsList l items) := Draws.list (A := A.in1) hh it l nli items
  rcases st with ⟨old, z⟩ | ⟨a, b, old, oa, z, ha, n1, n2, n3⟩
  · exact wpAny_pyNext_enum_endD DL z ⟨hi, hl⟩ hQ
  · have tt : s.TypeIs (.ref e) "enumerate" := ⟨_, z, rfl⟩
    unfold pyNext
    refine wpAny_bind (wpAny_attempt (wpAny_callSpecial?_slot (name := Str.ofString "__next__") tt F.slot_enumerate_next (wpAny_call_entry F.slot_enumerate_next tt F.entry_enumerate_next ?_ (F.args_enumerate_next_1 _))))
    refine wpAny_bind (m := field (.ref e) 2) (wpAny_field (x := .ref it) z rfl rfl (wpAny_bind (DL.done _ _ _ ⟨hi, hl⟩ fun h' x q1 q2 => ?_)))
    obtain ⟨o, q3, q4⟩ := q2
    exact wpAny_bind (wpAny_isInstance (T := "StopIteration") (b := true) ⟨o, q3, q4⟩ isSubtype_stop (wpAny_pure (hQ _ q1)))
theorem hint_en {e : Addr} (tt : s.TypeIs (.ref e) "enumerate") {Q : Bool → Shared → Prop} (k : Q true s) : wpAny (model prog w) A (Builtin.List.listLengthHint (.ref e)) Q E s := by
  unfold Builtin.List.listLengthHint
  refine wpAny_bind (wpAny_specialOf tt no_len_en ?_)
  refine wpAny_bind (m := specialOf (.ref e) (Str.ofString "__length_hint__")) (wpAny_specialOf tt no_hint_en ?_)
  exact wpAny_pure k
end
/-- the pairs that are told -/
def kvN (k0 : Int) (items : Array Value) : List (L2.Key × Value) := items.toList.zipIdx.map fun p => (Sum.inl (k0 + (p.2 : Int)), p.1)
theorem kvN_len {k0 : Int} {items : Array Value} : (kvN k0 items).length = items.size := by
  unfold kvN
  simp
theorem kvN_at {k0 : Int} {items : Array Value} {j : Nat} {x : Value} (h : items[j]? = some x) : (kvN k0 items)[j]? = some (Sum.inl (k0 + (j : Int)), x) := by
  unfold kvN
  rw [List.getElem?_map, List.getElem?_zipIdx]
  simp [h]
section
variable {prog : Program} {w : World} {A : Around} {s : Shared} {R : Result → Shared → Prop} {k0 : Int} {items : Array Value}
theorem fill {S e it l : Addr} (hh : A.handled = none) (nli : l ≠ it) (nei : e ≠ it) (nle : l ≠ e) (nSe : S ≠ e) (nSi : S ≠ it) (nSl : S ≠ l) (big : items.size ≤ sizeLine) (res : Value) {h1 : Heap}
    (hR : ∀ h' tk acc c as, (∀ b o, b ≠ S → b ≠ e → b ≠ it → h1.get? b = some o → h'.get? b = some o) → h'.get? S = some { cls := .type "list", dict := none, data := .seq acc c, slots := #[] } → as.length = (kvN k0 items).length → KdxG (L2.mixKind prog w) (kvN k0 items) S h' as →
      acc.toList = as.map Value.ref → R (.ok (.ret res)) { s with heap := h', toks := tk }) :
    ∀ (k i : Nat) (h : Heap) (tk c : Nat) (acc : Array Value) (as : List Addr), items.size - i = k → i ≤ items.size → EnS h e it S (k0 + (i : Int)) → h.IsListIter it l i → h.IsList l items → (∀ b o, b ≠ S → b ≠ e → b ≠ it → h1.get? b = some o → h.get? b = some o) →
      h.get? S = some { cls := .type "list", dict := none, data := .seq acc c, slots := #[] } → acc.toList = as.map Value.ref → as.length = i → KdxG (L2.mixKind prog w) (kvN k0 items) S h as → (∀ a ∈ as, a ≠ e ∧ a ≠ it) →
      codeAny (model prog w) A (.builtin "list.extend.loop" ⟨[.ref S, .ref e, res], []⟩) R { s with heap := h, toks := tk } := by
  intro k
  induction k with
  | zero =>
    intro i h tk c acc as ek li st hi hl old eS ea la G ap
    obtain rfl : i = items.size := by omega
    refine codeAny_builtin PySem.F.entry_extend_loop ?_
    rw [Around.under_plainId PySem.F.plain_extend_loop _]
    refine wpAny_bind (m := pyNext (.ref e)) (go_end (s := { s with heap := h, toks := tk }) (A := A.in1) st hi hl nli hh fun h' x => ?_)
    refine wpAny_pure (hR h' tk acc c as (fun b o n1 n2 n3 q => x b o n3 (old b o n1 n2 n3 q)) (x S _ nSi eS) (by rw [kvN_len]; exact la) ⟨G.rise, G.above, fun j a hj => ?_⟩ ea)
    obtain ⟨key, kk, y, e1, e2, e3⟩ := G.pairs j a hj
    exact ⟨key, kk, y, e1, e2, x a _ (ap a (List.mem_of_getElem? hj)).2 e3⟩
  | succ k ih =>
    intro i h tk c acc as ek li st hi hl old eS ea la G ap
    have lt : i < items.size := by omega
    have hx : items[i]? = some items[i] := Array.getElem?_eq_getElem lt
    have hz : acc.size = i := by rw [← Array.length_toList, ea, List.length_map, la]
    have lS : S < h.objs.size := Heap.lt_size eS
    refine codeAny_builtin PySem.F.entry_extend_loop ?_
    rw [Around.under_plainId PySem.F.plain_extend_loop _]
    refine wpAny_bind (m := pyNext (.ref e)) (go_next (s := { s with heap := h, toks := tk }) (S := S) st hi hl nli nei nle hh hx lS fun h' tk' st' hi' hl' ht sz kp => ?_)
    dsimp only at ht sz kp ⊢
    have eS' := kp S _ nSe nSi eS
    have up : ∀ b o, b ≠ S → h'.get? b = some o → (h'.update S (Obj.mapSeq (·.push (Value.ref h.objs.size)))).get? b = some o := fun b o n q => (Heap.get?_update_other _ _ (Ne.symm n)).trans q
    have le : e < h.objs.size := by
      rcases st with ⟨o1, z⟩ | ⟨a, b, o1, oa, z, _⟩
      · exact Heap.lt_size z
      · exact Heap.lt_size z
    have lit : it < h.objs.size := by obtain ⟨_, q, _⟩ := hi; exact Heap.lt_size q
    have ec : k0 + (i : Int) + 1 = k0 + ((i + 1 : Nat) : Int) := by omega
    rw [ec] at st'
    refine wpAny_bind (m := updateSeq S (·.push (Value.ref h.objs.size))) ?_
    refine wpAny_updateSeq eS' rfl (wpAny_pure ⟨plainId_quiet PySem.F.plain_extend_loop _, ih (i + 1) _ (tk' + 1) _ (acc.push (Value.ref h.objs.size)) (as ++ [h.objs.size]) (by omega) lt (st'.keep up nSe.symm) (hi'.at fun o q => up it o nSi.symm q) (hl'.at fun o q => up l o nSl.symm q)
      (fun b o n1 n2 n3 q => up b o n1 (kp b o n2 n3 (old b o n1 n2 n3 q))) (Heap.get?_update_self _ eS' rfl) (by rw [Array.toList_push, ea, List.map_append]; rfl) (by rw [List.length_append, la]; rfl) ⟨?_, ?_, ?_⟩ ?_⟩) (by rw [hz]; omega) (by show (acc.push (Value.ref h.objs.size)).size ≤ sizeLine + 1; rw [Array.size_push, hz]; omega)
    · exact List.pairwise_append.mpr ⟨G.rise, List.pairwise_singleton _ _, fun a ha b hb => by rw [List.mem_singleton.mp hb]; exact G.there ha⟩
    · intro a ha
      rcases List.mem_append.mp ha with ha | ha
      · exact G.above a ha
      · rw [List.mem_singleton.mp ha]; exact lS
    · intro j b hj
      rcases Nat.lt_trichotomy j as.length with q | q | q
      · rw [List.getElem?_append_left q] at hj
        obtain ⟨key, kk, y, e1, e2, e3⟩ := G.pairs j b hj
        have hb := List.mem_of_getElem? hj
        exact ⟨key, kk, y, e1, e2, up b _ (Nat.ne_of_gt (G.above b hb)) (kp b _ (ap b hb).1 (ap b hb).2 e3)⟩
      · subst q
        obtain rfl : h.objs.size = b := by simpa using hj
        exact ⟨_, Sum.inl (k0 + (i : Int)), items[i], by rw [la]; exact kvN_at hx, beq_self_eq_true _, up _ _ (Nat.ne_of_gt lS) ht⟩
      · rw [List.getElem?_eq_none (by rw [List.length_append, List.length_singleton]; omega)] at hj
        cases hj
    · intro a ha
      rcases List.mem_append.mp ha with ha | ha
      · exact ap a ha
      · rw [List.mem_singleton.mp ha]
        exact ⟨Nat.ne_of_gt le, Nat.ne_of_gt lit⟩
theorem ext {S e it l : Addr} (hh : A.handled = none) (nli : l ≠ it) (nei : e ≠ it) (nle : l ≠ e) (nSe : S ≠ e) (nSi : S ≠ it) (nSl : S ≠ l) (big : items.size ≤ sizeLine) (res : Value) {c0 : Nat}
    (st : IsEnum s.heap e it k0 .none) (hi : s.heap.IsListIter it l 0) (hl : s.heap.IsList l items) (eS : s.heap.get? S = some { cls := .type "list", data := .seq #[] c0 })
    (hR : ∀ h' tk acc c as, (∀ b o, b ≠ S → b ≠ e → b ≠ it → s.heap.get? b = some o → h'.get? b = some o) → h'.get? S = some { cls := .type "list", dict := none, data := .seq acc c, slots := #[] } → as.length = (kvN k0 items).length → KdxG (L2.mixKind prog w) (kvN k0 items) S h' as →
      acc.toList = as.map Value.ref → R (.ok (.ret res)) { s with heap := h', toks := tk }) :
    wpAny (model prog w) A.in1 (Builtin.List.listExtendWith (.ref S) (.ref e) res)
      (fun fin s' => match fin with | .done f => R (.ok f) s' | .again c' => c'.quiet = true ∧ codeAny (model prog w) A c' R s') (fun x s' => R (.error x) s') s := by
  have tt : s.TypeIs (.ref e) "enumerate" := ⟨_, st, rfl⟩
  have e00 : k0 + ((0 : Nat) : Int) = k0 := by omega
  unfold Builtin.List.listExtendWith
  refine wpAny_bind (wpAny_typeOf (T := "enumerate") tt ?_)
  have e1 : Builtin.List.listSameRef (.ref S) (.ref e) = false := by simp [Builtin.List.listSameRef, nSe]
  have e2 : (Value.type "enumerate" == Value.type "list") = false := by decide
  have e3 : (Value.type "enumerate" == Value.type "tuple") = false := by decide
  simp only [e1, e2, e3, Bool.or_false, Bool.false_eq_true, if_false]
  refine wpAny_bind (wpAny_pyIter_enum st ?_)
  refine wpAny_bind (wpAny_holding (hint_en tt ?_))
  refine wpAny_ite_split (fun _ => ?_) (fun z => absurd (by simp) z)
  refine wpAny_bind (wpAny_rule ?_)
  refine wpAny_bind ?_
  have q2 := Heap.get?_update_self (Obj.mapSeq (·.push Value.none)) eS rfl
  have q3 := Heap.get?_update_self (Obj.mapSeq (·.pop)) q2 rfl
  have ot : ∀ b o, b ≠ S → s.heap.get? b = some o → ((s.heap.update S (Obj.mapSeq (·.push Value.none))).update S (Obj.mapSeq (·.pop))).get? b = some o := fun b o n q => (Heap.get?_update_other _ _ (Ne.symm n)).trans ((Heap.get?_update_other _ _ (Ne.symm n)).trans q)
  refine wpAny_bind (m := updateSeq S (·.push .none)) (wpAny_updateSeq eS rfl (wpAny_updateSeq (hz := by seq_fits) q2 rfl ?_))
  refine wpAny_pure ⟨plainId_quiet PySem.F.plain_extend_loop _, ?_⟩
  refine fill (s := s) (h1 := s.heap) hh nli nei nle nSe nSi nSl big res hR items.size 0 _ s.toks _ #[] [] (Nat.sub_zero _) (Nat.zero_le _) (.inl ⟨.none, ?_⟩) (hi.at fun o q => ot it o nSi.symm q) (hl.at fun o q => ot l o nSl.symm q) (fun b o n1 _ _ q => ot b o n1 q) q3 rfl rfl ⟨.nil, fun a z => by simp at z, fun j a z => by simp at z⟩ (fun a z => by simp at z)
  rw [e00]
  exact ot e _ nSe.symm st
theorem ini {S e it l : Addr} (hh : A.handled = none) (nli : l ≠ it) (nei : e ≠ it) (nle : l ≠ e) (nSe : S ≠ e) (nSi : S ≠ it) (nSl : S ≠ l) (big : items.size ≤ sizeLine)
    (st : IsEnum s.heap e it k0 .none) (hi : s.heap.IsListIter it l 0) (hl : s.heap.IsList l items) (eS : s.heap.get? S = some { cls := .type "list", data := .seq #[] })
    (hR : ∀ h' tk acc c as, (∀ b o, b ≠ S → b ≠ e → b ≠ it → s.heap.get? b = some o → h'.get? b = some o) → h'.get? S = some { cls := .type "list", dict := none, data := .seq acc c, slots := #[] } → as.length = (kvN k0 items).length → KdxG (L2.mixKind prog w) (kvN k0 items) S h' as →
      acc.toList = as.map Value.ref → R (.ok (.ret .none)) { s with heap := h', toks := tk }) :
    wpAny (model prog w) A.in1 (Builtin.«list.__init__» ⟨[.ref S, .ref e], []⟩)
      (fun fin s' => match fin with | .done f => R (.ok f) s' | .again c' => c'.quiet = true ∧ codeAny (model prog w) A c' R s') (fun x s' => R (.error x) s') s := by
  refine wpAny_bind (m := Builtin.List.listItems (.ref S)) ?_
  unfold Builtin.List.listItems
  refine wpAny_bind (wpAny_seqItems eS rfl (wpAny_pure ?_))
  refine wpAny_bind (m := updateSeq S (fun _ => #[])) (wpAny_updateSeq eS rfl ?_)
  have q2 := Heap.get?_update_self (Obj.mapSeq (fun _ => (#[] : Array Value))) eS rfl
  have ot : ∀ b o, b ≠ S → s.heap.get? b = some o → (s.heap.update S (Obj.mapSeq (fun _ => (#[] : Array Value)))).get? b = some o := fun b o n q => (Heap.get?_update_other _ _ (Ne.symm n)).trans q
  refine wpAny_bind (m := letGo (#[] : Array Value).toList.reverse) (wpAny_letGo ?_)
  exact ext hh nli nei nle nSe nSi nSl big .none (ot e _ nSe.symm st) (hi.at fun o q => ot it o nSi.symm q) (hl.at fun o q => ot l o nSl.symm q) q2 fun h' tk acc c as h1 h2 h3 h4 h5 => hR h' tk acc c as (fun b o n1 n2 n3 q => h1 b o n1 n2 n3 (ot b o n1 q)) h2 h3 h4 h5
theorem lst {e it l : Addr} {E : Value → Shared → Prop} {Q : Value → Shared → Prop} (hh : A.handled = none) (nli : l ≠ it) (nei : e ≠ it) (nle : l ≠ e) (big : items.size ≤ sizeLine)
    (st : IsEnum s.heap e it k0 .none) (hi : s.heap.IsListIter it l 0) (hl : s.heap.IsList l items)
    (hQ : ∀ h' tk acc c as, (∀ b o, b ≠ e → b ≠ it → s.heap.get? b = some o → h'.get? b = some o) → h'.get? s.heap.objs.size = some { cls := .type "list", dict := none, data := .seq acc c, slots := #[] } → as.length = (kvN k0 items).length → KdxG (L2.mixKind prog w) (kvN k0 items) s.heap.objs.size h' as →
      acc.toList = as.map Value.ref → Q (.ref s.heap.objs.size) { s with heap := h', toks := tk }) :
    wpAny (model prog w) A (call (.type "list") [.ref e]) Q E s := by
  refine callType_codes (Q₁ := fun obj s₁ => obj = .ref s.heap.objs.size ∧ s₁ = { s with heap := s.heap.push { cls := .type "list", data := .seq #[] } }) PySem.F.called_list (PySem.F.typeCall_list_1 _) PySem.F.entry_list_init (code_list_new _ ⟨rfl, rfl⟩) fun obj s1 z => ?_
  obtain ⟨rfl, rfl⟩ := z
  have eS : (s.heap.push { cls := .type "list", data := .seq #[] }).get? s.heap.objs.size = some { cls := .type "list", data := .seq #[] } := Heap.get?_push_size _ rfl
  have ot : ∀ b o, s.heap.get? b = some o → (s.heap.push { cls := .type "list", data := .seq #[] }).get? b = some o := fun b o q => Heap.get?_push_of_some _ q
  have l1 : e < s.heap.objs.size := Heap.lt_size st
  have l2 : it < s.heap.objs.size := by obtain ⟨_, q, _⟩ := hi; exact Heap.lt_size q
  have l3 : l < s.heap.objs.size := by obtain ⟨_, q, _⟩ := hl; exact Heap.lt_size q
  refine ⟨⟨_, eS, rfl⟩, PySem.F.args_list_init_2 _ _, ini (A := A.in1) hh nli nei nle (Nat.ne_of_gt l1) (Nat.ne_of_gt l2) (Nat.ne_of_gt l3) big (ot _ _ st) (hi.at fun o q => ot it o q) (hl.at fun o q => ot l o q) eS fun h' tk acc c as h1 h2 h3 h4 h5 => ?_⟩
  exact ⟨rfl, hQ h' tk acc c as (fun b o n2 n3 q => h1 b o (Nat.ne_of_lt (Heap.lt_size q)) n2 n3 (ot b o q)) h2 h3 h4 h5⟩
end
end LE

namespace LE
open PySem PySem.Spec PyProof.Rows PySem.W L2
/-- the pairs (k, x), (k + 1, y), .. -/
def nvs (k : Int) (xs : List V) : List (Key × V) := xs.zipIdx.map fun p => (Sum.inl (k + (p.2 : Int)), p.1)
theorem nvs_len {k : Int} {xs : List V} : (nvs k xs).length = xs.length := by
  unfold nvs
  simp
theorem kv_zip (k : Int) : ∀ {xs : List V} {us : List Value} (n : Nat), Vals xs us → KV ((xs.zipIdx n).map fun p => ((Sum.inl (k + (p.2 : Int)) : Key), p.1)) ((us.zipIdx n).map fun p => ((Sum.inl (k + (p.2 : Int)) : Key), p.1))
  | _, _, _, .nil => .nil
  | _, _, n, .cons r t => .cons ⟨rfl, r⟩ (kv_zip k (n + 1) t)
section
variable {X : Cx}
theorem laid2 {pins : List (Addr × Obj)} {σ : L2.St} {H : Hp} {s : Shared} {h' : Heap} {tk : Nat} {kvs : List (Key × V)} {vs : List (Key × Value)} {acc : Array Value} {c : Nat} {as : List Addr} {S : Addr} (I : Inv X pins σ H s) (lo : s.heap.objs.size ≤ S) (big : kvs.length ≤ sizeLine) (kv : KV kvs vs)
    (old : ∀ b o, s.heap.get? b = some o → h'.get? b = some o) (eS : h'.get? S = some { cls := .type "list", dict := none, data := .seq acc c, slots := #[] }) (la : as.length = vs.length) (G : KdxG (mixKind X.prog X.w) vs S h' as) (ea : acc.toList = as.map Value.ref) :
    ∃ H' : Hp, (∀ b o, H b = some o → H' b = some o) ∧ H S = none ∧ (∀ t ∈ as, H t = none) ∧ S ∉ as ∧ H' S = some (.lst (as.map V.ref)) ∧ Paired (fun (t : Addr) (q : Key × V) => H' t = some (.tup [kV q.1, q.2])) as kvs ∧ Inv X pins σ H' { s with heap := h', toks := tk } := by
  have lk : kvs.length = vs.length := Paired.length kv
  have nS : S ∉ as := fun z => Nat.lt_irrefl _ (G.above _ z)
  have nd : as.Nodup := G.rise.imp fun {a b} (h : a < b) => Nat.ne_of_lt h
  have f1 : ∀ t ∈ as, H t = none := fun t ht => I.hok.fresh (Nat.le_trans lo (Nat.le_of_lt (G.above t ht)))
  have f2 : H S = none := I.hok.fresh lo
  let HH := LiI.putT (upd H S (.lst (as.map V.ref))) as kvs
  have atP : Paired (fun (t : Addr) (q : Key × V) => HH t = some (.tup [kV q.1, q.2])) as kvs := LiI.putT_at as kvs _ (by omega) nd
  have off : ∀ b, b ∉ as → b ≠ S → HH b = H b := fun b q1 q2 => (LiI.putT_off as kvs _ q1).trans (upd_ne q2)
  have low : ∀ b o, s.heap.get? b = some o → b ∉ as ∧ b ≠ S := fun b o q => by
    have lb : b < s.heap.objs.size := Heap.lt_size q
    exact ⟨fun z => Nat.lt_irrefl _ (Nat.lt_trans lb (Nat.lt_of_le_of_lt lo (G.above b z))), Nat.ne_of_lt (Nat.lt_of_lt_of_le lb lo)⟩
  have kp : ∀ b u, H b = some u → HH b = some u := fun b u q => by
    rw [off b (fun z => by rw [f1 b z] at q; cases q) (fun z => by rw [z, f2] at q; cases q)]
    exact q
  have hS : HH S = some (.lst (as.map V.ref)) := (LiI.putT_off as kvs _ nS).trans upd_same
  refine ⟨HH, kp, f2, f1, nS, hS, atP, ?_⟩
  refine I.call' (ch := []) rfl ⟨fun b o q _ _ _ => old b o q, fun b o q _ _ _ => ⟨o.slots, old b o q⟩, fun b o q n _ => ?_, fun b o q _ => ⟨o, old b o q⟩, fun b xs q => kp b _ q, fun b o u q => kp b _ q, fun b ps q => ⟨#[], by rw [kp b _ q]; simp⟩⟩ (fun b u q => ?_) I.bare fun b z => by simp at z
  · obtain ⟨z1, z2⟩ := low b o q
    rw [off b z1 z2]
    exact n
  · by_cases hb : b ∈ as
    · obtain ⟨j, pk, e1, e2, e3⟩ := LiI.paired_ix atP hb
      rw [e3] at q
      cases q
      obtain ⟨key, kk, x, g1, g2, g3⟩ := G.pairs j b e1
      obtain ⟨qv, g4, g5, g6⟩ := LiI.paired_get kv e2
      rw [g1] at g4
      cases g4
      have rk : RelV (kV pk.1) key := by
        rw [g5]
        exact relV_key (show keyIs kk key = true from g2)
      exact ⟨by show 2 ≤ sizeLine; decide, [key, x], .cons rk (.cons g6 .nil), ⟨_, g3, rfl, _, rfl⟩⟩
    · by_cases hb2 : b = S
      · rw [hb2] at q ⊢
        rw [hS] at q
        cases q
        refine ⟨by rw [List.length_map]; omega, acc.toList, c, by rw [ea]; exact LiI.vals_refs as, ?_⟩
        rw [Array.toArray_toList]
        exact eS
      · rw [off b hb hb2] at q
        exact (I.hok b u q).stay (fun d v _ y => old d v y) (fun d y => kp d _ y) fun d xs y => kp d _ y
end
/-- f(e, .., k=..) of a built-in class -/
theorem kwType {M : Model} {A : Around} {E : Value → Shared → Prop} {s : Shared} {env : Env} {pos : Pos} {T : String} {e : Expr} {rest : List Expr} {kws : List Keyword} {Q : Value → Shared → Prop}
    (h : wpAny M A (spliced (backTo pos (starEach (e :: rest) env))) (fun vs s1 => wpAny M A (evalAll ((backToKw pos (keywordEach kws env)).map (·.2))) (fun ks s2 => wpAny M A (call (.type T) vs (((backToKw pos (keywordEach kws env)).filterMap (·.1)).zip ks)) Q E s2) E s1) E s)
    (he : backTo pos (starEach (e :: rest) env) = (false, eval e env) :: backTo pos (starEach rest env)) (hp : (backTo pos (starEach (e :: rest) env)).any (·.1) = false)
    (ha : (backToKw pos (keywordEach kws env)).all (·.1.isSome) = true) (hn : (backToKw pos (keywordEach kws env)).any (·.1.isNone) = false) :
    wpAny M A (callWith pos (.type T) [] (backTo pos (starEach (e :: rest) env)) (backToKw pos (keywordEach kws env))) Q E s := by
  unfold callWith
  rw [he] at h hp ⊢
  refine wpAny_bind (wpAny_holding (wpAny_mono (evalArgs_kwB (f := .type T) (Q := fun a s1 => wpAny M A (call (.type T) ([] ++ a.pos) a.kw) Q E s1) ha h) (fun a s1 z => wpAny_bind (wpAny_standAt ?_)) fun _ _ x => x))
  simp only [hp, hn, Bool.or_false]
  refine wpAny_bind (wpAny_pure ?_)
  exact wpAny_bind (wpAny_mono z (fun r s2 q => wpAny_bind (wpAny_holding (wpAny_point (wpAny_pure q)))) fun _ _ x => x)
def tLstEn (K : PySem.W.Frag) (ta : TA) (tk : TA) : TE := fun σ H Q => ta σ H fun xs0 H1 => tk σ H1 fun ys0 H2 => ∃ (a : Addr) (xs : List V) (k : Int), xs0 = [.ref a] ∧ ys0 = [.int k] ∧ SqL K H2 a xs ∧ -(2 ^ 62) ≤ k ∧ k < 2 ^ 62 ∧
  ∀ (S : Addr) (as : List Addr) (H' : Hp), (∀ b o, H2 b = some o → H' b = some o) → H2 S = none → H' S = some (.lst (as.map V.ref)) → Paired (fun (t : Addr) (q : Key × V) => H' t = some (.tup [kV q.1, q.2])) as (nvs k xs) → Q (.ref S) H'
/-- list(enumerate(e, start=f)) -/
theorem pe_listEn {X : Cx} {e f : Expr} {ta tk : TA} {p p2 kp pos pos2 : Pos} (hc : X.calm = true) (hg : Gl X "list") (hm : X.mg "list" = none) (hg2 : Gl X "enumerate") (hm2 : X.mg "enumerate" = none) (ha : PA X [e] ta) (hk : PK X [⟨some (Str.ofString "start"), f, kp⟩] tk)
    (hs : starEach [.Call (.Name "enumerate" p2) [e] [⟨some (Str.ofString "start"), f, kp⟩] pos2] X.env = (false, eval (.Call (.Name "enumerate" p2) [e] [⟨some (Str.ofString "start"), f, kp⟩] pos2) X.env) :: starEach [] X.env := by rfl)
    (he : backTo pos2 (starEach [e] X.env) = (false, eval e X.env) :: backTo pos2 (starEach [] X.env) := by rfl) (hp : (backTo pos2 (starEach [e] X.env)).any (·.1) = false := by rfl) :
    PE X (.Call (.Name "list" p) [.Call (.Name "enumerate" p2) [e] [⟨some (Str.ofString "start"), f, kp⟩] pos2] [] pos) (tLstEn X.K ta tk) := by
  refine ⟨fun pins s σ H Q I h => ?_⟩
  refine wpAny_Call_Name_kw (ld_blt I hg hm PyProof.Rows.boot_list ?_)
  refine PyProof.Rows.callWith_type1 ?_ hs rfl
  rw [hs]
  refine Calls.spliced_cons (x := eval (.Call (.Name "enumerate" p2) [e] [⟨some (Str.ofString "start"), f, kp⟩] pos2) X.env) ?_
  refine wpAny_Call_Name_kw (ld_blt I hg2 hm2 PyProof.Rows.boot_enumerate ?_)
  refine kwType (thn (ha.run pos2 pins s σ H _ I h) fun us s1 ⟨xs0, H1, I1, r1, q1⟩ => thn (hk.run pos2 pins s1 σ H1 _ I1 q1) fun ws s2 ⟨ys0, H2, I2, r2, q2⟩ => ?_) he hp rfl rfl
  obtain ⟨a, xs, k, rfl, rfl, hq, b0, b1, q⟩ := q2
  obtain rfl := Vals.ref1 r1
  obtain ⟨w1, rfl, e1⟩ := vals1 r2
  obtain ⟨t, rfl⟩ : ∃ t, w1 = Value.int k t := e1
  obtain ⟨its, rv, pl, hz⟩ := I2.list hq
  have la : a < s2.heap.objs.size := by obtain ⟨o, z, _⟩ := pl.isList; exact Heap.lt_size z
  refine enum_begins_start (begins_list a its.toArray) pl.isList (by omega) (by omega) fun h1 z1 z2 z3 z4 => ?_
  refine Calls.spliced_nil ?_
  have lsz : its.toArray.size ≤ sizeLine := by
    rw [List.size_toArray, ← rv.length]
    exact hz
  refine lst (items := its.toArray) (k0 := k) (l := a) (it := s2.heap.objs.size) (I2.ok.hd hc) (Nat.ne_of_lt la) (Nat.succ_ne_self _) (Nat.ne_of_lt (Nat.lt_succ_of_lt la)) lsz z1 ⟨_, z2, rfl, rfl⟩ (pl.isList.at fun o x => z4 a o x) fun h2 tk2 acc c as y1 y2 y3 y4 y5 => ?_
  have kz : KV (nvs k xs) (kvN k its.toArray) := kv_zip k 0 rv
  obtain ⟨H', j1, j2, j3, j4, j5, j6, J⟩ := laid2 (tk := tk2) (S := h1.objs.size) I2 (by rw [z3]; exact Nat.le_add_right _ _) (by rw [nvs_len]; exact hz) kz (fun b o x => y1 b o (Nat.ne_of_lt (Nat.lt_succ_of_lt (Heap.lt_size x))) (Nat.ne_of_lt (Heap.lt_size x)) (z4 b o x)) y2 y3 y4 y5
  exact ⟨.ref _, H', J, rfl, q _ as H' j1 j2 j5 j6⟩
end LE

namespace Q
open PySem L2 QR LE
abbrev sOW : Stmt := inClass (top 10) 3
abbrev sOC : Stmt := inClass (top 10) 6
abbrev sNC : Stmt := inClass (top 11) 5
/-- the list at S holds the pairs of those at xs, numbered from k on -/
def PrsAt (H : Hp) (S : Addr) (k : Int) (xs : List V) : Prop := ∃ as : List Addr, H S = some (.lst (as.map V.ref)) ∧ Paired (fun (t : Addr) (q : Key × V) => H t = some (.tup [kV q.1, q.2])) as (nvs k xs)
theorem PrsAt.same {H H' : Hp} {S : Addr} {k : Int} {xs : List V} (h : PrsAt H S k xs) (s : Same H H') : PrsAt H' S k xs := by
  obtain ⟨as, h1, h2⟩ := h
  refine ⟨as, s _ _ h1, ?_⟩
  clear h1
  generalize nvs k xs = ys at h2 ⊢
  induction h2 with
  | nil => exact .nil
  | cons r t ih => exact .cons (s _ _ r) ih
def spOW (CO : Addr) : Sp := fun vs H Q _ => ∃ (x dx la : Addr) (kt : Nat) (xs : List V), vs = [.ref x] ∧ OutX CO H x dx la kt xs ∧ kt < 8589934592 ∧ ∀ S H', Same H H' → H S = none → PrsAt H' S (kt : Int) xs → Q (.ref S) H'
def spOC (CO : Addr) : Sp := fun vs H Q _ => ∃ (x dx la : Addr) (kt : Nat) (xs : List V), vs = [.ref x] ∧ OutX CO H x dx la kt xs ∧ ∀ y dy lb H', H y = none → H lb = none → lb ≠ y → Same H H' → OutX CO H' y dy lb kt xs → Q (.ref y) H'
def spNC (CN : Addr) : Sp := fun vs H Q _ => ∃ (x dx d : Addr) (t : Nat) (kvs : List (Key × V)), vs = [.ref x] ∧ IncX CN H x dx d t kvs ∧ ∀ y dy e H', H y = none → H e = none → e ≠ y → Same H H' → IncX CN H' y dy e t kvs → Q (.ref y) H'
def spHeld (CN : Addr) : Sp := fun vs H Q _ => ∃ (x dx d : Addr) (t : Nat) (kvs : List (Key × V)) (ns : List Int), vs = [.ref x] ∧ IncX CN H x dx d t kvs ∧ kvs.map (fun p => kV p.1) = ns.map V.int ∧ ∀ (u : Addr) (ns' : List Int) (H' : Hp), Same H H' → H u = none → ns'.Perm ns → ns'.Pairwise (· ≤ ·) → H' u = some (.tup (ns'.map V.int)) → Q (.ref u) H'
theorem nF_d (t : Nat) (d e : Addr) : putF "_kept" (.ref e) (nF t d) = nF t e := by
  unfold nF putF
  rw [if_neg (by decide +kernel)]
  unfold putF
  rw [if_pos rfl]
section
variable {P : Program} {w : World} {K : PySem.W.Frag} {mg : Str → Option Value} {base : Heap}
/-- the methods that copy, and that tell what waits -/
structure OMore (K : PySem.W.Frag) (CO : Addr) where
  fW : Addr
  dW : FuncData
  FW : Fun K "waiting" "Outgoing.waiting" sOW fW dW
  bW : Binds K dW ["self"] []
  mW : Meth K CO "waiting" fW
  fC : Addr
  dC : FuncData
  FC : Fun K "copy" "Outgoing.copy" sOC fC dC
  bC : Binds K dC ["self"] []
  mC : Meth K CO "copy" fC
structure NMore (K : PySem.W.Frag) (CN : Addr) where
  fC : Addr
  dC : FuncData
  FC : Fun K "copy" "Incoming.copy" sNC fC dC
  bC : Binds K dC ["self"] []
  mC : Meth K CN "copy" fC
theorem scOW : FnScope ["self"] ["self"] (defScope sOW) := ⟨rfl, rfl, rfl, by decide +kernel, rfl, by decide +kernel, by decide +kernel⟩
theorem ok_oW {CO : Addr} (T : OTxt K mg CO) (M : OMore K CO) (B : Bts mg) (be : mg "enumerate" = none) : FnOk P w K mg base CX0 1 M.fW M.dW ["self"] (spOW CO) := by
  refine M.FW.ok scOW (fun vs H Q E h => ?_) (fun cdv A outer s H vs Q E hr h => ?_)
  · obtain ⟨x, dx, la, kt, xs, rfl, _⟩ := h
    rfl
  · obtain ⟨x, dx, la, kt, xs, rfl, o, lt, k⟩ := h
    refine ⟨_, pss_one (ps_ret (pe_listEn rfl (by rfl) B.list (by rfl) be (pa_cons (pe_fld (pv 0) rfl) pa_nil) (pk_cons (pe_fld (pv 0) rfl) pk_nil))), ?_⟩
    refine ⟨_, rfl, x, CO, dx, _, _, rfl, o.at_, T.cl, T.nT, rfl, _, rfl, x, CO, dx, _, _, rfl, o.at_, T.cl, T.nK, rfl, la, xs, (kt : Int), rfl, rfl, SqL.of o.lst, by omega, by omega, fun S as H' s1 e1 e2 e3 => ?_⟩
    exact k S H' s1 e1 ⟨as, e2, e3⟩
theorem scOC : FnScope ["self", "other"] ["self"] (defScope sOC) := ⟨rfl, rfl, rfl, by decide +kernel, rfl, by decide +kernel, by decide +kernel⟩
theorem ok_oC {CO : Addr} (T : OTxt K mg CO) (M : OMore K CO) (N : ODefs K CO) (B : Bts mg) : FnOk P w K mg base CX0 3 M.fC M.dC ["self"] (spOC CO) := by
  have GI : FnOk P w K mg base CX0 1 N.fI N.dI ["self"] (spOI CO) := ok_oI T N
  refine M.FC.ok scOC (fun vs H Q E h => ?_) (fun cdv A outer s H vs Q E hr h => ?_)
  · obtain ⟨x, dx, la, kt, xs, rfl, _⟩ := h
    rfl
  · obtain ⟨x, dx, la, kt, xs, rfl, o, k⟩ := h
    have nd := scOC.nd
    refine ⟨_, pss_cons (ps_set (i := 1) nd rfl (.inl rfl) (pe_make0 N.mM GI (hr.mono (by decide)) rfl T.mgC N.bI .nil pass0))
      (pss_cons (ps_fld (pv 1) (pe_fld (pv 0) rfl) rfl)
      (pss_cons (ps_fld (pv 1) (pe_callTy call_list_of (by rfl) B.list PyProof.Rows.boot_list (pa_cons (pe_fld (pv 0) rfl) pa_nil)) rfl)
      (pss_one (ps_ret (pv 1))))), ?_⟩
    intro y dy ny ndy ney
    have w1 : Same H (upd (upd H dy (.own y)) y (.ins CO dy [])) := fun b u e => by
      rw [upd_ne (ne_of_none e ny), upd_ne (ne_of_none e ndy)]
      exact e
    refine ⟨y, dy, rfl, upd_same, fun lb H1 nlb lby b1 o1 => ⟨rfl, ?_⟩⟩
    have s1 : Same H H1 := fun b u e => b1 b u (w1 b u e) (ne_of_none e ny)
    have o0 := o.same s1
    have nyx : y ≠ x := (ne_of_none o.at_ ny).symm
    refine ⟨_, rfl, x, CO, dx, _, _, rfl, o0.at_, T.cl, T.nK, rfl, _, rfl, y, CO, dy, _, rfl, o1.at_, T.cl, T.nK, (by show 2 < 1000; decide), ?_⟩
    have e2 : ∀ {a : Addr} {u : HO}, a ≠ y → H1 a = some u → (upd H1 y (.ins CO dy (putF "_known_taken" (.int (kt : Int)) (oF 0 lb)))) a = some u := fun n q => by rw [upd_ne n]; exact q
    rw [oF_k]
    have ey : (upd H1 y (.ins CO dy (oF kt lb))) y = some (.ins CO dy (oF kt lb)) := upd_same
    rw [oF_k] at e2
    have nly : la ≠ y := ne_of_none o.lst ny
    refine ⟨_, rfl, x, CO, dx, _, _, rfl, e2 nyx.symm o0.at_, T.cl, T.nT, rfl, la, xs, rfl, .inl (SqL.of (e2 nly o0.lst)), fun lc hlc => ?_⟩
    have nyc : y ≠ lc := ne_of_none ey hlc
    refine ⟨_, rfl, y, CO, dy, _, rfl, by rw [upd_ne nyc]; exact ey, T.cl, T.nT, (by show 2 < 1000; decide), ?_⟩
    rw [oF_t]
    have nlc1 : H1 lc = none := by rw [upd_ne nyc.symm] at hlc; exact hlc
    refine ⟨_, rfl, k y dy lc _ ny (sNo s1 nlc1) nyc.symm (fun b u q => ?_) ⟨upd_same, by rw [upd_ne nyc.symm, upd_same], o.few⟩⟩
    have q1 := s1 b u q
    rw [upd_ne (ne_of_none q ny), upd_ne (ne_of_none q1 nlc1), upd_ne (ne_of_none q ny)]
    exact q1
theorem scNC : FnScope ["self", "other"] ["self"] (defScope sNC) := ⟨rfl, rfl, rfl, by decide +kernel, rfl, by decide +kernel, by decide +kernel⟩
theorem ok_nC {CN : Addr} (T : NTxt K mg CN) (M : NMore K CN) (N : NDefs K CN) (B : Bts mg) (bd : mg "dict" = none) : FnOk P w K mg base CX0 3 M.fC M.dC ["self"] (spNC CN) := by
  have GI : FnOk P w K mg base CX0 1 N.fI N.dI ["self"] (spNI CN) := ok_nI T N
  refine M.FC.ok scNC (fun vs H Q E h => ?_) (fun cdv A outer s H vs Q E hr h => ?_)
  · obtain ⟨x, dx, d, t, kvs, rfl, _⟩ := h
    rfl
  · obtain ⟨x, dx, d, t, kvs, rfl, o, k⟩ := h
    have nd := scNC.nd
    refine ⟨_, pss_cons (ps_set (i := 1) nd rfl (.inl rfl) (pe_make0 N.mM GI (hr.mono (by decide)) rfl T.mgC N.bI .nil pass0))
      (pss_cons (ps_fld (pv 1) (pe_fld (pv 0) rfl) rfl)
      (pss_cons (ps_fld (pv 1) (pe_callTy call_dictD (by rfl) bd PyProof.Rows.boot_dict (pa_cons (pe_fld (pv 0) rfl) pa_nil)) rfl)
      (pss_one (ps_ret (pv 1))))), ?_⟩
    intro y dy ny ndy ney
    have w1 : Same H (upd (upd H dy (.own y)) y (.ins CN dy [])) := fun b u e => by
      rw [upd_ne (ne_of_none e ny), upd_ne (ne_of_none e ndy)]
      exact e
    refine ⟨y, dy, rfl, upd_same, fun lb H1 nlb lby b1 o1 => ⟨rfl, ?_⟩⟩
    have s1 : Same H H1 := fun b u e => b1 b u (w1 b u e) (ne_of_none e ny)
    have o0 := o.same s1
    have nyx : y ≠ x := (ne_of_none o.at_ ny).symm
    refine ⟨_, rfl, x, CN, dx, _, _, rfl, o0.at_, T.cl, T.nM, rfl, _, rfl, y, CN, dy, _, rfl, o1.at_, T.cl, T.nM, (by show 2 < 1000; decide), ?_⟩
    rw [nF_m]
    have ey : (upd H1 y (.ins CN dy (nF t lb))) y = some (.ins CN dy (nF t lb)) := upd_same
    have e2 : ∀ {a : Addr} {u : HO}, a ≠ y → H1 a = some u → (upd H1 y (.ins CN dy (nF t lb))) a = some u := fun n q => by rw [upd_ne n]; exact q
    have nly : d ≠ y := ne_of_none o.dct ny
    refine ⟨_, rfl, x, CN, dx, _, _, rfl, e2 nyx.symm o0.at_, T.cl, T.nK, rfl, d, kvs, rfl, .inl (e2 nly o0.dct), fun lc hlc => ?_⟩
    have nyc : y ≠ lc := ne_of_none ey hlc
    refine ⟨_, rfl, y, CN, dy, _, rfl, by rw [upd_ne nyc]; exact ey, T.cl, T.nK, (by show 2 < 1000; decide), ?_⟩
    rw [nF_d]
    have nlc1 : H1 lc = none := by rw [upd_ne nyc.symm] at hlc; exact hlc
    refine ⟨_, rfl, k y dy lc _ ny (sNo s1 nlc1) nyc.symm (fun b u q => ?_) ⟨upd_same, by rw [upd_ne nyc.symm, upd_same], o.few⟩⟩
    have q1 := s1 b u q
    rw [upd_ne (ne_of_none q ny), upd_ne (ne_of_none q1 nlc1), upd_ne (ne_of_none q ny)]
    exact q1
theorem ok_held {CN : Addr} (T : NTxt K mg CN) (M : NDefs K CN) (B : Bts mg) (bs : mg "sorted" = none) : FnOk P w K mg base CX0 1 M.fH M.dH ["self"] (spHeld CN) := by
  refine M.FH.ok scNH (fun vs H Q E h => ?_) (fun cdv A outer s H vs Q E hr h => ?_)
  · obtain ⟨x, dx, d, t, kvs, ns, rfl, _⟩ := h
    rfl
  · obtain ⟨x, dx, d, t, kvs, ns, rfl, o, en, k⟩ := h
    refine ⟨_, pss_one (ps_ret (pe_callTy call_tuple_of (by rfl) B.tuple PyProof.Rows.boot_tuple (pa_cons (pe_callB cr_sortedI (by rfl) bs PyProof.Rows.boot_sorted (pa_cons (pe_callTy (call_listD rfl) (by rfl) B.list PyProof.Rows.boot_list (pa_cons (pe_fld (pv 0) rfl) pa_nil)) pa_nil)) pa_nil))), ?_⟩
    refine ⟨_, rfl, x, CN, dx, _, _, rfl, o.at_, T.cl, T.nK, rfl, d, _, rfl, .inl o.dct, fun a ha => ?_⟩
    rw [en]
    have s1 := sN (o := .lst (ns.map V.int)) ha
    refine ⟨a, ns, rfl, SqL.of upd_same, fun ns' b hp hs hb => ?_⟩
    have s2 := sT s1 (sN (o := .lst (ns'.map V.int)) hb)
    exact ⟨b, _, rfl, .inl ⟨SqL.of upd_same, fun u hu => k u ns' _ (sT s2 (sN hu)) (sNo s2 hu) hp hs upd_same⟩⟩
end
end Q

namespace Q
open PySem L2 QR LE
abbrev sHeard : Stmt := top 26
abbrev kTk : Key := Sum.inr "taken"
abbrev kHd : Key := Sum.inr "held"
def mKv (t : Nat) (hd : Addr) : List (Key × V) := [(kTk, .int (t : Int)), (kHd, .ref hd)]
theorem kne : ¬ kTk = kHd := by decide +kernel
theorem mk_t (t : Nat) (hd : Addr) : valV (mKv t hd) kTk = some (.int (t : Int)) := valV_pos rfl
theorem mk_h (t : Nat) (hd : Addr) : valV (mKv t hd) kHd = some (.ref hd) := (valV_neg kne).trans (valV_pos rfl)
theorem mk_put (t u : Nat) (hd : Addr) : putK (mKv t hd) kTk (.int (u : Int)) = mKv u hd := by
  unfold mKv putK
  simp [kne, Ne.symm kne]
/-- what the law minds -/
structure MindAt (H : Hp) (m hd : Addr) (t : Nat) (kvs : List (Key × V)) : Prop where
  at_ : H m = some (.dK (mKv t hd))
  dct : H hd = some (.dK kvs)
  ne : m ≠ hd
  few : kvs.length ≤ 9000
theorem MindAt.same {H H' : Hp} {m hd : Addr} {t : Nat} {kvs : List (Key × V)} (h : MindAt H m hd t kvs) (s : Same H H') : MindAt H' m hd t kvs := ⟨s _ _ h.at_, s _ _ h.dct, h.ne, h.few⟩
theorem MindAt.t {H : Hp} {m hd : Addr} {t : Nat} {kvs : List (Key × V)} (h : MindAt H m hd t kvs) : DGet H m (.str "taken") (some (.int (t : Int))) := by
  have z := DGet.k (k := kTk) h.at_
  rw [mk_t] at z
  exact z
theorem MindAt.h {H : Hp} {m hd : Addr} {t : Nat} {kvs : List (Key × V)} (h : MindAt H m hd t kvs) : DGet H m (.str "held") (some (.ref hd)) := by
  have z := DGet.k (k := kHd) h.at_
  rw [mk_h] at z
  exact z
def spHeard : Sp := fun vs H Q _ => ∃ (m hd : Addr) (t i : Nat) (kvs : List (Key × V)) (thing : V), vs = [.ref m, .int (i : Int), thing] ∧ MindAt H m hd t kvs ∧ kvs.length < 9000 ∧
  ∀ z H', H z = none → B2 m hd H H' → H' z = some (.lst (drn t (held1 t i thing kvs)).1) → MindAt H' m hd (drn t (held1 t i thing kvs)).2.1 (drn t (held1 t i thing kvs)).2.2 → Q (.ref z) H'
section
variable {P : Program} {w : World} {K : PySem.W.Frag} {mg : Str → Option Value} {base : Heap}
theorem scHeard : FnScope ["mind", "number", "thing", "held", "found", "k"] ["mind", "number", "thing"] (defScope sHeard) := ⟨rfl, rfl, rfl, by decide +kernel, rfl, by decide +kernel, by decide +kernel⟩
theorem ok_heard {f : Addr} {fd : FuncData} (D : Df K mg "_law_heard" sHeard ["mind", "number", "thing"] f fd) (B : Bts mg) : FnOk P w K mg base CX0 1 f fd ["mind", "number", "thing"] spHeard := by
  refine D.F.ok scHeard (fun vs H Q E h => ?_) (fun cdv A outer s H vs Q E hr h => ?_)
  · obtain ⟨m, hd, t, i, kvs, thing, rfl, _⟩ := h
    rfl
  · obtain ⟨m, hd, t, i, kvs, thing, rfl, o, few, k⟩ := h
    have nd := scHeard.nd
    have hu := hu_of hr
    refine ⟨_, C8.pss_cut (ps_if (PW.pt (pw_and (pt_cmpR op_le (pe_dget hu (pv 0) pe_str (by intro _ _; rfl)) (pv 1) (nomark _)) (pw_and (pt_cmpR op_lt (pv 1) (pe_op op_add (pe_dget hu (pv 0) pe_str (by intro _ _; rfl)) pe_int) (nomark _)) (pw_and1 (pt_cmp (pc_dnotin hu (pv 1) (pe_dget hu (pv 0) pe_str (by intro _ _; rfl))))))))
        (pss_cons (ps_set (i := 3) nd rfl (.inl rfl) (pe_dget hu (pv 0) pe_str (by intro _ _; rfl))) (pss_one (ps_dput hu (pv 3) (pv 1) (pv 2) rfl))) pss_nil)
      (pss_cons (ps_set (i := 4) nd rfl (.inl rfl) (pe_lst pa_nil))
      (pss_cons (ps_for PassesOwn.never rfl (pi_range1 rfl B.range (pa_cons (pe_op op_add (pe_callB call_lenD (by rfl) B.len PySem.boot_len (pa_cons (pe_dget hu (pv 0) pe_str (by intro _ _; rfl)) pa_nil)) pe_int) pa_nil)) (pg_name (i := 5) nd rfl (.inl rfl))
        (pss_cons (ps_if (pt_cmp (pc_dnotin hu (pe_dget hu (pv 0) pe_str (by intro _ _; rfl)) (pe_dget hu (pv 0) pe_str (by intro _ _; rfl)))) (pss_one ps_break) pss_nil)
        (pss_cons (ps_expr (pe_bm PySem.F.plainAttrs_list PySem.F.slot_list_append PySem.F.type_list_append mt_append (pv 4) (pa_cons (pe_dpop1 (pe_dget hu (pv 0) pe_str (by intro _ _; rfl)) (pe_dget hu (pv 0) pe_str (by intro _ _; rfl)) ⟨rfl, rfl, rfl, rfl⟩) pa_nil)))
        (pss_one (ps_dput hu (pv 0) pe_str (pe_op op_add (pe_dget hu (pv 0) pe_str (by intro _ _; rfl)) pe_int) rfl)))))
      (pss_one (ps_ret (pv 4))))), ?_⟩
    refine ⟨fun σ H' => ∃ x3, σ = [some (.ref m), some (.int (i : Int)), some thing, x3, none, none] ∧ MindAt H' m hd t (held1 t i thing kvs) ∧ B2 m hd H H', ?_, ?_⟩
    · refine ⟨_, rfl, m, _, rfl, o.t, _, rfl, _, _, rfl, rfl, _, rfl, ite2 (fun c1 => ?_) (fun c1 => ?_)⟩
      case refine_2 =>
        have c1 : ¬ ((t : Int) ≤ (i : Int)) := fun z => c1 (decide_eq_true z)
        exact iteF ⟨none, rfl, by unfold held1; rw [if_neg (fun z => c1 (by have := z.1; omega))]; exact o, .rf⟩
      have c1 : (t : Int) ≤ (i : Int) := of_decide_eq_true c1
      refine ⟨_, rfl, _, rfl, m, _, rfl, o.t, _, _, rfl, rfl, _, _, rfl, rfl, _, rfl, ite2 (fun c2 => ?_) (fun c2 => ?_)⟩
      case refine_2 =>
        have c2 : ¬ ((i : Int) < (t : Int) + 1000) := fun z => c2 (decide_eq_true z)
        exact iteF ⟨none, rfl, by unfold held1; rw [if_neg (fun z => c2 (by have := z.2.1; omega))]; exact o, .rf⟩
      have c2 : (i : Int) < (t : Int) + 1000 := of_decide_eq_true c2
      refine ⟨_, rfl, _, rfl, m, _, rfl, o.h, hd, _, rfl, DGet.k (k := Sum.inl (i : Int)) o.dct, _, rfl, ?_⟩
      cases ev : valV kvs (Sum.inl (i : Int) : Key) with
      | some u =>
        exact iteF ⟨none, rfl, by unfold held1; rw [if_neg (fun z => by rw [ev] at z; cases z.2.2)]; exact o, .rf⟩
      | none =>
        refine iteT ⟨_, rfl, m, _, rfl, o.h, _, rfl, _, rfl, _, rfl, hd, _, rfl, DPut.k (k := Sum.inl (i : Int)) o.dct (size_ok (by omega)), _, rfl, ?_, fun b u e n1 n2 => by rw [upd_ne n2]; exact e⟩
        unfold held1
        rw [if_pos ⟨by omega, by omega, by rw [ev]; rfl⟩]
        refine ⟨by rw [upd_ne o.ne]; exact o.at_, upd_same, o.ne, ?_⟩
        rw [putK_new _ ev, List.length_append]
        show _ + 1 ≤ _
        omega
    · rintro σ H1 ⟨x3, rfl, o1, b1⟩
      refine ⟨Nat.zero_le _, fun z hz => ?_⟩
      have s2 := sN (o := .lst []) hz
      have o2 := o1.same s2
      have hz0 : H z = none := by
        cases e : H z with
        | none => rfl
        | some u =>
          have n1 : z ≠ m := (ne_of_none o1.at_ hz).symm
          have n2 : z ≠ hd := (ne_of_none o1.dct hz).symm
          rw [b1 z u e n1 n2] at hz
          cases hz
      have kk := k z
      have fw1 := o1.few
      generalize held1 t i thing kvs = kv1 at *
      refine ⟨_, rfl, m, _, rfl, o2.h, hd, _, rfl, o2.dct, _, _, rfl, rfl, _, rfl, by omega, by omega, for_range (lo := 0) (n := ((kv1.length : Int) + 1).toNat) (fun j σ H' => ∃ (t' : Nat) (kv2 : List (Key × V)) (acc : List V) (x5 : Option V), σ = [some (.ref m), some (.int (i : Int)), some thing, x3, some (.ref z), x5] ∧ MindAt H' m hd t' kv2 ∧ H' z = some (.lst acc) ∧ drn t kv1 = (acc ++ (drn t' kv2).1, (drn t' kv2).2) ∧ B2 m hd H H' ∧ kv2.length + j ≤ kv1.length ∧ acc.length + kv2.length ≤ 9000) ?_ ?_ ?_⟩
      · exact ⟨t, kv1, [], none, rfl, o2, upd_same, rfl, b1.st s2, Nat.le_refl _, by have := o1.few; show 0 + _ ≤ _; omega⟩
      · rintro j σ H2 hj ⟨t', kv2, acc, x5, rfl, o3, ez, ed, b3, hl, fw⟩
        refine ⟨_, rfl, m, _, rfl, o3.t, _, rfl, m, _, rfl, o3.h, hd, _, rfl, DGet.k (k := Sum.inl (t' : Int)) o3.dct, _, rfl, ?_⟩
        cases ev : valV kv2 (Sum.inl (t' : Int) : Key) with
        | none =>
          refine iteT ⟨_, rfl, ?_⟩
          rw [drn_none ev, List.append_nil] at ed
          rw [ed] at kk
          exact kk H2 hz0 b3 ez o3
        | some v =>
          have lt := drop_lt ev
          have nzm : z ≠ m := ne_of ez o3.at_ (fun q => by cases q)
          have nzd : z ≠ hd := ne_of ez o3.dct (fun q => by cases q)
          refine iteF ⟨_, rfl, .inl ⟨rfl, _, SqL.of ez⟩, _, rfl, m, _, rfl, o3.h, hd, rfl, .inl ⟨_, .inl o3.dct⟩, _, rfl, m, _, rfl, o3.t, kv2, Sum.inl (t' : Int), v, o3.dct, rfl, ev, ?_⟩
          refine ⟨z, acc, v, rfl, rfl, by rw [upd_ne nzd]; exact ez, size_ok (by omega), ?_⟩
          have o4 : MindAt (upd (upd H2 hd (.dK (dropK kv2 (.inl (t' : Int))))) z (.lst (acc ++ [v]))) m hd t' (dropK kv2 (.inl (t' : Int))) := ⟨by rw [upd_ne nzm.symm, upd_ne o3.ne]; exact o3.at_, by rw [upd_ne nzd.symm, upd_same], o3.ne, by have := o3.few; omega⟩
          have ez4 : (upd (upd H2 hd (.dK (dropK kv2 (.inl (t' : Int))))) z (.lst (acc ++ [v]))) z = some (.lst (acc ++ [v])) := upd_same
          have b4 : B2 m hd H (upd (upd H2 hd (.dK (dropK kv2 (.inl (t' : Int))))) z (.lst (acc ++ [v]))) := fun b u e n1 n2 => by
            rw [upd_ne (ne_of_none e hz0), upd_ne n2]
            exact b3 b u e n1 n2
          revert o4 ez4 b4
          generalize (upd (upd H2 hd (.dK (dropK kv2 (.inl (t' : Int))))) z (.lst (acc ++ [v]))) = H4
          intro o4 ez4 b4
          refine ⟨_, rfl, m, _, rfl, o4.t, _, _, rfl, rfl, _, rfl, m, _, rfl, DPut.k (k := kTk) o4.at_ (by show 2 < sizeLine; decide), ?_⟩
          have ep : putK (mKv t' hd) kTk (.int ((t' : Int) + 1)) = mKv (t' + 1) hd := mk_put t' (t' + 1) hd
          rw [ep]
          refine ⟨t' + 1, _, acc ++ [v], _, rfl, ⟨upd_same, by rw [upd_ne o4.ne.symm]; exact o4.dct, o4.ne, o4.few⟩, by rw [upd_ne nzm]; exact ez4, ?_, fun b u e n1 n2 => by rw [upd_ne n1]; exact b4 b u e n1 n2, ?_, ?_⟩
          · rw [ed, drn_some ev, List.append_assoc]
            rfl
          · omega
          · rw [List.length_append]
            show _ + 1 + _ ≤ _
            omega
      · rintro σ H2 ⟨t', kv2, acc, x5, rfl, o3, ez, ed, b3, hl, fw⟩
        omega
end
end Q

namespace Q
open PySem L2 QR LE
/-- what is held are things of ts, from t on -/
def KI (ts : List V) (t : Nat) (kvs : List (Key × V)) : Prop := ∀ k v, valV kvs k = some v → ∃ n : Nat, k = .inl (n : Int) ∧ t ≤ n ∧ ts[n]? = some v
theorem KI.mono {ts : List V} {t u : Nat} {kvs : List (Key × V)} (h : KI ts t kvs) (le : u ≤ t) : KI ts u kvs := fun k v e => by
  obtain ⟨n, h1, h2, h3⟩ := h k v e
  exact ⟨n, h1, by omega, h3⟩
theorem KI.nil {ts : List V} {t : Nat} : KI ts t [] := fun k v e => by cases e
theorem val_drop {kvs : List (Key × V)} {k j : Key} : valV (dropK kvs k) j = if j = k then none else valV kvs j := by
  unfold dropK
  induction kvs with
  | nil => simp [valV]
  | cons p r ih =>
    by_cases e : p.1 = k
    · rw [List.filter_cons, if_neg (by simp [e]), ih]
      by_cases c : j = k
      · rw [if_pos c, if_pos c]
      · rw [if_neg c, if_neg c, valV_neg (fun z => c (by rw [← z, e]))]
    · rw [List.filter_cons, if_pos (by simp [e])]
      by_cases c2 : p.1 = j
      · rw [valV_pos c2, valV_pos c2, if_neg (fun z => e (by rw [c2, z]))]
      · rw [valV_neg c2, valV_neg c2, ih]
theorem KI.drop {ts : List V} {t : Nat} {kvs : List (Key × V)} (h : KI ts t kvs) : KI ts (t + 1) (dropK kvs (.inl (t : Int))) := fun k v e => by
  rw [val_drop] at e
  by_cases c : k = .inl (t : Int)
  · rw [if_pos c] at e
    cases e
  · rw [if_neg c] at e
    obtain ⟨n, h1, h2, h3⟩ := h k v e
    refine ⟨n, h1, ?_, h3⟩
    rcases Nat.lt_or_ge t n with q | q
    · exact q
    · exact absurd (by rw [h1, show n = t by omega]) c
theorem KI.none {ts : List V} {t : Nat} {kvs : List (Key × V)} (h : KI ts t kvs) (e : valV kvs (.inl (t : Int)) = none) : KI ts (t + 1) kvs := fun k v q => by
  obtain ⟨n, h1, h2, h3⟩ := h k v q
  refine ⟨n, h1, ?_, h3⟩
  rcases Nat.lt_or_ge t n with z | z
  · exact z
  · rw [h1, show n = t by omega, e] at q
    cases q
theorem KI.not {ts : List V} {t : Nat} {kvs : List (Key × V)} (h : KI ts (t + 1) kvs) : valV kvs (.inl (t : Int)) = Option.none := by
  cases e : valV kvs (.inl (t : Int)) with
  | none => rfl
  | some v =>
    obtain ⟨n, h1, h2, _⟩ := h _ v e
    injection h1 with h1
    omega
theorem drn_ki {ts : List V} : ∀ (m t : Nat) (kvs : List (Key × V)), kvs.length = m → KI ts t kvs → t ≤ ts.length →
    t ≤ (drn t kvs).2.1 ∧ (drn t kvs).2.1 ≤ ts.length ∧ (drn t kvs).1 = (ts.drop t).take ((drn t kvs).2.1 - t) ∧ KI ts ((drn t kvs).2.1 + 1) (drn t kvs).2.2 ∧ (drn t kvs).2.2.length ≤ kvs.length ∧ ((valV kvs (.inl (t : Int))).isSome = true → t < (drn t kvs).2.1) := by
  intro m
  induction m using Nat.strongRecOn with
  | _ m ih =>
    intro t kvs hm h lt
    cases e : valV kvs (.inl (t : Int)) with
    | none =>
      rw [drn_none e]
      exact ⟨Nat.le_refl _, lt, by simp, h.none e, Nat.le_refl _, fun z => by simp at z⟩
    | some v =>
      obtain ⟨n, h1, h2, h3⟩ := h _ v e
      injection h1 with h1
      obtain rfl : n = t := by omega
      have ln : n < ts.length := (List.getElem?_eq_some_iff.mp h3).1
      have dl := drop_lt e
      obtain ⟨a1, a2, a3, a4, a5, _⟩ := ih _ (by omega) (n + 1) _ rfl h.drop (by omega)
      rw [drn_some e]
      refine ⟨Nat.le_trans (Nat.le_succ n) a1, a2, ?_, a4, Nat.le_trans a5 (Nat.le_of_lt dl), fun _ => a1⟩
      show v :: (drn (n + 1) (dropK kvs (.inl (n : Int)))).1 = (ts.drop n).take ((drn (n + 1) (dropK kvs (.inl (n : Int)))).2.1 - n)
      rw [a3]
      have e1 : ts.drop n = v :: ts.drop (n + 1) := by
        rw [List.drop_eq_getElem_cons ln]
        congr 1
        exact (List.getElem?_eq_some_iff.mp h3).2
      rw [e1, show (drn (n + 1) (dropK kvs (.inl (n : Int)))).2.1 - n = ((drn (n + 1) (dropK kvs (.inl (n : Int)))).2.1 - (n + 1)) + 1 by omega, List.take_succ_cons]
theorem held_ki {ts : List V} {t i : Nat} {v : V} {kvs : List (Key × V)} (h : KI ts (t + 1) kvs) (e : ts[i]? = some v) : KI ts t (held1 t i v kvs) := by
  unfold held1
  by_cases c : t ≤ i ∧ i < t + 1000 ∧ (valV kvs (.inl (i : Int))).isSome = false
  · rw [if_pos c]
    intro k u q
    rw [valV_put] at q
    by_cases c2 : k = .inl (i : Int)
    · rw [if_pos c2] at q
      cases q
      exact ⟨i, c2, c.1, e⟩
    · rw [if_neg c2] at q
      exact h.mono (Nat.le_succ _) k u q
  · rw [if_neg c]
    exact h.mono (Nat.le_succ _)
theorem ki_empty {ts : List V} {kvs : List (Key × V)} (h : KI ts ts.length kvs) : kvs = [] := by
  cases kvs with
  | nil => rfl
  | cons p r =>
    obtain ⟨n, _, h2, h3⟩ := h p.1 p.2 (valV_pos rfl)
    have := (List.getElem?_eq_some_iff.mp h3).1
    omega
end Q

namespace Q
open PySem L2 QR LE
abbrev sDr : Stmt := top 29
def B3 (x e d : Addr) (H H' : Hp) : Prop := ∀ b o, H b = some o → b ≠ x → b ≠ e → b ≠ d → H' b = some o
theorem B3.st {x e d : Addr} {H H1 H2 : Hp} (h : B3 x e d H H1) (s : Same H1 H2) : B3 x e d H H2 := fun b o q n1 n2 n3 => s _ _ (h b o q n1 n2 n3)
def kn0 {H : Hp} {i : Int} : KnA (fun _ => False) H (.int i) := .inl (.inr (.inr ⟨i, rfl⟩))
/-- a link whose ends agree with the things ts -/
structure Ends2 (CO CN : Addr) (H : Hp) (x dx la e de d : Addr) (ts : List V) (gone t : Nat) (kvs : List (Key × V)) : Prop where
  o : OutX CO H x dx la gone (ts.drop gone)
  n : IncX CN H e de d t kvs
  ki : KI ts (t + 1) kvs
  le : gone ≤ t
  lt : t ≤ ts.length
  few : ts.length ≤ 1000
  xe : x ≠ e
theorem Ends2.same {CO CN : Addr} {H H' : Hp} {x dx la e de d : Addr} {ts : List V} {gone t : Nat} {kvs : List (Key × V)} (h : Ends2 CO CN H x dx la e de d ts gone t kvs) (s : Same H H') : Ends2 CO CN H' x dx la e de d ts gone t kvs :=
  ⟨h.o.same s, h.n.same s, h.ki, h.le, h.lt, h.few, h.xe⟩
theorem Ends2.tk {CO CN : Addr} {H H' : Hp} {x dx la e de d : Addr} {ts : List V} {gone t t' : Nat} {kvs kvs' : List (Key × V)} (h : Ends2 CO CN H x dx la e de d ts gone t kvs) (b : B2 e d H H') (n2 : IncX CN H' e de d t' kvs') (ki : KI ts (t' + 1) kvs') (l1 : t ≤ t') (l2 : t' ≤ ts.length) : Ends2 CO CN H' x dx la e de d ts gone t' kvs' :=
  ⟨⟨b _ _ h.o.at_ h.xe (ne_of h.o.at_ h.n.dct (fun z => by cases z)), b _ _ h.o.lst (ne_of h.o.lst h.n.at_ (fun z => by cases z)) (ne_of h.o.lst h.n.dct (fun z => by cases z)), h.o.few⟩, n2, ki, Nat.le_trans h.le l1, l2, h.few, h.xe⟩
theorem Ends2.kn {CO CN : Addr} {H H' : Hp} {x dx la lb e de d : Addr} {ts : List V} {gone g' t : Nat} {kvs : List (Key × V)} (h : Ends2 CO CN H x dx la e de d ts gone t kvs) (b : Bu x H H') (o2 : OutX CO H' x dx lb g' (ts.drop g')) (l1 : g' ≤ t) : Ends2 CO CN H' x dx lb e de d ts g' t kvs :=
  ⟨o2, ⟨b _ _ h.n.at_ h.xe.symm, b _ _ h.n.dct (ne_of h.n.dct h.o.at_ (fun z => by cases z)), h.n.few⟩, h.ki, l1, h.lt, h.few, h.xe⟩
def spDr (CO CN : Addr) : Sp := fun vs H Q _ => ∃ (x dx la e de d : Addr) (ts : List V) (gone t : Nat) (kvs : List (Key × V)), vs = [.ref x, .ref e, .int (ts.length : Int)] ∧ Ends2 CO CN H x dx la e de d ts gone t kvs ∧ kvs.length ≤ 5000 ∧ ∀ lb H', B3 x e d H H' → Ends2 CO CN H' x dx lb e de d ts ts.length ts.length [] → Q (.bl true) H'
theorem held_len {t i : Nat} {v : V} {kvs : List (Key × V)} : (held1 t i v kvs).length ≤ kvs.length + 1 := by
  unfold held1
  split
  · exact length_putK _ _ _
  · exact Nat.le_succ _
theorem num_lt {n : Int} {i : Nat} (h : (i : Int) < n) : numB n (V.int (i : Int)) = true := by
  show (decide (0 ≤ (i : Int)) && decide ((i : Int) < n)) = true
  rw [decide_eq_true (by omega : 0 ≤ (i : Int)), decide_eq_true h]
  rfl
theorem held_in {ts : List V} {t : Nat} {v : V} {kvs : List (Key × V)} (h : KI ts (t + 1) kvs) : (valV (held1 t t v kvs) (.inl (t : Int))).isSome = true := by
  unfold held1
  rw [if_pos ⟨Nat.le_refl _, by omega, by rw [h.not]; rfl⟩, valV_put, if_pos rfl]
  rfl
theorem prs_len {H : Hp} {as : List Addr} {k : Int} {xs : List V} (h : Paired (fun (t : Addr) (q : Key × V) => H t = some (.tup [kV q.1, q.2])) as (nvs k xs)) : as.length = xs.length := (Paired.length h).trans nvs_len
section
variable {P : Program} {w : World} {K : PySem.W.Frag} {mg : Str → Option Value} {base : Heap}
theorem scDr : FnScope ["out", "end", "many", "k", "number", "thing"] ["out", "end", "many"] (defScope sDr) := ⟨rfl, rfl, rfl, by decide +kernel, rfl, by decide +kernel, by decide +kernel⟩
theorem ok_dr {CO CN CX f fX fN fP : Addr} {fd dN dP : FuncData} (D : Df K mg "_law_drained" sDr ["out", "end", "many"] f fd) (B : Bts mg) (be : mg "enumerate" = none) (L : LCst mg) (TO : OTxt K mg CO) (MO : ODefs K CO) (MM : OMore K CO) (TN : NTxt K mg CN) (MN : NDefs K CN) (XS : QS.SupC P K mg CX fX "NoNumber.__init__") (gX : mg "NoNumber" = some (.ref CX)) (DN : Df K mg "is_number_below" sNum ["limit", "thing"] fN dN) (DP : Df K mg "is_plain_int" sPlain ["thing"] fP dP) : FnOk P w K mg base CX0 4 f fd ["out", "end", "many"] (spDr CO CN) := by
  have GW : FnOk P w K mg base CX0 1 MM.fW MM.dW ["self"] (spOW CO) := ok_oW TO MM B be
  have GK : FnOk P w K mg base (L2.CX P w) 3 MO.fK MO.dK ["self", "number"] (spOK CO CX) := ok_oK TO MO B L XS gX DN DP
  have GT : FnOk P w K mg base (L2.CX P w) 3 MN.fT MN.dT ["self", "number", "thing"] (spNT CN CX) := ok_nT TN MN B L XS gX DN DP
  have GN : FnOk P w K mg base CX0 1 MN.fN MN.dN ["self"] (spNN CN) := ok_nN TN MN
  refine D.F.ok scDr (fun vs H Q E h => ?_) (fun cdv A outer s H vs Q E hr h => ?_)
  · obtain ⟨x, dx, la, e, de, d, ts, gone, t, kvs, rfl, _⟩ := h
    rfl
  · obtain ⟨x, dx, la, e, de, d, ts, gone, t, kvs, rfl, l0, fk0, k⟩ := h
    have nd := scDr.nd
    have hr1 : Room 1 _ := hr.mono (by decide)
    have hr3 : Room 3 _ := hr.mono (by decide)
    refine ⟨_, pss_cons (ps_for PassesOwn.never rfl (pi_range1 rfl B.range (pa_cons (pe_op op_add (pv 2) pe_int) pa_nil)) (pg_name (i := 3) nd rfl (.inl rfl))
        (pss_cons (ps_if (pt_cmpR op_eq (pe_callB call_len_seq (by rfl) B.len PySem.boot_len (pa_cons (pe_meth0 (pv 0) TO.cl MM.mW GW hr1 MM.bW .nil pass0) pa_nil)) pe_int (nomark _)) (pss_one (ps_ret pe_bl)) pss_nil)
        (pss_cons (ps_asg (pe_ix ix_list (pe_meth0 (pv 0) TO.cl MM.mW GW hr1 MM.bW .nil pass0) pe_int (fun _ _ => rfl)) (pg_tup rfl (pgs_cons (pg_name (i := 4) nd rfl (.inl rfl)) (pgs_cons (pg_name (i := 5) nd rfl (.inl rfl)) pgs_nil))))
        (pss_cons (ps_expr (pe_meth (pv 1) TN.cl MN.mT GT hr3 MN.bT .nil passF (pa_cons (pv 4) (pa_cons (pv 5) pa_nil))))
        (pss_one (ps_expr (pe_meth (pv 0) TO.cl MO.mK GK hr3 MO.bK .nil passF (pa_cons (pe_meth0 (pv 1) TN.cl MN.mN GN hr1 MN.bN .nil pass0) pa_nil))))))))
      (pss_one (ps_ret pe_bl)), ?_⟩
    have lt2 := l0.lt
    have fw := l0.few
    have le0 := l0.le
    refine ⟨_, rfl, _, _, rfl, rfl, _, rfl, by omega, by omega, for_range (lo := 0) (n := ((ts.length : Int) + 1).toNat) (fun i σ H' => ∃ (x3 x4 x5 : Option V) (lb : Addr) (g' t' : Nat) (kv2 : List (Key × V)), σ = [some (.ref x), some (.ref e), some (.int (ts.length : Int)), x3, x4, x5] ∧ Ends2 CO CN H' x dx lb e de d ts g' t' kv2 ∧ B3 x e d H H' ∧ i ≤ g' ∧ kv2.length ≤ kvs.length + i) ⟨none, none, none, la, gone, t, kvs, rfl, l0, fun _ _ q _ _ _ => q, Nat.zero_le _, Nat.le_refl _⟩ ?_ ?_⟩
    · rintro i σ H1 hi ⟨x3, x4, x5, lb, g', t', kv2, rfl, l1, b1, ig, bd⟩
      have le1 := l1.le
      have lt1 := l1.lt
      refine ⟨_, rfl, x, dx, _, rfl, l1.o.at_, rfl, x, dx, lb, g', _, rfl, l1.o, by omega, fun S H2 s2 _ pr => ?_⟩
      obtain ⟨as, eS, pp⟩ := pr
      have las := prs_len pp
      have l2 := l1.same s2
      have b2 := b1.st s2
      refine ⟨S, _, rfl, .inl (SqL.of eS), rfl, _, rfl, ?_⟩
      rw [List.length_map, las, List.length_drop]
      by_cases c : g' = ts.length
      · refine ite2 (fun _ => ?_) (fun z => absurd (decide_eq_true (by rw [c]; simp)) z)
        have et : t' = ts.length := by omega
        subst c
        subst et
        have ek : kv2 = [] := ki_empty (l2.ki.mono (Nat.le_succ _))
        subst ek
        exact k lb H2 b2 l2
      · refine ite2 (fun z => ?_) (fun _ => ?_)
        · have z := of_decide_eq_true z
          injection z with z
          omega
        have lg : g' < ts.length := by omega
        refine ⟨_, rfl, x, dx, _, rfl, l2.o.at_, rfl, x, dx, lb, g', _, rfl, l2.o, by omega, fun S2 H3 s3 _ pr2 => ?_⟩
        obtain ⟨as2, eS2, pp2⟩ := pr2
        have l3 := l2.same s3
        have b3 := b2.st s3
        have ed : ts.drop g' = ts[g'] :: ts.drop (g' + 1) := List.drop_eq_getElem_cons lg
        rw [ed] at pp2
        cases pp2 with
        | cons r0 rest =>
          rename_i a0 as3
          have ha0 : H3 a0 = some (.tup [.int (g' : Int), ts[g']]) := r0
          refine ⟨S2, _, 0, .ref a0, rfl, rfl, SqL.of eS2, atI_nat (j := 0) rfl, a0, _, rfl, SqT.of ha0, rfl, _, _, rfl, _, _, rfl, rfl, ?_⟩
          refine ⟨_, rfl, e, de, _, rfl, l3.n.at_, rfl, _, rfl, _, rfl, (fun _ => False), e, de, d, t', kv2, .int (g' : Int), ts[g'], rfl, l3.n, by omega, kn0, fun j ej lj z H4 hz b4 ez n4 => ?_, fun nb => ?_⟩
          case refine_2 =>
            rw [num_lt (by omega)] at nb
            cases nb
          obtain rfl : g' = j := by
            injection ej with ej
            omega
          have hk := held_ki l3.ki (List.getElem?_eq_getElem lg)
          obtain ⟨a1, a2, a3, a4, a5, a6⟩ := drn_ki _ t' _ rfl hk lt1
          have hl := held_len (t := t') (i := g') (v := ts[g']) (kvs := kv2)
          have l4 := l3.tk b4 n4 a4 a1 a2
          have prog : i + 1 ≤ (drn t' (held1 t' g' ts[g'] kv2)).2.1 := by
            by_cases c2 : g' = t'
            · subst c2
              have := a6 (held_in l3.ki)
              omega
            · omega
          have b4' : B3 x e d H H4 := fun b o q n1 n2 n3 => b4 _ _ (b3 b o q n1 n2 n3) n2 n3
          generalize (drn t' (held1 t' g' ts[g'] kv2)) = r at *
          obtain ⟨r1, t2, kv3⟩ := r
          dsimp only at a1 a2 a5 prog l4
          refine ⟨_, rfl, x, dx, _, rfl, l4.o.at_, rfl, _, rfl, e, de, _, rfl, l4.n.at_, rfl, e, de, d, _, _, rfl, l4.n, (fun _ => False), x, dx, lb, g', _, .int (t2 : Int), rfl, l4.o, kn0, fun j ej hj lc H5 hlc b5 o5 => ?_, fun nb => ?_⟩
          case refine_2 =>
            rw [num_lt (by rw [List.length_drop]; omega)] at nb
            cases nb
          obtain rfl : t2 = j := by
            injection ej with ej
            omega
          rw [List.drop_drop, show g' + (t2 - g') = t2 by omega] at o5
          refine ⟨_, _, _, lc, t2, t2, kv3, rfl, l4.kn b5 o5 (Nat.le_refl _), fun b o q n1 n2 n3 => b5 _ _ (b4' b o q n1 n2 n3) n1, prog, by omega⟩
    · rintro σ H1 ⟨x3, x4, x5, lb, g', t', kv2, rfl, l1, b1, ig, bd⟩
      have := l1.le
      have := l1.lt
      omega
end
end Q

namespace Q
open PySem L2 QR LE
abbrev sItem : Stmt := top 24
abbrev sLTh : Stmt := top 25
theorem HandAt.pl {H : Hp} {p l : Addr} (h : HandAt H p l) : (∃ xs, H p = some (.lst xs)) ∧ ∃ xs, H l = some (.lst xs) := by
  obtain ⟨ns, i, r, t, c, x⟩ := h
  exact ⟨⟨_, x.at_⟩, _, x.lst⟩
/-- a flat thing, or a tuple of such, to nesting n -/
def Tn (H : Hp) : Nat → V → Prop
  | 0 => fun v => Sc v ∨ ∃ z, v = .str z ∧ PyData.strOk z = true
  | n + 1 => fun v => (Sc v ∨ ∃ z, v = .str z ∧ PyData.strOk z = true) ∨ ∃ a xs, v = .ref a ∧ H a = some (.tup xs) ∧ xs.length ≤ 9 ∧ ∀ x ∈ xs, Tn H n x
theorem Tn.mv {H H' : Hp} (f : ∀ a xs, H a = some (.tup xs) → H' a = some (.tup xs)) : ∀ {n : Nat} {v : V}, Tn H n v → Tn H' n v
  | 0, _, h => h
  | n + 1, v, h => by
    rcases h with h | ⟨a, xs, e1, e2, e3, e4⟩
    · exact .inl h
    · exact .inr ⟨a, xs, e1, f _ _ e2, e3, fun x hx => (e4 x hx).mv f⟩
theorem Tn.same {H H' : Hp} {n : Nat} {v : V} (h : Tn H n v) (s : Same H H') : Tn H' n v := h.mv fun a xs e => s _ _ e
theorem Tn.xp {H H' : Hp} {n : Nat} {v : V} {p l : Addr} (h : Tn H n v) (g : HandAt H p l) (x : XtP p H H') : Tn H' n v := h.mv fun a xs e => by
  obtain ⟨⟨ps, hp⟩, _⟩ := g.pl
  exact x a _ e (ne_of e hp (fun z => by cases z))
theorem tn_flat {H : Hp} : ∀ {n : Nat} {v : V}, (Sc v ∨ ∃ z, v = .str z ∧ PyData.strOk z = true) → Tn H n v
  | 0, _, h => h
  | _ + 1, _, h => .inl h
def spItem (n : Nat) : Sp := fun vs H Q _ => ∃ (p l : Addr), vs = [.ref p, .int (n : Int)] ∧ HandAt H p l ∧ ∀ v H', HandAt H' p l → XtP p H H' → Tn H' n v → Q v H'
section
variable {P : Program} {w : World} {K : PySem.W.Frag} {mg : Str → Option Value} {base : Heap}
theorem scItem : FnScope ["hand", "deep", "way", "k"] ["hand", "deep"] (defScope sItem) := ⟨rfl, rfl, rfl, by decide +kernel, rfl, by decide +kernel, by decide +kernel⟩
theorem ok_item {f fT fP : Addr} {fd dT dP : FuncData} (D : Df K mg "_law_item" sItem ["hand", "deep"] f fd) (B : Bts mg) (DT : Df K mg "_law_take" sTake ["hand", "many"] fT dT) (DP : Df K mg "_law_pick" sPick ["hand", "things"] fP dP) : ∀ n, FnOk P w K mg base CX0 (n + 3) f fd ["hand", "deep"] (spItem n)
  | 0 => by
    have GT : FnOk P w K mg base CX0 1 fT dT ["hand", "many"] spTake := ok_take DT.F B
    have GP : FnOk P w K mg base CX0 2 fP dP ["hand", "things"] spPickL := ok_pickL DP B DT
    refine D.F.ok scItem (fun vs H Q E h => ?_) (fun cdv A outer s H vs Q E hr h => ?_)
    · obtain ⟨p, l, rfl, _⟩ := h
      rfl
    · obtain ⟨p, l, rfl, g, k⟩ := h
      have nd := scItem.nd
      have hr1 : Room 1 _ := hr.mono (by decide)
      have hr2 : Room 2 _ := hr.mono (by decide)
      refine ⟨_, pss_cons (ps_set (i := 2) nd rfl (.inl rfl) (pe_call GT hr1 rfl DT.m DT.k DT.b .nil pass0 (pa_cons (pv 0) (pa_cons pe_int pa_nil))))
        (pss_cons (ps_if (PW.pt (pw_and (pt_cmpR op_eq (pv 2) pe_int (nomark _)) (pw_and1 (pt_cmpR op_gt (pv 1) pe_int (nomark _))))) pss_never pss_nil)
        (pss_cons (ps_if (pt_cmpR op_lt (pv 2) pe_int (nomark _)) (pss_one (ps_ret (pe_ix ix_list (pe_lst (pa_cons pe_non (pa_cons pe_bl (pa_cons pe_bl (pa_cons pe_str (pa_cons pe_str (pa_cons pe_str pa_nil))))))) (pe_call GT hr1 rfl DT.m DT.k DT.b .nil pass0 (pa_cons (pv 0) (pa_cons pe_int pa_nil))) (fun _ _ => rfl)))) pss_nil)
        (pss_one (ps_ret (pe_call GP hr2 rfl DP.m DP.k DP.b .nil pass0 (pa_cons (pv 0) (pa_cons (pe_lst (pa_cons (pe_call GT hr1 rfl DT.m DT.k DT.b .nil pass0 (pa_cons (pv 0) (pa_cons pe_int pa_nil))) (pa_cons (pe_call GT hr1 rfl DT.m DT.k DT.b .nil pass0 (pa_cons (pv 0) (pa_cons (pe_op op_pow pe_int pe_int) pa_nil))) (pa_cons (pe_op op_sub (pe_un un_neg pe_int) (pe_call GT hr1 rfl DT.m DT.k DT.b .nil pass0 (pa_cons (pv 0) (pa_cons pe_int pa_nil)))) (pa_cons (pe_op op_pow pe_int pe_int) pa_nil))))) pa_nil))))))), ?_⟩
      refine ⟨_, rfl, p, l, 8, rfl, g, by decide, by decide, fun way H0 w0 w1 g0 b0 => ?_⟩
      have x0 : XtP p H H0 := fun b o e n => by rw [b0 b n]; exact e
      refine ⟨_, rfl, rfl, _, rfl, ite2 (fun _ => ⟨_, rfl, _, _, rfl, rfl, _, rfl, iteF ?_⟩) (fun _ => ?_)⟩
      all_goals
        refine ⟨_, rfl, _, _, rfl, rfl, _, rfl, ite2 (fun _ => ?_) (fun _ => ?_)⟩
        · refine ⟨(by show 6 ≤ sizeLine; decide), fun m hm => ?_⟩
          have s1 := sN (o := .lst [.non, .bl true, .bl false, .str "", .str "task", .str "answer"]) hm
          have npm : m ≠ p := by
            obtain ⟨⟨ps, hp⟩, _⟩ := g0.pl
            exact (ne_of_none hp hm).symm
          refine ⟨_, rfl, p, l, 6, rfl, g0.same s1, by decide, by decide, fun d H2 d0 d1 g2 b2 => ?_⟩
          obtain ⟨v, hv, ev⟩ := at_in ([.non, .bl true, .bl false, .str "", .str "task", .str "answer"] : List V) d0 d1
          refine ⟨m, _, d, v, rfl, rfl, SqL.of (by rw [b2 m npm]; exact upd_same), ev, k v _ g2 ((x0.st s1).but b2) ?_⟩
          refine tn_flat ?_
          simp only [List.mem_cons, List.not_mem_nil, or_false] at hv
          rcases hv with rfl | rfl | rfl | rfl | rfl | rfl
          · exact .inl (.inl rfl)
          · exact .inl (.inr (.inl ⟨_, rfl⟩))
          · exact .inl (.inr (.inl ⟨_, rfl⟩))
          all_goals exact .inr ⟨_, rfl, by decide +kernel⟩
        · refine ⟨_, rfl, _, rfl, p, l, 9, rfl, g0, by decide, by decide, fun d1 H2 _ _ g2 b2 => ?_⟩
          refine ⟨_, rfl, _, _, rfl, rfl, ⟨by decide, by decide, by decide⟩, p, l, _, rfl, g2, by decide, by decide, fun d2 H3 _ _ g3 b3 => ?_⟩
          refine ⟨_, rfl, _, rfl, p, l, 9, rfl, g3, by decide, by decide, fun d3 H4 _ _ g4 b4 => ?_⟩
          refine ⟨_, _, rfl, rfl, _, _, rfl, rfl, ⟨by decide, by decide, by decide⟩, (by show 4 ≤ sizeLine; decide), fun m hm => ?_⟩
          have s5 := sN (o := .lst [.int d1, .int d2, .int (-1 - d3), .int (10 ^ (19 : Int).toNat)]) hm
          have npm : m ≠ p := by
            obtain ⟨⟨ps, hp⟩, _⟩ := g4.pl
            exact (ne_of_none hp hm).symm
          refine ⟨p, l, m, _, rfl, g4.same s5, upd_same, npm, (by show 0 < 4; decide), (by show 4 < 1000; decide), fun v H6 hv g6 b6 => k v _ g6 (((((x0.but b2).but b3).but b4).st s5).but b6) (tn_flat ?_)⟩
          simp only [List.mem_cons, List.not_mem_nil, or_false] at hv
          rcases hv with rfl | rfl | rfl | rfl <;> exact .inl (.inr (.inr ⟨_, rfl⟩))
  | n + 1 => by
    have GT : FnOk P w K mg base CX0 1 fT dT ["hand", "many"] spTake := ok_take DT.F B
    have GP : FnOk P w K mg base CX0 2 fP dP ["hand", "things"] spPickL := ok_pickL DP B DT
    have IH := ok_item D B DT DP n
    refine D.F.ok scItem (fun vs H Q E h => ?_) (fun cdv A outer s H vs Q E hr h => ?_)
    · obtain ⟨p, l, rfl, _⟩ := h
      rfl
    · obtain ⟨p, l, rfl, g, k⟩ := h
      have nd := scItem.nd
      have hr1 : Room 1 _ := hr.mono (by omega)
      have hr2 : Room 2 _ := hr.mono (by omega)
      have hrn : Room (n + 3) _ := hr.mono (by omega)
      refine ⟨_, pss_cons (ps_set (i := 2) nd rfl (.inl rfl) (pe_call GT hr1 rfl DT.m DT.k DT.b .nil pass0 (pa_cons (pv 0) (pa_cons pe_int pa_nil))))
        (pss_cons (ps_if (PW.pt (pw_and (pt_cmpR op_eq (pv 2) pe_int (nomark _)) (pw_and1 (pt_cmpR op_gt (pv 1) pe_int (nomark _))))) (pss_one (ps_ret (pe_callTy call_tuple_of (by rfl) B.tuple PyProof.Rows.boot_tuple (pa_cons (pe_lc (own := [("k", 3)]) (g := gName 3) (tt := tYes) rfl nd (pi_range1 rfl B.range (pa_cons (pe_call GT hr1 rfl DT.m DT.k DT.b .nil pass0 (pa_cons (pv 0) (pa_cons pe_int pa_nil))) pa_nil)) (blkOk_by (N := ["hand", "deep", "way", "k"]) (sc := defScope sItem) (by decide +kernel)) (fun _ _ _ _ _ => pg_name (i := 3) nd rfl (.inl rfl)) (fun _ _ _ _ _ => pts_nil) (fun _ _ _ _ _ => pe_call IH hrn rfl D.m D.k D.b .nil pass0 (pa_cons (pv 0) (pa_cons (pe_op op_sub (pv 1) pe_int) pa_nil)))) pa_nil)))) pss_nil)
        (pss_cons (ps_if (pt_cmpR op_lt (pv 2) pe_int (nomark _)) (pss_one (ps_ret (pe_ix ix_list (pe_lst (pa_cons pe_non (pa_cons pe_bl (pa_cons pe_bl (pa_cons pe_str (pa_cons pe_str (pa_cons pe_str pa_nil))))))) (pe_call GT hr1 rfl DT.m DT.k DT.b .nil pass0 (pa_cons (pv 0) (pa_cons pe_int pa_nil))) (fun _ _ => rfl)))) pss_nil)
        (pss_one (ps_ret (pe_call GP hr2 rfl DP.m DP.k DP.b .nil pass0 (pa_cons (pv 0) (pa_cons (pe_lst (pa_cons (pe_call GT hr1 rfl DT.m DT.k DT.b .nil pass0 (pa_cons (pv 0) (pa_cons pe_int pa_nil))) (pa_cons (pe_call GT hr1 rfl DT.m DT.k DT.b .nil pass0 (pa_cons (pv 0) (pa_cons (pe_op op_pow pe_int pe_int) pa_nil))) (pa_cons (pe_op op_sub (pe_un un_neg pe_int) (pe_call GT hr1 rfl DT.m DT.k DT.b .nil pass0 (pa_cons (pv 0) (pa_cons pe_int pa_nil)))) (pa_cons (pe_op op_pow pe_int pe_int) pa_nil))))) pa_nil))))))), ?_⟩
      refine ⟨_, rfl, p, l, 8, rfl, g, by decide, by decide, fun way H0 w0 w1 g0 b0 => ?_⟩
      have x0 : XtP p H H0 := fun b o e n => by rw [b0 b n]; exact e
      refine ⟨_, rfl, rfl, _, rfl, ite2 (fun _ => ⟨_, rfl, _, _, rfl, rfl, _, rfl, ite2 (fun _ => ?_) (fun z => absurd (decide_eq_true (by omega)) z)⟩) (fun _ => ?_)⟩
      · refine ⟨_, rfl, p, l, 3, rfl, g0, by decide, by decide, fun m H1 m0 m1 g1 b1 => ⟨m, rfl, by omega, by omega, fun D hD => ?_⟩⟩
        have x1 := x0.but b1
        obtain ⟨⟨ps, hp1⟩, ⟨ls, hl1⟩⟩ := g1.pl
        have nDp : D ≠ p := (ne_of_none hp1 hD).symm
        have nDl : D ≠ l := (ne_of_none hl1 hD).symm
        have s1 := sN (o := .lst []) hD
        have hD0 : ∀ b o, H b = some o → b ≠ p → b ≠ D := fun b o q n z => by
          have := x1 b o q n
          rw [z, hD] at this
          cases this
        refine lc_range (lo := 0) (n := m.toNat) (fun i H' => ∃ acc, H' D = some (.lst acc) ∧ acc.length = i ∧ HandAt H' p l ∧ XtP p H H' ∧ ∀ x ∈ acc, Tn H' n x) ⟨[], upd_same, rfl, g1.same s1, x1.st s1, fun x hx => by simp at hx⟩ ?_ ?_
        · rintro i H2 hi ⟨acc, eD, la, g2, x2, ta⟩
          refine ⟨rfl, _, rfl, _, rfl, _, _, rfl, rfl, p, l, (by show [V.ref p, V.int (((n + 1 : Nat) : Int) - 1)] = [V.ref p, V.int (n : Int)]; rw [show (((n + 1 : Nat) : Int) - 1) = (n : Int) by omega]), g2, fun v H3 g3 x3 tv => ?_⟩
          have eD3 := x3 _ _ eD nDp
          have nt : ∀ a xs, H3 a = some (.tup xs) → (upd H3 D (.lst (acc ++ [v]))) a = some (.tup xs) := fun a xs q => by
            rw [upd_ne (ne_of q eD3 (fun z => by cases z))]
            exact q
          refine ⟨acc, eD3, size_ok (by omega), acc ++ [v], upd_same, by rw [List.length_append, la]; rfl, ?_, ?_, ?_⟩
          · obtain ⟨ns, j, r, t, c, hx⟩ := g3
            exact ⟨ns, j, r, t, c, by rw [upd_ne nDp.symm]; exact hx.at_, by rw [upd_ne nDl.symm]; exact hx.lst, hx.len, hx.r0, hx.s0, hx.s1⟩
          · intro b o q n1
            rw [upd_ne (hD0 b o q n1)]
            exact x3 _ _ (x2 b o q n1) n1
          · intro x hx
            rcases List.mem_append.mp hx with hx | hx
            · exact ((ta x hx).xp g2 x3).mv nt
            · rw [List.mem_singleton.mp hx]
              exact tv.mv nt
        · rintro H2 ⟨acc, eD, la, g2, x2, ta⟩
          refine ⟨D, _, rfl, .inl ⟨SqL.of eD, fun u hu => ?_⟩⟩
          have s3 := sN (o := .tup acc) hu
          exact k _ _ (g2.same s3) (x2.st s3) (.inr ⟨u, acc, rfl, upd_same, by omega, fun x hx => (ta x hx).same s3⟩)
      · refine ⟨_, rfl, _, _, rfl, rfl, _, rfl, ite2 (fun _ => ?_) (fun _ => ?_)⟩
        · refine ⟨(by show 6 ≤ sizeLine; decide), fun m hm => ?_⟩
          have s1 := sN (o := .lst [.non, .bl true, .bl false, .str "", .str "task", .str "answer"]) hm
          have npm : m ≠ p := by
            obtain ⟨⟨ps, hp⟩, _⟩ := g0.pl
            exact (ne_of_none hp hm).symm
          refine ⟨_, rfl, p, l, 6, rfl, g0.same s1, by decide, by decide, fun d H2 d0 d1 g2 b2 => ?_⟩
          obtain ⟨v, hv, ev⟩ := at_in ([.non, .bl true, .bl false, .str "", .str "task", .str "answer"] : List V) d0 d1
          refine ⟨m, _, d, v, rfl, rfl, SqL.of (by rw [b2 m npm]; exact upd_same), ev, k v _ g2 ((x0.st s1).but b2) ?_⟩
          refine tn_flat ?_
          simp only [List.mem_cons, List.not_mem_nil, or_false] at hv
          rcases hv with rfl | rfl | rfl | rfl | rfl | rfl
          · exact .inl (.inl rfl)
          · exact .inl (.inr (.inl ⟨_, rfl⟩))
          · exact .inl (.inr (.inl ⟨_, rfl⟩))
          all_goals exact .inr ⟨_, rfl, by decide +kernel⟩
        · refine ⟨_, rfl, _, rfl, p, l, 9, rfl, g0, by decide, by decide, fun d1 H2 _ _ g2 b2 => ?_⟩
          refine ⟨_, rfl, _, _, rfl, rfl, ⟨by decide, by decide, by decide⟩, p, l, _, rfl, g2, by decide, by decide, fun d2 H3 _ _ g3 b3 => ?_⟩
          refine ⟨_, rfl, _, rfl, p, l, 9, rfl, g3, by decide, by decide, fun d3 H4 _ _ g4 b4 => ?_⟩
          refine ⟨_, _, rfl, rfl, _, _, rfl, rfl, ⟨by decide, by decide, by decide⟩, (by show 4 ≤ sizeLine; decide), fun m hm => ?_⟩
          have s5 := sN (o := .lst [.int d1, .int d2, .int (-1 - d3), .int (10 ^ (19 : Int).toNat)]) hm
          have npm : m ≠ p := by
            obtain ⟨⟨ps, hp⟩, _⟩ := g4.pl
            exact (ne_of_none hp hm).symm
          refine ⟨p, l, m, _, rfl, g4.same s5, upd_same, npm, (by show 0 < 4; decide), (by show 4 < 1000; decide), fun v H6 hv g6 b6 => k v _ g6 (((((x0.but b2).but b3).but b4).st s5).but b6) (tn_flat ?_)⟩
          simp only [List.mem_cons, List.not_mem_nil, or_false] at hv
          rcases hv with rfl | rfl | rfl | rfl <;> exact .inl (.inr (.inr ⟨_, rfl⟩))
end
end Q

/-! list(d.keys()), d a dict whose keys are ints or texts -/
namespace Q
open PySem PySem.Spec PyProof.Rows L2
def rKeysK : V → List V → Hp → VK → Prop := fun x xs H Q => ∃ (a : Addr) (kvs : List (L2.Key × V)), x = .ref a ∧ xs = [] ∧ H a = some (.dK kvs) ∧ ∀ p, H p = none → Q (.ref p) (upd H p (viewO "dict_keys" p a))
section
variable {X : Cx}
theorem mt_keysK : MtR X "dict.keys" rKeysK := by
  intro pins s σ H x xs v us Q I rx rxs h
  obtain ⟨a, kvs, rfl, rfl, ha, q⟩ := h
  cases rx
  cases rxs
  obtain ⟨z, hd, vs, rk, hdo⟩ := dk_of I.hok ha
  obtain ⟨es, ep, hm, _⟩ := hdo.raw
  have hf : H s.heap.objs.size = none := I.hok.fresh (Nat.le_refl _)
  refine call_meetsIn PySem.F.slot_dict_keys hm.typeIs PySem.F.entry_dict_keys (PySem.F.args_dict_keys_1 _) (meets_dict_keys_raw a hd) ⟨⟨es, ep, hm⟩, ?_⟩
  exact ⟨.ref s.heap.objs.size, upd H s.heap.objs.size (viewO "dict_keys" s.heap.objs.size a), I.laid (t' := s.toks) (fun b u e => Heap.get?_push_of_some _ e) (Nat.le_refl _) (viewO_ok (Heap.get?_push_size _ rfl)), rfl, q _ hf⟩
theorem call_list_keysK (hc : X.calm = true) : CallR X (.type "list") (fun xs H Q => ∃ (p d : Addr) (kvs : List (L2.Key × V)), xs = [V.ref p] ∧ H p = some (viewO "dict_keys" p d) ∧ H d = some (.dK kvs) ∧ ∀ l, H l = none → Q (.ref l) (upd H l (.lst (kvs.map fun kv => kV kv.1)))) := by
  intro pins s σ H xs us Q I r h
  obtain ⟨p, d, kvs, rfl, hp, hd, q⟩ := h
  obtain ⟨u, rfl, rx⟩ := r.one
  cases rx
  have hv : s.heap.get? p = some (DSub.viewOb "dict_keys" d) := (show ObjOk X.prog X.w H s.heap p (viewO "dict_keys" p d) from I.hok p _ hp).1
  obtain ⟨z, lo, vs, rk, hdo⟩ := (show ObjOk X.prog X.w H s.heap d (.dK kvs) from I.hok d _ hd)
  obtain ⟨ep, hat⟩ := hdo.dictAt
  have hl : kvs.length = vs.length := Paired.length rk
  refine PySem.W.kdl_call (PySem.W.kdl_keys (knd := mixKind X.prog X.w) (r := p) (kvs := vs) (ep := ep)) (I.ok.hd hc) ⟨⟨_, hv, rfl, rfl⟩, hat⟩ (by rw [← hl]; exact z) fun h' tk acc' c' hkeep hS hacc => ?_
  refine ⟨.ref s.heap.objs.size, upd H s.heap.objs.size (.lst (kvs.map fun kv => kV kv.1)), I.laid hkeep (Nat.le_refl _) (show ObjOk X.prog X.w _ _ _ (.lst (kvs.map fun kv => kV kv.1)) from ⟨?_, acc'.toList, c', ?_, ?_⟩), rfl, q _ (I.hok.fresh (Nat.le_refl _))⟩
  · rw [List.length_map]
    exact z
  · have el : acc'.toList.length = acc'.size := by simp
    refine vals_of_at (by rw [List.length_map, el, hacc.1, hl]) fun j x w h1 h2 => ?_
    obtain ⟨k, y, hky, hi⟩ := hacc.2 j w (by rw [← Array.getElem?_toList]; exact h2)
    have e1 : (kvs.map (·.1))[j]? = some k := by
      rw [KV.keys rk, List.getElem?_map, hky] <;> rfl
    have e2 : (kvs.map fun kv => kV kv.1)[j]? = some (kV k) := by
      have e3 : (kvs.map fun kv => kV kv.1) = (kvs.map (·.1)).map kV := by rw [List.map_map] <;> rfl
      rw [e3, List.getElem?_map, e1] <;> rfl
    rw [e2] at h1
    cases h1
    exact keyIs_rel hi
  · rw [Array.toArray_toList]
    exact hS
end
end Q

namespace Q
open PySem L2 QR LE
abbrev sER : Stmt := top 27
theorem tn_sm {H : Hp} : ∀ {n : Nat} {v : V}, Tn H n v → Sm H (n + 1) v v
  | 0, v, h => by
    rcases h with h | ⟨z, h, _⟩
    · exact .inl ⟨h, rfl⟩
    · exact .inr (.inl ⟨z, h, h⟩)
  | n + 1, v, h => by
    rcases h with (h | ⟨z, h, _⟩) | ⟨a, xs, e1, e2, _, e4⟩
    · exact .inl ⟨h, rfl⟩
    · exact .inr (.inl ⟨z, h, h⟩)
    · refine .inr (.inr ⟨a, a, xs, xs, e1, e1, .inl ⟨e2, e2⟩, rfl, fun i x y hx hy => ?_⟩)
      rw [hx] at hy
      cases hy
      exact tn_sm (e4 x (List.mem_of_getElem? hx))
theorem ki_keys {ts : List V} {t : Nat} {kvs : List (Key × V)} (h : KI ts t kvs) : ∃ ns : List Int, kvs.map (fun p => kV p.1) = ns.map V.int := by
  refine ⟨kvs.map fun p => match p.1 with | .inl i => i | .inr _ => 0, ?_⟩
  rw [List.map_map]
  refine List.map_congr_left fun p hp => ?_
  have hs : (valV kvs p.1).isSome = true := by
    rw [← valV_any]
    exact List.any_eq_true.mpr ⟨p, hp, by simp⟩
  cases e : valV kvs p.1 with
  | none =>
    rw [e] at hs
    cases hs
  | some v =>
    obtain ⟨n, h1, _, _⟩ := h p.1 v e
    show kV p.1 = V.int (match p.1 with | .inl i => i | .inr _ => 0)
    rw [h1]
    rfl
theorem srt_uniq {a b n : List Int} (h1 : a.Perm n) (h2 : b.Perm n) (s1 : a.Pairwise (· ≤ ·)) (s2 : b.Pairwise (· ≤ ·)) : a = b := List.Perm.eq_of_pairwise (fun x y _ _ h1 h2 => Int.le_antisymm h1 h2) s1 s2 (h1.trans h2.symm)
theorem sm_ints {H : Hp} {n : Nat} {a b : Addr} {ns : List Int} (ha : H a = some (.tup (ns.map V.int))) (hb : H b = some (.tup (ns.map V.int))) : Sm H (n + 2) (.ref a) (.ref b) := by
  refine .inr (.inr ⟨a, b, _, _, rfl, rfl, .inl ⟨ha, hb⟩, rfl, fun i x y hx hy => ?_⟩)
  rw [hx] at hy
  cases hy
  obtain ⟨z, _, rfl⟩ := List.mem_map.mp (List.mem_of_getElem? hx)
  exact sm_i z
theorem prs_at {H : Hp} {as : List Addr} {k : Int} {xs : List V} {j : Nat} {a : Addr} (h : Paired (fun (t : Addr) (q : Key × V) => H t = some (.tup [kV q.1, q.2])) as (nvs k xs)) (e : as[j]? = some a) : ∃ v, xs[j]? = some v ∧ H a = some (.tup [.int (k + (j : Int)), v]) := by
  obtain ⟨y, e1, e2⟩ := LiI.paired_get h e
  unfold nvs at e1
  rw [List.getElem?_map, List.getElem?_zipIdx] at e1
  obtain ⟨q, e3, e4⟩ := Option.map_eq_some_iff.mp e1
  obtain ⟨v, e5, e6⟩ := Option.map_eq_some_iff.mp e3
  refine ⟨v, e5, ?_⟩
  rw [e2, ← e4, ← e6]
  simp [kV]
def spLTh : Sp := fun vs H Q _ => ∃ (p l : Addr), vs = [.ref p] ∧ HandAt H p l ∧ ∀ u H', HandAt H' p l → XtP p H H' → Tn H' 4 (.ref u) → Q (.ref u) H'
def spER (CO CN : Addr) : Sp := fun vs H Q _ => ∃ (x dx la e de d m hd tl : Addr) (ts : List V) (gone t : Nat) (kvs : List (Key × V)), vs = [.ref x, .ref e, .ref tl, .int (gone : Int), .ref m] ∧ Ends2 CO CN H x dx la e de d ts gone t kvs ∧ H tl = some (.lst ts) ∧ (∀ v ∈ ts, Tn H 4 v) ∧ MindAt H m hd t kvs ∧ ∀ H', Same H H' → Q (.bl true) H'
section
variable {P : Program} {w : World} {K : PySem.W.Frag} {mg : Str → Option Value} {base : Heap}
theorem scLTh : FnScope ["hand", "k"] ["hand"] (defScope sLTh) := ⟨rfl, rfl, rfl, by decide +kernel, rfl, by decide +kernel, by decide +kernel⟩
theorem ok_lth {f fT fP fI : Addr} {fd dT dP dI : FuncData} (D : Df K mg "_law_thing" sLTh ["hand"] f fd) (B : Bts mg) (DT : Df K mg "_law_take" sTake ["hand", "many"] fT dT) (DP : Df K mg "_law_pick" sPick ["hand", "things"] fP dP) (DI : Df K mg "_law_item" sItem ["hand", "deep"] fI dI) : FnOk P w K mg base CX0 7 f fd ["hand"] spLTh := by
  have GT : FnOk P w K mg base CX0 1 fT dT ["hand", "many"] spTake := ok_take DT.F B
  have GI : FnOk P w K mg base CX0 6 fI dI ["hand", "deep"] (spItem 3) := ok_item DI B DT DP 3
  refine D.F.ok scLTh (fun vs H Q E h => ?_) (fun cdv A outer s H vs Q E hr h => ?_)
  · obtain ⟨p, l, rfl, _⟩ := h
    rfl
  · obtain ⟨p, l, rfl, g, k⟩ := h
    have nd := scLTh.nd
    have hr1 : Room 1 _ := hr.mono (by decide)
    refine ⟨_, pss_one (ps_ret (pe_callTy call_tuple_of (by rfl) B.tuple PyProof.Rows.boot_tuple (pa_cons (pe_lc (own := [("k", 1)]) (g := gName 1) (tt := tYes) rfl nd (pi_range1 rfl B.range (pa_cons (pe_call GT hr1 rfl DT.m DT.k DT.b .nil pass0 (pa_cons (pv 0) (pa_cons pe_int pa_nil))) pa_nil)) (blkOk_by (N := ["hand", "k"]) (sc := defScope sLTh) (by decide +kernel)) (fun _ _ _ _ _ => pg_name (i := 1) nd rfl (.inl rfl)) (fun _ _ _ _ _ => pts_nil) (fun _ _ _ _ _ => pe_call GI hr rfl DI.m DI.k DI.b .nil pass0 (pa_cons (pv 0) (pa_cons pe_int pa_nil)))) pa_nil))), ?_⟩
    refine ⟨_, rfl, p, l, 4, rfl, g, by decide, by decide, fun m H1 m0 m1 g1 b1 => ⟨m, rfl, by omega, by omega, fun D hD => ?_⟩⟩
    have x1 : XtP p H H1 := fun b o e n => by rw [b1 b n]; exact e
    obtain ⟨⟨ps, hp1⟩, ⟨ls, hl1⟩⟩ := g1.pl
    have nDp : D ≠ p := (ne_of_none hp1 hD).symm
    have nDl : D ≠ l := (ne_of_none hl1 hD).symm
    have s1 := sN (o := .lst []) hD
    have hD0 : ∀ b o, H b = some o → b ≠ p → b ≠ D := fun b o q n z => by
      have := x1 b o q n
      rw [z, hD] at this
      cases this
    refine lc_range (lo := 0) (n := m.toNat) (fun i H' => ∃ acc, H' D = some (.lst acc) ∧ acc.length = i ∧ HandAt H' p l ∧ XtP p H H' ∧ ∀ x ∈ acc, Tn H' 3 x) ⟨[], upd_same, rfl, g1.same s1, x1.st s1, fun x hx => by simp at hx⟩ ?_ ?_
    · rintro i H2 hi ⟨acc, eD, la, g2, x2, ta⟩
      refine ⟨rfl, _, rfl, p, l, rfl, g2, fun v H3 g3 x3 tv => ?_⟩
      have eD3 := x3 _ _ eD nDp
      have nt : ∀ a xs, H3 a = some (.tup xs) → (upd H3 D (.lst (acc ++ [v]))) a = some (.tup xs) := fun a xs q => by
        rw [upd_ne (ne_of q eD3 (fun z => by cases z))]
        exact q
      refine ⟨acc, eD3, size_ok (by omega), acc ++ [v], upd_same, by rw [List.length_append, la]; rfl, ?_, ?_, ?_⟩
      · obtain ⟨ns, j, r, t, c, hx⟩ := g3
        exact ⟨ns, j, r, t, c, by rw [upd_ne nDp.symm]; exact hx.at_, by rw [upd_ne nDl.symm]; exact hx.lst, hx.len, hx.r0, hx.s0, hx.s1⟩
      · intro b o q n1
        rw [upd_ne (hD0 b o q n1)]
        exact x3 _ _ (x2 b o q n1) n1
      · intro x hx
        rcases List.mem_append.mp hx with hx | hx
        · exact ((ta x hx).xp g2 x3).mv nt
        · rw [List.mem_singleton.mp hx]
          exact tv.mv nt
    · rintro H2 ⟨acc, eD, la, g2, x2, ta⟩
      refine ⟨D, _, rfl, .inl ⟨SqL.of eD, fun u hu => ?_⟩⟩
      have s3 := sN (o := .tup acc) hu
      exact k _ _ (g2.same s3) (x2.st s3) (.inr ⟨u, acc, rfl, upd_same, by omega, fun x hx => (ta x hx).same s3⟩)
theorem scER : FnScope ["out", "end", "things", "gone", "mind", "waiting", "k"] ["out", "end", "things", "gone", "mind"] (defScope sER) := ⟨rfl, rfl, rfl, by decide +kernel, rfl, by decide +kernel, by decide +kernel⟩
theorem ok_er {CO CN f fS fI : Addr} {fd dS dI : FuncData} (D : Df K mg "_law_ends_right" sER ["out", "end", "things", "gone", "mind"] f fd) (B : Bts mg) (be : mg "enumerate" = none) (L : LCst mg) (TO : OTxt K mg CO) (MO : ODefs K CO) (MM : OMore K CO) (TN : NTxt K mg CN) (MN : NDefs K CN) (DS : Df K mg "_law_same" sSameG ["actual", "due"] fS dS) (DI : Df K mg "_law_is_integer" sLInt ["thing"] fI dI) : FnOk P w K mg base CX0 9 f fd ["out", "end", "things", "gone", "mind"] (spER CO CN) := by
  have GS : FnOk P w K mg base CX0 8 fS dS ["actual", "due"] (spSameG 7) := ok_sameG DS B DI 7
  have GW : FnOk P w K mg base CX0 1 MM.fW MM.dW ["self"] (spOW CO) := ok_oW TO MM B be
  have GM : FnOk P w K mg base CX0 1 MO.fM MO.dM ["self"] (spOM CO) := ok_oM TO MO B
  have GN : FnOk P w K mg base CX0 1 MN.fN MN.dN ["self"] (spNN CN) := ok_nN TN MN
  have GH : FnOk P w K mg base CX0 1 MN.fH MN.dH ["self"] (spHeld CN) := ok_held TN MN B L.sorted
  refine D.F.ok scER (fun vs H Q E h => ?_) (fun cdv A outer s H vs Q E hr h => ?_)
  · obtain ⟨x, dx, la, e, de, d, m, hd, tl, ts, gone, t, kvs, rfl, _⟩ := h
    rfl
  · obtain ⟨x, dx, la, e, de, d, m, hd, tl, ts, gone, t, kvs, rfl, l0, etl, tn0, md, k⟩ := h
    have nd := scER.nd
    have hu := hu_of hr
    have hr1 : Room 1 _ := hr.mono (by decide)
    refine ⟨_, pss_cons (ps_setLc (i := 5) (own := [("k", 6)]) (g := gName 6) (tt := tYes) rfl nd rfl rfl (sw_true rfl rfl rfl (by decide +kernel)) (pi_range1 rfl B.range (pa_cons (pe_op op_sub (pe_callB call_len_seq (by rfl) B.len PySem.boot_len (pa_cons (pv 2) pa_nil)) (pv 3)) pa_nil)) (blkOk_by (N := ["out", "end", "things", "gone", "mind", "waiting", "k"]) (sc := defScope sER) (by decide +kernel)) (fun _ _ _ _ _ => pg_name (i := 6) nd rfl (.inl rfl)) (fun _ _ _ _ _ => pts_nil) (fun _ _ _ _ _ => pe_tup (pa_cons (pe_op op_add (pv 3) (pv 6)) (pa_cons (pe_ix (r := rIxL K) ix_list (pv 2) (pe_op op_add (pv 3) (pv 6)) (fun _ _ => rfl)) pa_nil))))
      (pss_cons (ps_if (PW.pt (pw_or (pt_not (pt_val (pe_call GS hr rfl DS.m DS.k DS.b .nil pass0 (pa_cons (pe_meth0 (pv 0) TO.cl MM.mW GW hr1 MM.bW .nil pass0) (pa_cons (pv 5) pa_nil))))) (pw_or1 (pt_not (pt_val (pe_call GS hr rfl DS.m DS.k DS.b .nil pass0 (pa_cons (pe_meth0 (pv 0) TO.cl MO.mP2 GM hr1 MO.bM .nil pass0) (pa_cons (pe_callB call_len_seq (by rfl) B.len PySem.boot_len (pa_cons (pv 2) pa_nil)) pa_nil)))))))) pss_never pss_nil)
      (pss_one (ps_ret (pe_and (pe_call GS hr rfl DS.m DS.k DS.b .nil pass0 (pa_cons (pe_meth0 (pv 1) TN.cl MN.mN GN hr1 MN.bN .nil pass0) (pa_cons (pe_dget hu (pv 4) pe_str (by intro _ _; rfl)) pa_nil))) (pe_one (pe_call GS hr rfl DS.m DS.k DS.b .nil pass0 (pa_cons (pe_meth0 (pv 1) TN.cl MN.mH GH hr1 MN.bH .nil pass0) (pa_cons (pe_callTy call_tuple_of (by rfl) B.tuple PyProof.Rows.boot_tuple (pa_cons (pe_callB cr_sortedI (by rfl) L.sorted PyProof.Rows.boot_sorted (pa_cons (pe_callTy (call_list_keysK rfl) (by rfl) B.list PyProof.Rows.boot_list (pa_cons (pe_bm0 PySem.F.plainAttrs_dict PySem.F.slot_dict_keys PySem.F.type_dict_keys mt_keysK (pe_dget hu (pv 4) pe_str (by intro _ _; rfl))) pa_nil)) pa_nil)) pa_nil)) pa_nil)))))))), ?_⟩
    obtain ⟨ns, ens⟩ := ki_keys l0.ki
    have le0 := l0.le
    have lt0 := l0.lt
    have fw := l0.few
    have en : ((ts.length : Int) - (gone : Int)).toNat = ts.length - gone := by omega
    refine ⟨_, rfl, tl, _, rfl, .inl (SqL.of etl), _, rfl, _, _, rfl, rfl, _, rfl, by omega, by omega, fun D hD => ?_⟩
    have sD := sN (o := .lst []) hD
    refine lc_range (lo := 0) (n := ((ts.length : Int) - (gone : Int)).toNat) (fun i H' => ∃ as : List Addr, H' D = some (.lst (as.map V.ref)) ∧ as.length = i ∧ (∀ j a, as[j]? = some a → ∃ v, ts[gone + j]? = some v ∧ H' a = some (.tup [.int ((gone : Int) + (j : Int)), v])) ∧ Same H H') ⟨[], upd_same, rfl, fun j a q => by simp at q, sD⟩ ?_ ?_
    · rintro i H2 hi ⟨as, eD, la, ra, s2⟩
      rw [en] at hi
      have lx : gone + i < ts.length := by omega
      refine ⟨rfl, _, rfl, _, rfl, _, _, rfl, rfl, _, rfl, _, rfl, _, rfl, _, _, rfl, rfl, tl, ts, _, ts[gone + i], rfl, rfl, SqL.of (s2 _ _ etl), ?_, (by show 2 ≤ sizeLine; decide), fun a ha => ?_⟩
      · have z := atI_nat (xs := ts) (j := gone + i) (List.getElem?_eq_getElem lx)
        rw [show ((gone : Int) + (0 + (i : Int))) = ((gone + i : Nat) : Int) by omega]
        exact z
      · have sa := sN (o := .tup [.int ((gone : Int) + (0 + (i : Int))), ts[gone + i]]) ha
        have eDa := sa _ _ eD
        have nDa : a ≠ D := (ne_of_none eD ha).symm
        refine ⟨as.map V.ref, eDa, size_ok (by rw [List.length_map]; omega), as ++ [a], by rw [upd_same, List.map_append]; rfl, by rw [List.length_append, la]; rfl, ?_, sNew (sT s2 sa) hD⟩
        intro j b hj
        rcases Nat.lt_trichotomy j as.length with q | q | q
        · rw [List.getElem?_append_left q] at hj
          obtain ⟨v, e1, e2⟩ := ra j b hj
          exact ⟨v, e1, by rw [upd_ne (ne_of (sa _ _ e2) eDa (fun z => by cases z))]; exact sa _ _ e2⟩
        · subst q
          obtain rfl : a = b := by simpa using hj
          refine ⟨ts[gone + i], by rw [la]; exact List.getElem?_eq_getElem lx, ?_⟩
          rw [upd_ne nDa, upd_same, la, Int.zero_add]
        · rw [List.getElem?_eq_none (by rw [List.length_append, List.length_singleton]; omega)] at hj
          cases hj
    · rintro H2 ⟨as, eD, la, ra, s2⟩
      rw [en] at la
      have l2 := l0.same s2
      refine ⟨_, rfl, x, dx, _, rfl, l2.o.at_, rfl, x, dx, _, gone, _, rfl, l2.o, by omega, fun S H3 s3 _ pr => ?_⟩
      obtain ⟨bs, eS, pp⟩ := pr
      have lb := prs_len pp
      rw [List.length_drop] at lb
      have s03 := sT s2 s3
      have l3 := l0.same s03
      have sm1 : Sm H3 7 (.ref S) (.ref D) := by
        refine .inr (.inr ⟨S, D, _, _, rfl, rfl, .inr ⟨eS, s3 _ _ eD⟩, by rw [List.length_map, List.length_map, la, lb], fun j u v hu hv => ?_⟩)
        rw [List.getElem?_map] at hu hv
        obtain ⟨b, e1, rfl⟩ := Option.map_eq_some_iff.mp hu
        obtain ⟨a, e2, rfl⟩ := Option.map_eq_some_iff.mp hv
        obtain ⟨w1, e3, e4⟩ := prs_at pp e1
        obtain ⟨w2, e5, e6⟩ := ra j a e2
        rw [List.getElem?_drop, e5] at e3
        cases e3
        exact sm_tup e4 (s3 _ _ e6) ⟨sm_i _, tn_sm ((tn0 _ (List.mem_of_getElem? e5)).same s03), trivial⟩
      refine ⟨_, rfl, _, _, rfl, sm1, fun H4 s4 => ⟨_, rfl, iteF ?_⟩⟩
      have s04 := sT s03 s4
      have l4 := l0.same s04
      refine ⟨_, rfl, x, dx, _, rfl, l4.o.at_, rfl, x, dx, _, gone, _, rfl, l4.o, _, rfl, tl, _, rfl, .inl (SqL.of (s04 _ _ etl)), _, _, rfl, ?_, fun H5 s5 => ⟨_, rfl, iteF ?_⟩⟩
      · rw [List.length_drop, show gone + (ts.length - gone) = ts.length by omega]
        exact sm_i _
      have s05 := sT s04 s5
      have l5 := l0.same s05
      have md5 := md.same s05
      refine ⟨_, rfl, e, de, _, rfl, l5.n.at_, rfl, e, de, d, t, kvs, rfl, l5.n, _, rfl, m, _, rfl, md5.t, _, _, rfl, sm_i _, fun H6 s6 => ⟨_, rfl, iteT ?_⟩⟩
      have s06 := sT s05 s6
      have l6 := l0.same s06
      refine ⟨_, rfl, e, de, _, rfl, l6.n.at_, rfl, e, de, d, t, kvs, ns, rfl, l6.n, ens, fun u ns1 H7 s7 hu7 p1 q1 eu => ?_⟩
      have s07 := sT s06 s7
      have md7 := md.same s07
      refine ⟨_, rfl, m, _, rfl, md7.h, .inr (.inr (.inl ⟨rfl, .inl ⟨_, md7.dct⟩⟩)), hd, _, rfl, rfl, md7.dct, fun vw hvw => ?_⟩
      have s8 := sN (o := viewO "dict_keys" vw hd) hvw
      refine ⟨vw, hd, _, rfl, upd_same, s8 _ _ md7.dct, fun l hl => ?_⟩
      rw [ens]
      have s9 := sT s8 (sN (o := .lst (ns.map V.int)) hl)
      refine ⟨l, ns, rfl, SqL.of upd_same, fun ns2 pq p2 q2 hpq => ?_⟩
      have s10 := sT s9 (sN (o := .lst (ns2.map V.int)) hpq)
      refine ⟨pq, _, rfl, .inl ⟨SqL.of upd_same, fun u2 hu2 => ?_⟩⟩
      have s11 := sT s10 (sN (o := .tup (ns2.map V.int)) hu2)
      obtain rfl : ns1 = ns2 := srt_uniq p1 p2 q1 q2
      exact ⟨_, _, rfl, sm_ints (s11 _ _ eu) upd_same, fun H12 s12 => k H12 (sT (sT s07 s11) s12)⟩
end
end Q

namespace Q
open PySem L2 QR LE
abbrev sDeed : Stmt := top 28
theorem HandAt.mv {H H' : Hp} {p l : Addr} (h : HandAt H p l) (f : ∀ c xs, H c = some (.lst xs) → c = p ∨ c = l → H' c = some (.lst xs)) : HandAt H' p l := by
  obtain ⟨ns, i, r, t, c, x⟩ := h
  exact ⟨ns, i, r, t, c, f _ _ x.at_ (.inl rfl), f _ _ x.lst (.inr rfl), x.len, x.r0, x.s0, x.s1⟩
/-- all that the first half of the law goes about with; what stands since H0 -/
structure Lnk (CO CN : Addr) (H0 : Hp) (la0 : Addr) (H : Hp) (p l x dx la e de d m hd tl al : Addr) (ts ts1 : List V) (gone t : Nat) (kvs : List (Key × V)) (t1 : Nat) (kv1 : List (Key × V)) (av : List V) : Prop where
  g : HandAt H p l
  en : Ends2 CO CN H x dx la e de d ts gone t kvs
  etl : H tl = some (.lst ts1)
  tn : ∀ v ∈ ts1, Tn H 4 v
  md : MindAt H m hd t1 kv1
  eal : H al = some (.lst av)
  n1 : p ≠ tl
  n2 : p ≠ al
  n3 : p ≠ la
  n4 : l ≠ tl
  n5 : l ≠ al
  n6 : l ≠ la
  n7 : tl ≠ al
  n8 : tl ≠ la
  n9 : al ≠ la
  k1 : d ≠ m
  k2 : d ≠ hd
  lo : la = la0 ∨ H0 la = none
  s : ∀ b o, H0 b = some o → b ∉ [p, x, e, d, m, hd, tl, al, la0] → H b = some o
section
variable {CO CN : Addr} {H0 H H' : Hp} {la0 p l x dx la e de d m hd tl al : Addr} {ts ts1 : List V} {gone t : Nat} {kvs : List (Key × V)} {t1 : Nat} {kv1 : List (Key × V)} {av : List V}
theorem Lnk.hand (h : Lnk CO CN H0 la0 H p l x dx la e de d m hd tl al ts ts1 gone t kvs t1 kv1 av) : ∃ ps, H p = some (.lst ps) := h.g.pl.1
theorem Lnk.same (h : Lnk CO CN H0 la0 H p l x dx la e de d m hd tl al ts ts1 gone t kvs t1 kv1 av) (s : Same H H') : Lnk CO CN H0 la0 H' p l x dx la e de d m hd tl al ts ts1 gone t kvs t1 kv1 av :=
  ⟨h.g.same s, h.en.same s, s _ _ h.etl, fun v hv => (h.tn v hv).same s, h.md.same s, s _ _ h.eal, h.n1, h.n2, h.n3, h.n4, h.n5, h.n6, h.n7, h.n8, h.n9, h.k1, h.k2, h.lo, fun b o q n => s _ _ (h.s b o q n)⟩
theorem Lnk.xp (h : Lnk CO CN H0 la0 H p l x dx la e de d m hd tl al ts ts1 gone t kvs t1 kv1 av) (b : XtP p H H') (g2 : HandAt H' p l) : Lnk CO CN H0 la0 H' p l x dx la e de d m hd tl al ts ts1 gone t kvs t1 kv1 av := by
  obtain ⟨ps, hp⟩ := h.hand
  exact ⟨g2, ⟨⟨b _ _ h.en.o.at_ (ne_of h.en.o.at_ hp (fun z => by cases z)), b _ _ h.en.o.lst h.n3.symm, h.en.o.few⟩, ⟨b _ _ h.en.n.at_ (ne_of h.en.n.at_ hp (fun z => by cases z)), b _ _ h.en.n.dct (ne_of h.en.n.dct hp (fun z => by cases z)), h.en.n.few⟩, h.en.ki, h.en.le, h.en.lt, h.en.few, h.en.xe⟩,
    b _ _ h.etl h.n1.symm, fun v hv => (h.tn v hv).xp h.g b, ⟨b _ _ h.md.at_ (ne_of h.md.at_ hp (fun z => by cases z)), b _ _ h.md.dct (ne_of h.md.dct hp (fun z => by cases z)), h.md.ne, h.md.few⟩, b _ _ h.eal h.n2.symm, h.n1, h.n2, h.n3, h.n4, h.n5, h.n6, h.n7, h.n8, h.n9, h.k1, h.k2, h.lo,
    fun c o q n => b _ _ (h.s c o q n) (fun z => n (by simp [z]))⟩
/-- a list of the law's own is written -/
theorem Lnk.wl {q : Addr} {ys : List V} (h : Lnk CO CN H0 la0 H p l x dx la e de d m hd tl al ts ts1 gone t kvs t1 kv1 av) {zs : List V} (hq : H q = some (.lst zs)) (a1 : p ≠ q) (a2 : l ≠ q) (a3 : la ≠ q) (a4 : q ∈ [p, x, e, d, m, hd, tl, al, la0]) (hb : Bu q H H') (tl' : H' tl = some (.lst ts1)) (al' : H' al = some (.lst av)) : Lnk CO CN H0 la0 H' p l x dx la e de d m hd tl al ts ts1 gone t kvs t1 kv1 av :=
  ⟨h.g.mv (fun c xs ec z => hb _ _ ec (by rcases z with rfl | rfl; exact a1; exact a2)), ⟨⟨hb _ _ h.en.o.at_ (ne_of h.en.o.at_ hq (fun z => by cases z)), hb _ _ h.en.o.lst a3, h.en.o.few⟩, ⟨hb _ _ h.en.n.at_ (ne_of h.en.n.at_ hq (fun z => by cases z)), hb _ _ h.en.n.dct (ne_of h.en.n.dct hq (fun z => by cases z)), h.en.n.few⟩, h.en.ki, h.en.le, h.en.lt, h.en.few, h.en.xe⟩,
    tl', fun v hv => (h.tn v hv).mv fun a xs ea => hb _ _ ea (ne_of ea hq (fun z => by cases z)), ⟨hb _ _ h.md.at_ (ne_of h.md.at_ hq (fun z => by cases z)), hb _ _ h.md.dct (ne_of h.md.dct hq (fun z => by cases z)), h.md.ne, h.md.few⟩, al', h.n1, h.n2, h.n3, h.n4, h.n5, h.n6, h.n7, h.n8, h.n9, h.k1, h.k2, h.lo,
    fun c o ec n => hb _ _ (h.s c o ec n) (fun z => n (by rw [z]; exact a4))⟩
theorem Lnk.tk {t' : Nat} {kvs' : List (Key × V)} (h : Lnk CO CN H0 la0 H p l x dx la e de d m hd tl al ts ts1 gone t kvs t1 kv1 av) (b : B2 e d H H') (n2 : IncX CN H' e de d t' kvs') (ki : KI ts (t' + 1) kvs') (l1 : t ≤ t') (l2 : t' ≤ ts.length) : Lnk CO CN H0 la0 H' p l x dx la e de d m hd tl al ts ts1 gone t' kvs' t1 kv1 av := by
  have ap : ∀ {c : Addr} {xs : List V}, H c = some (.lst xs) → H' c = some (.lst xs) := fun q => b _ _ q (ne_of q h.en.n.at_ (fun z => by cases z)) (ne_of q h.en.n.dct (fun z => by cases z))
  exact ⟨h.g.mv (fun c xs ec _ => ap ec), h.en.tk b n2 ki l1 l2, ap h.etl, fun v hv => (h.tn v hv).mv fun a xs ea => b _ _ ea (ne_of ea h.en.n.at_ (fun z => by cases z)) (ne_of ea h.en.n.dct (fun z => by cases z)), ⟨b _ _ h.md.at_ (ne_of h.md.at_ h.en.n.at_ (fun z => by cases z)) h.k1.symm, b _ _ h.md.dct (ne_of h.md.dct h.en.n.at_ (fun z => by cases z)) h.k2.symm, h.md.ne, h.md.few⟩, ap h.eal, h.n1, h.n2, h.n3, h.n4, h.n5, h.n6, h.n7, h.n8, h.n9, h.k1, h.k2, h.lo,
    fun c o q n => b _ _ (h.s c o q n) (fun z => n (by simp [z])) (fun z => n (by simp [z]))⟩
theorem Lnk.wm (h : Lnk CO CN H0 la0 H p l x dx la e de d m hd tl al ts ts1 gone t kvs t1 kv1 av) {t2 : Nat} {kv2 : List (Key × V)} (b : B2 m hd H H') (md2 : MindAt H' m hd t2 kv2) : Lnk CO CN H0 la0 H' p l x dx la e de d m hd tl al ts ts1 gone t kvs t2 kv2 av := by
  have ap : ∀ {c : Addr} {xs : List V}, H c = some (.lst xs) → H' c = some (.lst xs) := fun q => b _ _ q (ne_of q h.md.at_ (fun z => by cases z)) (ne_of q h.md.dct (fun z => by cases z))
  exact ⟨h.g.mv (fun c xs ec _ => ap ec), ⟨⟨b _ _ h.en.o.at_ (ne_of h.en.o.at_ h.md.at_ (fun z => by cases z)) (ne_of h.en.o.at_ h.md.dct (fun z => by cases z)), ap h.en.o.lst, h.en.o.few⟩, ⟨b _ _ h.en.n.at_ (ne_of h.en.n.at_ h.md.at_ (fun z => by cases z)) (ne_of h.en.n.at_ h.md.dct (fun z => by cases z)), b _ _ h.en.n.dct h.k1 h.k2, h.en.n.few⟩, h.en.ki, h.en.le, h.en.lt, h.en.few, h.en.xe⟩,
    ap h.etl, fun v hv => (h.tn v hv).mv fun a xs ea => b _ _ ea (ne_of ea h.md.at_ (fun z => by cases z)) (ne_of ea h.md.dct (fun z => by cases z)), md2, ap h.eal, h.n1, h.n2, h.n3, h.n4, h.n5, h.n6, h.n7, h.n8, h.n9, h.k1, h.k2, h.lo,
    fun c o q n => b _ _ (h.s c o q n) (fun z => n (by simp [z])) (fun z => n (by simp [z]))⟩
theorem Lnk.kn {g' : Nat} {lb : Addr} (h : Lnk CO CN H0 la0 H p l x dx la e de d m hd tl al ts ts1 gone t kvs t1 kv1 av) (b : Bu x H H') (o2 : OutX CO H' x dx lb g' (ts.drop g')) (l1 : g' ≤ t) (hlb : H lb = none) : Lnk CO CN H0 la0 H' p l x dx lb e de d m hd tl al ts ts1 g' t kvs t1 kv1 av := by
  have ap : ∀ {c : Addr} {xs : List V}, H c = some (.lst xs) → H' c = some (.lst xs) := fun q => b _ _ q (ne_of q h.en.o.at_ (fun z => by cases z))
  obtain ⟨⟨ps, hp⟩, ⟨ls, hl⟩⟩ := h.g.pl
  refine ⟨h.g.mv (fun c xs ec _ => ap ec), h.en.kn b o2 l1, ap h.etl, fun v hv => (h.tn v hv).mv fun a xs ea => b _ _ ea (ne_of ea h.en.o.at_ (fun z => by cases z)), ⟨b _ _ h.md.at_ (ne_of h.md.at_ h.en.o.at_ (fun z => by cases z)), b _ _ h.md.dct (ne_of h.md.dct h.en.o.at_ (fun z => by cases z)), h.md.ne, h.md.few⟩, ap h.eal, h.n1, h.n2, ne_of_none hp hlb, h.n4, h.n5, ne_of_none hl hlb, h.n7, ne_of_none h.etl hlb, ne_of_none h.eal hlb, h.k1, h.k2, ?_,
    fun c o q n => b _ _ (h.s c o q n) (fun z => n (by simp [z]))⟩
  cases e0 : H0 lb with
  | none => exact .inr rfl
  | some q =>
    by_cases c : lb ∈ [p, x, e, d, m, hd, tl, al, la0]
    · simp only [List.mem_cons, List.not_mem_nil, or_false] at c
      rcases c with rfl | rfl | rfl | rfl | rfl | rfl | rfl | rfl | rfl
      · rw [hp] at hlb; cases hlb
      · rw [h.en.o.at_] at hlb; cases hlb
      · rw [h.en.n.at_] at hlb; cases hlb
      · rw [h.en.n.dct] at hlb; cases hlb
      · rw [h.md.at_] at hlb; cases hlb
      · rw [h.md.dct] at hlb; cases hlb
      · rw [h.etl] at hlb; cases hlb
      · rw [h.eal] at hlb; cases hlb
      · exact .inl rfl
    · have := h.s lb q e0 c
      rw [hlb] at this
      cases this
end
end Q

namespace Q
open PySem L2 QR LE
theorem ki_app {ts : List V} {t : Nat} {kvs : List (Key × V)} {v : V} (h : KI ts t kvs) : KI (ts ++ [v]) t kvs := fun k u e => by
  obtain ⟨n, h1, h2, h3⟩ := h k u e
  exact ⟨n, h1, h2, by rw [List.getElem?_append_left (List.getElem?_eq_some_iff.mp h3).1]; exact h3⟩
theorem sms_self {H : Hp} {n : Nat} : ∀ {xs : List V}, (∀ v ∈ xs, Tn H n v) → Sms H (n + 1) xs xs
  | [], _ => trivial
  | x :: xs, h => ⟨tn_sm (h x List.mem_cons_self), sms_self fun v hv => h v (List.mem_cons_of_mem _ hv)⟩
section
variable {CO CN : Addr} {H0 H H' : Hp} {la0 p l x dx la e de d m hd tl al : Addr} {ts : List V} {gone t : Nat} {kvs : List (Key × V)} {t1 : Nat} {kv1 : List (Key × V)} {av : List V}
theorem at_last {xs : List V} {v : V} : atI (xs ++ [v]) (-1) = some v := by
  unfold atI ixN
  rw [if_neg (by decide), List.length_append, List.length_singleton]
  rw [if_pos (by omega)]
  show (xs ++ [v])[(((-1 : Int)) + ((xs.length + 1 : Nat) : Int)).toNat]? = some v
  rw [show (((-1 : Int)) + ((xs.length + 1 : Nat) : Int)).toNat = xs.length by omega]
  simp
theorem Lnk.wt {v : V} (h : Lnk CO CN H0 la0 H p l x dx la e de d m hd tl al ts ts gone t kvs t1 kv1 av) (b : Bu tl H H') (e2 : H' tl = some (.lst (ts ++ [v]))) (tv : Tn H' 4 v) : Lnk CO CN H0 la0 H' p l x dx la e de d m hd tl al ts (ts ++ [v]) gone t kvs t1 kv1 av := by
  have q := h.etl
  exact ⟨h.g.mv (fun c xs ec z => b _ _ ec (by rcases z with rfl | rfl; exact h.n1; exact h.n4)), ⟨⟨b _ _ h.en.o.at_ (ne_of h.en.o.at_ q (fun z => by cases z)), b _ _ h.en.o.lst h.n8.symm, h.en.o.few⟩, ⟨b _ _ h.en.n.at_ (ne_of h.en.n.at_ q (fun z => by cases z)), b _ _ h.en.n.dct (ne_of h.en.n.dct q (fun z => by cases z)), h.en.n.few⟩, h.en.ki, h.en.le, h.en.lt, h.en.few, h.en.xe⟩,
    e2, fun u hu => (by
      rcases List.mem_append.mp hu with hu | hu
      · exact (h.tn u hu).mv fun a xs ea => b _ _ ea (ne_of ea q (fun z => by cases z))
      · rw [List.mem_singleton.mp hu]; exact tv), ⟨b _ _ h.md.at_ (ne_of h.md.at_ q (fun z => by cases z)), b _ _ h.md.dct (ne_of h.md.dct q (fun z => by cases z)), h.md.ne, h.md.few⟩, b _ _ h.eal h.n7.symm, h.n1, h.n2, h.n3, h.n4, h.n5, h.n6, h.n7, h.n8, h.n9, h.k1, h.k2, h.lo,
    fun c o ec n => b _ _ (h.s c o ec n) (fun z => n (by simp [z]))⟩
theorem tn_up {H : Hp} : ∀ {n : Nat} {v : V}, Tn H n v → Tn H (n + 1) v
  | 0, _, h => .inl h
  | n + 1, _, h => by
    rcases h with h | ⟨a, xs, e1, e2, e3, e4⟩
    · exact .inl h
    · exact .inr ⟨a, xs, e1, e2, e3, fun x hx => tn_up (e4 x hx)⟩
theorem Lnk.wa {as : List V} (h : Lnk CO CN H0 la0 H p l x dx la e de d m hd tl al ts ts gone t kvs t1 kv1 av) (b : Bu al H H') (e2 : H' al = some (.lst as)) : Lnk CO CN H0 la0 H' p l x dx la e de d m hd tl al ts ts gone t kvs t1 kv1 as := by
  have q := h.eal
  exact ⟨h.g.mv (fun c xs ec z => b _ _ ec (by rcases z with rfl | rfl; exact h.n2; exact h.n5)), ⟨⟨b _ _ h.en.o.at_ (ne_of h.en.o.at_ q (fun z => by cases z)), b _ _ h.en.o.lst h.n9.symm, h.en.o.few⟩, ⟨b _ _ h.en.n.at_ (ne_of h.en.n.at_ q (fun z => by cases z)), b _ _ h.en.n.dct (ne_of h.en.n.dct q (fun z => by cases z)), h.en.n.few⟩, h.en.ki, h.en.le, h.en.lt, h.en.few, h.en.xe⟩,
    b _ _ h.etl h.n7, fun u hu => (h.tn u hu).mv fun a xs ea => b _ _ ea (ne_of ea q (fun z => by cases z)), ⟨b _ _ h.md.at_ (ne_of h.md.at_ q (fun z => by cases z)), b _ _ h.md.dct (ne_of h.md.dct q (fun z => by cases z)), h.md.ne, h.md.few⟩, e2, h.n1, h.n2, h.n3, h.n4, h.n5, h.n6, h.n7, h.n8, h.n9, h.k1, h.k2, h.lo,
    fun c o ec n => b _ _ (h.s c o ec n) (fun z => n (by simp [z]))⟩
theorem Lnk.pt {v : V} (h : Lnk CO CN H0 la0 H p l x dx la e de d m hd tl al ts (ts ++ [v]) gone t kvs t1 kv1 av) (b : Bu la H H') (o2 : OutX CO H' x dx la gone (ts.drop gone ++ [v])) (few : ts.length < 1000) : Lnk CO CN H0 la0 H' p l x dx la e de d m hd tl al (ts ++ [v]) (ts ++ [v]) gone t kvs t1 kv1 av := by
  have hla := h.en.o.lst
  have le0 := h.en.le
  have lt0 := h.en.lt
  have ap : ∀ {c : Addr} {xs : List V}, H c = some (.lst xs) → c ≠ la → H' c = some (.lst xs) := fun q n => b _ _ q n
  have ed : (ts ++ [v]).drop gone = ts.drop gone ++ [v] := by rw [List.drop_append_of_le_length (by omega)]
  refine ⟨h.g.mv (fun c xs ec z => ap ec (by rcases z with rfl | rfl; exact h.n3; exact h.n6)), ⟨by rw [ed]; exact o2, ⟨b _ _ h.en.n.at_ (ne_of h.en.n.at_ hla (fun z => by cases z)), b _ _ h.en.n.dct (ne_of h.en.n.dct hla (fun z => by cases z)), h.en.n.few⟩, ki_app h.en.ki, le0, by rw [List.length_append]; show t ≤ _ + 1; omega, by rw [List.length_append]; show _ + 1 ≤ _; omega, h.en.xe⟩,
    ap h.etl h.n8, fun u hu => (h.tn u hu).mv fun a xs ea => b _ _ ea (ne_of ea hla (fun z => by cases z)), ⟨b _ _ h.md.at_ (ne_of h.md.at_ hla (fun z => by cases z)), b _ _ h.md.dct (ne_of h.md.dct hla (fun z => by cases z)), h.md.ne, h.md.few⟩, ap h.eal h.n9, h.n1, h.n2, h.n3, h.n4, h.n5, h.n6, h.n7, h.n8, h.n9, h.k1, h.k2, h.lo, fun c o q n => b _ _ (h.s c o q n) (fun z => ?_)⟩
  rcases h.lo with e1 | e1
  · exact n (by rw [z, e1]; simp)
  · rw [z, e1] at q
    cases q
end
def spDeed (CO CN : Addr) : Sp := fun vs H Q _ => ∃ (p l x dx la e de d m hd tl al : Addr) (ts : List V) (gone t : Nat) (kvs : List (Key × V)), vs = [.ref p, .ref x, .ref e, .ref tl, .int (gone : Int), .ref m, .ref al] ∧ Lnk CO CN H la H p l x dx la e de d m hd tl al ts ts gone t kvs t kvs (ts.take t) ∧ ts.length ≤ 30 ∧ kvs.length ≤ 4000 ∧
  ∀ r lb ts' g' t' kvs' H', Lnk CO CN H la H' p l x dx lb e de d m hd tl al ts' ts' g' t' kvs' t' kvs' (ts'.take t') → ts'.length ≤ 30 → kvs'.length ≤ kvs.length + 1 → H' r = some (.tup [.bl true, .int (g' : Int)]) → Q (.ref r) H'
section
variable {P : Program} {w : World} {K : PySem.W.Frag} {mg : Str → Option Value} {base : Heap}
theorem scDeed : FnScope ["hand", "out", "end", "things", "gone", "mind", "all_taken", "way", "number", "some", "due"] ["hand", "out", "end", "things", "gone", "mind", "all_taken"] (defScope sDeed) := ⟨rfl, rfl, rfl, by decide +kernel, rfl, by decide +kernel, by decide +kernel⟩
theorem ok_deed {CO CN CX f fX fN fP fT fPk fI fS fIt fL fH : Addr} {fd dN dP dT dPk dI dS dIt dL dH : FuncData} (D : Df K mg "_law_deed" sDeed ["hand", "out", "end", "things", "gone", "mind", "all_taken"] f fd) (B : Bts mg) (L : LCst mg) (TO : OTxt K mg CO) (MO : ODefs K CO) (TN : NTxt K mg CN) (MN : NDefs K CN) (XS : QS.SupC P K mg CX fX "NoNumber.__init__") (gX : mg "NoNumber" = some (.ref CX)) (DN : Df K mg "is_number_below" sNum ["limit", "thing"] fN dN) (DP : Df K mg "is_plain_int" sPlain ["thing"] fP dP)
    (DT : Df K mg "_law_take" sTake ["hand", "many"] fT dT) (DPk : Df K mg "_law_pick" sPick ["hand", "things"] fPk dPk) (DS : Df K mg "_law_same" sSameG ["actual", "due"] fS dS) (DI : Df K mg "_law_is_integer" sLInt ["thing"] fI dI) (DIt : Df K mg "_law_item" sItem ["hand", "deep"] fIt dIt) (DL : Df K mg "_law_thing" sLTh ["hand"] fL dL) (DH : Df K mg "_law_heard" sHeard ["mind", "number", "thing"] fH dH) : FnOk P w K mg base CX0 9 f fd ["hand", "out", "end", "things", "gone", "mind", "all_taken"] (spDeed CO CN) := by
  have GT : FnOk P w K mg base CX0 1 fT dT ["hand", "many"] spTake := ok_take DT.F B
  have GS : FnOk P w K mg base CX0 8 fS dS ["actual", "due"] (spSameG 7) := ok_sameG DS B DI 7
  have GL : FnOk P w K mg base CX0 7 fL dL ["hand"] spLTh := ok_lth DL B DT DPk DIt
  have GH : FnOk P w K mg base CX0 1 fH dH ["mind", "number", "thing"] spHeard := ok_heard DH B
  have GOP : FnOk P w K mg base CX0 2 MO.fP MO.dP ["self", "thing"] (spOP CO) := ok_oP TO MO B
  have GK : FnOk P w K mg base (L2.CX P w) 3 MO.fK MO.dK ["self", "number"] (spOK CO CX) := ok_oK TO MO B L XS gX DN DP
  have GTk : FnOk P w K mg base (L2.CX P w) 3 MN.fT MN.dT ["self", "number", "thing"] (spNT CN CX) := ok_nT TN MN B L XS gX DN DP
  refine D.F.ok scDeed (fun vs H Q E h => ?_) (fun cdv A outer s H vs Q E hr h => ?_)
  · obtain ⟨p, l, x, dx, la, e, de, d, m, hd, tl, al, ts, gone, t, kvs, rfl, _⟩ := h
    rfl
  · obtain ⟨p, l, x, dx, la, e, de, d, m, hd, tl, al, ts, gone, t, kvs, rfl, r0, few, fk, k⟩ := h
    have nd := scDeed.nd
    have hu := hu_of hr
    have hr1 : Room 1 _ := hr.mono (by decide)
    have hr2 : Room 2 _ := hr.mono (by decide)
    have hr3 : Room 3 _ := hr.mono (by decide)
    have hr7 : Room 7 _ := hr.mono (by decide)
    have hr8 : Room 8 _ := hr.mono (by decide)
    refine ⟨_, (pss_cons (ps_set (i := 7) nd rfl (.inl rfl) (pe_call GT hr1 rfl DT.m DT.k DT.b .nil pass0 (pa_cons (pv 0) (pa_cons pe_int pa_nil))))
        (C8.pss_cut (ps_if (PW.pt (pw_and (pt_cmpR op_lt (pv 7) pe_int (nomark _)) (pw_and1 (pt_cmpR op_lt (pe_callB call_len_seq (by rfl) B.len PySem.boot_len (pa_cons (pv 3) pa_nil)) pe_int (nomark _))))) (pss_cons (ps_expr (pe_bm PySem.F.plainAttrs_list PySem.F.slot_list_append PySem.F.type_list_append mt_append (pv 3) (pa_cons (pe_call GL hr7 rfl DL.m DL.k DL.b .nil pass0 (pa_cons (pv 0) pa_nil)) pa_nil)))
        (pss_one (ps_ret (pe_tup (pa_cons (pe_call GS hr8 rfl DS.m DS.k DS.b .nil pass0 (pa_cons (pe_meth (pv 1) TO.cl MO.mP GOP hr2 MO.bP .nil pass0 (pa_cons (pe_ix ix_list (pv 3) (pe_un un_neg pe_int) (fun _ _ => rfl)) pa_nil)) (pa_cons (pe_op op_sub (pe_callB call_len_seq (by rfl) B.len PySem.boot_len (pa_cons (pv 3) pa_nil)) pe_int) pa_nil))) (pa_cons (pv 4) pa_nil)))))) pss_nil)
        (C8.pss_cut (ps_if (PW.pt (pw_and (pt_cmpR op_lt (pv 7) pe_int (nomark _)) (pw_and1 (pt_cmpR op_gt (pe_callB call_len_seq (by rfl) B.len PySem.boot_len (pa_cons (pv 3) pa_nil)) pe_int (nomark _))))) (pss_cons (ps_set (i := 8) nd rfl (.inl rfl) (pe_call GT hr1 rfl DT.m DT.k DT.b .nil pass0 (pa_cons (pv 0) (pa_cons (pe_callB call_len_seq (by rfl) B.len PySem.boot_len (pa_cons (pv 3) pa_nil)) pa_nil))))
        (pss_cons (ps_set (i := 9) nd rfl (.inl rfl) (pe_meth (pv 2) TN.cl MN.mT GTk hr3 MN.bT .nil passF (pa_cons (pv 8) (pa_cons (pe_ix ix_list (pv 3) (pv 8) (fun _ _ => rfl)) pa_nil))))
        (pss_cons (ps_set (i := 10) nd rfl (.inl rfl) (pe_call GH hr1 rfl DH.m DH.k DH.b .nil pass0 (pa_cons (pv 5) (pa_cons (pv 8) (pa_cons (pe_ix ix_list (pv 3) (pv 8) (fun _ _ => rfl)) pa_nil)))))
        (pss_cons (ps_expr (pe_bm PySem.F.plainAttrs_list PySem.F.slot_list_extend PySem.F.type_list_extend mt_extend (pv 6) (pa_cons (pv 10) pa_nil)))
        (pss_one (ps_ret (pe_tup (pa_cons (pe_call GS hr8 rfl DS.m DS.k DS.b .nil pass0 (pa_cons (pv 9) (pa_cons (pv 10) pa_nil))) (pa_cons (pv 4) pa_nil))))))))) pss_nil)
        (pss_cons (ps_set (i := 8) nd rfl (.inl rfl) (pe_call GT hr1 rfl DT.m DT.k DT.b .nil pass0 (pa_cons (pv 0) (pa_cons (pe_op op_add (pe_dget hu (pv 5) pe_str (by intro _ _; rfl)) pe_int) pa_nil))))
        (pss_cons (ps_set (i := 10) nd rfl (.inl rfl) (pe_callB (call_max2 rfl) (by rfl) L.max PyProof.Rows.boot_max (pa_cons pe_int (pa_cons (pe_op op_sub (pv 8) (pv 4)) pa_nil))))
        (pss_one (ps_ret (pe_tup (pa_cons (pe_call GS hr8 rfl DS.m DS.k DS.b .nil pass0 (pa_cons (pe_meth (pv 1) TO.cl MO.mK GK hr3 MO.bK .nil passF (pa_cons (pv 8) pa_nil)) (pa_cons (pv 10) pa_nil))) (pa_cons (pe_callB (call_max2 rfl) (by rfl) L.max PyProof.Rows.boot_max (pa_cons (pv 4) (pa_cons (pv 8) pa_nil))) pa_nil)))))))))), ?_⟩
    refine ⟨_, rfl, p, l, 10, rfl, r0.g, by decide, by decide, fun way H1 w0 w1 g1 b1 => ?_⟩
    have r1 := r0.xp (fun c o ec n => by rw [b1 c n]; exact ec) g1
    clear r0 b1 g1
    have le1 := r1.en.le
    have lt1 := r1.en.lt
    refine ⟨fun σ H' => σ = [some (.ref p), some (.ref x), some (.ref e), some (.ref tl), some (.int (gone : Int)), some (.ref m), some (.ref al), some (.int way), none, none, none] ∧ H' = H1, ?_, ?_⟩
    · refine ⟨_, rfl, _, _, rfl, rfl, _, rfl, ite2 (fun _ => ?_) (fun _ => iteF ⟨rfl, rfl⟩)⟩
      refine ⟨_, rfl, tl, _, rfl, .inl (SqL.of r1.etl), _, _, rfl, rfl, _, rfl, ite2 (fun c2 => ?_) (fun _ => ⟨rfl, rfl⟩)⟩
      have c2 : (ts.length : Int) < 30 := of_decide_eq_true c2
      refine ⟨_, rfl, .inl ⟨rfl, _, SqL.of r1.etl⟩, _, rfl, p, l, rfl, r1.g, fun u H2 g2 x2 tu => ?_⟩
      have r2 := r1.xp x2 g2
      refine ⟨tl, ts, .ref u, rfl, rfl, r2.etl, size_ok (by omega), ?_⟩
      have bt : Bu tl H2 (upd H2 tl (.lst (ts ++ [.ref u]))) := Bu.rf.at
      have tu3 : Tn (upd H2 tl (.lst (ts ++ [.ref u]))) 4 (.ref u) := tu.mv fun a xs ea => bt _ _ ea (ne_of ea r2.etl (fun z => by cases z))
      have r3 : Lnk CO CN H la (upd H2 tl (.lst (ts ++ [.ref u]))) p l x dx la e de d m hd tl al ts (ts ++ [.ref u]) gone t kvs t kvs (ts.take t) := by
        have q := r2.wt bt upd_same (v := .ref u) tu3
        exact q
      revert r3
      generalize (upd H2 tl (.lst (ts ++ [.ref u]))) = H3
      intro r3
      refine ⟨_, rfl, x, dx, _, rfl, r3.en.o.at_, rfl, _, rfl, _, rfl, tl, _, _, .ref u, rfl, rfl, SqL.of r3.etl, at_last, x, dx, la, gone, _, .ref u, rfl, r3.en.o, by rw [List.length_drop]; omega, fun H4 b4 o4 => ?_⟩
      have r4 := r3.pt b4 o4 (by omega)
      refine ⟨_, rfl, tl, _, rfl, .inl (SqL.of r4.etl), _, _, rfl, rfl, _, _, rfl, ?_, fun H5 s5 => ⟨_, rfl, (by show 2 ≤ sizeLine; decide), fun r hr5 => ?_⟩⟩
      · have ez : ((gone + (ts.drop gone).length : Nat) : Int) = ((ts ++ [V.ref u]).length : Int) - 1 := by
          rw [List.length_drop, List.length_append, List.length_singleton]
          omega
        rw [ez]
        exact sm_i _
      · have r5 := (r4.same s5).same (sN (o := .tup [.bl true, .int (gone : Int)]) hr5)
        have et : ts.take t = (ts ++ [V.ref u]).take t := by rw [List.take_append_of_le_length lt1]
        rw [et] at r5
        exact k r la _ gone t kvs _ r5 (by rw [List.length_append, List.length_singleton]; omega) (Nat.le_succ _) upd_same
    · rintro σ H2 ⟨rfl, rfl⟩
      refine ⟨fun σ H' => σ = [some (.ref p), some (.ref x), some (.ref e), some (.ref tl), some (.int (gone : Int)), some (.ref m), some (.ref al), some (.int way), none, none, none] ∧ H' = H2, ?_, ?_⟩
      · refine ⟨_, rfl, _, _, rfl, rfl, _, rfl, ite2 (fun _ => ?_) (fun _ => iteF ⟨rfl, rfl⟩)⟩
        refine ⟨_, rfl, tl, _, rfl, .inl (SqL.of r1.etl), _, _, rfl, rfl, _, rfl, ite2 (fun c2 => ?_) (fun _ => ⟨rfl, rfl⟩)⟩
        have c2 : (ts.length : Int) > 0 := of_decide_eq_true c2
        refine ⟨_, rfl, _, rfl, tl, _, rfl, .inl (SqL.of r1.etl), p, l, _, rfl, r1.g, by omega, by omega, fun nI H3 n0 n1 g3 b3 => ?_⟩
        have r3 := r1.xp (fun c o ec n => by rw [b3 c n]; exact ec) g3
        obtain ⟨i, rfl⟩ : ∃ i : Nat, nI = (i : Int) := ⟨nI.toNat, by omega⟩
        have li : i < ts.length := by omega
        have ev : ts[i]? = some ts[i] := List.getElem?_eq_getElem li
        refine ⟨_, rfl, e, de, _, rfl, r3.en.n.at_, rfl, _, rfl, _, rfl, _, rfl, tl, ts, _, ts[i], rfl, rfl, SqL.of r3.etl, atI_nat ev, (fun _ => False), e, de, d, t, kvs, .int (i : Int), ts[i], rfl, r3.en.n, by omega, kn0, fun j ej lj z H4 hz b4 ez n4 => ?_, fun nb => ?_⟩
        case refine_2 =>
          rw [num_lt (by omega)] at nb
          cases nb
        obtain rfl : i = j := by
          injection ej with ej
          omega
        have hk := held_ki r3.en.ki ev
        obtain ⟨a1, a2, a3, a4, a5, a6⟩ := drn_ki _ t _ rfl hk lt1
        have hl := held_len (t := t) (i := i) (v := ts[i]) (kvs := kvs)
        have r4 := r3.tk b4 n4 a4 a1 a2
        have nza : z ≠ al := (ne_of_none r3.eal hz).symm
        refine ⟨_, rfl, _, rfl, _, rfl, _, rfl, tl, ts, _, ts[i], rfl, rfl, SqL.of r4.etl, atI_nat ev, m, hd, t, i, kvs, ts[i], rfl, r4.md, by omega, fun z2 H5 hz2 b5 ez2 md5 => ?_⟩
        have r5 := r4.wm b5 md5
        have nza2 : z2 ≠ al := (ne_of_none r4.eal hz2).symm
        have ez5 := b5 _ _ ez (ne_of ez r4.md.at_ (fun q => by cases q)) (ne_of ez r4.md.dct (fun q => by cases q))
        clear a5 a6 hz2 hz
        have hlen : (drn t (held1 t i ts[i] kvs)).2.2.length ≤ kvs.length + 1 := by
          have := (drn_ki _ t _ rfl hk lt1).2.2.2.2.1
          omega
        generalize (drn t (held1 t i ts[i] kvs)) = rr at *
        obtain ⟨q1, t2, kv3⟩ := rr
        dsimp only at a1 a2 a3 hlen r5 ez5 ez2
        subst a3
        refine ⟨_, rfl, .inl ⟨rfl, _, SqL.of r5.eal⟩, _, rfl, al, z2, _, _, rfl, rfl, r5.eal, ez2, ?_, ?_⟩
        · refine Nat.le_trans (m := 2000) ?_ (by decide)
          rw [List.length_take, List.length_take, List.length_drop]
          omega
        have eal6 : ts.take t ++ (ts.drop t).take (t2 - t) = ts.take t2 := by
          rw [← List.take_add, show t + (t2 - t) = t2 by omega]
        rw [eal6]
        have ba : Bu al H5 (upd H5 al (.lst (ts.take t2))) := Bu.rf.at
        have r6 := r5.wa ba upd_same
        have ez6 := ba _ _ ez5 nza
        have ez62 := ba _ _ ez2 nza2
        revert r6 ez6 ez62
        generalize (upd H5 al (.lst (ts.take t2))) = H6
        intro r6 ez6 ez62
        have tnq : ∀ v ∈ (ts.drop t).take (t2 - t), Tn H6 4 v := fun v hv => r6.tn v (List.mem_of_mem_drop (List.mem_of_mem_take hv))
        refine ⟨_, rfl, _, rfl, _, _, rfl, sm_lst ez6 ez62 (sms_self fun v hv => tn_up (tnq v hv)), fun H7 s7 => ⟨_, rfl, (by show 2 ≤ sizeLine; decide), fun r hr8 => ?_⟩⟩
        exact k r la ts gone t2 kv3 _ ((r6.same s7).same (sN (o := .tup [.bl true, .int (gone : Int)]) hr8)) few hlen upd_same
      · rintro σ H3 ⟨rfl, rfl⟩
        refine ⟨_, rfl, _, rfl, m, _, rfl, r1.md.t, _, _, rfl, rfl, p, l, _, rfl, r1.g, by omega, by omega, fun nI H4 n0 n1 g4 b4 => ?_⟩
        have r4 := r1.xp (fun c o ec n => by rw [b4 c n]; exact ec) g4
        obtain ⟨i, rfl⟩ : ∃ i : Nat, nI = (i : Int) := ⟨nI.toNat, by omega⟩
        refine ⟨_, rfl, _, rfl, _, _, rfl, rfl, _, _, rfl, ?_⟩
        have em : (if (i : Int) - (gone : Int) > 0 then (i : Int) - (gone : Int) else 0) = ((i - gone : Nat) : Int) := by
          by_cases c : (i : Int) - (gone : Int) > 0
          · rw [if_pos c]; omega
          · rw [if_neg c]; omega
        show gName 10 (V.int (if (i : Int) - (gone : Int) > 0 then (i : Int) - (gone : Int) else 0)) _ _ _
        rw [em]
        have ld : (ts.drop gone).length = ts.length - gone := List.length_drop
        refine ⟨_, rfl, x, dx, _, rfl, r4.en.o.at_, rfl, _, rfl, (fun _ => False), x, dx, la, gone, _, .int (i : Int), rfl, r4.en.o, kn0, fun j ej hj lb H5 hlb b5 o5 => ?_, fun nb => ?_⟩
        case refine_2 =>
          rw [num_lt (by rw [ld]; omega)] at nb
          cases nb
        obtain rfl : i = j := by
          injection ej with ej
          omega
        rw [List.drop_drop] at o5
        have r5 := r4.kn b5 o5 (by omega) hlb
        refine ⟨_, rfl, _, _, rfl, sm_i _, fun H6 s6 => ⟨_, rfl, _, rfl, _, _, rfl, ?_⟩⟩
        have em2 : (if (i : Int) > (gone : Int) then (i : Int) else (gone : Int)) = ((gone + (i - gone) : Nat) : Int) := by
          by_cases c : (i : Int) > (gone : Int)
          · rw [if_pos c]; omega
          · rw [if_neg c]; omega
        rw [em2]
        refine ⟨(by show 2 ≤ sizeLine; decide), fun r hr8 => ?_⟩
        exact k r lb ts _ t kvs _ ((r5.same s6).same (sN (o := .tup [.bl true, .int ((gone + (i - gone) : Nat) : Int)]) hr8)) few (Nat.le_succ _) upd_same
end
end Q

namespace Q
open PySem L2 QR LE
theorem all_dp {K : PySem.W.Frag} {H : Hp} {n : Nat} {C : V → Prop} (f : ∀ v, C v → ∃ d, Dp K H v d ∧ PyData.canLay0 d = true ∧ PyData.depth d ≤ n ∧ PyData.eqv d d = true) : ∀ {xs : List V}, (∀ v ∈ xs, C v) → ∃ ds, DpAll K H xs ds ∧ PyData.canLayAll0 ds = true ∧ PyData.depthAll ds ≤ n ∧ PyData.eqvAll ds ds = true
  | [], _ => ⟨[], .nil, by simp [PyData.canLayAll0], by simp [PyData.depthAll], by simp [PyData.eqvAll]⟩
  | x :: xs, h => by
    obtain ⟨d, d1, d2, d3, d4⟩ := f x (h x List.mem_cons_self)
    obtain ⟨ds, e1, e2, e3, e4⟩ := all_dp f (xs := xs) fun v hv => h v (List.mem_cons_of_mem _ hv)
    refine ⟨d :: ds, .cons d1 e1, ?_, ?_, ?_⟩
    · simp only [PyData.canLayAll0, d2, e2, Bool.and_self]
    · simp only [PyData.depthAll]
      omega
    · simp only [PyData.eqvAll, d4, e4, Bool.and_self]
theorem fl_dp {K : PySem.W.Frag} {H : Hp} {n : Nat} {v : V} (h : Sc v ∨ ∃ z, v = .str z ∧ PyData.strOk z = true) : ∃ d, Dp K H v d ∧ PyData.canLay0 d = true ∧ PyData.depth d ≤ n ∧ PyData.eqv d d = true := by
  rcases h with (rfl | ⟨b, rfl⟩ | ⟨i, rfl⟩) | ⟨z, rfl, hz⟩
  · exact ⟨_, .non, by simp [PyData.canLay0], by simp [PyData.depth], by simp [PyData.eqv]⟩
  · exact ⟨_, .bl b, by simp [PyData.canLay0], by simp [PyData.depth], by cases b <;> simp [PyData.eqv]⟩
  · exact ⟨_, .int i, by simp [PyData.canLay0], by simp [PyData.depth], by simp [PyData.eqv]⟩
  · exact ⟨_, .str z, by simp [PyData.canLay0, hz], by simp [PyData.depth], by simp [PyData.eqv]⟩
theorem tn_dp {K : PySem.W.Frag} {H : Hp} : ∀ (n : Nat) (v : V), Tn H n v → ∃ d, Dp K H v d ∧ PyData.canLay0 d = true ∧ PyData.depth d ≤ n ∧ PyData.eqv d d = true
  | 0, v, h => fl_dp h
  | n + 1, v, h => by
    rcases h with h | ⟨a, xs, rfl, e2, _, e4⟩
    · exact fl_dp h
    · obtain ⟨ds, h1, h2, h3, h4⟩ := all_dp (tn_dp n) e4
      refine ⟨_, .tup (SqT.of e2) h1, ?_, ?_, ?_⟩
      · simp only [PyData.canLay0, h2]
      · simp only [PyData.depth]
        omega
      · simp only [PyData.eqv, h4]
/-- xs != ys, lists of the same things -/
theorem op_neT {X : Cx} (hu : X.A.units + 64 < cLine) : OpR X (compareOp .NotEq) (fun x y H Q => ∃ (a b : Addr) (xs : List V), x = .ref a ∧ y = .ref b ∧ H a = some (.lst xs) ∧ H b = some (.lst xs) ∧ (∀ v ∈ xs, Tn H 4 v) ∧ Q (.bl false) H) := by
  intro pins s σ H x y v u Q I rx ry h
  obtain ⟨a, b, xs, rfl, rfl, ha, hb, tn, k⟩ := h
  obtain ⟨ds, h1, h2, h3, h4⟩ := all_dp (K := X.K) (tn_dp (H := H) 4) tn
  have sh : SeqAt.shaped (.list ds) = true := by
    unfold SeqAt.shaped
    refine Bool.and_eq_true_iff.mpr ⟨?_, decide_eq_true ?_⟩
    · simp only [PyData.canLay0, h2]
    · simp only [PyData.depth]
      omega
  refine op_neD hu pins s σ H _ _ _ u Q I rx ry ⟨_, _, .lst (SqL.of ha) h1, .lst (SqL.of hb) h1, sh, sh, ?_⟩
  simp only [PyData.eqv, h4]
  exact k
end Q

namespace Q
open PySem L2 QR LE
theorem mk_merge (t : Nat) (hd : Addr) : mergeK [] (mKv t hd) = mKv t hd := by
  unfold mergeK mKv
  simp [putK, kne, Ne.symm kne]
  decide +kernel
/-- what was kept apart: copies of both ends, of the things, and of what the law minds -/
structure Kp2 (CO CN : Addr) (Hb H : Hp) (W : List Addr) (kt x dx la e de d m hd tl : Addr) (ts : List V) (g t : Nat) (kvs : List (Key × V)) : Prop where
  at_ : H kt = some (.tup [.ref x, .ref e, .ref tl, .int (g : Int), .ref m])
  en : Ends2 CO CN H x dx la e de d ts g t kvs
  etl : H tl = some (.lst ts)
  tn : ∀ v ∈ ts, Tn H 4 v
  md : MindAt H m hd t kvs
  few : kvs.length ≤ 4000
  o1 : x ∉ W
  o2 : la ∉ W
  o3 : e ∉ W
  o4 : d ∉ W
  o5 : m ∉ W
  o6 : hd ∉ W
  o7 : tl ∉ W
  b1 : Hb x = none
  b2 : Hb e = none
  b3 : Hb d = none
theorem Kp2.mv {CO CN : Addr} {Hb H H' : Hp} {W : List Addr} {kt x dx la e de d m hd tl : Addr} {ts : List V} {g t : Nat} {kvs : List (Key × V)} (h : Kp2 CO CN Hb H W kt x dx la e de d m hd tl ts g t kvs) (f : ∀ b o, H b = some o → b ∉ W → H' b = some o) (f2 : ∀ b xs, H b = some (.tup xs) → H' b = some (.tup xs)) : Kp2 CO CN Hb H' W kt x dx la e de d m hd tl ts g t kvs :=
  ⟨f2 _ _ h.at_, ⟨⟨f _ _ h.en.o.at_ h.o1, f _ _ h.en.o.lst h.o2, h.en.o.few⟩, ⟨f _ _ h.en.n.at_ h.o3, f _ _ h.en.n.dct h.o4, h.en.n.few⟩, h.en.ki, h.en.le, h.en.lt, h.en.few, h.en.xe⟩, f _ _ h.etl h.o7, fun v hv => (h.tn v hv).mv f2, ⟨f _ _ h.md.at_ h.o5, f _ _ h.md.dct h.o6, h.md.ne, h.md.few⟩, h.few, h.o1, h.o2, h.o3, h.o4, h.o5, h.o6, h.o7, h.b1, h.b2, h.b3⟩
/-- nothing was kept, or it stands -/
def Kp2V (CO CN : Addr) (Hb H : Hp) (W : List Addr) (v : V) : Prop := v = .non ∨ ∃ kt x dx la e de d m hd tl ts g t kvs, v = .ref kt ∧ Kp2 CO CN Hb H W kt x dx la e de d m hd tl ts g t kvs
theorem Kp2V.mv {CO CN : Addr} {Hb H H' : Hp} {W : List Addr} {v : V} (h : Kp2V CO CN Hb H W v) (f : ∀ b o, H b = some o → b ∉ W → H' b = some o) (f2 : ∀ b xs, H b = some (.tup xs) → H' b = some (.tup xs)) : Kp2V CO CN Hb H' W v := by
  rcases h with h | ⟨kt, x, dx, la, e, de, d, m, hd, tl, ts, g, t, kvs, h1, h2⟩
  · exact .inl h
  · exact .inr ⟨kt, x, dx, la, e, de, d, m, hd, tl, ts, g, t, kvs, h1, h2.mv f f2⟩
/-- no tuple is among those that are written -/
theorem Lnk.tups {CO CN : Addr} {H0 H : Hp} {la0 p l x dx la e de d m hd tl al : Addr} {ts ts1 : List V} {gone t : Nat} {kvs : List (Key × V)} {t1 : Nat} {kv1 : List (Key × V)} {av : List V} (h : Lnk CO CN H0 la0 H p l x dx la e de d m hd tl al ts ts1 gone t kvs t1 kv1 av) {b : Addr} {xs : List V} (q : H b = some (.tup xs)) : b ∉ [p, x, e, d, m, hd, tl, al, la] := fun z => by
  obtain ⟨ps, hp⟩ := h.hand
  simp only [List.mem_cons, List.not_mem_nil, or_false] at z
  rcases z with rfl | rfl | rfl | rfl | rfl | rfl | rfl | rfl | rfl
  · rw [hp] at q; cases q
  · rw [h.en.o.at_] at q; cases q
  · rw [h.en.n.at_] at q; cases q
  · rw [h.en.n.dct] at q; cases q
  · rw [h.md.at_] at q; cases q
  · rw [h.md.dct] at q; cases q
  · rw [h.etl] at q; cases q
  · rw [h.eal] at q; cases q
  · rw [h.en.o.lst] at q; cases q
theorem Lnk.new {CO CN : Addr} {H0 H : Hp} {la0 p l x dx la e de d m hd tl al : Addr} {ts ts1 : List V} {gone t : Nat} {kvs : List (Key × V)} {t1 : Nat} {kv1 : List (Key × V)} {av : List V} (h : Lnk CO CN H0 la0 H p l x dx la e de d m hd tl al ts ts1 gone t kvs t1 kv1 av) {b : Addr} (q : H b = none) : b ∉ [p, x, e, d, m, hd, tl, al, la] := fun z => by
  obtain ⟨ps, hp⟩ := h.hand
  simp only [List.mem_cons, List.not_mem_nil, or_false] at z
  rcases z with rfl | rfl | rfl | rfl | rfl | rfl | rfl | rfl | rfl
  · rw [hp] at q; cases q
  · rw [h.en.o.at_] at q; cases q
  · rw [h.en.n.at_] at q; cases q
  · rw [h.en.n.dct] at q; cases q
  · rw [h.md.at_] at q; cases q
  · rw [h.md.dct] at q; cases q
  · rw [h.etl] at q; cases q
  · rw [h.eal] at q; cases q
  · rw [h.en.o.lst] at q; cases q
/-- a new start of what stands -/
theorem Lnk.now {CO CN : Addr} {H0 H : Hp} {la0 p l x dx la e de d m hd tl al : Addr} {ts ts1 : List V} {gone t : Nat} {kvs : List (Key × V)} {t1 : Nat} {kv1 : List (Key × V)} {av : List V} (h : Lnk CO CN H0 la0 H p l x dx la e de d m hd tl al ts ts1 gone t kvs t1 kv1 av) : Lnk CO CN H la H p l x dx la e de d m hd tl al ts ts1 gone t kvs t1 kv1 av :=
  { h with lo := .inl rfl, s := fun _ _ q _ => q }
end Q

namespace Q
open PySem L2 QR LE
abbrev sFst32 : Stmt := top 30
theorem cut_toN (xs : List V) {n : Nat} (h : n ≤ xs.length) : cutV xs none (some (n : Int)) = xs.take n := by
  show (xs.drop 0).take (HT.sIx xs.length xs.length (some ((n : Nat) : Int)) - 0) = xs.take n
  rw [HT.sIx_nat, List.drop_zero, Nat.sub_zero, List.take_eq_take_iff]
  omega
theorem Kp2V.step {CO CN : Addr} {Hb H H' : Hp} {p x e d m hd tl al lb lc : Addr} {v : V} (h : Kp2V CO CN Hb H [p, x, e, d, m, hd, tl, al, lb] v) (c : lc = lb ∨ H lc = none) (f : ∀ b o, H b = some o → b ∉ [p, x, e, d, m, hd, tl, al, lb] → H' b = some o) (f2 : ∀ b xs, H b = some (.tup xs) → H' b = some (.tup xs)) : Kp2V CO CN Hb H' [p, x, e, d, m, hd, tl, al, lc] v := by
  rcases c with rfl | c
  · exact h.mv f f2
  have off : ∀ b o, H b = some o → b ∉ [p, x, e, d, m, hd, tl, al, lb] → b ∉ [p, x, e, d, m, hd, tl, al, lc] := fun b o q n z => by
    simp only [List.mem_cons, List.not_mem_nil, or_false, not_or] at z n
    obtain ⟨n1, n2, n3, n4, n5, n6, n7, n8, _⟩ := n
    rcases z with z | z | z | z | z | z | z | z | z
    · exact n1 z
    · exact n2 z
    · exact n3 z
    · exact n4 z
    · exact n5 z
    · exact n6 z
    · exact n7 z
    · exact n8 z
    · rw [z, c] at q
      cases q
  rcases h with h | ⟨kt, x2, dx2, la2, e2, de2, d2, m2, hd2, tl2, ts2, g2, t2, kvs2, h1, h2⟩
  · exact .inl h
  · have h3 := h2.mv f f2
    exact .inr ⟨kt, x2, dx2, la2, e2, de2, d2, m2, hd2, tl2, ts2, g2, t2, kvs2, h1, h3.at_, h3.en, h3.etl, h3.tn, h3.md, h3.few, off _ _ h2.en.o.at_ h2.o1, off _ _ h2.en.o.lst h2.o2, off _ _ h2.en.n.at_ h2.o3, off _ _ h2.en.n.dct h2.o4, off _ _ h2.md.at_ h2.o5, off _ _ h2.md.dct h2.o6, off _ _ h2.etl h2.o7, h2.b1, h2.b2, h2.b3⟩
def spFst32 (K : PySem.W.Frag) : Sp := fun vs H Q _ => ∃ (a : Addr) (ns : List Int), vs = [.ref a] ∧ SqL K H a (ns.map V.int) ∧ ns.length ≤ 63 ∧ ∀ H', Same H H' → Q (.bl true) H'
section
variable {P : Program} {w : World} {K : PySem.W.Frag} {mg : Str → Option Value} {base : Heap}
theorem scFst32 : FnScope ["script", "hand", "out", "end", "things", "all_taken", "mind", "gone", "kept", "k", "right", "far", "told"] ["script"] (defScope sFst32) := ⟨rfl, rfl, rfl, by decide +kernel, rfl, by decide +kernel, by decide +kernel⟩
theorem ok_fst32 {CO CN CX f fX fN fP fHa fT fPk fI fS fIt fL fH fE fDe fD : Addr} {fd dN dP dHa dT dPk dI dS dIt dL dH dE dDe dD : FuncData} (D : Df K mg "_law_first" sFst32 ["script"] f fd) (B : Bts mg) (be : mg "enumerate" = none) (bd : mg "dict" = none) (L : LCst mg) (TO : OTxt K mg CO) (MO : ODefs K CO) (MM : OMore K CO) (TN : NTxt K mg CN) (MN : NDefs K CN) (NM : NMore K CN) (XS : QS.SupC P K mg CX fX "NoNumber.__init__") (gX : mg "NoNumber" = some (.ref CX)) (DN : Df K mg "is_number_below" sNum ["limit", "thing"] fN dN) (DP : Df K mg "is_plain_int" sPlain ["thing"] fP dP)
    (DHa : Df K mg "_law_hand" sHand ["script"] fHa dHa) (DT : Df K mg "_law_take" sTake ["hand", "many"] fT dT) (DPk : Df K mg "_law_pick" sPick ["hand", "things"] fPk dPk) (DS : Df K mg "_law_same" sSameG ["actual", "due"] fS dS) (DI : Df K mg "_law_is_integer" sLInt ["thing"] fI dI) (DIt : Df K mg "_law_item" sItem ["hand", "deep"] fIt dIt) (DL : Df K mg "_law_thing" sLTh ["hand"] fL dL) (DH : Df K mg "_law_heard" sHeard ["mind", "number", "thing"] fH dH)
    (DE : Df K mg "_law_ends_right" sER ["out", "end", "things", "gone", "mind"] fE dE) (DDe : Df K mg "_law_deed" sDeed ["hand", "out", "end", "things", "gone", "mind", "all_taken"] fDe dDe) (DD : Df K mg "_law_drained" sDr ["out", "end", "many"] fD dD) : FnOk P w K mg base CX0 10 f fd ["script"] (spFst32 K) := by
  have GHa : FnOk P w K mg base CX0 1 fHa dHa ["script"] (spHand K) := ok_hand DHa.F B
  have GT : FnOk P w K mg base CX0 1 fT dT ["hand", "many"] spTake := ok_take DT.F B
  have GP : FnOk P w K mg base CX0 2 fPk dPk ["hand", "things"] spPickL := ok_pickL DPk B DT
  have GS : FnOk P w K mg base CX0 8 fS dS ["actual", "due"] (spSameG 7) := ok_sameG DS B DI 7
  have GOI : FnOk P w K mg base CX0 1 MO.fI MO.dI ["self"] (spOI CO) := ok_oI TO MO
  have GNI : FnOk P w K mg base CX0 1 MN.fI MN.dI ["self"] (spNI CN) := ok_nI TN MN
  have GN : FnOk P w K mg base CX0 1 MN.fN MN.dN ["self"] (spNN CN) := ok_nN TN MN
  have GHe : FnOk P w K mg base CX0 1 MN.fH MN.dH ["self"] (spHeld CN) := ok_held TN MN B L.sorted
  have GW : FnOk P w K mg base CX0 1 MM.fW MM.dW ["self"] (spOW CO) := ok_oW TO MM B be
  have GCo : FnOk P w K mg base CX0 3 MM.fC MM.dC ["self"] (spOC CO) := ok_oC TO MM MO B
  have GCn : FnOk P w K mg base CX0 3 NM.fC NM.dC ["self"] (spNC CN) := ok_nC TN NM MN B bd
  have GK : FnOk P w K mg base (L2.CX P w) 3 MO.fK MO.dK ["self", "number"] (spOK CO CX) := ok_oK TO MO B L XS gX DN DP
  have GTk : FnOk P w K mg base (L2.CX P w) 3 MN.fT MN.dT ["self", "number", "thing"] (spNT CN CX) := ok_nT TN MN B L XS gX DN DP
  have GE : FnOk P w K mg base CX0 9 fE dE ["out", "end", "things", "gone", "mind"] (spER CO CN) := ok_er DE B be L TO MO MM TN MN DS DI
  have GDe : FnOk P w K mg base CX0 9 fDe dDe ["hand", "out", "end", "things", "gone", "mind", "all_taken"] (spDeed CO CN) := ok_deed DDe B L TO MO TN MN XS gX DN DP DT DPk DS DI DIt DL DH
  have GD : FnOk P w K mg base CX0 4 fD dD ["out", "end", "many"] (spDr CO CN) := ok_dr DD B be L TO MO MM TN MN XS gX DN DP
  refine D.F.ok scFst32 (fun vs H Q E h => ?_) (fun cdv A outer s H vs Q E hr h => ?_)
  · obtain ⟨a, ns, rfl, _⟩ := h
    rfl
  · obtain ⟨a, ns, rfl, hS, hlen, k⟩ := h
    have nd := scFst32.nd
    have hu64 := hr.units
    have hu := hu_of hr
    have hr1 : Room 1 _ := hr.mono (by decide)
    have hr2 : Room 2 _ := hr.mono (by decide)
    have hr3 : Room 3 _ := hr.mono (by decide)
    have hr4 : Room 4 _ := hr.mono (by decide)
    have hr8 : Room 8 _ := hr.mono (by decide)
    have hr9 : Room 9 _ := hr.mono (by decide)
    refine ⟨_, (pss_cons (ps_set (i := 1) nd rfl (.inl rfl) (pe_call GHa hr1 rfl DHa.m DHa.k DHa.b .nil pass0 (pa_cons (pv 0) pa_nil)))
        (pss_cons (ps_set (i := 2) nd rfl (.inl rfl) (pe_make0 MO.mM GOI hr2 rfl TO.mgC MO.bI .nil pass0))
        (pss_cons (ps_set (i := 3) nd rfl (.inl rfl) (pe_make0 MN.mM GNI hr2 rfl TN.mgC MN.bI .nil pass0))
        (pss_cons (ps_set (i := 4) nd rfl (.inl rfl) (pe_lst pa_nil))
        (pss_cons (ps_set (i := 5) nd rfl (.inl rfl) (pe_lst pa_nil))
        (pss_cons (ps_set (i := 6) nd rfl (.inl rfl) (pe_disp (pps_cons pe_str pe_int (pps_cons pe_str pe_dnewK pps_nil)) rfl rfl (by intro z; cases z) (by decide)))
        (pss_cons (ps_set (i := 7) nd rfl (.inl rfl) pe_int)
        (pss_cons (ps_set (i := 8) nd rfl (.inl rfl) pe_non)
        (pss_cons (ps_for PassesOwn.never rfl (pi_range1 rfl B.range (pa_cons (pe_call GP hr2 rfl DPk.m DPk.k DPk.b .nil pass0 (pa_cons (pv 1) (pa_cons (pe_lst (pa_cons pe_int (pa_cons pe_int (pa_cons pe_int pa_nil)))) pa_nil))) pa_nil)) (pg_name (i := 9) nd rfl (.inl rfl)) (pss_cons (ps_asg (pe_call GDe hr9 rfl DDe.m DDe.k DDe.b .nil pass0 (pa_cons (pv 1) (pa_cons (pv 2) (pa_cons (pv 3) (pa_cons (pv 4) (pa_cons (pv 7) (pa_cons (pv 6) (pa_cons (pv 5) pa_nil)))))))) (pg_tup rfl (pgs_cons (pg_name (i := 10) nd rfl (.inl rfl)) (pgs_cons (pg_name (i := 7) nd rfl (.inl rfl)) pgs_nil))))
        (pss_cons (ps_if (PW.pt (pw_or (pt_not (pt_val (pv 10))) (pw_or1 (pt_not (pt_val (pe_call GE hr9 rfl DE.m DE.k DE.b .nil pass0 (pa_cons (pv 2) (pa_cons (pv 3) (pa_cons (pv 4) (pa_cons (pv 7) (pa_cons (pv 6) pa_nil))))))))))) pss_never pss_nil)
        (pss_cons (ps_if (PW.pt (pw_or (pt_cmpR (op_neT hu64) (pv 5) (pe_slice sl_list (pv 4) po_none (po_some (pe_callB call_len_seq (by rfl) B.len PySem.boot_len (pa_cons (pv 5) pa_nil)))) (nomark _)) (pw_or1 (pt_cmpR op_ne (pe_callB call_len_seq (by rfl) B.len PySem.boot_len (pa_cons (pv 5) pa_nil)) (pe_dget hu (pv 6) pe_str (by intro _ _; rfl)) (nomark _))))) pss_never pss_nil)
        (pss_one (ps_if (pt_cmpR op_eq (pe_call GT hr1 rfl DT.m DT.k DT.b .nil pass0 (pa_cons (pv 1) (pa_cons pe_int pa_nil))) pe_int (nomark _)) (pss_cons (ps_set (i := 8) nd rfl (.inl rfl) (pe_tup (pa_cons (pe_meth0 (pv 2) TO.cl MM.mC GCo hr3 MM.bC .nil pass0) (pa_cons (pe_meth0 (pv 3) TN.cl NM.mC GCn hr3 NM.bC .nil pass0) (pa_cons (pe_callTy call_list_of (by rfl) B.list PyProof.Rows.boot_list (pa_cons (pv 4) pa_nil)) (pa_cons (pv 7) (pa_cons (pe_disp (pps_cons pe_str (pe_dget hu (pv 6) pe_str (by intro _ _; rfl)) (pps_cons pe_str (pe_callTy call_dictD (by rfl) bd PyProof.Rows.boot_dict (pa_cons (pe_dget hu (pv 6) pe_str (by intro _ _; rfl)) pa_nil)) pps_nil)) rfl rfl (by intro z; cases z) (by decide)) pa_nil)))))))
        (pss_cons (ps_set (i := 11) nd rfl (.inl rfl) (pe_op op_add (pe_op op_add (pe_meth0 (pv 3) TN.cl MN.mN GN hr1 MN.bN .nil pass0) pe_int) (pe_call GT hr1 rfl DT.m DT.k DT.b .nil pass0 (pa_cons (pv 1) (pa_cons pe_int pa_nil)))))
        (pss_one (ps_if (PW.pt (pw_or (pt_cmpR (op_neD hu64) (pe_meth (pv 3) TN.cl MN.mT GTk hr3 MN.bT .nil passF (pa_cons (pv 11) (pa_cons (pe_tup (pa_cons pe_str pa_nil)) pa_nil))) (pe_lst pa_nil) (nomark _)) (pw_or1 (pt_cmpR (op_neI hu64) (pe_meth0 (pv 3) TN.cl MN.mH GHe hr1 MN.bH .nil pass0) (pe_callTy call_tuple_of (by rfl) B.tuple PyProof.Rows.boot_tuple (pa_cons (pe_callB cr_sortedI (by rfl) L.sorted PyProof.Rows.boot_sorted (pa_cons (pe_callTy (call_list_keysK rfl) (by rfl) B.list PyProof.Rows.boot_list (pa_cons (pe_bm0 PySem.F.plainAttrs_dict PySem.F.slot_dict_keys PySem.F.type_dict_keys mt_keysK (pe_dget hu (pv 6) pe_str (by intro _ _; rfl))) pa_nil)) pa_nil)) pa_nil)) (nomark _))))) pss_never pss_nil)))) pss_nil))))))
        (pss_cons (ps_if (PW.pt (pw_or (pt_not (pt_val (pe_call GD hr4 rfl DD.m DD.k DD.b .nil pass0 (pa_cons (pv 2) (pa_cons (pv 3) (pa_cons (pe_callB call_len_seq (by rfl) B.len PySem.boot_len (pa_cons (pv 4) pa_nil)) pa_nil)))))) (pw_or (pt_cmpR op_ne (pe_meth0 (pv 3) TN.cl MN.mN GN hr1 MN.bN .nil pass0) (pe_callB call_len_seq (by rfl) B.len PySem.boot_len (pa_cons (pv 4) pa_nil)) (nomark _)) (pw_or1 (pt_cmpR (op_neD hu64) (pe_meth0 (pv 3) TN.cl MN.mH GHe hr1 MN.bH .nil pass0) (pe_tup pa_nil) (nomark _)))))) pss_never pss_nil)
        (C8.pss_cut (ps_if (pt_cmp (pc_notN (pv 8))) (pss_cons (ps_if (pt_not (pt_val (pe_call GE hr9 rfl DE.m DE.k DE.b .nil pass0 (pa_cons (pe_ix ix_tup (pv 8) pe_int (fun _ _ => rfl)) (pa_cons (pe_ix ix_tup (pv 8) pe_int (fun _ _ => rfl)) (pa_cons (pe_ix ix_tup (pv 8) pe_int (fun _ _ => rfl)) (pa_cons (pe_ix ix_tup (pv 8) pe_int (fun _ _ => rfl)) (pa_cons (pe_ix ix_tup (pv 8) pe_int (fun _ _ => rfl)) pa_nil)))))))) pss_never pss_nil)
        (pss_one (ps_if (pt_not (pt_val (pe_call GD hr4 rfl DD.m DD.k DD.b .nil pass0 (pa_cons (pe_ix ix_tup (pv 8) pe_int (fun _ _ => rfl)) (pa_cons (pe_ix ix_tup (pv 8) pe_int (fun _ _ => rfl)) (pa_cons (pe_callB call_len_seq (by rfl) B.len PySem.boot_len (pa_cons (pe_ix ix_tup (pv 8) pe_int (fun _ _ => rfl)) pa_nil)) pa_nil)))))) pss_never pss_nil))) pss_nil)
        (pss_cons (ps_set (i := 12) nd rfl (.inl rfl) (pe_meth0 (pv 2) TO.cl MM.mW GW hr1 MM.bW .nil pass0))
        (pss_cons (ps_expr (pe_bm PySem.F.plainAttrs_list PySem.F.slot_list_append PySem.F.type_list_append mt_append (pv 12) (pa_cons (pe_tup (pa_cons pe_int (pa_cons (pe_tup pa_nil) pa_nil))) pa_nil)))
        (pss_one (ps_ret (pe_and (pe_cmpR (op_eqD hu64) (pe_meth0 (pv 2) TO.cl MM.mW GW hr1 MM.bW .nil pass0) (pe_lst pa_nil) (nomark _)) (pe_one (pe_call GS hr8 rfl DS.m DS.k DS.b .nil pass0 (pa_cons (pe_meth (pv 2) TO.cl MO.mK GK hr3 MO.bK .nil passF (pa_cons pe_int pa_nil)) (pa_cons pe_int pa_nil)))))))))))))))))))), ?_⟩
    refine ⟨_, rfl, a, ns, rfl, hS, hlen, fun p l H1 g1 np nl s1 => ?_⟩
    intro x dx nx ndx nex
    have w2 : Same H1 (upd (upd H1 dx (.own x)) x (.ins CO dx [])) := fun b o e => by
      rw [upd_ne (ne_of_none e nx), upd_ne (ne_of_none e ndx)]
      exact e
    refine ⟨x, dx, rfl, upd_same, fun la H2 nla lax b2 o2 => ⟨rfl, ?_⟩⟩
    have s2 : Same H1 H2 := fun b o e => b2 b o (w2 b o e) (ne_of_none e nx)
    intro e de ne nde nee
    have w3 : Same H2 (upd (upd H2 de (.own e)) e (.ins CN de [])) := fun b o q => by
      rw [upd_ne (ne_of_none q ne), upd_ne (ne_of_none q nde)]
      exact q
    refine ⟨e, de, rfl, upd_same, fun d H3 nd2 dne b3 n3 => ⟨rfl, ?_⟩⟩
    have s3 : Same H2 H3 := fun b o q => b3 b o (w3 b o q) (ne_of_none q ne)
    have nla1 : H1 la = none := sNo w2 nla
    obtain ⟨⟨ps, hp⟩, ⟨ls, hl⟩⟩ := g1.pl
    have pla : p ≠ la := ne_of_none hp nla1
    have lla : l ≠ la := ne_of_none hl nla1
    have xe : x ≠ e := ne_of_none o2.at_ ne
    have g3 := (g1.same s2).same s3
    have o3 := o2.same s3
    have q1 : H x = none := sNo s1 nx
    have q2 : H la = none := sNo s1 nla1
    have q3 : H e = none := sNo s1 (sNo s2 ne)
    have q4 : H d = none := sNo s1 (sNo s2 (sNo w3 nd2))
    have s03 := sT s1 (sT s2 s3)
    clear g1 nl s1 nx ndx nex w2 nla lax b2 o2 s2 ne nde nee w3 nd2 dne b3 s3 nla1 hp hl
    refine ⟨Nat.zero_le _, fun tl htl => ?_⟩
    obtain ⟨⟨ps3, hp3⟩, ⟨ls3, hl3⟩⟩ := g3.pl
    have s4 := sN (o := .lst []) htl
    have t1 : p ≠ tl := ne_of_none hp3 htl
    have t2 : l ≠ tl := ne_of_none hl3 htl
    have t3 : tl ≠ la := (ne_of_none o3.lst htl).symm
    have q5 : H tl = none := sNo s03 htl
    have et4 : (upd H3 tl (.lst [])) tl = some (.lst []) := upd_same
    revert s4 et4
    generalize (upd H3 tl (.lst [])) = H4
    intro s4 et4
    refine ⟨Nat.zero_le _, fun al hal => ?_⟩
    have s5 := sN (o := .lst []) hal
    have u1 : p ≠ al := ne_of_none (s4 _ _ hp3) hal
    have u2 : l ≠ al := ne_of_none (s4 _ _ hl3) hal
    have u3 : al ≠ la := (ne_of_none (s4 _ _ o3.lst) hal).symm
    have u4 : tl ≠ al := ne_of_none et4 hal
    have q6 : H al = none := sNo (sT s03 s4) hal
    have ea5 : (upd H4 al (.lst [])) al = some (.lst []) := upd_same
    have et5 := s5 _ _ et4
    revert s5 ea5 et5
    generalize (upd H4 al (.lst [])) = H5
    intro s5 ea5 et5
    refine fun m hm hd hhd => ?_
    have s45 := sT s4 s5
    have s6 := sN (o := .dK []) hm
    have m1 : (upd H5 m (.dK [])) m = some (.dK []) := upd_same
    have s7 := sN (o := .dK []) hhd
    have nmh : m ≠ hd := ne_of_none m1 hhd
    refine ⟨by rw [upd_ne nmh]; exact m1, mKv 0 hd, rfl, (by show 2 ≤ 15; decide), ?_⟩
    rw [mk_merge]
    have s57 : Same H5 (upd (upd (upd H5 m (.dK [])) hd (.dK [])) m (.dK (mKv 0 hd))) := sNew (sT s6 s7) hm
    have md7 : MindAt (upd (upd (upd H5 m (.dK [])) hd (.dK [])) m (.dK (mKv 0 hd))) m hd 0 [] := ⟨upd_same, by rw [upd_ne nmh.symm, upd_same], nmh, Nat.zero_le _⟩
    have nd5 : d ≠ m := ne_of_none (s45 _ _ n3.dct) hm
    have ndh : d ≠ hd := ne_of_none (s6 _ _ (s45 _ _ n3.dct)) hhd
    have q7 : H m = none := sNo (sT s03 s45) hm
    have q8 : H hd = none := sNo (sT (sT s03 s45) s6) hhd
    have s37 := sT s45 s57
    have L0 : Lnk CO CN H la (upd (upd (upd H5 m (.dK [])) hd (.dK [])) m (.dK (mKv 0 hd))) p l x dx la e de d m hd tl al [] [] 0 0 [] 0 [] [] :=
      ⟨g3.same s37, ⟨o3.same s37, n3.same s37, .nil, Nat.le_refl _, Nat.le_refl _, Nat.zero_le _, xe⟩, s57 _ _ et5, fun v hv => by simp at hv, md7, s57 _ _ ea5, t1, u1, pla, t2, u2, lla, u4, t3, u3, nd5, ndh, .inl rfl, fun b o q _ => sT s03 s37 b o q⟩
    have old0 : ∀ b ∈ [p, x, e, d, m, hd, tl, al, la], H b = none := fun b hb => by
      simp only [List.mem_cons, List.not_mem_nil, or_false] at hb
      rcases hb with rfl | rfl | rfl | rfl | rfl | rfl | rfl | rfl | rfl
      · exact np
      · exact q1
      · exact q3
      · exact q4
      · exact q7
      · exact q8
      · exact q5
      · exact q6
      · exact q2
    revert L0
    generalize (upd (upd (upd H5 m (.dK [])) hd (.dK [])) m (.dK (mKv 0 hd))) = H8
    intro L0
    clear s57 md7 s37 s7 s6 m1 s45 s5 ea5 et5 s4 et4 g3 o3 n3 s03 q1 q2 q3 q4 q5 q6 q7 q8 hm hhd hal htl hp3 hl3
    have S0 : Same H H8 := fun b o q => L0.s b o q (fun z => by rw [old0 b z] at q; cases q)
    refine ⟨_, rfl, (by show 3 ≤ sizeLine; decide), fun sm hsm => ?_⟩
    have s9 := sN (o := .lst [.int 5, .int 20, .int 60]) hsm
    have L9 := L0.same s9
    have nsp : sm ≠ p := by
      obtain ⟨ps, hp⟩ := L0.hand
      exact (ne_of_none hp hsm).symm
    refine ⟨p, l, sm, _, rfl, L9.g, upd_same, nsp, (by show 0 < 3; decide), (by show 3 < 1000; decide), fun v H10 hv g10 b10 => ?_⟩
    have L10 := (L9.xp (fun c o ec n => by rw [b10 c n]; exact ec) g10).now
    have S10 : Same H H10 := fun b o q => by
      rw [b10 b (fun z => by rw [z, np] at q; cases q)]
      exact s9 _ _ (S0 _ _ q)
    obtain ⟨n, rfl, hn⟩ : ∃ n : Nat, v = .int (n : Int) ∧ n ≤ 60 := by
      simp only [List.mem_cons, List.not_mem_nil, or_false] at hv
      rcases hv with rfl | rfl | rfl
      · exact ⟨5, rfl, by decide⟩
      · exact ⟨20, rfl, by decide⟩
      · exact ⟨60, rfl, by decide⟩
    clear hv L9 L0 s9 S0 hsm nsp g10 b10
    have nla0 : H la = none := old0 la (by simp)
    refine ⟨(n : Int), rfl, by omega, by omega, for_range (lo := 0) (n := (n : Int).toNat) (fun i σ H' => ∃ (lb : Addr) (ts : List V) (g t : Nat) (kvs : List (Key × V)) (kv : V) (x9 x10 x11 : Option V), σ = [some (.ref a), some (.ref p), some (.ref x), some (.ref e), some (.ref tl), some (.ref al), some (.ref m), some (.int (g : Int)), some kv, x9, x10, x11, none] ∧ Lnk CO CN H' lb H' p l x dx lb e de d m hd tl al ts ts g t kvs t kvs (ts.take t) ∧ Same H H' ∧ H lb = none ∧ ts.length ≤ 30 ∧ kvs.length ≤ i ∧ Kp2V CO CN H H' [p, x, e, d, m, hd, tl, al, lb] kv) ⟨la, [], 0, 0, [], .non, none, none, none, rfl, L10, S10, nla0, Nat.zero_le _, Nat.zero_le _, .inl rfl⟩ ?_ ?_⟩
    · rintro i σ H9 hi ⟨lb, ts, g, t, kvs, kv, x9, x10, x11, rfl, L1, sH, nlb, few, fk, kp⟩
      have hi : i < n := by simpa using hi
      refine ⟨_, rfl, _, rfl, _, rfl, _, rfl, _, rfl, _, rfl, _, rfl, p, l, x, dx, lb, e, de, d, m, hd, tl, al, ts, g, t, kvs, rfl, L1, few, by omega, fun r lc ts2 g2 t2 kvs2 H11 L2 few2 fk2 er => ?_⟩
      refine ⟨r, _, rfl, SqT.of er, rfl, _, _, rfl, _, _, rfl, rfl, ?_⟩
      refine ⟨_, rfl, _, rfl, iteF ?_⟩
      refine ⟨_, rfl, _, rfl, _, rfl, _, rfl, _, rfl, x, dx, lc, e, de, d, m, hd, tl, ts2, g2, t2, kvs2, rfl, L2.en, L2.etl, L2.tn, L2.md, fun H12 s12 => ⟨_, rfl, iteF ?_⟩⟩
      have fr := L2.s
      have lo2 := L2.lo
      have L3 := (L2.same s12).now
      have offH : ∀ b o, H b = some o → b ∉ [p, x, e, d, m, hd, tl, al, lb] := fun b o q z => by
        simp only [List.mem_cons, List.not_mem_nil, or_false] at z
        rcases z with z | z | z | z | z | z | z | z | z
        all_goals first
          | (rw [z, nlb] at q; cases q)
          | (rw [z, old0 _ (by simp)] at q; cases q)
      have sH3 : Same H H12 := fun b o q => s12 _ _ (fr b o (sH b o q) (offH b o q))
      have nlc : H lc = none := by
        rcases lo2 with rfl | q
        · exact nlb
        · exact sNo sH q
      have kp3 : Kp2V CO CN H H12 [p, x, e, d, m, hd, tl, al, lc] kv := kp.step lo2 (fun b o q z => s12 _ _ (fr b o q z)) (fun b xs q => s12 _ _ (fr b _ q (L1.tups q)))
      clear kp fr sH L1 nlb er few lo2 offH s12 L2
      refine ⟨_, rfl, _, rfl, _, rfl, al, _, rfl, .inl (SqL.of L3.eal), _, rfl, tl, ts2, rfl, SqL.of L3.etl, fun u hu => ?_⟩
      have lt2 := L3.en.lt
      have lta : (ts2.take t2).length = t2 := by rw [List.length_take]; omega
      rw [lta, cut_toN ts2 lt2]
      have s13 := sN (o := .lst (ts2.take t2)) hu
      have L4 := (L3.same s13).now
      refine ⟨al, u, ts2.take t2, rfl, rfl, L4.eal, upd_same, fun v hv => L4.tn v (List.mem_of_mem_take hv), _, rfl, iteF ?_⟩
      refine ⟨_, rfl, al, _, rfl, .inl (SqL.of L4.eal), _, rfl, m, _, rfl, L4.md.t, rfl, _, rfl, ?_⟩
      rw [lta, decide_eq_true rfl]
      refine iteF ?_
      refine ⟨_, rfl, p, l, 9, rfl, L4.g, by decide, by decide, fun d9 H14 _ _ g14 b14 => ?_⟩
      have x14 : XtP p _ H14 := fun c o ec n => (b14 c n).trans ec
      have L5 := (L4.xp x14 g14).now
      have sH5 : Same H H14 := fun b o q => x14 _ _ (s13 _ _ (sH3 _ _ q)) (fun z => by rw [z, np] at q; cases q)
      have kp5 : Kp2V CO CN H H14 [p, x, e, d, m, hd, tl, al, lc] kv := kp3.mv (fun b o q z => x14 _ _ (s13 _ _ q) (fun y => z (by simp [y]))) (fun b xs q => x14 _ _ (s13 _ _ q) (fun y => L3.tups q (by simp [y])))
      clear x14 g14 b14 L4 s13 kp3 sH3 L3 hu
      refine ⟨rfl, _, rfl, ite2 (fun _ => ?_) (fun _ => ⟨lc, ts2, g2, t2, kvs2, kv, _, _, _, rfl, L5, sH5, nlc, few2, by omega, kp5⟩)⟩
      clear kp5
      refine ⟨_, rfl, x, dx, _, rfl, L5.en.o.at_, rfl, x, dx, lc, g2, _, rfl, L5.en.o, fun y dy ly H15 ny nly nlyy s15 oy => ?_⟩
      have L6 := (L5.same s15).now
      have sH6 := sT sH5 s15
      refine ⟨_, rfl, e, de, _, rfl, L6.en.n.at_, rfl, e, de, d, t2, kvs2, rfl, L6.en.n, fun f2 df dd H16 nf ndd ndf s16 inf => ?_⟩
      have L7 := (L6.same s16).now
      have sH7 := sT sH6 s16
      have oy7 := oy.same s16
      refine ⟨_, rfl, tl, _, rfl, .inl (SqL.of L7.etl), fun tq htq => ?_⟩
      have s17 := sN (o := .lst ts2) htq
      have etq : (upd H16 tq (.lst ts2)) tq = some (.lst ts2) := upd_same
      have L8 := (L7.same s17).now
      have sH8 := sT sH7 s17
      have oy8 := oy7.same s17
      have in8 := inf.same s17
      have nyf : y ≠ f2 := ne_of_none oy.at_ nf
      have ntqH : H tq = none := sNo sH7 htq
      revert L8 sH8 oy8 in8 etq
      generalize (upd H16 tq (.lst ts2)) = H17
      intro etq L8 sH8 oy8 in8
      refine ⟨_, rfl, fun mq hmq => ?_⟩
      have s18 := sN (o := .dK []) hmq
      have L9 := (L8.same s18).now
      have emq : (upd H17 mq (.dK [])) mq = some (.dK []) := upd_same
      refine ⟨_, rfl, m, _, rfl, L9.md.t, _, rfl, m, _, rfl, L9.md.h, hd, kvs2, rfl, .inl L9.md.dct, fun hq hhq => ?_⟩
      have s19 := sN (o := .dK kvs2) hhq
      have nmq : mq ≠ hq := ne_of_none emq hhq
      refine ⟨by rw [upd_ne nmq]; exact emq, mKv t2 hq, rfl, (by show 2 ≤ 15; decide), ?_⟩
      rw [mk_merge]
      have s20 : Same H17 (upd (upd (upd H17 mq (.dK [])) hq (.dK kvs2)) mq (.dK (mKv t2 hq))) := sNew (sT s18 s19) hmq
      have mdq : MindAt (upd (upd (upd H17 mq (.dK [])) hq (.dK kvs2)) mq (.dK (mKv t2 hq))) mq hq t2 kvs2 := ⟨upd_same, by rw [upd_ne nmq.symm, upd_same], nmq, by omega⟩
      have L10' := (L8.same s20).now
      have sH10 := sT sH8 s20
      have oy10 := oy8.same s20
      have in10 := in8.same s20
      have etq10 := s20 _ _ etq
      revert L10' sH10 oy10 in10 etq10 mdq
      generalize (upd (upd (upd H17 mq (.dK [])) hq (.dK kvs2)) mq (.dK (mKv t2 hq))) = H20
      intro mdq L10' sH10 oy10 in10 etq10
      refine ⟨(by show 5 ≤ sizeLine; decide), fun kt hkt => ?_⟩
      have s21 := sN (o := .tup [.ref y, .ref f2, .ref tq, .int (g2 : Int), .ref mq]) hkt
      have L11 := (L10'.same s21).now
      have sH11 := sT sH10 s21
      have KP : Kp2 CO CN H (upd H20 kt (.tup [.ref y, .ref f2, .ref tq, .int (g2 : Int), .ref mq])) [p, x, e, d, m, hd, tl, al, lc] kt y dy ly f2 df dd mq hq tq ts2 g2 t2 kvs2 :=
        ⟨upd_same, ⟨oy10.same s21, in10.same s21, L11.en.ki, L11.en.le, L11.en.lt, L11.en.few, nyf⟩, s21 _ _ etq10, L11.tn, mdq.same s21, by omega, L5.new ny, L5.new nly, L6.new nf, L6.new ndd, L8.new hmq, L9.new hhq, L7.new htq, sNo sH5 ny, sNo sH6 nf, sNo sH6 ndd⟩
      revert L11 sH11 KP
      generalize (upd H20 kt (.tup [.ref y, .ref f2, .ref tq, .int (g2 : Int), .ref mq])) = H21
      intro L11 sH11 KP
      clear L10' sH10 oy10 in10 etq10 mdq s21 s20 s19 s18 s17 s16 s15 L9 L8 L7 L6 L5 oy8 in8 etq oy7 oy
      refine ⟨_, rfl, e, de, _, rfl, L11.en.n.at_, rfl, e, de, d, t2, kvs2, rfl, L11.en.n, _, _, rfl, rfl, _, rfl, p, l, 5, rfl, L11.g, by decide, by decide, fun d5 H22 f0 f1 g22 b22 => ?_⟩
      obtain ⟨D5, rfl⟩ : ∃ D5 : Nat, d5 = (D5 : Int) := ⟨d5.toNat, by omega⟩
      have x22 : XtP p H21 H22 := fun c o ec n => (b22 c n).trans ec
      have L12 := (L11.xp x22 g22).now
      have sH12 : Same H H22 := fun b o q => x22 _ _ (sH11 _ _ q) (fun z => by rw [z, np] at q; cases q)
      have KP2 := KP.mv (fun b o q z => x22 _ _ q (fun y' => z (by simp [y']))) (fun b xs q => x22 _ _ q (fun y' => L11.tups q (by simp [y'])))
      refine ⟨_, _, rfl, rfl, ?_⟩
      refine ⟨_, rfl, e, de, _, rfl, L12.en.n.at_, rfl, _, rfl, (by show 1 ≤ sizeLine; decide), fun w hw => ?_⟩
      have s23 := sN (o := .tup [.str "far"]) hw
      have L13 := (L12.same s23).now
      have ltt := L13.en.lt
      refine ⟨(fun _ => False), e, de, d, t2, kvs2, .int ((t2 : Int) + 1000 + (D5 : Int)), .ref w, rfl, L13.en.n, by omega, kn0, fun j ej lj z H24 hz b24 ez n24 => ?_, fun nb => ?_⟩
      case refine_2 =>
        have q := num_lt (i := t2 + 1000 + D5) (n := 4294967296) (by omega)
        rw [show (((t2 + 1000 + D5 : Nat)) : Int) = (t2 : Int) + 1000 + (D5 : Int) by omega] at q
        rw [q] at nb
        cases nb
      have ej : j = t2 + 1000 + D5 := by
        injection ej with ej
        omega
      have eh : held1 t2 j (.ref w) kvs2 = kvs2 := by
        unfold held1
        rw [if_neg (fun z => by omega)]
      rw [eh, drn_none L13.en.ki.not] at ez n24
      have L14 := (L13.tk b24 n24 L13.en.ki (Nat.le_refl _) L13.en.lt).now
      have sH14 : Same H H24 := fun b o q => b24 _ _ (s23 _ _ (sH12 _ _ q)) (fun z => by rw [z, old0 e (by simp)] at q; cases q) (fun z => by rw [z, old0 d (by simp)] at q; cases q)
      have KP4 := (KP2.mv (fun b o q _ => s23 _ _ q) (fun b xs q => s23 _ _ q)).mv (fun b o q z => b24 _ _ q (fun y' => z (by simp [y'])) (fun y' => z (by simp [y']))) (fun b xs q => b24 _ _ q (fun y' => L13.tups q (by simp [y'])) (fun y' => L13.tups q (by simp [y'])))
      clear KP KP2 L11 L12 L13 sH11 sH12 n24 b24 x22 g22 b22 s23 hw hz eh ej lj
      refine ⟨Nat.zero_le _, fun w2 hw2 => ?_⟩
      have s25 := sN (o := .lst []) hw2
      refine ⟨.list [], .list [], .lst (SqL.of (s25 _ _ ez)) .nil, .lst (SqL.of upd_same) .nil, by decide +kernel, by decide +kernel, ?_⟩
      rw [show PyData.eqv (.list []) (.list []) = true by decide +kernel]
      refine ⟨_, rfl, iteF ?_⟩
      have L15 := (L14.same s25).now
      have sH15 := sT sH14 s25
      have KP5 := KP4.mv (fun b o q _ => s25 _ _ q) (fun b xs q => s25 _ _ q)
      obtain ⟨ks, eks⟩ := ki_keys L15.en.ki
      refine ⟨_, rfl, e, de, _, rfl, L15.en.n.at_, rfl, e, de, d, t2, kvs2, ks, rfl, L15.en.n, eks, fun u ns1 H26 s26 hu26 p1 q1 eu => ?_⟩
      have L16 := (L15.same s26).now
      refine ⟨_, rfl, m, _, rfl, L16.md.h, .inr (.inr (.inl ⟨rfl, .inl ⟨_, L16.md.dct⟩⟩)), hd, _, rfl, rfl, L16.md.dct, fun vw hvw => ?_⟩
      have s8 := sN (o := viewO "dict_keys" vw hd) hvw
      refine ⟨vw, hd, _, rfl, upd_same, s8 _ _ L16.md.dct, fun l9 hl9 => ?_⟩
      rw [eks]
      have s9 := sT s8 (sN (o := .lst (ks.map V.int)) hl9)
      refine ⟨l9, ks, rfl, SqL.of upd_same, fun ns2 pq p2 q2 hpq => ?_⟩
      have s10 := sT s9 (sN (o := .lst (ns2.map V.int)) hpq)
      refine ⟨pq, _, rfl, .inl ⟨SqL.of upd_same, fun u2 hu2 => ?_⟩⟩
      have s11 := sT s10 (sN (o := .tup (ns2.map V.int)) hu2)
      obtain rfl : ns1 = ns2 := srt_uniq p1 p2 q1 q2
      refine ⟨u, u2, ns1, ns1, rfl, rfl, s11 _ _ eu, upd_same, ?_⟩
      rw [decide_eq_true rfl]
      refine ⟨_, rfl, iteF ?_⟩
      have s12 := sT s26 s11
      exact ⟨lc, ts2, g2, t2, kvs2, .ref kt, _, _, _, rfl, (L15.same s12).now, sT sH15 s12, nlc, few2, by omega, .inr ⟨kt, y, dy, ly, f2, df, dd, mq, hq, tq, ts2, g2, t2, kvs2, rfl, KP5.mv (fun b o q _ => s12 _ _ q) (fun b xs q => s12 _ _ q)⟩⟩
    · rintro σ H9 ⟨lb, ts, g, t, kvs, kv, x9, x10, x11, rfl, L1, sH, nlb, few, fk, kp⟩
      have hn2 : ((n : Int)).toNat ≤ 60 := by omega
      refine ⟨_, rfl, _, rfl, _, rfl, tl, _, rfl, .inl (SqL.of L1.etl), x, dx, lb, e, de, d, ts, g, t, kvs, rfl, L1.en, by omega, fun lc H10 b3 en2 => ⟨_, rfl, iteF ?_⟩⟩
      have etl2 := b3 _ _ L1.etl (ne_of L1.etl L1.en.o.at_ (fun z => by cases z)) (ne_of L1.etl L1.en.n.at_ (fun z => by cases z)) (ne_of L1.etl L1.en.n.dct (fun z => by cases z))
      have sH2 : Same H H10 := fun b o q => b3 _ _ (sH _ _ q) (fun z => by rw [z, old0 x (by simp)] at q; cases q) (fun z => by rw [z, old0 e (by simp)] at q; cases q) (fun z => by rw [z, old0 d (by simp)] at q; cases q)
      refine ⟨_, rfl, e, de, _, rfl, en2.n.at_, rfl, e, de, d, _, [], rfl, en2.n, _, rfl, tl, _, rfl, .inl (SqL.of etl2), rfl, _, rfl, ?_⟩
      rw [decide_eq_true rfl]
      refine iteF ?_
      refine ⟨_, rfl, e, de, _, rfl, en2.n.at_, rfl, e, de, d, _, [], [], rfl, en2.n, rfl, fun u ns1 H11 s11 _ p1 _ eu => ?_⟩
      obtain rfl : ns1 = [] := List.Perm.eq_nil p1
      refine ⟨Nat.zero_le _, fun w1 hw1 => ?_⟩
      have s12 := sN (o := .tup []) hw1
      refine ⟨.tuple [], .tuple [], .tup (SqT.of (s12 _ _ eu)) .nil, .tup (SqT.of upd_same) .nil, by decide +kernel, by decide +kernel, ?_⟩
      rw [show PyData.eqv (.tuple []) (.tuple []) = true by decide +kernel]
      refine ⟨_, rfl, iteF ?_⟩
      have s02 := sT s11 s12
      have en3 := en2.same s02
      have sH3 := sT sH2 s02
      have kp3 : Kp2V CO CN H _ [p, x, e, d, m, hd, tl, al, lb] kv := (kp.mv (fun b o q z => b3 _ _ q (fun y => z (by simp [y])) (fun y => z (by simp [y])) (fun y => z (by simp [y]))) (fun b xs q => b3 _ _ q (fun y => L1.tups q (by simp [y])) (fun y => L1.tups q (by simp [y])) (fun y => L1.tups q (by simp [y])))).mv (fun b o q _ => s02 _ _ q) (fun b xs q => s02 _ _ q)
      have offx : x ∈ [p, x, e, d, m, hd, tl, al, lb] ∧ e ∈ [p, x, e, d, m, hd, tl, al, lb] ∧ d ∈ [p, x, e, d, m, hd, tl, al, lb] := ⟨by simp, by simp, by simp⟩
      clear kp L1 b3 en2 sH2 s11 s12 s02 eu etl2 hw1
      revert en3 sH3 kp3
      generalize (upd H11 w1 (.tup [])) = H12
      intro en3 sH3 kp3
      refine ⟨fun σ H' => ∃ (kv2 : V) (y9 y10 y11 : Option V) (ld : Addr), σ = [some (.ref a), some (.ref p), some (.ref x), some (.ref e), some (.ref tl), some (.ref al), some (.ref m), some (.int (g : Int)), some kv2, y9, y10, y11, none] ∧ OutX CO H' x dx ld ts.length [] ∧ Same H H', ?_, ?_⟩
      · have dn : ts.drop ts.length = [] := List.drop_length
        have ox := en3.o
        rw [dn] at ox
        refine ⟨_, rfl, _, rfl, ?_⟩
        rcases kp3 with rfl | ⟨kt, x2, dx2, la2, e2, de2, d2, m2, hd2, tl2, ts2, g2, t2, kvs2, rfl, kk⟩
        · exact iteF ⟨.non, _, _, _, lc, rfl, ox, sH3⟩
        · refine iteT ?_
          refine ⟨_, rfl, kt, _, 0, _, rfl, rfl, SqT.of kk.at_, atI_nat (j := 0) rfl, _, rfl, kt, _, 1, _, rfl, rfl, SqT.of kk.at_, atI_nat (j := 1) rfl, _, rfl, kt, _, 2, _, rfl, rfl, SqT.of kk.at_, atI_nat (j := 2) rfl, _, rfl, kt, _, 3, _, rfl, rfl, SqT.of kk.at_, atI_nat (j := 3) rfl, _, rfl, kt, _, 4, _, rfl, rfl, SqT.of kk.at_, atI_nat (j := 4) rfl, x2, dx2, la2, e2, de2, d2, m2, hd2, tl2, ts2, g2, t2, kvs2, rfl, kk.en, kk.etl, kk.tn, kk.md, fun H13 s13 => ⟨_, rfl, iteF ?_⟩⟩
          have kt13 := s13 _ _ kk.at_
          refine ⟨_, rfl, kt, _, 0, _, rfl, rfl, SqT.of kt13, atI_nat (j := 0) rfl, _, rfl, kt, _, 1, _, rfl, rfl, SqT.of kt13, atI_nat (j := 1) rfl, _, rfl, kt, _, 2, _, rfl, rfl, SqT.of kt13, atI_nat (j := 2) rfl, tl2, _, rfl, .inl (SqL.of (s13 _ _ kk.etl)), x2, dx2, la2, e2, de2, d2, ts2, g2, t2, kvs2, rfl, kk.en.same s13, by have := kk.few; omega, fun lq H14 b14 _ => ⟨_, rfl, iteF ?_⟩⟩
          refine ⟨_, _, _, _, lc, rfl, ?_, ?_⟩
          · exact ⟨b14 _ _ (s13 _ _ ox.at_) (fun z => kk.o1 (by rw [← z]; simp)) (fun z => kk.o3 (by rw [← z]; simp)) (fun z => kk.o4 (by rw [← z]; simp)), b14 _ _ (s13 _ _ ox.lst) (ne_of ox.lst kk.en.o.at_ (fun z => by cases z)) (ne_of ox.lst kk.en.n.at_ (fun z => by cases z)) (ne_of ox.lst kk.en.n.dct (fun z => by cases z)), ox.few⟩
          · exact fun b o q => b14 _ _ (s13 _ _ (sH3 _ _ q)) (fun z => by rw [z, kk.b1] at q; cases q) (fun z => by rw [z, kk.b2] at q; cases q) (fun z => by rw [z, kk.b3] at q; cases q)
      · have fts := en3.few
        clear en3 kp3 sH3
        rintro σ H13 ⟨kv2, y9, y10, y11, ld, rfl, ox, sH3⟩
        refine ⟨_, rfl, x, dx, _, rfl, ox.at_, rfl, x, dx, ld, ts.length, [], rfl, ox, by omega, fun S H14 s14 nS pr => ?_⟩
        obtain ⟨as, eS, pp⟩ := pr
        obtain rfl : as = [] := List.eq_nil_of_length_eq_zero (prs_len pp)
        refine ⟨_, rfl, .inl ⟨rfl, _, SqL.of eS⟩, Nat.zero_le _, fun w5 hw5 => ⟨(by show 2 ≤ sizeLine; decide), fun w6 hw6 => ?_⟩⟩
        have s16 := sT (sN (o := .tup []) hw5) (sN (o := .tup [.int 0, .ref w5]) hw6)
        refine ⟨S, [], .ref w6, rfl, rfl, s16 _ _ eS, (by show 0 < sizeLine; decide), ?_⟩
        have sH4 := sT sH3 (sT s14 s16)
        have nSH : H S = none := sNo sH3 nS
        have sH5 : Same H (upd (upd (upd H14 w5 (.tup [])) w6 (.tup [.int 0, .ref w5])) S (.lst ([] ++ [.ref w6]))) := sNew sH4 nSH
        have ox5 : OutX CO (upd (upd (upd H14 w5 (.tup [])) w6 (.tup [.int 0, .ref w5])) S (.lst ([] ++ [.ref w6]))) x dx ld ts.length [] := by
          have o4 := ox.same (sT s14 s16)
          exact ⟨by rw [upd_ne (ne_of o4.at_ (s16 _ _ eS) (fun z => by cases z))]; exact o4.at_, by rw [upd_ne (ne_of_none ox.lst nS)]; exact o4.lst, ox.few⟩
        revert sH5 ox5
        generalize (upd (upd (upd H14 w5 (.tup [])) w6 (.tup [.int 0, .ref w5])) S (.lst ([] ++ [.ref w6]))) = H15
        intro sH5 ox5
        refine ⟨_, rfl, x, dx, _, rfl, ox5.at_, rfl, x, dx, ld, ts.length, [], rfl, ox5, by omega, fun S2 H16 s16 _ pr2 => ?_⟩
        obtain ⟨as2, eS2, pp2⟩ := pr2
        obtain rfl : as2 = [] := List.eq_nil_of_length_eq_zero (prs_len pp2)
        refine ⟨Nat.zero_le _, fun w7 hw7 => ?_⟩
        have s17 := sN (o := .lst []) hw7
        refine ⟨.list [], .list [], .lst (SqL.of (s17 _ _ eS2)) .nil, .lst (SqL.of upd_same) .nil, by decide +kernel, by decide +kernel, ?_⟩
        rw [show PyData.eqv (.list []) (.list []) = true by decide +kernel]
        refine ⟨_, rfl, iteT ?_⟩
        have ox6 := ox5.same (sT s16 s17)
        have sH6 := sT sH5 (sT s16 s17)
        refine ⟨_, rfl, x, dx, _, rfl, ox6.at_, rfl, (fun _ => False), x, dx, ld, ts.length, [], .int 0, rfl, ox6, kn0, fun j ej hj lb2 H18 hlb b18 o18 => ?_, fun nb => ?_⟩
        case refine_2 =>
          rw [show numB _ (V.int 0) = true from num_lt (i := 0) (by omega)] at nb
          cases nb
        obtain rfl : j = 0 := by
          injection ej with ej
          omega
        refine ⟨_, _, rfl, by rw [Nat.zero_sub]; exact sm_i _, fun H19 s19 => k H19 fun b o q => s19 _ _ (b18 _ _ (sH6 _ _ q) (fun z => by rw [z, old0 x (by simp)] at q; cases q))⟩
end
end Q

/-! dict(t) of a tuple of pairs -/
namespace TDp
open PySem PySem.Spec PyProof.Rows L2
theorem no_keys_tup : typeLookup (.type "tuple") "keys" = pure none := am_miss_of_fast (by first | decide +kernel | rfl)
theorem no_getattr_tup : typeLookup (.type "tuple") "__getattr__" = pure none := by rw [typeLookup_type, builtinLookup_eq_fast]; kernel_rfl
section
variable {prog : Program} {w : World} {A : Around} {E : Value → Shared → Prop}
theorem miss_tup {s : Shared} {a : Addr} {o : Obj} {xs : Array Value} {k : Nat} {Q : Option Value → Shared → Prop} (hx : s.heap.get? a = some o) (kc : o.cls = .type "tuple") (kd : o.data = .seq xs k) (kn : o.dict = none) (hA : A.handled = none)
    (h : ∀ h' tk, (∀ b ob, s.heap.get? b = some ob → h'.get? b = some ob) → Q none { s with heap := h', toks := tk }) : wpAny (model prog w) A (getAttr? (.ref a) "keys") Q E s := by
  obtain ⟨c1, d1, s1, l1⟩ := o
  simp only at kc kd kn
  subst kc kd kn
  obtain ⟨hp, g, d, tk, os⟩ := s
  have tT : ∀ tk', (⟨hp, g, d, tk', os⟩ : Shared).TypeIs (.ref a) "tuple" := fun _ => ⟨_, hx, rfl⟩
  have mis := no_keys_tup
  have nam : (["__module__", "__name__", "__qualname__", "__doc__", "__annotations__"] : List Str).contains "keys" = false := (by decide +kernel)
  have siz : ("keys" : Str).length + 100 ≤ sizeLine := by first | (size_fits) | (decide +kernel)
  have g1 := sub_AttributeError
  have g3 := PySem.F.slot_tuple_getattribute.lookup
  have g4 := PySem.F.slot_tuple_getattribute.bind (.ref a)
  have g5 := no_getattr_tup
  unfold getAttr? getAttrBy? getAttrBy
  repeat (any_goals (first | assumption | exact tT _ | ((with_reducible show wpAny _ _ (call (Value.builtin "tuple.__getattribute__") _ _) _ _ _); refine call_meets PySem.F.slot_tuple_getattribute (tT _) am_entry_tuple_getattribute (PySem.F.args_tuple_getattribute_2 _ _) (meets_getattribute_miss_tuple a xs k l1 "keys" _ mis nam siz) ⟨hx, hA, fun h' tk' e hx' => ?_⟩) | wp_step))
  obtain ⟨t', u', he⟩ := hx'.there
  show wpAny _ _ (getattributeRaised _ _ _ _ _ _ _) _ _ _
  unfold getattributeRaised
  repeat (any_goals (first | assumption | (wp_step)))
  all_goals (first | (exact h _ _ hx'.keeps) | (dsimp only; repeat (any_goals (first | assumption | (exact h _ _ hx'.keeps) | wp_step))))
/-- the walk over the pairs of a tuple -/
theorem upd_loopT {R : Result → Shared → Prop} {S I l : Addr} {items : Array Value} {res : Value} (hh : A.handled = none) (nlI : l ≠ I) (nSI : S ≠ I) (nSl : S ≠ l) :
    ∀ (rest : List (Key × Value)) (i : Nat) (acc : List (Key × Value)) (ix : Int) (t : Tok) (s : Shared), items.size = i + rest.length → acc.length + rest.length ≤ sizeLine →
      (∀ (j : Nat) (q : Key × Value), rest[j]? = some q → ∃ (b : Addr) (u : Value), items[i + j]? = some (.ref b) ∧ b ≠ S ∧ b ≠ I ∧ IsTup s.heap b #[u, q.2] ∧ keyIs q.1 u = true) →
      s.heap.IsTupleIter I l i → s.heap.IsTuple l items → s.heap.DictOf (mixKind prog w) S acc →
      (∀ h' tk, h'.DictOf (mixKind prog w) S (merged acc rest) → (∀ b o, b ≠ S → b ≠ I → s.heap.get? b = some o → h'.get? b = some o) → R (.ok (.ret res)) { s with heap := h', toks := tk }) →
      codeAny (model prog w) A (.builtin "dict.update.loop" ⟨[.ref S, .ref I, .int ix t, res], []⟩) R s
  | [], i, acc, ix, t, s, hsz, hln, ht, hit, hl, hm, hR => by
    refine (codeAny_builtin ud_entry ?_)
    rw [(Around.under_plainId ud_plain _)]
    show wpAny _ A.in1 (pyNext (.ref I) >>= _) _ _ s
    refine wpAny_bind (wpAny_pyNext_tuple_end (A := A.in1) hh hit hl (by first | exact Array.getElem?_eq_none (Nat.le_of_eq hsz) | (simp at hsz; simp; omega)) fun h' he => ?_)
    show wpAny _ A.in1 (Builtin.Dict.addKeywords S [] >>= _) _ _ _
    exact wpAny_bind (wpAny_pure (wpAny_pure (hR h' s.toks (hm.extBut he nSI) fun b o _ hb e => he b o hb e)))
  | q :: rest, i, acc, ix, t, s, hsz, hln, ht, hit, hl, hm, hR => by
    obtain ⟨b, u, hb, nbS, nbI, htup, hk⟩ := ht 0 q rfl
    rw [List.length_cons] at hsz hln
    refine (codeAny_builtin ud_entry ?_)
    rw [(Around.under_plainId ud_plain _)]
    show wpAny _ A.in1 (pyNext (.ref I) >>= _) _ _ s
    refine wpAny_bind (wpAny_pyNext_tuple_item (x := .ref b) hit hl (by simpa using hb) fun h1 hit1 hs1 => ?_)
    have ht1 : IsTup h1 b #[u, q.2] := htup.extBut hs1.extBut nbI
    have hl1 : h1.IsTuple l items := hl.extBut hs1.extBut nlI
    have hm1 : h1.DictOf (mixKind prog w) S acc := hm.extBut hs1.extBut nSI
    obtain ⟨o, ho, kc, n, kd⟩ := id ht1
    show wpAny _ A.in1 (holding [Value.ref b] _ >>= _) _ _ _
    refine (wpAny_bind (wpAny_holding ?_))
    refine (wpAny_bind (wpAny_tryCatch ?_))
    unfold Builtin.Dict.pairItems
    refine wpAny_bind (wpAny_typeOf (T := "tuple") ⟨o, ho, kc⟩ ?_)
    rw [if_pos (by first | (decide) | rfl | simp)]
    refine wpAny_bind (wpAny_seqItems ho kd (wpAny_pure ?_))
    show wpAny _ A.in1 (holding [u, q.2] (dictSet S u q.2)) _ _ _
    refine wpAny_holding (wpAny_dictSet_pairs (knd := mixKind prog w) (k := q.1) hk hm1 (fun h2 hm2 hs2 => ?_) (by omega))
    refine wpAny_pure ⟨plainId_quiet ud_plain _, upd_loopT (items := items) hh nlI nSI nSl rest (i + 1) (stored acc q.1 q.2) (ix + 1) 0 _ (show items.size = i + 1 + rest.length by omega) ?_ (fun j q' e => ?_) ?_ ?_ hm2 fun h' tk hd' k => ?_⟩
    · have zz := stored_length_le acc q.1 q.2
      omega
    · obtain ⟨b', u', hb', nbS', nbI', htup', hk'⟩ := ht (j + 1) q' (by simpa using e)
      refine ⟨b', u', ?_, nbS', nbI', (htup'.extBut hs1.extBut nbI').extBut hs2.extBut nbS', hk'⟩
      rw [show i + 1 + j = i + (j + 1) by omega]
      exact hb'
    · exact hit1.at fun o' e => hs2.extBut I o' (Ne.symm nSI) e
    · exact hl1.extBut hs2.extBut (Ne.symm nSl)
    · exact hR h' tk hd' fun c oc h3 h4 e => k c oc h3 h4 (hs2.extBut c oc h3 (hs1.extBut c oc h4 e))
theorem dict_pairsT {s : Shared} {l : Addr} {ol : Obj} {items : Array Value} {n : Nat} {prs : List (Key × Value)} {Q : Value → Shared → Prop} (hh : A.handled = none) (hl : s.heap.get? l = some ol) (kc : ol.cls = .type "tuple") (kn : ol.dict = none)
    (kd : ol.data = .seq items n) (hsz : items.size = prs.length) (hln : prs.length ≤ sizeLine)
    (ht : ∀ (j : Nat) (q : Key × Value), prs[j]? = some q → ∃ (b : Addr) (u : Value), items[j]? = some (.ref b) ∧ IsTup s.heap b #[u, q.2] ∧ keyIs q.1 u = true)
    (h : ∀ h' tk, h'.DictOf (mixKind prog w) s.heap.objs.size (merged [] prs) → (∀ b o, s.heap.get? b = some o → h'.get? b = some o) → Q (.ref s.heap.objs.size) { s with heap := h', toks := tk }) :
    wpAny (model prog w) A (call (.type "dict") [.ref l]) Q E s := by
  refine callType_codes (Q₁ := fun obj s₁ => obj = .ref s.heap.objs.size ∧ s₁ = { s with heap := s.heap.push { cls := .type "dict", data := .dict #[] } }) PySem.F.kt_called_dict (PySem.F.kt_typeCall_dict_1 _) PySem.F.entry_dict_init (kt_code_dict_new _ ⟨rfl, rfl⟩) ?_
  rintro obj s₁ ⟨rfl, rfl⟩
  have new_ : (s.heap.push { cls := .type "dict", data := .dict #[] }).DictOf (mixKind prog w) s.heap.objs.size [] := Heap.DictOf.new s.heap
  have j0 : ∀ b o, s.heap.get? b = some o → (s.heap.push { cls := .type "dict", data := .dict #[] }).get? b = some o := fun b o e => Heap.get?_push_of_some _ e
  refine ⟨new_.typeIs, PySem.F.args_dict_init_2 _ _, ?_⟩
  unfold Builtin.«dict.__init__»
  refine (wpAny_bind ?_)
  unfold Builtin.Dict.selfAndRest
  refine wpAny_bind (wpAny_notOrdered_dict new_.typeIs ?_)
  show wpAny _ _ (pure (s.heap.objs.size, [Value.ref l])) _ _ _
  refine (wpAny_pure ?_)
  show wpAny _ _ (Builtin.Dict.updateFrom "dict.__init__" s.heap.objs.size (.ref l) [] .none) _ _ _
  unfold Builtin.Dict.updateFrom
  refine wpAny_bind (wpAny_typeOf (T := "tuple") ⟨ol, j0 _ _ hl, kc⟩ ?_)
  rw [if_pos (by first | (decide) | rfl | simp)]
  refine wpAny_bind (miss_tup (j0 _ _ hl) kc kd kn hh fun h1 tk1 hk1 => ?_)
  rw [if_pos (show ((none : Option Value).isNone = true) from rfl)]
  refine (wpAny_bind (wpAny_rule ?_))
  have hl1 : h1.IsTuple l items := ⟨ol, hk1 _ _ (j0 _ _ hl), kc, n, kd⟩
  have hS1 : s.heap.objs.size < h1.objs.size := Heap.lt_size (hk1 _ _ (show (s.heap.push { cls := .type "dict", data := .dict #[] }).get? s.heap.objs.size = some { cls := .type "dict", data := .dict #[] } from Heap.get?_push_size _ rfl))
  refine wpAny_bind (wpAny_pyIter_tuple hl1 ?_)
  have j2 : ∀ b o, h1.get? b = some o → (h1.push { cls := .type "tuple_iterator", data := .fields #[.ref l, .int 0 0] }).get? b = some o := fun b o e => Heap.get?_push_of_some _ e
  have hlt : l < s.heap.objs.size := Heap.lt_size hl
  have key := upd_loopT (prog := prog) (w := w) (A := A.in1) (R := wants (fun r s₂ => r = .none ∧ Q (.ref s.heap.objs.size) s₂) E) (S := s.heap.objs.size) (I := h1.objs.size) (l := l) (items := items) (res := Value.none) hh
    (Nat.ne_of_lt (Nat.lt_trans hlt hS1)) (Nat.ne_of_lt hS1) (Nat.ne_of_gt hlt) prs 0 [] 0 0
    { s with heap := h1.push { cls := .type "tuple_iterator", data := .fields #[.ref l, .int 0 0] }, toks := tk1 } (by rw [hsz, Nat.zero_add]) (by rw [List.length_nil, Nat.zero_add]; exact hln)
    (fun j q e => by
      obtain ⟨b, u, e1, e2, e3⟩ := ht j q e
      have lb : b < s.heap.objs.size := e2.lt
      exact ⟨b, u, by rw [Nat.zero_add]; exact e1, Nat.ne_of_lt lb, Nat.ne_of_lt (Nat.lt_trans lb hS1), e2.keeps fun c o z => j2 _ _ (hk1 _ _ (j0 _ _ z)), e3⟩)
    ⟨_, Heap.get?_push_size _ rfl, rfl, rfl⟩ (hl1.at fun o e => j2 _ _ e) ((new_.at fun o e => hk1 _ _ e).at fun o e => j2 _ _ e)
    (fun h' tk hd' k => ⟨rfl, h h' tk hd' fun b o e => k b o (Nat.ne_of_lt (Heap.lt_size e)) (Nat.ne_of_lt (Nat.lt_trans (Heap.lt_size e) hS1)) (j2 _ _ (hk1 _ _ (j0 _ _ e)))⟩)
  first
    | (exact wpAny_pure ⟨plainId_quiet ud_plain _, key⟩)
    | (exact wpAny_bind (wpAny_pure (wpAny_pure ⟨plainId_quiet ud_plain _, key⟩)))
end
/-- a tuple that is known to have no names of its own -/
def PlT (H : Hp) (a : Addr) (xs : List V) : Prop := ∃ o : Obj, H a = some (.frz o (.tup xs)) ∧ o.dict = none
theorem PlT.rd {H : Hp} {a : Addr} {xs : List V} (h : PlT H a xs) : Rd H a (.tup xs) := .inr (h.imp fun o h => h.1)
theorem PlT.sq {K : PySem.W.Frag} {H : Hp} {a : Addr} {xs : List V} (h : PlT H a xs) : SqT K H a xs := .inl h.rd
section
variable {X : Cx} {es : List Expr} {pos : Pos} {t : TA}
/-- a written tuple, a sum, tuple(list): as the library's rules, but the new tuple is known whole -/
def tTupF (t : TA) : TE := fun σ H Q => t σ H fun xs H1 => xs.length ≤ sizeLine ∧ ∀ p o, H1 p = none → o.dict = none → Q (.ref p) (upd H1 p (.frz o (.tup xs)))
theorem pe_tupF {x1} (h : PA X es t) : PE X (.Tuple es x1 pos) (tTupF t) := by
  refine ⟨fun pins s σ H Q I hq => wpAny_Tuple_spliced (thn (h.run pos pins s σ H _ I hq) fun us s1 ⟨xs, H1, I1, r, z, q⟩ => ⟨by rw [← r.length]; exact z, ?_⟩)⟩
  have fr : H1 s1.heap.objs.size = none := I1.hok.fresh (Nat.le_refl _)
  refine ⟨.ref s1.heap.objs.size, _, I1.laid (t' := s1.toks) (o := .frz _ (.tup xs)) (fun b u e => Heap.get?_push_of_some _ e) (Nat.le_refl _) ⟨Heap.get?_push_size _ rfl, z, us, r, ⟨_, Heap.get?_push_size _ rfl, rfl, _, rfl⟩⟩, rfl, q _ _ fr rfl⟩
def rCatF (K : PySem.W.Frag) : R2 := fun x y H Q => ∃ a b xs ys, x = .ref a ∧ y = .ref b ∧ SqT K H a xs ∧ SqT K H b ys ∧ xs.length + ys.length ≤ sizeLine ∧
  (xs = [] → Q (.ref b) H) ∧ (xs ≠ [] → ys = [] → Q (.ref a) H) ∧ (xs ≠ [] → ys ≠ [] → ∀ p o, H p = none → o.dict = none → Q (.ref p) (upd H p (.frz o (.tup (xs ++ ys)))))
theorem op_catF : OpR X (binaryOp .Add) (rCatF X.K) := by
  intro pins s σ H x y v u Q I rx ry h
  obtain ⟨a, b, xs, ys, rfl, rfl, ha, hb, hz, q0, q1, q2⟩ := h
  cases rx
  cases ry
  obtain ⟨its, r1, p1, _⟩ := I.tuple ha
  obtain ⟨its2, r2, p2, _⟩ := I.tuple hb
  by_cases hx : xs = []
  · subst hx
    cases r1
    exact (cat_tup0 p1 p2 ⟨.ref b, H, I, rfl, q0 rfl⟩)
  · refine HT.cat_tup p1 p2 (fun z => hx (r1.nil_iff.mp z)) (fun z => ⟨.ref a, H, I, rfl, q1 hx (r2.nil_iff.mp z)⟩) (fun z => ?_) (by rw [← r1.length, ← r2.length]; exact hz)
    refine ⟨.ref s.heap.objs.size, _, I.laid (t' := s.toks) (o := .frz _ (.tup (xs ++ ys))) (fun b ob q => Heap.get?_push_of_some _ q) (Nat.le_refl _) ⟨Heap.get?_push_size _ rfl, by rw [List.length_append]; exact hz, _, r1.append r2, IsTup.new _ _⟩, rfl, q2 hx (fun w => z (r2.nil_iff.mpr w)) _ _ (I.hok.fresh (Nat.le_refl _)) rfl⟩
theorem call_tuple_ofF : CallR X (.type "tuple") (fun xs H Q => ∃ p ys, xs = [.ref p] ∧ SqL X.K H p ys ∧ ∀ l o, H l = none → o.dict = none → Q (.ref l) (upd H l (.frz o (.tup ys)))) := by
  intro pins s σ H xs us Q I r h
  obtain ⟨p, ys, rfl, hq, q⟩ := h
  obtain ⟨u, rfl, rx⟩ := vals1 r
  cases rx
  obtain ⟨its, r', pl, hz⟩ := I.list hq
  have len := r'.length
  refine call_tuple_list pl.isList (fun h' kp => ?_) (by (simp only [List.size_toArray]) <;> omega)
  have I1 : Inv X pins σ H { s with heap := h' } := (I.kept (t' := s.toks) kp)
  have I2 := I1.laid (t' := s.toks) (h' := h'.push { cls := .type "tuple", data := .seq its.toArray }) (o := .frz { cls := .type "tuple", data := .seq its.toArray } (.tup ys)) (fun b o e => Heap.get?_push_of_some _ e) (Nat.le_refl _) ⟨Heap.get?_push_size _ rfl, hz, its, r', IsTup.new _ _⟩
  exact ⟨.ref h'.objs.size, _, I2, rfl, q _ _ (I1.hok.fresh (Nat.le_refl _)) rfl⟩
/-- dict(t) of a tuple of pairs (key, value): later pairs win -/
theorem call_dictPT (calm : X.calm = true) : CallR X (.type "dict") (fun xs H Q => ∃ (a : Addr) (ps : List Addr) (kvs : List (Key × V)), xs = [.ref a] ∧ PlT H a (ps.map V.ref) ∧ Paired (fun p kv => SqT X.K H p [kV kv.1, kv.2]) ps kvs ∧
    ∀ p, H p = none → Q (.ref p) (upd H p (.dK (mergeK [] kvs)))) := by
  intro pins s σ H xs us Q I r q
  obtain ⟨a, ps, kvs, rfl, ⟨o, ho, kn⟩, hp, q⟩ := q
  obtain ⟨u, rfl, rx⟩ := vals1 r
  cases rx
  obtain ⟨eo, hz, its, rv, o2, ho2, kc, n, kd⟩ := (show ObjOk X.prog X.w H s.heap a (.frz o (.tup (ps.map V.ref))) from I.hok a _ ho)
  rw [eo] at ho2
  cases ho2
  obtain rfl := refs_at rv
  rw [List.length_map] at hz
  obtain ⟨prs, rel, hl, hpr⟩ := pairs_of I hp
  refine dict_pairsT (prs := prs) (I.ok.hd calm) eo kc kn kd (by simp [hl]) (by rw [hl]; exact hz) (fun j q' e => ?_) fun h' tk hd' k => ?_
  · obtain ⟨b, u, e1, e2, e3⟩ := hpr j q' e
    exact ⟨b, u, by simp [e1], e2, e3⟩
  · have nm : (s.heap.objs.size == sysModules) = false := beq_eq_false_iff_ne.mpr (Nat.ne_of_gt I.big)
    have len : (mergeK [] kvs).length ≤ sizeLine := Nat.le_trans (length_mergeK kvs []) (by rw [List.length_nil, Nat.zero_add, rel.length, hl]; exact hz)
    exact ⟨.ref s.heap.objs.size, upd H s.heap.objs.size (.dK (mergeK [] kvs)), I.laid (t' := tk) k (Nat.le_refl _) (show ObjOk X.prog X.w _ _ _ (.dK (mergeK [] kvs)) from ⟨len, nm, merged [] prs, KV.merge rel .nil, hd'⟩), rfl, q _ (I.hok.fresh (Nat.le_refl _))⟩
end
end TDp

namespace Q
open PySem L2 QR LE TDp
abbrev sLIT : Stmt := top 33
abbrev sIsT : Stmt := top 12
/-! things of known kinds, nested; their tuples may be known whole -/
def tupX (H : Hp) (a : Addr) : Option (List V) := match H a with
  | some (.tup xs) => some xs
  | some (.frz _ (.tup xs)) => some xs
  | _ => none
theorem rdX {H : Hp} {a : Addr} {xs : List V} (h : Rd H a (.tup xs)) : tupX H a = some xs := by
  rcases h with h | ⟨o, h⟩ <;> (unfold tupX; rw [h])
def KnF (H : Hp) (v : V) : Prop := Sc v ∨ (∃ z, v = .str z) ∨ ∃ a, v = .ref a ∧ ((∃ xs, H a = some (.lst xs)) ∨ H a = some (.dK []))
def Kn (H : Hp) : Nat → V → Prop
  | 0, v => KnF H v
  | n + 1, v => KnF H v ∨ ∃ a xs, v = .ref a ∧ Rd H a (.tup xs) ∧ xs.length ≤ 9 ∧ ∀ x ∈ xs, Kn H n x
def atB : V → Bool
  | .non => true
  | .bl _ => true
  | .int _ => true
  | .str _ => true
  | _ => false
def refB : V → Bool
  | .ref _ => true
  | _ => false
def ptB (H : Hp) : Nat → V → Bool
  | 0, v => atB v
  | n + 1, v => match v with
    | .ref a => (match tupX H a with | some xs => xs.all (ptB H n) | none => false)
    | v => atB v
def thB (H : Hp) (n : Nat) (v : V) : Bool := refB v && ptB H n v
def szB (H : Hp) : Nat → V → Nat
  | 0, _ => 0
  | n + 1, v => match v with
    | .ref a => (match tupX H a with | some xs => 1 + (xs.map (szB H n)).sum | none => 0)
    | _ => 0
theorem rdS {H H' : Hp} {a : Addr} {u : HO} (h : Rd H a u) (s : Same H H') : Rd H' a u := h.elim (fun h => .inl (s _ _ h)) fun ⟨o, h⟩ => .inr ⟨o, s _ _ h⟩
theorem KnF.same {H H' : Hp} {v : V} (h : KnF H v) (s : Same H H') : KnF H' v := by
  rcases h with h | h | ⟨a, e, ⟨xs, h⟩ | h⟩
  · exact .inl h
  · exact .inr (.inl h)
  · exact .inr (.inr ⟨a, e, .inl ⟨xs, s _ _ h⟩⟩)
  · exact .inr (.inr ⟨a, e, .inr (s _ _ h)⟩)
theorem Kn.same {H H' : Hp} (s : Same H H') : ∀ {n : Nat} {v : V}, Kn H n v → Kn H' n v
  | 0, v, h => KnF.same h s
  | n + 1, v, h => by
    rcases h with h | ⟨a, xs, e, h1, h2, h3⟩
    · exact .inl (h.same s)
    · exact .inr ⟨a, xs, e, rdS h1 s, h2, fun x hx => (h3 x hx).same s⟩
theorem Kn.flat {H : Hp} {v : V} (h : KnF H v) : ∀ {n : Nat}, Kn H n v
  | 0 => h
  | n + 1 => .inl h
theorem Kn.up {H : Hp} : ∀ {n : Nat} {v : V}, Kn H n v → Kn H (n + 1) v
  | 0, v, h => .inl h
  | n + 1, v, h => by
    rcases h with h | ⟨a, xs, e, h1, h2, h3⟩
    · exact .inl h
    · exact .inr ⟨a, xs, e, h1, h2, fun x hx => (h3 x hx).up⟩
theorem KnF.tx {H : Hp} {a : Addr} (h : KnF H (.ref a)) : tupX H a = none := by
  rcases h with h | ⟨z, h⟩ | ⟨b, e, ⟨xs, h⟩ | h⟩
  · rcases h with h | ⟨_, h⟩ | ⟨_, h⟩ <;> cases h
  · cases h
  all_goals
    cases e
    unfold tupX
    rw [h]
theorem KnF.pt {H : Hp} {v : V} (h : KnF H v) : ∀ {n : Nat}, ptB H n v = atB v := by
  intro n
  cases n with
  | zero => rfl
  | succ n =>
    cases v with
    | ref a =>
      show (match tupX H a with | some xs => xs.all (ptB H n) | none => false) = false
      rw [h.tx]
    | _ => rfl
theorem KnF.th {H : Hp} {v : V} (h : KnF H v) {n : Nat} : thB H n v = false := by
  unfold thB
  rw [h.pt]
  cases v <;> rfl
theorem pt_tup {H : Hp} {n : Nat} {a : Addr} {xs : List V} (h : Rd H a (.tup xs)) : ptB H (n + 1) (.ref a) = xs.all (ptB H n) := by
  show (match tupX H a with | some xs => xs.all (ptB H n) | none => false) = _
  rw [rdX h]
theorem th_tup {H : Hp} {n : Nat} {a : Addr} {xs : List V} (h : Rd H a (.tup xs)) : thB H (n + 1) (.ref a) = xs.all (ptB H n) := pt_tup h
theorem sz_tup {H : Hp} {n : Nat} {a : Addr} {xs : List V} (h : Rd H a (.tup xs)) : szB H (n + 1) (.ref a) = 1 + (xs.map (szB H n)).sum := by
  show (match tupX H a with | some xs => 1 + (xs.map (szB H n)).sum | none => 0) = _
  rw [rdX h]
theorem KnF.sz {H : Hp} {v : V} (h : KnF H v) : ∀ {n : Nat}, szB H n v = 0 := by
  intro n
  cases n with
  | zero => rfl
  | succ n =>
    cases v with
    | ref a =>
      show (match tupX H a with | some xs => 1 + (xs.map (szB H n)).sum | none => 0) = 0
      rw [h.tx]
    | _ => rfl
/-- what a known thing is -/
theorem Kn.cases {H : Hp} {n : Nat} {v : V} (h : Kn H n v) : KnF H v ∨ ∃ n' a xs, n = n' + 1 ∧ v = .ref a ∧ Rd H a (.tup xs) ∧ xs.length ≤ 9 ∧ ∀ x ∈ xs, Kn H n' x := by
  cases n with
  | zero => exact .inl h
  | succ n =>
    rcases h with h | ⟨a, xs, h⟩
    · exact .inl h
    · exact .inr ⟨n, a, xs, rfl, h⟩
theorem pt_same {H H' : Hp} (s : Same H H') : ∀ {n : Nat} {v : V}, Kn H n v → ptB H' n v = ptB H n v
  | 0, v, h => rfl
  | n + 1, v, h => by
    rcases h with h | ⟨a, xs, e, h1, h2, h3⟩
    · rw [h.pt, (h.same s).pt]
    · subst e
      rw [pt_tup h1, pt_tup (rdS h1 s)]
      have go : ∀ ys : List V, (∀ x ∈ ys, Kn H n x) → ys.all (ptB H' n) = ys.all (ptB H n) := by
        intro ys
        induction ys with
        | nil => intro _; rfl
        | cons y ys ih =>
          intro h
          rw [List.all_cons, List.all_cons, pt_same s (h y List.mem_cons_self), ih fun x hx => h x (List.mem_cons_of_mem _ hx)]
      exact go xs h3
theorem th_same {H H' : Hp} (s : Same H H') {n : Nat} {v : V} (h : Kn H n v) : thB H' n v = thB H n v := by
  unfold thB
  rw [pt_same s h]
theorem sz_le {H : Hp} : ∀ {n : Nat} {v : V}, Kn H n v → szB H n v ≤ 10 ^ n
  | 0, v, h => Nat.zero_le _
  | n + 1, v, h => by
    rcases h with h | ⟨a, xs, e, h1, h2, h3⟩
    · rw [h.sz]
      exact Nat.zero_le _
    · subst e
      rw [sz_tup h1]
      have go : ∀ ys : List V, (∀ x ∈ ys, Kn H n x) → (ys.map (szB H n)).sum ≤ ys.length * 10 ^ n := by
        intro ys
        induction ys with
        | nil => intro _; simp
        | cons y ys ih =>
          intro h
          have h1 := sz_le (h y List.mem_cons_self)
          have h2 := ih fun x hx => h x (List.mem_cons_of_mem _ hx)
          rw [List.map_cons, List.sum_cons, List.length_cons, Nat.succ_mul]
          omega
      have h4 := go xs h3
      have h5 : xs.length * 10 ^ n ≤ 9 * 10 ^ n := Nat.mul_le_mul_right _ h2
      have h6 : 0 < 10 ^ n := Nat.pow_pos (by decide)
      rw [Nat.pow_succ]
      omega
def spTh (n : Nat) : Sp := fun vs H Q _ => ∃ v : V, vs = [v] ∧ Kn H n v ∧ ∀ H', Same H H' → Q (.bl (thB H n v)) H'
def spThS : Sp := fun vs H Q _ => ∃ (v : V) (n : Nat), vs = [v] ∧ n ≤ 4 ∧ Kn H n v ∧ ∀ H', Same H H' → Q (.bl (thB H n v)) H'
/-- what waits: tuples, each with its nesting -/
def StOk (H : Hp) (st : List (Addr × Nat)) : Prop := ∀ p ∈ st, Kn H p.2 (.ref p.1) ∧ ∃ xs, Rd H p.1 (.tup xs)
def stB (H : Hp) (st : List (Addr × Nat)) : Bool := st.all fun p => ptB H p.2 (.ref p.1)
def stZ (H : Hp) (st : List (Addr × Nat)) : Nat := (st.map fun p => szB H p.2 (.ref p.1)).sum
theorem StOk.len {H : Hp} : ∀ {st : List (Addr × Nat)}, StOk H st → st.length ≤ stZ H st
  | [], _ => Nat.zero_le _
  | p :: st, h => by
    obtain ⟨k, xs, r⟩ := h p List.mem_cons_self
    have ih := StOk.len fun q hq => h q (List.mem_cons_of_mem _ hq)
    have h1 : 1 ≤ szB H p.2 (.ref p.1) := by
      rcases k.cases with f | ⟨n', a, ys, e1, e2, r2, _⟩
      · have := f.tx
        rw [rdX r] at this
        cases this
      · rw [e1]
        rw [sz_tup r]
        omega
    unfold stZ at *
    rw [List.length_cons, List.map_cons, List.sum_cons]
    omega
theorem stZ_push {H : Hp} (st : List (Addr × Nat)) (p : Addr × Nat) : stZ H (st ++ [p]) = stZ H st + szB H p.2 (.ref p.1) := by
  unfold stZ
  rw [List.map_append, List.sum_append]
  simp
theorem stB_push {H : Hp} (st : List (Addr × Nat)) (p : Addr × Nat) : stB H (st ++ [p]) = (stB H st && ptB H p.2 (.ref p.1)) := by
  unfold stB
  rw [List.all_append]
  simp
section
variable {P : Program} {w : World} {K : PySem.W.Frag} {mg : Str → Option Value} {base : Heap}
theorem rd_ty {H : Hp} {a : Addr} {xs : List V} (h : Rd H a (.tup xs)) : TyX K H (.ref a) (.type "tuple") := by
  rcases h with h | ⟨o, h⟩
  · exact .base (.tup h)
  · exact .fTuple h
def nonB : V → Bool
  | .non => true
  | _ => false
theorem KnF.ty {H : Hp} {v : V} (h : KnF H v) : ∃ t bi bs bb, TyX K H v t ∧ PySem.W.kitOne K t (.type "tuple") = some false ∧ kInt K t bi ∧ PySem.W.kitOne K t (.type "str") = some bs ∧ kBool K t bb ∧ PySem.W.kitAny K t [.type "int", .type "str"] = some (bi || bs) ∧ (nonB v || (bi || bs)) = atB v ∧ (bi && !bb) = intB v := by
  have any : ∀ (t : Value) (b c : Bool), PySem.W.kitOne K t (.type "int") = some b → PySem.W.kitOne K t (.type "str") = some c → PySem.W.kitAny K t [.type "int", .type "str"] = some (b || c) := fun t b c h1 h2 => by
    cases b <;> cases c <;> simp [PySem.W.kitAny, h1, h2]
  rcases h with h | ⟨z, rfl⟩ | ⟨a, rfl, ⟨xs, h⟩ | h⟩
  · rcases h with rfl | ⟨b, rfl⟩ | ⟨i, rfl⟩
    · exact ⟨.type "NoneType", false, false, false, .base .non, kit_ty (by decide +kernel), kit_ty (by decide +kernel), kit_ty (by decide +kernel), kit_ty (by decide +kernel), any _ _ _ (kit_ty (by decide +kernel)) (kit_ty (by decide +kernel)), rfl, rfl⟩
    · exact ⟨.type "bool", true, false, true, .base (.bl _), kit_ty (by decide +kernel), kit_ty (by decide +kernel), kit_ty (by decide +kernel), kit_ty (by decide +kernel), any _ _ _ (kit_ty (by decide +kernel)) (kit_ty (by decide +kernel)), rfl, rfl⟩
    · exact ⟨.type "int", true, false, false, .base (.int _), kit_ty (by decide +kernel), kInt_int, kit_ty (by decide +kernel), kBool_int, any _ _ _ (kit_ty (by decide +kernel)) (kit_ty (by decide +kernel)), rfl, rfl⟩
  · exact ⟨.type "str", false, true, false, .base (.str _), kit_ty (by decide +kernel), kit_ty (by decide +kernel), kit_ty (by decide +kernel), kit_ty (by decide +kernel), any _ _ _ (kit_ty (by decide +kernel)) (kit_ty (by decide +kernel)), rfl, rfl⟩
  · exact ⟨.type "list", false, false, false, .base (.lst h), kit_ty (by decide +kernel), kit_ty (by decide +kernel), kit_ty (by decide +kernel), kit_ty (by decide +kernel), any _ _ _ (kit_ty (by decide +kernel)) (kit_ty (by decide +kernel)), rfl, rfl⟩
  · exact ⟨.type "dict", false, false, false, .base (.dK h), kit_ty (by decide +kernel), kit_ty (by decide +kernel), kit_ty (by decide +kernel), kit_ty (by decide +kernel), any _ _ _ (kit_ty (by decide +kernel)) (kit_ty (by decide +kernel)), rfl, rfl⟩
theorem scLIT : FnScope ["thing", "item"] ["thing"] (defScope sLIT) := ⟨rfl, rfl, rfl, by decide +kernel, rfl, by decide +kernel, by decide +kernel⟩
theorem scIsT : FnScope ["thing", "waiting", "inner", "part"] ["thing"] (defScope sIsT) := ⟨rfl, rfl, rfl, by decide +kernel, rfl, by decide +kernel, by decide +kernel⟩
theorem ok_lit {f : Addr} {fd : FuncData} (D : Df K mg "_law_is_thing" sLIT ["thing"] f fd) (B : Bts mg) : ∀ n, FnOk P w K mg base CX0 (n + 1) f fd ["thing"] (spTh n) := by
  have main : ∀ n, (∀ n', n = n' + 1 → FnOk P w K mg base CX0 (n' + 1) f fd ["thing"] (spTh n')) → FnOk P w K mg base CX0 (n + 1) f fd ["thing"] (spTh n) := by
    intro n IH0
    have IH : FnOk P w K mg base CX0 n f fd ["thing"] (fun vs H Q E => 0 < n ∧ spTh (n - 1) vs H Q E) := by
      cases n with
      | zero => exact ⟨fun vs H Q E h => absurd h.1 (by decide), fun A outer s H args us vs Q E hr e0 hb r h => absurd h.1 (by decide)⟩
      | succ d => exact (IH0 d rfl).imp fun vs H Q E h => h.2
    refine D.F.ok scLIT (fun vs H Q E h => ?_) (fun cdv A outer s H vs Q E hr h => ?_)
    · obtain ⟨v, rfl, _⟩ := h
      rfl
    · obtain ⟨v, rfl, kn, k⟩ := h
      have nd := scLIT.nd
      have hrn : Room n _ := hr.mono (by omega)
      refine ⟨_, pss_cons (ps_if (pt_not (pt_val (pe_callB call_isi (by rfl) B.isinstance PyProof.Rows.boot_isinstance (pa_cons (pv 0) (pa_cons (pe_bltn (v := .ty "tuple") rfl B.tuple PyProof.Rows.boot_tuple rfl) pa_nil))))) (pss_one (ps_ret pe_bl)) pss_nil)
        (pss_cons (ps_for PassesOwn.never rfl (pi_tup (pv 0)) (pg_name (i := 1) nd rfl (.inl rfl)) (pss_one (ps_if (PW.pt (pw_and (pt_not (PW.pt (pw_or (pt_cmp (pc_isN (pv 1))) (pw_or (pt_val (pe_callB call_isi (by rfl) B.isinstance PyProof.Rows.boot_isinstance (pa_cons (pv 1) (pa_cons (pe_bltn (v := .ty "int") rfl B.int PyProof.Rows.boot_int rfl) pa_nil)))) (pw_or1 (pt_val (pe_callB call_isi (by rfl) B.isinstance PyProof.Rows.boot_isinstance (pa_cons (pv 1) (pa_cons (pe_bltn (v := .ty "str") rfl B.str PyProof.Rows.boot_str rfl) pa_nil))))))))) (pw_and1 (pt_not (pt_val (pe_call IH hrn rfl D.m D.k D.b .nil pass0 (pa_cons (pv 1) pa_nil))))))) (pss_one (ps_ret pe_bl)) pss_nil)))
        (pss_one (ps_ret pe_bl))), ?_⟩
      rcases kn.cases with f0 | ⟨n', a, xs, rfl, rfl, ra, few, kx⟩
      · obtain ⟨t, bi, bs, bb, ty, k1, _⟩ := f0.ty (K := K)
        refine ⟨_, rfl, v, .ty "tuple", t, .type "tuple", false, rfl, .ty _, ty, k1, _, rfl, iteT ?_⟩
        have := k H sR
        rw [f0.th] at this
        exact this
      refine ⟨_, rfl, .ref a, .ty "tuple", .type "tuple", .type "tuple", true, rfl, .ty _, rd_ty ra, kit_ty (by decide +kernel), _, rfl, iteF ?_⟩
      rw [th_tup ra] at k
      refine ⟨_, rfl, a, rfl, ⟨_, .inl ra⟩, for_tup (K := K) (a := a) (xs := xs) (fun i σ H' => ∃ x1 : Option V, σ = [some (.ref a), x1] ∧ Same H H' ∧ (xs.take i).all (ptB H n') = true) ?_ ?_ ?_ ?_⟩
      · exact ⟨none, rfl, sR, rfl⟩
      · rintro i σ H1 hi ⟨_, _, s1, _⟩
        exact .inl (rdS ra s1)
      · rintro i v σ H1 hv ⟨x1, rfl, s1, al⟩
        have kv := kx v (List.mem_of_getElem? hv)
        have good : ptB H n' v = true → (xs.take (i + 1)).all (ptB H n') = true := fun e => by
          rw [take_more hv, List.all_append, al, List.all_cons, e]
          rfl
        have bad : ptB H n' v = false → xs.all (ptB H n') = false := fun e => by
          rw [List.all_eq_false]
          exact ⟨v, List.mem_of_getElem? hv, by rw [e]; decide⟩
        rcases kv.cases with f0 | ⟨n2, b, ys, rfl, rfl, rb, fewb, ky⟩
        · obtain ⟨t, bi, bs, bb, ty, k1, k2, k3, k4, k5, eb, _⟩ := (f0.same s1).ty (K := K)
          have pt := f0.pt (n := n')
          by_cases en : v = .non
          · subst en
            exact ⟨_, rfl, _, rfl, iteT (iteF (iteF ⟨_, rfl, s1, good pt⟩))⟩
          have n0 : nonB v = false := by cases v <;> first | rfl | exact absurd rfl en
          rw [n0] at eb
          refine ⟨_, rfl, _, rfl, ?_⟩
          rw [decide_eq_false en]
          refine iteF ⟨_, rfl, v, .ty "int", t, .type "int", bi, rfl, .ty _, ty, k2, _, rfl, ?_⟩
          cases bi with
          | true => exact iteT (iteF (iteF ⟨_, rfl, s1, good (pt.trans eb.symm)⟩))
          | false =>
            refine iteF ⟨_, rfl, v, .ty "str", t, .type "str", bs, rfl, .ty _, ty, k3, _, rfl, ?_⟩
            cases bs with
            | true => exact iteF (iteF ⟨_, rfl, s1, good (pt.trans eb.symm)⟩)
            | false =>
              refine iteT ⟨_, rfl, by omega, v, rfl, kv.same s1, fun H2 s2 => ⟨_, rfl, ?_⟩⟩
              rw [(f0.same s1).th]
              have := k H2 (sT s1 s2)
              rw [bad (pt.trans eb.symm)] at this
              exact iteT this
        · refine ⟨_, rfl, _, rfl, iteF ?_⟩
          refine ⟨_, rfl, .ref b, .ty "int", .type "tuple", .type "int", false, rfl, .ty _, rd_ty (rdS rb s1), kit_ty (by decide +kernel), _, rfl, iteF ?_⟩
          refine ⟨_, rfl, .ref b, .ty "str", .type "tuple", .type "str", false, rfl, .ty _, rd_ty (rdS rb s1), kit_ty (by decide +kernel), _, rfl, iteT ?_⟩
          refine ⟨_, rfl, by omega, .ref b, rfl, kv.same s1, fun H2 s2 => ⟨_, rfl, ?_⟩⟩
          have et : thB H1 (n2 + 1 + 1 - 1) (.ref b) = ptB H (n2 + 1) (.ref b) := th_same s1 kv
          rw [et]
          cases e : ptB H (n2 + 1) (.ref b) with
          | true => exact iteF ⟨_, rfl, sT s1 s2, good e⟩
          | false =>
            have := k H2 (sT s1 s2)
            rw [bad e] at this
            exact iteT this
      · rintro σ H1 ⟨x1, rfl, s1, al⟩
        rw [List.take_length] at al
        have := k H1 s1
        rw [al] at this
        exact this
  intro n
  induction n with
  | zero => exact main 0 fun n' e => by omega
  | succ n ih =>
    refine main (n + 1) fun n' e => ?_
    obtain rfl : n' = n := by omega
    exact ih
theorem ok_ist {f : Addr} {fd : FuncData} (D : Df K mg "is_thing" sIsT ["thing"] f fd) (B : Bts mg) : FnOk P w K mg base CX0 1 f fd ["thing"] spThS := by
  refine D.F.ok scIsT (fun vs H Q E h => ?_) (fun cdv A outer s H vs Q E hr h => ?_)
  · obtain ⟨v, n, rfl, _⟩ := h
    rfl
  · obtain ⟨v, n, rfl, n4, kn, k⟩ := h
    have nd := scIsT.nd
    refine ⟨_, pss_cons (ps_if (pt_not (pt_val (pe_callB call_isi (by rfl) B.isinstance PyProof.Rows.boot_isinstance (pa_cons (pv 0) (pa_cons (pe_bltn (v := .ty "tuple") rfl B.tuple PyProof.Rows.boot_tuple rfl) pa_nil))))) (pss_one (ps_ret pe_bl)) pss_nil)
        (pss_cons (ps_set (i := 1) nd rfl (.inl rfl) (pe_lst (pa_cons (pv 0) pa_nil)))
        (pss_cons (ps_while PassesOwn.never (pt_truth (pv 1) (fun _ => rfl)) (pss_cons (ps_set (i := 2) nd rfl (.inl rfl) (pe_bm0 PySem.F.plainAttrs_list PySem.F.slot_list_pop PySem.F.type_list_pop mt_pop (pv 1)))
        (pss_one (ps_for PassesOwn.never rfl (pi_tup (pv 2)) (pg_name (i := 3) nd rfl (.inl rfl)) (pss_one (ps_if (pt_val (pe_callB call_isi (by rfl) B.isinstance PyProof.Rows.boot_isinstance (pa_cons (pv 3) (pa_cons (pe_bltn (v := .ty "tuple") rfl B.tuple PyProof.Rows.boot_tuple rfl) pa_nil)))) (pss_one (ps_expr (pe_bm PySem.F.plainAttrs_list PySem.F.slot_list_append PySem.F.type_list_append mt_append (pv 1) (pa_cons (pv 3) pa_nil)))) (pss_one (ps_if (PW.pt (pw_and (pt_cmp (pc_notN (pv 3))) (pw_and1 (pt_not (pt_val (pe_callB call_isiT (by rfl) B.isinstance PyProof.Rows.boot_isinstance (pa_cons (pv 3) (pa_cons (pe_tup (pa_cons (pe_bltn (v := .ty "int") rfl B.int PyProof.Rows.boot_int rfl) (pa_cons (pe_bltn (v := .ty "str") rfl B.str PyProof.Rows.boot_str rfl) pa_nil))) pa_nil)))))))) (pss_one (ps_ret pe_bl)) pss_nil))))))))
        (pss_one (ps_ret pe_bl)))), ?_⟩
    rcases kn.cases with f0 | ⟨n', a, xs, rfl, rfl, ra, few, kx⟩
    · obtain ⟨t, bi, bs, bb, ty, k1, _⟩ := f0.ty (K := K)
      refine ⟨_, rfl, v, .ty "tuple", t, .type "tuple", false, rfl, .ty _, ty, k1, _, rfl, iteT ?_⟩
      have := k H sR
      rw [f0.th] at this
      exact this
    refine ⟨_, rfl, .ref a, .ty "tuple", .type "tuple", .type "tuple", true, rfl, .ty _, rd_ty ra, kit_ty (by decide +kernel), _, rfl, iteF ?_⟩
    refine ⟨_, rfl, (by show 1 ≤ sizeLine; decide), fun wl nwl => ?_⟩
    have z0 := sz_le kn
    have z1 : (10 : Nat) ^ (n' + 1) ≤ 10 ^ 4 := Nat.pow_le_pow_right (by decide) n4
    have ev : stB H [(a, n' + 1)] = thB H (n' + 1) (.ref a) := by
      show (ptB H (n' + 1) (.ref a) && true) = ptB H (n' + 1) (.ref a)
      rw [Bool.and_true]
    refine ⟨fun m σ H' => ∃ (st : List (Addr × Nat)) (x2 x3 : Option V), m = stZ H st ∧ σ = [some (.ref a), some (.ref wl), x2, x3] ∧ H' wl = some (.lst (st.map fun p => V.ref p.1)) ∧ StOk H st ∧ stZ H st ≤ 10000 ∧ Same H H' ∧ stB H st = thB H (n' + 1) (.ref a),
      ⟨_, [(a, n' + 1)], none, none, rfl, rfl, upd_same, ?_, ?_, sN nwl, ev⟩, ?_⟩
    · intro p hp
      rw [List.mem_singleton.mp hp]
      exact ⟨kn, xs, ra⟩
    · show szB H (n' + 1) (.ref a) + 0 ≤ 10000
      omega
    rintro m σ H1 ⟨st, x2, x3, rfl, rfl, ewl, ok, lz, s1, eb⟩
    by_cases hemp : st = []
    · subst hemp
      refine ⟨_, rfl, false, .inl ⟨_, SqL.of ewl, rfl⟩, iteF ?_⟩
      have := k H1 s1
      rw [← eb] at this
      exact this
    obtain ⟨qs, p, rfl⟩ : ∃ qs p, st = qs ++ [p] := ⟨st.dropLast, st.getLast hemp, (List.dropLast_concat_getLast hemp).symm⟩
    have hne : (!((qs ++ [p]).map fun p : Addr × Nat => V.ref p.1).isEmpty) = true := by simp
    refine ⟨_, rfl, true, .inl ⟨_, SqL.of ewl, hne.symm⟩, iteT ⟨fun σ' H' => ∃ m', m' < stZ H (qs ++ [p]) ∧ ∃ (st : List (Addr × Nat)) (x2 x3 : Option V), m' = stZ H st ∧ σ' = [some (.ref a), some (.ref wl), x2, x3] ∧ H' wl = some (.lst (st.map fun p => V.ref p.1)) ∧ StOk H st ∧ stZ H st ≤ 10000 ∧ Same H H' ∧ stB H st = thB H (n' + 1) (.ref a), fun σ' H' ⟨m', a, b⟩ => ⟨m', a, b⟩, ?_⟩⟩
    have elast : ((qs ++ [p]).map fun p : Addr × Nat => V.ref p.1)[((qs ++ [p]).map fun p : Addr × Nat => V.ref p.1).length - 1]? = some (.ref p.1) := by simp
    have edrop : ((qs ++ [p]).map fun p : Addr × Nat => V.ref p.1).dropLast = qs.map fun p : Addr × Nat => V.ref p.1 := by simp
    refine ⟨_, rfl, .inl ⟨rfl, _, SqL.of ewl⟩, wl, _, .ref p.1, rfl, rfl, ewl, elast, ?_⟩
    rw [edrop]
    rw [stZ_push] at lz ⊢
    rw [stB_push] at eb
    have okq : StOk H qs := fun q hq => ok q (List.mem_append_left _ hq)
    obtain ⟨kp, ys0, rp0⟩ := ok p (List.mem_append_right _ List.mem_cons_self)
    have nwl1 : H wl = none := nwl
    have s2 : Same H (upd H1 wl (.lst (qs.map fun p : Addr × Nat => V.ref p.1))) := sNew s1 nwl1
    obtain ⟨p1, p2⟩ := p
    dsimp only at *
    rcases kp.cases with f0 | ⟨n2, b, ys, e1, e2, rp, fewp, ky⟩
    · have := f0.tx
      rw [rdX rp0] at this
      cases this
    cases e2
    subst e1
    rw [sz_tup rp] at lz ⊢
    rw [pt_tup rp] at eb
    refine ⟨_, rfl, p1, rfl, ⟨_, .inl (rdS rp s2)⟩, for_tup (K := K) (a := p1) (xs := ys) (fun i σ H' => ∃ (st : List (Addr × Nat)) (x3 : Option V), σ = [some (.ref a), some (.ref wl), some (.ref p1), x3] ∧ H' wl = some (.lst (st.map fun p => V.ref p.1)) ∧ StOk H st ∧ Same H H' ∧ (stB H st && (ys.drop i).all (ptB H n2)) = thB H (n' + 1) (.ref a) ∧ stZ H st + ((ys.drop i).map (szB H n2)).sum = stZ H qs + (ys.map (szB H n2)).sum) ?_ ?_ ?_ ?_⟩
    · exact ⟨qs, x3, rfl, upd_same, okq, s2, eb, rfl⟩
    · rintro i σ H2 hi ⟨_, _, _, _, _, s3, _⟩
      exact .inl (rdS rp s3)
    · rintro i y σ H2 hy ⟨st, x3, rfl, ewl2, ok2, s3, eb2, ez2⟩
      have ky1 := ky y (List.mem_of_getElem? hy)
      have ed : ys.drop i = y :: ys.drop (i + 1) := by
        obtain ⟨h1, h2⟩ := List.getElem?_eq_some_iff.mp hy
        rw [List.drop_eq_getElem_cons h1, h2]
      rw [ed, List.all_cons] at eb2
      rw [ed, List.map_cons, List.sum_cons] at ez2
      rcases ky1.cases with f0 | ⟨n3, c, zs, e1, e2, rc, fewc, kz⟩
      · obtain ⟨t, bi, bs, bb, ty, k1, k2, k3, k4, k5, eq, _⟩ := (f0.same s3).ty (K := K)
        have pt := f0.pt (n := n2)
        rw [f0.sz, Nat.zero_add] at ez2
        rw [pt] at eb2
        refine ⟨_, rfl, y, .ty "tuple", t, .type "tuple", false, rfl, .ty _, ty, k1, _, rfl, iteF ?_⟩
        refine ⟨_, rfl, _, rfl, ?_⟩
        by_cases en : y = .non
        · subst en
          exact iteF ⟨st, _, rfl, ewl2, ok2, s3, eb2, ez2⟩
        rw [decide_eq_false en]
        have n0 : nonB y = false := by cases y <;> first | rfl | exact absurd rfl en
        rw [n0] at eq
        refine iteT ⟨_, rfl, (by show 2 ≤ sizeLine; decide), fun T hT => ?_⟩
        have s4 := sT s3 (sN (o := .tup [.ty "int", .ty "str"]) hT)
        obtain ⟨t', bi', bs', bb', ty', k1', k2', k3', k4', k5', eq', _⟩ := (f0.same s4).ty (K := K)
        rw [n0] at eq'
        refine ⟨y, T, _, t', _, _, rfl, upd_same, .cons (.ty _) (.cons (.ty _) .nil), ty', k5', _, rfl, ?_⟩
        have nwT : wl ≠ T := ne_of_none ewl2 hT
        have eq2 : (bi' || bs') = atB y := eq'
        rw [eq2]
        cases ea : atB y with
        | true =>
          rw [ea, Bool.true_and] at eb2
          exact iteF ⟨st, _, rfl, by rw [upd_ne nwT]; exact ewl2, ok2, s4, eb2, ez2⟩
        | false =>
          rw [ea, Bool.false_and, Bool.and_false] at eb2
          have := k _ s4
          rw [← eb2] at this
          exact iteT this
      · subst e2
        refine ⟨_, rfl, .ref c, .ty "tuple", .type "tuple", .type "tuple", true, rfl, .ty _, rd_ty (rdS rc s3), kit_ty (by decide +kernel), _, rfl, iteT ?_⟩
        subst e1
        have nwc : c ≠ wl := fun e => by
          have := rdS rc s3
          rw [e] at this
          rcases this with h | ⟨_, h⟩ <;> (rw [ewl2] at h; cases h)
        have hl := ok2.len
        refine ⟨_, rfl, .inl ⟨rfl, _, SqL.of ewl2⟩, _, rfl, wl, _, _, rfl, rfl, ewl2, ?_, ?_⟩
        · rw [List.length_map]
          exact size_ok (by omega)
        · refine ⟨st ++ [(c, n3 + 1)], _, rfl, ?_, fun q hq => ?_, sNew s3 nwl1, ?_, ?_⟩
          · rw [upd_same, List.map_append]
            rfl
          · rcases List.mem_append.mp hq with hq | hq
            · exact ok2 q hq
            · rw [List.mem_singleton.mp hq]
              exact ⟨ky1, zs, rc⟩
          · rw [stB_push, Bool.and_assoc]
            exact eb2
          · rw [stZ_push, Nat.add_assoc]
            exact ez2
    · rintro σ H2 ⟨st, x3, rfl, ewl2, ok2, s3, eb2, ez2⟩
      rw [List.drop_length, List.all_nil, Bool.and_true] at eb2
      rw [List.drop_length, List.map_nil, List.sum_nil, Nat.add_zero] at ez2
      exact ⟨stZ H st, by omega, st, _, x3, rfl, rfl, ewl2, ok2, by omega, s3, eb2⟩
end
end Q

namespace Q
open PySem L2 QR LE TDp
abbrev sIsP : Stmt := top 13
abbrev sIsO : Stmt := top 14
abbrev sLIO : Stmt := top 38
def tupsOf (H : Hp) (v : V) : Option (List V) := match v with
  | .ref a => tupX H a
  | _ => none
theorem tupsOf_rd {H : Hp} {a : Addr} {xs : List V} (h : Rd H a (.tup xs)) : tupsOf H (.ref a) = some xs := rdX h
theorem KnF.tups {H : Hp} {v : V} (h : KnF H v) : tupsOf H v = none := by
  cases v with
  | ref a => exact h.tx
  | _ => rfl
def pairB (H : Hp) (v : V) : Bool := match tupsOf H v with
  | some xs => decide (xs.length = 2)
  | none => false
def thsB (H : Hp) (n : Nat) (y : V) : Bool := match tupsOf H y with
  | some ps => ps.all (thB H n)
  | none => false
def two (xs : List V) : Option (V × V) := match xs with
  | [x, y] => some (x, y)
  | _ => none
def prOf (H : Hp) (v : V) : Option (V × V) := match tupsOf H v with
  | some xs => two xs
  | none => none
def outB (H : Hp) (v : V) : Bool := match prOf H v with
  | some (x, y) => numB 4294967296 x && thsB H 4 y
  | none => false
theorem two_no {xs : List V} (h : xs.length ≠ 2) : two xs = none := by
  match xs, h with
  | [], _ => rfl
  | [_], _ => rfl
  | [_, _], h => exact absurd rfl h
  | _ :: _ :: _ :: _, _ => rfl
theorem prOf_tup {H : Hp} {a : Addr} {xs : List V} (h : Rd H a (.tup xs)) : prOf H (.ref a) = two xs := by
  unfold prOf
  rw [tupsOf_rd h]
/-- a known thing is a pair, or it is none -/
theorem Kn.pair {H : Hp} {n : Nat} {v : V} (h : Kn H (n + 1) v) : (prOf H v = none ∧ pairB H v = false) ∨ ∃ a x y, v = .ref a ∧ Rd H a (.tup [x, y]) ∧ Kn H n x ∧ Kn H n y ∧ prOf H v = some (x, y) ∧ pairB H v = true := by
  rcases h.cases with f | ⟨n', a, xs, e, rfl, r, few, k⟩
  · refine .inl ?_
    unfold prOf pairB
    rw [f.tups]
    exact ⟨rfl, rfl⟩
  · cases e
    by_cases c : xs.length = 2
    · refine .inr ?_
      match xs, c, k, r with
      | [x, y], _, k, r =>
        refine ⟨a, x, y, rfl, r, k x (by simp), k y (by simp), ?_, ?_⟩
        · unfold prOf
          rw [tupsOf_rd r]
          rfl
        · unfold pairB
          rw [tupsOf_rd r]
          rfl
    · refine .inl ?_
      unfold prOf pairB
      rw [tupsOf_rd r]
      exact ⟨two_no c, decide_eq_false c⟩
theorem win32 (v : V) : winB 0 4294967295 v = numB 4294967296 v := by
  cases v with
  | int i =>
    show (decide (0 ≤ i) && decide (i ≤ 4294967295)) = (decide (0 ≤ i) && decide (i < 4294967296))
    congr 1
    exact decide_eq_decide.mpr ⟨fun h => by omega, fun h => by omega⟩
  | _ => rfl
def spPrK : Sp := fun vs H Q _ => ∃ (v : V) (n : Nat), vs = [v] ∧ Kn H n v ∧ Q (.bl (pairB H v)) H
def spIntK : Sp := fun vs H Q _ => ∃ (v : V) (n : Nat), vs = [v] ∧ Kn H n v ∧ Q (.bl (intB v)) H
def spWinK : Sp := fun vs H Q _ => ∃ (v : V) (n : Nat) (a b : Int), vs = [v, .int a, .int b] ∧ Kn H n v ∧ Q (.bl (winB a b v)) H
def spJ (f : Hp → V → Bool) : Sp := fun vs H Q _ => ∃ v : V, vs = [v] ∧ Kn H 6 v ∧ ∀ H', Same H H' → Q (.bl (f H v)) H'
section
variable {P : Program} {w : World} {K : PySem.W.Frag} {mg : Str → Option Value} {base : Heap}
theorem Kn.ty {H : Hp} {n : Nat} {v : V} (h : Kn H n v) : ∃ t bi bb, TyX K H v t ∧ kInt K t bi ∧ kBool K t bb ∧ (bi && !bb) = intB v := by
  rcases h.cases with f | ⟨n', a, xs, e, rfl, r, few, k⟩
  · obtain ⟨t, bi, bs, bb, ty, k1, k2, k3, k4, k5, eb, e⟩ := f.ty (K := K)
    exact ⟨t, bi, bb, ty, k2, k4, e⟩
  · exact ⟨_, false, false, rd_ty r, kit_ty (by decide +kernel), kit_ty (by decide +kernel), rfl⟩
theorem Kn.no {H : Hp} {n : Nat} {v : V} (h : Kn H n v) : (∃ i, v = .int i) ∨ (intB v = false ∧ NoInt K H v) := by
  obtain ⟨t, b, c, ty, kb, kc, e⟩ := h.ty (K := K)
  cases v with
  | int i => exact .inl ⟨i, rfl⟩
  | _ => exact .inr ⟨rfl, t, b, c, ty, kb, kc, e⟩
/-- the test of a tuple -/
theorem Kn.tupT {H : Hp} {n : Nat} {v : V} (h : Kn H n v) : (∃ t, TyX K H v t ∧ PySem.W.kitOne K t (.type "tuple") = some false ∧ tupsOf H v = none ∧ KnF H v) ∨ ∃ n' a xs, n = n' + 1 ∧ v = .ref a ∧ Rd H a (.tup xs) ∧ tupsOf H v = some xs ∧ xs.length ≤ 9 ∧ ∀ x ∈ xs, Kn H n' x := by
  rcases h.cases with f | ⟨n', a, xs, e, rfl, r, few, k⟩
  · obtain ⟨t, bi, bs, bb, ty, k1, _⟩ := f.ty (K := K)
    exact .inl ⟨t, ty, k1, f.tups, f⟩
  · exact .inr ⟨n', a, xs, e, rfl, r, tupsOf_rd r, few, k⟩
theorem numB_no {n : Int} {v : V} (h : intB v = false) : numB n v = false := by cases v <;> first | rfl | cases h
theorem ok_lintK {f : Addr} {fd : FuncData} (D : Df K mg "_law_is_integer" sLInt ["thing"] f fd) (B : Bts mg) : FnOk P w K mg base CX0 1 f fd ["thing"] spIntK := by
  refine D.F.ok scLInt (fun vs H Q E h => ?_) (fun cdv A outer s H vs Q E hr h => ?_)
  · obtain ⟨v, n, rfl, _⟩ := h
    rfl
  · obtain ⟨v, n, rfl, kn, k⟩ := h
    obtain ⟨t, b, c, ty, kb, kc, e⟩ := kn.ty (K := K)
    refine ⟨_, pss_one (ps_ret (pe_and (pe_callB call_isi (by rfl) B.isinstance PyProof.Rows.boot_isinstance (pa_cons (pv 0) (pa_cons (pe_bltn (v := .ty "int") rfl B.int PyProof.Rows.boot_int rfl) pa_nil))) (pe_one (pe_not (pe_callB call_isi (by rfl) B.isinstance PyProof.Rows.boot_isinstance (pa_cons (pv 0) (pa_cons (pe_bltn (v := .ty "bool") rfl B.bool (by decide +kernel) rfl) pa_nil))))))), ?_⟩
    refine ⟨_, rfl, v, .ty "int", t, .type "int", b, rfl, .ty _, ty, kb, _, rfl, ?_⟩
    rw [← e] at k
    cases b with
    | false => exact iteF k
    | true => exact iteT ⟨_, rfl, v, .ty "bool", t, .type "bool", c, rfl, .ty _, ty, kc, _, rfl, k⟩
theorem ok_lwinK {f fI : Addr} {fd dI : FuncData} (D : Df K mg "_law_is_within" sLWin ["thing", "least", "most"] f fd) (B : Bts mg) (DI : Df K mg "_law_is_integer" sLInt ["thing"] fI dI) : FnOk P w K mg base CX0 2 f fd ["thing", "least", "most"] spWinK := by
  have GI : FnOk P w K mg base CX0 1 fI dI ["thing"] spIntK := ok_lintK DI B
  refine D.F.ok scLWin (fun vs H Q E h => ?_) (fun cdv A outer s H vs Q E hr h => ?_)
  · obtain ⟨v, n, a, b, rfl, _⟩ := h
    rfl
  · obtain ⟨v, n, a, b, rfl, kn, k⟩ := h
    refine ⟨_, pss_one (ps_ret (pe_and (pe_call GI hr rfl DI.m DI.k DI.b .nil pass0 (pa_cons (pv 0) pa_nil)) (pe_and (pe_cmpR op_le (pv 1) (pv 0) (nomark _)) (pe_one (pe_cmpR op_le (pv 0) (pv 2) (nomark _)))))), ?_⟩
    refine ⟨_, rfl, v, n, rfl, kn, _, rfl, ?_⟩
    cases v with
    | int i =>
      refine iteT ⟨_, rfl, _, rfl, _, _, rfl, rfl, _, rfl, ?_⟩
      have k : Q (.bl (decide (a ≤ i) && decide (i ≤ b))) H := k
      by_cases c : a ≤ i
      · rw [decide_eq_true c] at k ⊢
        exact iteT ⟨_, rfl, _, rfl, _, _, rfl, rfl, k⟩
      · rw [decide_eq_false c] at k ⊢
        exact iteF k
    | _ => exact iteF k
theorem scIsP : FnScope ["thing"] ["thing"] (defScope sIsP) := ⟨rfl, rfl, rfl, by decide +kernel, rfl, by decide +kernel, by decide +kernel⟩
theorem ok_isp {f : Addr} {fd : FuncData} (D : Df K mg "is_pair" sIsP ["thing"] f fd) (B : Bts mg) : FnOk P w K mg base CX0 1 f fd ["thing"] spPrK := by
  refine D.F.ok scIsP (fun vs H Q E h => ?_) (fun cdv A outer s H vs Q E hr h => ?_)
  · obtain ⟨v, n, rfl, _⟩ := h
    rfl
  · obtain ⟨v, n, rfl, kn, k⟩ := h
    refine ⟨_, pss_one (ps_ret (pe_and (pe_callB call_isi (by rfl) B.isinstance PyProof.Rows.boot_isinstance (pa_cons (pv 0) (pa_cons (pe_bltn (v := .ty "tuple") rfl B.tuple PyProof.Rows.boot_tuple rfl) pa_nil))) (pe_one (pe_cmpR op_eq (pe_callB call_len_seq (by rfl) B.len PySem.boot_len (pa_cons (pv 0) pa_nil)) pe_int (nomark _))))), ?_⟩
    rcases kn.tupT (K := K) with ⟨t, ty, k1, et, _⟩ | ⟨n', a, xs, e, rfl, r, et, few, kx⟩
    · refine ⟨_, rfl, v, .ty "tuple", t, .type "tuple", false, rfl, .ty _, ty, k1, _, rfl, iteF ?_⟩
      unfold pairB at k
      rw [et] at k
      exact k
    · refine ⟨_, rfl, .ref a, .ty "tuple", .type "tuple", .type "tuple", true, rfl, .ty _, rd_ty r, kit_ty (by decide +kernel), _, rfl, iteT ?_⟩
      refine ⟨_, rfl, a, _, rfl, .inr (.inl r), rfl, ?_⟩
      unfold pairB at k
      rw [et] at k
      have k : Q (.bl (decide (xs.length = 2))) H := k
      show Q (.bl (decide (V.int (xs.length : Int) = V.int 2))) H
      rw [show decide (V.int (xs.length : Int) = V.int 2) = decide (xs.length = 2) by
        by_cases c : xs.length = 2
        · rw [c]; rfl
        · rw [decide_eq_false c, decide_eq_false (fun z => c (by have := V.int.inj z; omega))]]
      exact k
theorem scIsO : FnScope ["thing", "part"] ["thing"] (defScope sIsO) := ⟨rfl, rfl, rfl, by decide +kernel, rfl, by decide +kernel, by decide +kernel⟩
theorem ok_iso {f fP fN fPl fT : Addr} {fd dP dN dPl dT : FuncData} (D : Df K mg "is_outgoing_state" sIsO ["thing"] f fd) (B : Bts mg) (L : LCst mg) (DP : Df K mg "is_pair" sIsP ["thing"] fP dP) (DN : Df K mg "is_number_below" sNum ["limit", "thing"] fN dN) (DPl : Df K mg "is_plain_int" sPlain ["thing"] fPl dPl) (DT : Df K mg "is_thing" sIsT ["thing"] fT dT) : FnOk P w K mg base CX0 3 f fd ["thing"] (spJ outB) := by
  have GP : FnOk P w K mg base CX0 1 fP dP ["thing"] spPrK := ok_isp DP B
  have GN : FnOk P w K mg base CX0 2 fN dN ["limit", "thing"] (spNum K) := ok_num DN B DPl
  have GT : FnOk P w K mg base CX0 1 fT dT ["thing"] spThS := ok_ist DT B
  obtain ⟨t1, h1⟩ := L.numbers
  refine D.F.ok scIsO (fun vs H Q E h => ?_) (fun cdv A outer s H vs Q E hr h => ?_)
  · obtain ⟨v, rfl, _⟩ := h
    rfl
  · obtain ⟨v, rfl, kn, k⟩ := h
    have nd := scIsO.nd
    have hr1 : Room 1 _ := hr.mono (by decide)
    refine ⟨_, pss_cons (ps_if (PW.pt (pw_or (pt_not (pt_val (pe_call GP hr1 rfl DP.m DP.k DP.b .nil pass0 (pa_cons (pv 0) pa_nil)))) (pw_or (pt_not (pt_val (pe_call GN hr rfl DN.m DN.k DN.b .nil pass0 (pa_cons (pe_glob (v := .int 4294967296) rfl h1 ⟨_, rfl⟩) (pa_cons (pe_ix ix_tup (pv 0) pe_int (fun _ _ => rfl)) pa_nil))))) (pw_or1 (pt_not (pt_val (pe_callB call_isi (by rfl) B.isinstance PyProof.Rows.boot_isinstance (pa_cons (pe_ix ix_tup (pv 0) pe_int (fun _ _ => rfl)) (pa_cons (pe_bltn (v := .ty "tuple") rfl B.tuple PyProof.Rows.boot_tuple rfl) pa_nil))))))))) (pss_one (ps_ret pe_bl)) pss_nil)
        (pss_one (ps_ret (pe_callB (cr_all rfl) (by rfl) B.all PyProof.Rows.boot_all (pa_cons (pe_lc (own := [("part", 1)]) (g := gName 1) (tt := tYes) rfl nd (pi_tup (pe_ix ix_tup (pv 0) pe_int (fun _ _ => rfl))) (blkOk_by (N := ["thing", "part"]) (sc := defScope sIsO) (by decide +kernel)) (fun _ _ _ _ _ => pg_name (i := 1) nd rfl (.inl rfl)) (fun _ _ _ _ _ => pts_nil) (fun _ _ _ _ _ => (pe_call GT hr1 rfl DT.m DT.k DT.b .nil pass0 (pa_cons (pv 1) pa_nil)))) pa_nil)))), ?_⟩
    unfold outB at k
    rcases kn.pair with ⟨ep, eb⟩ | ⟨a, x, y, rfl, r, kx, ky, ep, eb⟩
    · refine ⟨_, rfl, v, 6, rfl, kn, ?_⟩
      rw [eb]
      rw [ep] at k
      exact ⟨_, rfl, iteT (iteT (k H sR))⟩
    rw [ep] at k
    refine ⟨_, rfl, .ref a, 6, rfl, kn, ?_⟩
    rw [eb]
    refine ⟨_, rfl, iteF ?_⟩
    refine ⟨_, rfl, a, _, 0, x, rfl, rfl, .inl r, rfl, _, x, rfl, ?_⟩
    have no : numB 4294967296 x = false → Q (.bl false) H := fun e => by
      have := k H sR
      rw [show (match some (x, y) with | some (x, y) => numB 4294967296 x && thsB H 4 y | none => false) = (numB 4294967296 x && thsB H 4 y) from rfl, e] at this
      exact this
    have yes : numB 4294967296 x = true → ∀ H', Same H H' → Q (.bl (thsB H 4 y)) H' := fun e H' s1 => by
      have := k H' s1
      rw [show (match some (x, y) with | some (x, y) => numB 4294967296 x && thsB H 4 y | none => false) = (numB 4294967296 x && thsB H 4 y) from rfl, e] at this
      exact this
    rcases kx.no (K := K) with ⟨i, rfl⟩ | ⟨e, ni⟩
    case inr => exact .inr ⟨ni, _, rfl, iteT (iteT (no (numB_no e)))⟩
    refine .inl ⟨i, rfl, _, rfl, ?_⟩
    have eni : numB 4294967296 (.int i) = (decide (0 ≤ i) && decide (i < 4294967296)) := rfl
    rw [eni] at no yes
    cases cn : (decide (0 ≤ i) && decide (i < 4294967296)) with
    | false => exact iteT (iteT (no cn))
    | true =>
      have yes := yes cn
      unfold thsB at yes
      refine iteF ⟨_, rfl, a, _, 1, y, rfl, rfl, .inl r, rfl, ?_⟩
      rcases ky.tupT (K := K) with ⟨t, ty, k1, et, _⟩ | ⟨n', b, ps, e5, rfl, rb, et, few, kp⟩
      · refine ⟨y, .ty "tuple", t, .type "tuple", false, rfl, .ty _, ty, k1, _, rfl, iteT ?_⟩
        have := yes H sR
        rw [et] at this
        exact this
      cases e5
      rw [et] at yes
      refine ⟨.ref b, .ty "tuple", .type "tuple", .type "tuple", true, rfl, .ty _, rd_ty rb, kit_ty (by decide +kernel), _, rfl, iteF ?_⟩
      refine ⟨_, rfl, a, _, 1, .ref b, rfl, rfl, .inl r, rfl, b, rfl, ⟨_, .inl rb⟩, fun D hD => lc_tup (K := K) (a := b) (xs := ps) (fun i H' => H' D = some (.lst (((ps.take i).map (thB H 4)).map V.bl)) ∧ Same H H') ?_ ?_ ?_ ?_⟩
      · exact ⟨upd_same, sN hD⟩
      · rintro i H' hi ⟨_, s1⟩
        exact .inl (rdS rb s1)
      · rintro i u H' hu ⟨eD, s1⟩
        have ku := kp u (List.mem_of_getElem? hu)
        have hi := (List.getElem?_eq_some_iff.mp hu).1
        refine ⟨rfl, _, rfl, u, 4, rfl, by decide, ku.same s1, fun H2 s2 => ⟨_, s2 _ _ eD, ?_, ?_, sNew (sT s1 s2) hD⟩⟩
        · rw [List.length_map, List.length_map, List.length_take]
          exact size_ok (by omega)
        · rw [upd_same, th_same s1 ku, take_more hu, List.map_append, List.map_append]
          rfl
      · rintro H' ⟨eD, s1⟩
        rw [List.take_length] at eD
        refine ⟨D, _, rfl, SqL.of eD, ?_⟩
        rw [all_map_id]
        exact yes _ s1
theorem scLIO : FnScope ["thing", "item"] ["thing"] (defScope sLIO) := ⟨rfl, rfl, rfl, by decide +kernel, rfl, by decide +kernel, by decide +kernel⟩
theorem ok_lio {f fW fI fT : Addr} {fd dW dI dT : FuncData} (D : Df K mg "_law_is_out" sLIO ["thing"] f fd) (B : Bts mg) (DW : Df K mg "_law_is_within" sLWin ["thing", "least", "most"] fW dW) (DI : Df K mg "_law_is_integer" sLInt ["thing"] fI dI) (DT : Df K mg "_law_is_thing" sLIT ["thing"] fT dT) : FnOk P w K mg base CX0 6 f fd ["thing"] (spJ outB) := by
  have GW : FnOk P w K mg base CX0 2 fW dW ["thing", "least", "most"] spWinK := ok_lwinK DW B DI
  have GT : FnOk P w K mg base CX0 5 fT dT ["thing"] (spTh 4) := ok_lit DT B 4
  refine D.F.ok scLIO (fun vs H Q E h => ?_) (fun cdv A outer s H vs Q E hr h => ?_)
  · obtain ⟨v, rfl, _⟩ := h
    rfl
  · obtain ⟨v, rfl, kn, k⟩ := h
    have nd := scLIO.nd
    have hr2 : Room 2 _ := hr.mono (by decide)
    refine ⟨_, pss_cons (ps_if (PW.pt (pw_or (pt_not (pt_val (pe_callB call_isi (by rfl) B.isinstance PyProof.Rows.boot_isinstance (pa_cons (pv 0) (pa_cons (pe_bltn (v := .ty "tuple") rfl B.tuple PyProof.Rows.boot_tuple rfl) pa_nil))))) (pw_or (pt_cmpR op_ne (pe_callB call_len_seq (by rfl) B.len PySem.boot_len (pa_cons (pv 0) pa_nil)) pe_int (nomark _)) (pw_or1 (pt_not (pt_val (pe_call GW hr2 rfl DW.m DW.k DW.b .nil pass0 (pa_cons (pe_ix ix_tup (pv 0) pe_int (fun _ _ => rfl)) (pa_cons pe_int (pa_cons (pe_op op_sub (pe_op op_pow pe_int pe_int) pe_int) pa_nil)))))))))) (pss_one (ps_ret pe_bl)) pss_nil)
        (pss_one (ps_ret (pe_and (pe_callB call_isi (by rfl) B.isinstance PyProof.Rows.boot_isinstance (pa_cons (pe_ix ix_tup (pv 0) pe_int (fun _ _ => rfl)) (pa_cons (pe_bltn (v := .ty "tuple") rfl B.tuple PyProof.Rows.boot_tuple rfl) pa_nil))) (pe_one (pe_callB (cr_all rfl) (by rfl) B.all PyProof.Rows.boot_all (pa_cons (pe_lc (own := [("item", 1)]) (g := gName 1) (tt := tYes) rfl nd (pi_tup (pe_ix ix_tup (pv 0) pe_int (fun _ _ => rfl))) (blkOk_by (N := ["thing", "item"]) (sc := defScope sLIO) (by decide +kernel)) (fun _ _ _ _ _ => pg_name (i := 1) nd rfl (.inl rfl)) (fun _ _ _ _ _ => pts_nil) (fun _ _ _ _ _ => (pe_call GT hr rfl DT.m DT.k DT.b .nil pass0 (pa_cons (pv 1) pa_nil)))) pa_nil)))))), ?_⟩
    unfold outB at k
    rcases kn.tupT (K := K) with ⟨t, ty, k1, et, f0⟩ | ⟨n', a, xs, e6, rfl, r, et, few, kx⟩
    · refine ⟨_, rfl, v, .ty "tuple", t, .type "tuple", false, rfl, .ty _, ty, k1, _, rfl, iteT (iteT ?_)⟩
      have := k H sR
      unfold prOf at this
      rw [et] at this
      exact this
    cases e6
    rw [prOf_tup r] at k
    refine ⟨_, rfl, .ref a, .ty "tuple", .type "tuple", .type "tuple", true, rfl, .ty _, rd_ty r, kit_ty (by decide +kernel), _, rfl, iteF ?_⟩
    refine ⟨_, rfl, a, _, rfl, .inr (.inl r), rfl, _, rfl, ?_⟩
    by_cases len : xs.length = 2
    rotate_left
    · rw [decide_eq_false (fun z => len (by have := V.int.inj z; omega))]
      have := k H sR
      rw [two_no len] at this
      exact iteT (iteT this)
    obtain ⟨x, y, rfl⟩ : ∃ x y, xs = [x, y] := by
      match xs, len with
      | [x, y], _ => exact ⟨x, y, rfl⟩
    have k : ∀ H', Same H H' → Q (.bl (numB 4294967296 x && thsB H 4 y)) H' := k
    refine iteF ⟨_, rfl, a, _, 0, x, rfl, rfl, .inl r, rfl, _, _, rfl, rfl, ⟨by decide, by decide, by decide⟩, _, _, rfl, rfl, ?_⟩
    refine ⟨x, 5, 0, 4294967295, rfl, kx x (by simp), _, rfl, ?_⟩
    rw [win32]
    cases cn : numB 4294967296 x with
    | false =>
      have := k H sR
      rw [cn] at this
      exact iteT this
    | true =>
      rw [cn] at k
      have k : ∀ H', Same H H' → Q (.bl (thsB H 4 y)) H' := k
      unfold thsB at k
      refine iteF ?_
      refine ⟨_, rfl, a, _, 1, y, rfl, rfl, .inl r, rfl, ?_⟩
      rcases (kx y (by simp)).tupT (K := K) with ⟨t, ty, k1, et, _⟩ | ⟨n', b, ps, e5, rfl, rb, et, few, kp⟩
      · refine ⟨y, .ty "tuple", t, .type "tuple", false, rfl, .ty _, ty, k1, _, rfl, iteF ?_⟩
        have := k H sR
        rw [et] at this
        exact this
      cases e5
      rw [et] at k
      refine ⟨.ref b, .ty "tuple", .type "tuple", .type "tuple", true, rfl, .ty _, rd_ty rb, kit_ty (by decide +kernel), _, rfl, iteT ?_⟩
      refine ⟨_, rfl, a, _, 1, .ref b, rfl, rfl, .inl r, rfl, b, rfl, ⟨_, .inl rb⟩, fun D hD => lc_tup (K := K) (a := b) (xs := ps) (fun i H' => H' D = some (.lst (((ps.take i).map (thB H 4)).map V.bl)) ∧ Same H H') ?_ ?_ ?_ ?_⟩
      · exact ⟨upd_same, sN hD⟩
      · rintro i H' hi ⟨_, s1⟩
        exact .inl (rdS rb s1)
      · rintro i u H' hu ⟨eD, s1⟩
        have ku := kp u (List.mem_of_getElem? hu)
        have hi := (List.getElem?_eq_some_iff.mp hu).1
        refine ⟨rfl, _, rfl, u, rfl, ku.same s1, fun H2 s2 => ⟨_, s2 _ _ eD, ?_, ?_, sNew (sT s1 s2) hD⟩⟩
        · rw [List.length_map, List.length_map, List.length_take]
          exact size_ok (by omega)
        · rw [upd_same, th_same s1 ku, take_more hu, List.map_append, List.map_append]
          rfl
      · rintro H' ⟨eD, s1⟩
        rw [List.take_length] at eD
        refine ⟨D, _, rfl, SqL.of eD, ?_⟩
        rw [all_map_id]
        exact k _ s1
end
end Q

namespace Q
open PySem L2 QR LE TDp
abbrev sIsI : Stmt := top 15
abbrev sLII : Stmt := top 39
def intOf : V → Int
  | .int i => i
  | _ => 0
def pgoB (H : Hp) (g last : Int) (p : V) : Bool := match prOf H p with
  | some (x, w) => intB x && (thB H 3 w && (decide (last < intOf x) && decide (intOf x < g + 1000)))
  | none => false
def pgoN (H : Hp) (p : V) : Int := match prOf H p with
  | some (x, w) => intOf x
  | none => 0
def inGo (H : Hp) (g : Int) : Int → List V → Bool
  | _, [] => true
  | last, p :: r => pgoB H g last p && inGo H g (pgoN H p) r
def insB (H : Hp) (g : Int) (y : V) : Bool := match tupsOf H y with
  | some ps => inGo H g g ps
  | none => false
def inB (H : Hp) (v : V) : Bool := match prOf H v with
  | some (x, y) => numB 4294967296 x && insB H (intOf x) y
  | none => false
theorem tups_same {H H' : Hp} (s : Same H H') {n : Nat} {v : V} (h : Kn H n v) : tupsOf H' v = tupsOf H v := by
  rcases h.cases with f | ⟨n', a, xs, e, rfl, r, few, k⟩
  · rw [f.tups, (f.same s).tups]
  · rw [tupsOf_rd r, tupsOf_rd (rdS r s)]
theorem pair_same {H H' : Hp} (s : Same H H') {n : Nat} {v : V} (h : Kn H n v) : pairB H' v = pairB H v := by
  unfold pairB
  rw [tups_same s h]
section
variable {P : Program} {w : World} {K : PySem.W.Frag} {mg : Str → Option Value} {base : Heap}
theorem scIsI : FnScope ["thing", "ahead", "pair"] ["thing"] (defScope sIsI) := ⟨rfl, rfl, rfl, by decide +kernel, rfl, by decide +kernel, by decide +kernel⟩
theorem scLII : FnScope ["thing", "last", "pair"] ["thing"] (defScope sLII) := ⟨rfl, rfl, rfl, by decide +kernel, rfl, by decide +kernel, by decide +kernel⟩
theorem ok_isin {f fP fN fPl fT : Addr} {fd dP dN dPl dT : FuncData} (D : Df K mg "is_incoming_state" sIsI ["thing"] f fd) (B : Bts mg) (L : LCst mg) (DP : Df K mg "is_pair" sIsP ["thing"] fP dP) (DN : Df K mg "is_number_below" sNum ["limit", "thing"] fN dN) (DPl : Df K mg "is_plain_int" sPlain ["thing"] fPl dPl) (DT : Df K mg "is_thing" sIsT ["thing"] fT dT) : FnOk P w K mg base CX0 3 f fd ["thing"] (spJ inB) := by
  have GP : FnOk P w K mg base CX0 1 fP dP ["thing"] spPrK := ok_isp DP B
  have GN : FnOk P w K mg base CX0 2 fN dN ["limit", "thing"] (spNum K) := ok_num DN B DPl
  have GPl : FnOk P w K mg base CX0 1 fPl dPl ["thing"] (spPlain K) := ok_plain DPl B
  have GT : FnOk P w K mg base CX0 1 fT dT ["thing"] spThS := ok_ist DT B
  obtain ⟨t1, h1⟩ := L.numbers
  obtain ⟨t2, h2⟩ := L.held
  refine D.F.ok scIsI (fun vs H Q E h => ?_) (fun cdv A outer s H vs Q E hr h => ?_)
  · obtain ⟨v, rfl, _⟩ := h
    rfl
  · obtain ⟨v, rfl, kn, k⟩ := h
    have nd := scIsI.nd
    have hr1 : Room 1 _ := hr.mono (by decide)
    have hr2 : Room 2 _ := hr.mono (by decide)
    refine ⟨_, pss_cons (ps_if (PW.pt (pw_or (pt_not (pt_val (pe_call GP hr1 rfl DP.m DP.k DP.b .nil pass0 (pa_cons (pv 0) pa_nil)))) (pw_or (pt_not (pt_val (pe_call GN hr2 rfl DN.m DN.k DN.b .nil pass0 (pa_cons (pe_glob (v := .int 4294967296) rfl h1 ⟨_, rfl⟩) (pa_cons (pe_ix ix_tup (pv 0) pe_int (fun _ _ => rfl)) pa_nil))))) (pw_or1 (pt_not (pt_val (pe_callB call_isi (by rfl) B.isinstance PyProof.Rows.boot_isinstance (pa_cons (pe_ix ix_tup (pv 0) pe_int (fun _ _ => rfl)) (pa_cons (pe_bltn (v := .ty "tuple") rfl B.tuple PyProof.Rows.boot_tuple rfl) pa_nil))))))))) (pss_one (ps_ret pe_bl)) pss_nil)
        (pss_cons (ps_set (i := 1) nd rfl (.inl rfl) (pe_ix ix_tup (pv 0) pe_int (fun _ _ => rfl)))
        (pss_cons (ps_for PassesOwn.never rfl (pi_tup (pe_ix ix_tup (pv 0) pe_int (fun _ _ => rfl))) (pg_name (i := 2) nd rfl (.inl rfl)) (pss_cons (ps_if (PW.pt (pw_or (pt_not (pt_val (pe_call GP hr1 rfl DP.m DP.k DP.b .nil pass0 (pa_cons (pv 2) pa_nil)))) (pw_or (pt_not (pt_val (pe_call GPl hr1 rfl DPl.m DPl.k DPl.b .nil pass0 (pa_cons (pe_ix ix_tup (pv 2) pe_int (fun _ _ => rfl)) pa_nil)))) (pw_or1 (pt_not (pt_val (pe_call GT hr1 rfl DT.m DT.k DT.b .nil pass0 (pa_cons (pe_ix ix_tup (pv 2) pe_int (fun _ _ => rfl)) pa_nil)))))))) (pss_one (ps_ret pe_bl)) pss_nil)
        (pss_cons (ps_if (pt_not (pt_chain op_lt op_lt (pv 1) (pe_ix ix_tup (pv 2) pe_int (fun _ _ => rfl)) (pe_op op_add (pe_ix ix_tup (pv 0) pe_int (fun _ _ => rfl)) (pe_glob (v := .int 1000) rfl h2 ⟨_, rfl⟩)))) (pss_one (ps_ret pe_bl)) pss_nil)
        (pss_one (ps_set (i := 1) nd rfl (.inl rfl) (pe_ix ix_tup (pv 2) pe_int (fun _ _ => rfl)))))))
        (pss_one (ps_ret pe_bl)))), ?_⟩
    unfold inB at k
    rcases kn.pair with ⟨ep, eb⟩ | ⟨a, x, y, rfl, r, kx, ky, ep, eb⟩
    · refine ⟨_, rfl, v, 6, rfl, kn, ?_⟩
      rw [eb]
      rw [ep] at k
      exact ⟨_, rfl, iteT (iteT (k H sR))⟩
    rw [ep] at k
    have k : ∀ H', Same H H' → Q (.bl (numB 4294967296 x && insB H (intOf x) y)) H' := k
    refine ⟨_, rfl, .ref a, 6, rfl, kn, ?_⟩
    rw [eb]
    refine ⟨_, rfl, iteF ?_⟩
    refine ⟨_, rfl, a, _, 0, x, rfl, rfl, .inl r, rfl, _, x, rfl, ?_⟩
    have no : numB 4294967296 x = false → Q (.bl false) H := fun e => by
      have := k H sR
      rw [e] at this
      exact this
    rcases kx.no (K := K) with ⟨g, rfl⟩ | ⟨e, ni⟩
    case inr => exact .inr ⟨ni, _, rfl, iteT (iteT (no (numB_no e)))⟩
    refine .inl ⟨g, rfl, _, rfl, ?_⟩
    have eni : numB 4294967296 (.int g) = (decide (0 ≤ g) && decide (g < 4294967296)) := rfl
    rw [eni] at no k
    cases cn : (decide (0 ≤ g) && decide (g < 4294967296)) with
    | false => exact iteT (iteT (no cn))
    | true =>
      rw [cn] at k
      have k : ∀ H', Same H H' → Q (.bl (insB H g y)) H' := k
      unfold insB at k
      refine iteF ⟨_, rfl, a, _, 1, y, rfl, rfl, .inl r, rfl, ?_⟩
      rcases ky.tupT (K := K) with ⟨t, ty, k1, et, _⟩ | ⟨n', b, ps, e5, rfl, rb, et, few, kp⟩
      · refine ⟨y, .ty "tuple", t, .type "tuple", false, rfl, .ty _, ty, k1, _, rfl, iteT ?_⟩
        have := k H sR
        rw [et] at this
        exact this
      cases e5
      rw [et] at k
      have k : ∀ H', Same H H' → Q (.bl (inGo H g g ps)) H' := k
      refine ⟨.ref b, .ty "tuple", .type "tuple", .type "tuple", true, rfl, .ty _, rd_ty rb, kit_ty (by decide +kernel), _, rfl, iteF ?_⟩
      refine ⟨_, rfl, a, _, 0, .int g, rfl, rfl, .inl r, rfl, ?_⟩
      refine ⟨_, rfl, a, _, 1, .ref b, rfl, rfl, .inl r, rfl, b, rfl, ⟨_, .inl rb⟩, for_tup (K := K) (a := b) (xs := ps) (fun i σ H' => ∃ (last : Int) (x2 : Option V), σ = [some (.ref a), some (.int last), x2] ∧ Same H H' ∧ inGo H g last (ps.drop i) = inGo H g g ps) ?_ ?_ ?_ ?_⟩
      · exact ⟨g, none, rfl, sR, rfl⟩
      · rintro i σ H1 hi ⟨_, _, _, s1, _⟩
        exact .inl (rdS rb s1)
      · rintro i p σ H1 hp ⟨last, x2, rfl, s1, eg⟩
        have kp1 := kp p (List.mem_of_getElem? hp)
        have ed : ps.drop i = p :: ps.drop (i + 1) := by
          obtain ⟨h1, h2⟩ := List.getElem?_eq_some_iff.mp hp
          rw [List.drop_eq_getElem_cons h1, h2]
        rw [ed] at eg
        have eg : (pgoB H g last p && inGo H g (pgoN H p) (ps.drop (i + 1))) = inGo H g g ps := eg
        have bad : ∀ H', Same H H' → pgoB H g last p = false → Q (.bl false) H' := fun H' s' e => by
          have := k H' s'
          rw [← eg, e] at this
          exact this
        have kp1s := kp1.same s1
        rcases kp1.pair with ⟨ep, eb⟩ | ⟨c, x, w, rfl, rc, kx, kw, ep, eb⟩
        · refine ⟨_, rfl, p, 4, rfl, kp1s, ?_⟩
          rw [pair_same s1 kp1, eb]
          exact ⟨_, rfl, iteT (iteT (bad _ s1 (by unfold pgoB; rw [ep])))⟩
        have en : pgoN H (.ref c) = intOf x := by
          unfold pgoN
          rw [ep]
        have eg1 : pgoB H g last (.ref c) = (intB x && (thB H 3 w && (decide (last < intOf x) && decide (intOf x < g + 1000)))) := by
          unfold pgoB
          rw [ep]
        rw [eg1] at bad eg
        rw [en] at eg
        refine ⟨_, rfl, .ref c, 4, rfl, kp1s, ?_⟩
        rw [pair_same s1 kp1, eb]
        have rc1 := rdS rc s1
        obtain ⟨t, bi, bb, ty, k2, k3, ei⟩ := (kx.same s1).ty (K := K)
        refine ⟨_, rfl, iteF ⟨_, rfl, c, _, 0, x, rfl, rfl, .inl rc1, rfl, x, t, bi, bb, rfl, ty, k2, k3, ?_⟩⟩
        rw [ei]
        cases ex : intB x with
        | false => exact ⟨_, rfl, iteT (iteT (bad _ s1 (by rw [ex]; rfl)))⟩
        | true =>
          obtain ⟨j, rfl⟩ : ∃ j, x = .int j := by
            cases x with
            | int j => exact ⟨j, rfl⟩
            | _ => cases ex
          refine ⟨_, rfl, iteF ⟨_, rfl, c, _, 1, w, rfl, rfl, .inl rc1, rfl, w, 3, rfl, by decide, kw.same s1, fun H2 s2 => ⟨_, rfl, ?_⟩⟩⟩
          rw [th_same s1 kw]
          have s12 := sT s1 s2
          cases et : thB H 3 w with
          | false => exact iteT (bad _ s12 (by rw [et]; rfl))
          | true =>
            rw [et] at eg bad
            have eg : ((decide (last < j) && decide (j < g + 1000)) && inGo H g j (ps.drop (i + 1))) = inGo H g g ps := eg
            have bad : ∀ H', Same H H' → (decide (last < j) && decide (j < g + 1000)) = false → Q (.bl false) H' := bad
            have rc2 := rdS rc s12
            have r2 := rdS r s12
            refine iteF ⟨_, rfl, _, rfl, c, _, 0, .int j, rfl, rfl, .inl rc2, rfl, _, _, rfl, rfl, _, rfl, ?_⟩
            cases c1 : decide (last < j) with
            | false => exact iteF ⟨_, rfl, iteT (bad _ s12 (by rw [c1]; rfl))⟩
            | true =>
              rw [c1, Bool.true_and] at eg bad
              refine iteT ⟨_, rfl, a, _, 0, .int g, rfl, rfl, .inl r2, rfl, _, _, rfl, rfl, _, _, rfl, rfl, ?_⟩
              refine ⟨_, rfl, ?_⟩
              cases c2 : decide (j < g + 1000) with
              | false => exact iteT (bad _ s12 c2)
              | true =>
                rw [c2, Bool.true_and] at eg
                exact iteF ⟨_, rfl, c, _, 0, .int j, rfl, rfl, .inl rc2, rfl, j, _, rfl, s12, eg⟩
      · rintro σ H1 ⟨last, x2, rfl, s1, eg⟩
        rw [List.drop_length] at eg
        have := k H1 s1
        rw [← eg] at this
        exact this
theorem ok_lii {f fW fI fT : Addr} {fd dW dI dT : FuncData} (D : Df K mg "_law_is_in" sLII ["thing"] f fd) (B : Bts mg) (DW : Df K mg "_law_is_within" sLWin ["thing", "least", "most"] fW dW) (DI : Df K mg "_law_is_integer" sLInt ["thing"] fI dI) (DT : Df K mg "_law_is_thing" sLIT ["thing"] fT dT) : FnOk P w K mg base CX0 6 f fd ["thing"] (spJ inB) := by
  have GW : FnOk P w K mg base CX0 2 fW dW ["thing", "least", "most"] spWinK := ok_lwinK DW B DI
  have GT : FnOk P w K mg base CX0 4 fT dT ["thing"] (spTh 3) := ok_lit DT B 3
  have GI : FnOk P w K mg base CX0 1 fI dI ["thing"] spIntK := ok_lintK DI B
  refine D.F.ok scLII (fun vs H Q E h => ?_) (fun cdv A outer s H vs Q E hr h => ?_)
  · obtain ⟨v, rfl, _⟩ := h
    rfl
  · obtain ⟨v, rfl, kn, k⟩ := h
    have nd := scLII.nd
    have hr1 : Room 1 _ := hr.mono (by decide)
    have hr2 : Room 2 _ := hr.mono (by decide)
    have hr4 : Room 4 _ := hr.mono (by decide)
    refine ⟨_, pss_cons (ps_if (PW.pt (pw_or (pt_not (pt_val (pe_callB call_isi (by rfl) B.isinstance PyProof.Rows.boot_isinstance (pa_cons (pv 0) (pa_cons (pe_bltn (v := .ty "tuple") rfl B.tuple PyProof.Rows.boot_tuple rfl) pa_nil))))) (pw_or (pt_cmpR op_ne (pe_callB call_len_seq (by rfl) B.len PySem.boot_len (pa_cons (pv 0) pa_nil)) pe_int (nomark _)) (pw_or1 (pt_not (pt_val (pe_call GW hr2 rfl DW.m DW.k DW.b .nil pass0 (pa_cons (pe_ix ix_tup (pv 0) pe_int (fun _ _ => rfl)) (pa_cons pe_int (pa_cons (pe_op op_sub (pe_op op_pow pe_int pe_int) pe_int) pa_nil)))))))))) (pss_one (ps_ret pe_bl)) pss_nil)
        (pss_cons (ps_if (pt_not (pt_val (pe_callB call_isi (by rfl) B.isinstance PyProof.Rows.boot_isinstance (pa_cons (pe_ix ix_tup (pv 0) pe_int (fun _ _ => rfl)) (pa_cons (pe_bltn (v := .ty "tuple") rfl B.tuple PyProof.Rows.boot_tuple rfl) pa_nil))))) (pss_one (ps_ret pe_bl)) pss_nil)
        (pss_cons (ps_set (i := 1) nd rfl (.inl rfl) (pe_ix ix_tup (pv 0) pe_int (fun _ _ => rfl)))
        (pss_cons (ps_for PassesOwn.never rfl (pi_tup (pe_ix ix_tup (pv 0) pe_int (fun _ _ => rfl))) (pg_name (i := 2) nd rfl (.inl rfl)) (pss_cons (ps_if (PW.pt (pw_or (pt_not (pt_val (pe_callB call_isi (by rfl) B.isinstance PyProof.Rows.boot_isinstance (pa_cons (pv 2) (pa_cons (pe_bltn (v := .ty "tuple") rfl B.tuple PyProof.Rows.boot_tuple rfl) pa_nil))))) (pw_or (pt_cmpR op_ne (pe_callB call_len_seq (by rfl) B.len PySem.boot_len (pa_cons (pv 2) pa_nil)) pe_int (nomark _)) (pw_or1 (pt_not (pt_val (pe_call GI hr1 rfl DI.m DI.k DI.b .nil pass0 (pa_cons (pe_ix ix_tup (pv 2) pe_int (fun _ _ => rfl)) pa_nil)))))))) (pss_one (ps_ret pe_bl)) pss_nil)
        (pss_cons (ps_if (pt_not (pt_val (pe_call GT hr4 rfl DT.m DT.k DT.b .nil pass0 (pa_cons (pe_ix ix_tup (pv 2) pe_int (fun _ _ => rfl)) pa_nil)))) (pss_one (ps_ret pe_bl)) pss_nil)
        (pss_cons (ps_if (PW.pt (pw_or (pt_cmpR op_le (pe_ix ix_tup (pv 2) pe_int (fun _ _ => rfl)) (pv 1) (nomark _)) (pw_or1 (pt_cmpR op_ge (pe_ix ix_tup (pv 2) pe_int (fun _ _ => rfl)) (pe_op op_add (pe_ix ix_tup (pv 0) pe_int (fun _ _ => rfl)) pe_int) (nomark _))))) (pss_one (ps_ret pe_bl)) pss_nil)
        (pss_one (ps_set (i := 1) nd rfl (.inl rfl) (pe_ix ix_tup (pv 2) pe_int (fun _ _ => rfl))))))))
        (pss_one (ps_ret pe_bl))))), ?_⟩
    unfold inB at k
    rcases kn.tupT (K := K) with ⟨t, ty, k1, et, f0⟩ | ⟨n', a, xs, e6, rfl, r, et, few, kx⟩
    · refine ⟨_, rfl, v, .ty "tuple", t, .type "tuple", false, rfl, .ty _, ty, k1, _, rfl, iteT (iteT ?_)⟩
      have := k H sR
      unfold prOf at this
      rw [et] at this
      exact this
    cases e6
    rw [prOf_tup r] at k
    refine ⟨_, rfl, .ref a, .ty "tuple", .type "tuple", .type "tuple", true, rfl, .ty _, rd_ty r, kit_ty (by decide +kernel), _, rfl, iteF ?_⟩
    refine ⟨_, rfl, a, _, rfl, .inr (.inl r), rfl, _, rfl, ?_⟩
    by_cases len : xs.length = 2
    rotate_left
    · rw [decide_eq_false (fun z => len (by have := V.int.inj z; omega))]
      have := k H sR
      rw [two_no len] at this
      exact iteT (iteT this)
    obtain ⟨x, y, rfl⟩ : ∃ x y, xs = [x, y] := by
      match xs, len with
      | [x, y], _ => exact ⟨x, y, rfl⟩
    have k : ∀ H', Same H H' → Q (.bl (numB 4294967296 x && insB H (intOf x) y)) H' := k
    refine iteF ⟨_, rfl, a, _, 0, x, rfl, rfl, .inl r, rfl, _, _, rfl, rfl, ⟨by decide, by decide, by decide⟩, _, _, rfl, rfl, ?_⟩
    refine ⟨x, 5, 0, 4294967295, rfl, kx x (by simp), _, rfl, ?_⟩
    rw [win32]
    cases cn : numB 4294967296 x with
    | false =>
      have := k H sR
      rw [cn] at this
      exact iteT this
    | true =>
      rw [cn] at k
      obtain ⟨g, rfl⟩ : ∃ g, x = .int g := by
        cases x with
        | int g => exact ⟨g, rfl⟩
        | _ => cases cn
      have k : ∀ H', Same H H' → Q (.bl (insB H g y)) H' := k
      unfold insB at k
      refine iteF ?_
      refine ⟨_, rfl, a, _, 1, y, rfl, rfl, .inl r, rfl, ?_⟩
      rcases (kx y (by simp)).tupT (K := K) with ⟨t, ty, k1, et, _⟩ | ⟨n', b, ps, e5, rfl, rb, et, few, kp⟩
      · refine ⟨y, .ty "tuple", t, .type "tuple", false, rfl, .ty _, ty, k1, _, rfl, iteT ?_⟩
        have := k H sR
        rw [et] at this
        exact this
      cases e5
      rw [et] at k
      have k : ∀ H', Same H H' → Q (.bl (inGo H g g ps)) H' := k
      refine ⟨.ref b, .ty "tuple", .type "tuple", .type "tuple", true, rfl, .ty _, rd_ty rb, kit_ty (by decide +kernel), _, rfl, iteF ?_⟩
      refine ⟨_, rfl, a, _, 0, .int g, rfl, rfl, .inl r, rfl, ?_⟩
      refine ⟨_, rfl, a, _, 1, .ref b, rfl, rfl, .inl r, rfl, b, rfl, ⟨_, .inl rb⟩, for_tup (K := K) (a := b) (xs := ps) (fun i σ H' => ∃ (last : Int) (x2 : Option V), σ = [some (.ref a), some (.int last), x2] ∧ Same H H' ∧ inGo H g last (ps.drop i) = inGo H g g ps) ?_ ?_ ?_ ?_⟩
      · exact ⟨g, none, rfl, sR, rfl⟩
      · rintro i σ H1 hi ⟨_, _, _, s1, _⟩
        exact .inl (rdS rb s1)
      · rintro i p σ H1 hp ⟨last, x2, rfl, s1, eg⟩
        have kp1 := kp p (List.mem_of_getElem? hp)
        have ed : ps.drop i = p :: ps.drop (i + 1) := by
          obtain ⟨h1, h2⟩ := List.getElem?_eq_some_iff.mp hp
          rw [List.drop_eq_getElem_cons h1, h2]
        rw [ed] at eg
        have eg : (pgoB H g last p && inGo H g (pgoN H p) (ps.drop (i + 1))) = inGo H g g ps := eg
        have bad : ∀ H', Same H H' → pgoB H g last p = false → Q (.bl false) H' := fun H' s' e => by
          have := k H' s'
          rw [← eg, e] at this
          exact this
        have kp1s := kp1.same s1
        rcases kp1.tupT (K := K) with ⟨_, _, _, et, f0⟩ | ⟨n', c, xs, e4, rfl, rc, et, few, kx⟩
        · obtain ⟨t, bi, bs, bb, ty, k1, _⟩ := (f0.same s1).ty (K := K)
          refine ⟨_, rfl, p, .ty "tuple", t, .type "tuple", false, rfl, .ty _, ty, k1, _, rfl, iteT (iteT (bad _ s1 ?_))⟩
          unfold pgoB prOf
          rw [et]
        cases e4
        have rc1 := rdS rc s1
        refine ⟨_, rfl, .ref c, .ty "tuple", .type "tuple", .type "tuple", true, rfl, .ty _, rd_ty rc1, kit_ty (by decide +kernel), _, rfl, iteF ?_⟩
        refine ⟨_, rfl, c, _, rfl, .inr (.inl rc1), rfl, _, rfl, ?_⟩
        by_cases len : xs.length = 2
        rotate_left
        · rw [decide_eq_false (fun z => len (by have := V.int.inj z; omega))]
          exact iteT (iteT (bad _ s1 (by unfold pgoB; rw [prOf_tup rc, two_no len])))
        obtain ⟨x, w, rfl⟩ : ∃ x w, xs = [x, w] := by
          match xs, len with
          | [x, w], _ => exact ⟨x, w, rfl⟩
        have ep : prOf H (.ref c) = some (x, w) := prOf_tup rc
        have en : pgoN H (.ref c) = intOf x := by
          unfold pgoN
          rw [ep]
        have eg1 : pgoB H g last (.ref c) = (intB x && (thB H 3 w && (decide (last < intOf x) && decide (intOf x < g + 1000)))) := by
          unfold pgoB
          rw [ep]
        rw [eg1] at bad eg
        rw [en] at eg
        have kw : Kn H 3 w := kx w (by simp)
        refine iteF ⟨_, rfl, c, _, 0, x, rfl, rfl, .inl rc1, rfl, x, 3, rfl, (kx x (by simp)).same s1, _, rfl, ?_⟩
        cases ex : intB x with
        | false => exact iteT (bad _ s1 (by rw [ex]; rfl))
        | true =>
          obtain ⟨j, rfl⟩ : ∃ j, x = .int j := by
            cases x with
            | int j => exact ⟨j, rfl⟩
            | _ => cases ex
          refine iteF ⟨_, rfl, c, _, 1, w, rfl, rfl, .inl rc1, rfl, w, rfl, kw.same s1, fun H2 s2 => ⟨_, rfl, ?_⟩⟩
          rw [th_same s1 kw]
          have s12 := sT s1 s2
          cases et : thB H 3 w with
          | false => exact iteT (bad _ s12 (by rw [et]; rfl))
          | true =>
            rw [et] at eg bad
            have eg : ((decide (last < j) && decide (j < g + 1000)) && inGo H g j (ps.drop (i + 1))) = inGo H g g ps := eg
            have bad : ∀ H', Same H H' → (decide (last < j) && decide (j < g + 1000)) = false → Q (.bl false) H' := bad
            have rc2 := rdS rc s12
            have r2 := rdS r s12
            refine iteF ⟨_, rfl, c, _, 0, .int j, rfl, rfl, .inl rc2, rfl, _, rfl, _, _, rfl, rfl, _, rfl, ite2 (fun c1 => ?_) (fun c1 => ?_)⟩
            · have c1 : j ≤ last := of_decide_eq_true c1
              exact iteT (bad _ s12 (by rw [decide_eq_false (by omega : ¬ last < j)]; rfl))
            have c1 : ¬ j ≤ last := fun z => c1 (decide_eq_true z)
            rw [decide_eq_true (by omega : last < j), Bool.true_and] at eg bad
            refine ⟨_, rfl, c, _, 0, .int j, rfl, rfl, .inl rc2, rfl, _, rfl, a, _, 0, .int g, rfl, rfl, .inl r2, rfl, _, _, rfl, rfl, _, _, rfl, rfl, _, rfl, ite2 (fun c2 => ?_) (fun c2 => ?_)⟩
            · have c2 : g + 1000 ≤ j := of_decide_eq_true c2
              exact bad _ s12 (decide_eq_false (by omega))
            have c2 : ¬ g + 1000 ≤ j := fun z => c2 (decide_eq_true z)
            rw [decide_eq_true (by omega : j < g + 1000), Bool.true_and] at eg
            exact ⟨_, rfl, c, _, 0, .int j, rfl, rfl, .inl rc2, rfl, j, _, rfl, s12, eg⟩
      · rintro σ H1 ⟨last, x2, rfl, s1, eg⟩
        rw [List.drop_length] at eg
        have := k H1 s1
        rw [← eg] at this
        exact this
end
end Q

namespace Q
open PySem L2 QR LE TDp
abbrev sOof : Stmt := top 16
abbrev sIof : Stmt := top 17
def kvOf (ks : List (Int × V)) : List (Key × V) := ks.map fun p => (Sum.inl p.1, p.2)
/-- ascending numbers, from behind g on -/
def Asc : Int → List (Int × V) → Prop
  | _, [] => True
  | g, p :: r => g < p.1 ∧ Asc p.1 r
theorem Asc.lo : ∀ {g : Int} {ks : List (Int × V)}, Asc g ks → ∀ p ∈ ks, g < p.1
  | g, [], _, p, hp => by simp at hp
  | g, q :: r, h, p, hp => by
    rcases List.mem_cons.mp hp with rfl | hp
    · exact h.1
    · exact Int.lt_trans h.1 (Asc.lo h.2 p hp)
theorem merge_asc : ∀ {ks : List (Int × V)} {acc : List (Key × V)} {g : Int}, Asc g ks → (∀ q ∈ acc, ∃ j : Int, q.1 = .inl j ∧ j ≤ g) → mergeK acc (kvOf ks) = acc ++ kvOf ks
  | [], acc, g, _, _ => by
    show acc = acc ++ []
    rw [List.append_nil]
  | p :: r, acc, g, h, ha => by
    have hn : valV acc (.inl p.1 : Key) = none := by
      cases e : valV acc (.inl p.1 : Key) with
      | none => rfl
      | some u =>
        have z : (acc.any fun kv => decide (kv.1 = (.inl p.1 : Key))) = true := by
          rw [valV_any, e]
          rfl
        obtain ⟨q, hq, eq⟩ := List.any_eq_true.mp z
        obtain ⟨j, e1, e2⟩ := ha q hq
        have e3 : q.1 = .inl p.1 := of_decide_eq_true eq
        rw [e1] at e3
        injection e3 with e3
        have := h.1
        omega
    show mergeK (putK acc (.inl p.1) p.2) (kvOf r) = acc ++ ((.inl p.1, p.2) :: kvOf r)
    rw [putK_new _ hn, merge_asc h.2 fun q hq => ?_, List.append_assoc]
    · rfl
    · rcases List.mem_append.mp hq with hq | hq
      · obtain ⟨j, e1, e2⟩ := ha q hq
        exact ⟨j, e1, by have := h.1; omega⟩
      · rw [List.mem_singleton.mp hq]
        exact ⟨_, rfl, Int.le_refl _⟩
theorem val_asc : ∀ {ks : List (Int × V)} {g : Int} {i : Nat} {p : Int × V}, Asc g ks → ks[i]? = some p → valV (kvOf ks) (.inl p.1) = some p.2
  | [], g, i, p, _, h => by simp at h
  | q :: r, g, 0, p, _, h => by
    cases h
    exact valV_pos rfl
  | q :: r, g, i + 1, p, h, e => by
    have e : r[i]? = some p := e
    have := Asc.lo h.2 p (List.mem_of_getElem? e)
    show valV ((.inl q.1, q.2) :: kvOf r) (.inl p.1) = _
    rw [valV_neg (fun z => by injection z with z; omega)]
    exact val_asc h.2 e
theorem asc_srt : ∀ {ks : List (Int × V)} {g : Int}, Asc g ks → (ks.map (·.1)).Pairwise (· ≤ ·)
  | [], g, _ => .nil
  | p :: r, g, h => by
    rw [List.map_cons]
    refine .cons (fun x hx => ?_) (asc_srt h.2)
    obtain ⟨q, hq, rfl⟩ := List.mem_map.mp hx
    exact Int.le_of_lt (Asc.lo h.2 q hq)
/-- pairs that stand -/
abbrev PrR (H : Hp) (as : List Addr) (ks : List (Int × V)) : Prop := Paired (fun (a : Addr) (p : Int × V) => Rd H a (.tup [.int p.1, p.2])) as ks
structure OutS (H : Hp) (v : V) (a b : Addr) (kt : Nat) (ps : List V) : Prop where
  e : v = .ref a
  ra : Rd H a (.tup [.int (kt : Int), .ref b])
  rb : Rd H b (.tup ps)
  few : ps.length ≤ 9
  kn : ∀ p ∈ ps, Kn H 4 p ∧ thB H 4 p = true
  lt : kt < 4294967296
structure InS (H : Hp) (v : V) (a b : Addr) (g : Nat) (as : List Addr) (ks : List (Int × V)) : Prop where
  e : v = .ref a
  ra : Rd H a (.tup [.int (g : Int), .ref b])
  rb : Rd H b (.tup (as.map V.ref))
  pr : PrR H as ks
  asc : Asc (g : Int) ks
  kn : ∀ p ∈ ks, Kn H 3 p.2 ∧ thB H 3 p.2 = true ∧ p.1 < (g : Int) + 1000
  lt : g < 4294967296
  few : as.length ≤ 9
theorem pgo_true {H : Hp} {g last : Int} {p : V} (k : Kn H 4 p) (h : pgoB H g last p = true) : ∃ a j w, p = .ref a ∧ Rd H a (.tup [.int j, w]) ∧ Kn H 3 w ∧ thB H 3 w = true ∧ last < j ∧ j < g + 1000 ∧ pgoN H p = j := by
  unfold pgoB at h
  rcases k.pair with ⟨ep, _⟩ | ⟨a, x, w, rfl, r, kx, kw, ep, _⟩
  · rw [ep] at h
    cases h
  · rw [ep] at h
    have h : (intB x && (thB H 3 w && (decide (last < intOf x) && decide (intOf x < g + 1000)))) = true := h
    simp only [Bool.and_eq_true, decide_eq_true_eq] at h
    obtain ⟨h1, h2, h3, h4⟩ := h
    cases x with
    | int j => exact ⟨a, j, w, rfl, r, kw, h2, h3, h4, by unfold pgoN; rw [ep]; rfl⟩
    | _ => cases h1
theorem go_true {H : Hp} {g : Int} : ∀ {ps : List V} {last : Int}, (∀ p ∈ ps, Kn H 4 p) → inGo H g last ps = true → ∃ (as : List Addr) (ks : List (Int × V)), ps = as.map V.ref ∧ PrR H as ks ∧ Asc last ks ∧ ∀ p ∈ ks, Kn H 3 p.2 ∧ thB H 3 p.2 = true ∧ p.1 < g + 1000
  | [], last, _, _ => ⟨[], [], rfl, .nil, trivial, fun p hp => by simp at hp⟩
  | p :: r, last, k, h => by
    have h : (pgoB H g last p && inGo H g (pgoN H p) r) = true := h
    rw [Bool.and_eq_true] at h
    obtain ⟨a, j, w, rfl, ra, kw, tw, l1, l2, en⟩ := pgo_true (k p List.mem_cons_self) h.1
    have h2 := h.2
    rw [en] at h2
    obtain ⟨as, ks, e1, e2, e3, e4⟩ := go_true (fun q hq => k q (List.mem_cons_of_mem _ hq)) h2
    refine ⟨a :: as, (j, w) :: ks, by rw [e1]; rfl, .cons ra e2, ⟨l1, e3⟩, fun q hq => ?_⟩
    rcases List.mem_cons.mp hq with rfl | hq
    · exact ⟨kw, tw, l2⟩
    · exact e4 q hq
theorem go_conv {H : Hp} {g : Int} : ∀ {as : List Addr} {ks : List (Int × V)} {last : Int}, PrR H as ks → Asc last ks → (∀ p ∈ ks, Kn H 3 p.2 ∧ thB H 3 p.2 = true ∧ p.1 < g + 1000) → inGo H g last (as.map V.ref) = true
  | _, _, last, .nil, _, _ => rfl
  | _, _, last, .cons (a := a) (b := p) r t, h, k => by
    obtain ⟨kw, tw, l2⟩ := k p List.mem_cons_self
    have ep : prOf H (.ref a) = some (.int p.1, p.2) := prOf_tup r
    show (pgoB H g last (.ref a) && inGo H g (pgoN H (.ref a)) _) = true
    have en : pgoN H (.ref a) = p.1 := by
      unfold pgoN
      rw [ep]
      rfl
    have eb : pgoB H g last (.ref a) = true := by
      unfold pgoB
      rw [ep]
      show (true && (thB H 3 p.2 && (decide (last < p.1) && decide (p.1 < g + 1000)))) = true
      rw [tw, decide_eq_true h.1, decide_eq_true l2]
      rfl
    rw [eb, en, Bool.true_and]
    exact go_conv t h.2 fun q hq => k q (List.mem_cons_of_mem _ hq)
theorem nat_of {x : V} (h : numB 4294967296 x = true) : ∃ g : Nat, x = .int (g : Int) ∧ g < 4294967296 := by
  cases x with
  | int i =>
    have h : (decide (0 ≤ i) && decide (i < 4294967296)) = true := h
    rw [Bool.and_eq_true, decide_eq_true_eq, decide_eq_true_eq] at h
    exact ⟨i.toNat, by rw [Int.toNat_of_nonneg h.1], by omega⟩
  | _ => cases h
theorem out_true {H : Hp} {v : V} (k : Kn H 6 v) (h : outB H v = true) : ∃ a b kt ps, OutS H v a b kt ps := by
  unfold outB at h
  rcases k.pair with ⟨ep, _⟩ | ⟨a, x, y, rfl, r, kx, ky, ep, _⟩
  · rw [ep] at h
    cases h
  · rw [ep] at h
    have h : (numB 4294967296 x && thsB H 4 y) = true := h
    rw [Bool.and_eq_true] at h
    obtain ⟨g, rfl, lg⟩ := nat_of h.1
    have h2 := h.2
    unfold thsB at h2
    rcases ky.cases with f | ⟨n', b, ps, e, rfl, rb, few, kp⟩
    · rw [f.tups] at h2
      cases h2
    · cases e
      rw [tupsOf_rd rb] at h2
      have h2 : ps.all (thB H 4) = true := h2
      exact ⟨a, b, g, ps, rfl, r, rb, few, fun p hp => ⟨kp p hp, List.all_eq_true.mp h2 p hp⟩, lg⟩
theorem in_true {H : Hp} {v : V} (k : Kn H 6 v) (h : inB H v = true) : ∃ a b g as ks, InS H v a b g as ks := by
  unfold inB at h
  rcases k.pair with ⟨ep, _⟩ | ⟨a, x, y, rfl, r, kx, ky, ep, _⟩
  · rw [ep] at h
    cases h
  · rw [ep] at h
    have h : (numB 4294967296 x && insB H (intOf x) y) = true := h
    rw [Bool.and_eq_true] at h
    obtain ⟨g, rfl, lg⟩ := nat_of h.1
    have h2 := h.2
    unfold insB at h2
    rcases ky.cases with f | ⟨n', b, ps, e, rfl, rb, few, kp⟩
    · rw [f.tups] at h2
      cases h2
    · cases e
      rw [tupsOf_rd rb] at h2
      have h2 : inGo H (g : Int) (g : Int) ps = true := h2
      obtain ⟨as, ks, rfl, e2, e3, e4⟩ := go_true kp h2
      exact ⟨a, b, g, as, ks, rfl, r, rb, e2, e3, e4, lg, by rw [List.length_map] at few; exact few⟩
theorem num_nat {g : Nat} (h : g < 4294967296) : numB 4294967296 (.int (g : Int)) = true := num_lt (by omega)
theorem OutS.b {H : Hp} {v : V} {a b : Addr} {kt : Nat} {ps : List V} (h : OutS H v a b kt ps) : outB H v = true := by
  rw [h.e]
  unfold outB
  rw [prOf_tup h.ra]
  show (numB 4294967296 (.int (kt : Int)) && thsB H 4 (.ref b)) = true
  unfold thsB
  rw [tupsOf_rd h.rb, num_nat h.lt, Bool.true_and]
  exact List.all_eq_true.mpr fun p hp => (h.kn p hp).2
theorem InS.b' {H : Hp} {v : V} {a b : Addr} {g : Nat} {as : List Addr} {ks : List (Int × V)} (h : InS H v a b g as ks) : inB H v = true := by
  rw [h.e]
  unfold inB
  rw [prOf_tup h.ra]
  show (numB 4294967296 (.int (g : Int)) && insB H (g : Int) (.ref b)) = true
  unfold insB
  rw [tupsOf_rd h.rb, num_nat h.lt, Bool.true_and]
  exact go_conv h.pr h.asc h.kn
theorem pr_kv {K : PySem.W.Frag} {H : Hp} : ∀ {as : List Addr} {ks : List (Int × V)}, PrR H as ks → Paired (fun p kv => SqT K H p [kV kv.1, kv.2]) as (kvOf ks)
  | _, _, .nil => .nil
  | _, _, .cons r t => .cons (.inl r) (pr_kv t)
theorem pr_same {H H' : Hp} (s : Same H H') : ∀ {as : List Addr} {ks : List (Int × V)}, PrR H as ks → PrR H' as ks
  | _, _, .nil => .nil
  | _, _, .cons r t => .cons (rdS r s) (pr_same s t)
theorem OutS.same {H H' : Hp} {v : V} {a b : Addr} {kt : Nat} {ps : List V} (h : OutS H v a b kt ps) (s : Same H H') : OutS H' v a b kt ps :=
  ⟨h.e, rdS h.ra s, rdS h.rb s, h.few, fun p hp => ⟨(h.kn p hp).1.same s, by rw [th_same s (h.kn p hp).1]; exact (h.kn p hp).2⟩, h.lt⟩
theorem InS.same {H H' : Hp} {v : V} {a b : Addr} {g : Nat} {as : List Addr} {ks : List (Int × V)} (h : InS H v a b g as ks) (s : Same H H') : InS H' v a b g as ks :=
  ⟨h.e, rdS h.ra s, rdS h.rb s, pr_same s h.pr, h.asc, fun p hp => ⟨(h.kn p hp).1.same s, by rw [th_same s (h.kn p hp).1]; exact (h.kn p hp).2.1, (h.kn p hp).2.2⟩, h.lt, h.few⟩
/-- the pairs of a state, if it is one, are known whole -/
def PlIn (H : Hp) (v : V) : Prop := ∀ a b x xs, v = .ref a → Rd H a (.tup [x, .ref b]) → Rd H b (.tup xs) → inB H v = true → PlT H b xs
def spOof (CO CS : Addr) : Sp := fun vs H Q E => ∃ v : V, vs = [v] ∧ Kn H 6 v ∧ (outB H v = false → ∀ H', Same H H' → E (.ref CS) none H') ∧
  (∀ a b kt ps, OutS H v a b kt ps → ∀ y dy lb H', H y = none → H lb = none → lb ≠ y → Same H H' → OutX CO H' y dy lb kt ps → Q (.ref y) H')
def spIof (CN CS : Addr) : Sp := fun vs H Q E => ∃ v : V, vs = [v] ∧ Kn H 6 v ∧ PlIn H v ∧ (inB H v = false → ∀ H', Same H H' → E (.ref CS) none H') ∧
  (∀ a b g as ks, InS H v a b g as ks → ∀ y dy e H', H y = none → H e = none → e ≠ y → Same H H' → IncX CN H' y dy e g (kvOf ks) → Q (.ref y) H')
section
variable {P : Program} {w : World} {K : PySem.W.Frag} {mg : Str → Option Value} {base : Heap}
theorem scOof : FnScope ["state", "known_taken", "things", "link"] ["state"] (defScope sOof) := ⟨rfl, rfl, rfl, by decide +kernel, rfl, by decide +kernel, by decide +kernel⟩
theorem scIof : FnScope ["state", "many_taken", "pairs", "link"] ["state"] (defScope sIof) := ⟨rfl, rfl, rfl, by decide +kernel, rfl, by decide +kernel, by decide +kernel⟩
theorem ok_oof {CO CS fX f fJ fP fN fPl fT : Addr} {fd dJ dP dN dPl dT : FuncData} (D : Df K mg "outgoing_of" sOof ["state"] f fd) (B : Bts mg) (L : LCst mg) (T : OTxt K mg CO) (N : ODefs K CO) (XS : QS.SupC P K mg CS fX "NoState.__init__") (gX : mg "NoState" = some (.ref CS)) (DJ : Df K mg "is_outgoing_state" sIsO ["thing"] fJ dJ) (DP : Df K mg "is_pair" sIsP ["thing"] fP dP) (DN : Df K mg "is_number_below" sNum ["limit", "thing"] fN dN) (DPl : Df K mg "is_plain_int" sPlain ["thing"] fPl dPl) (DT : Df K mg "is_thing" sIsT ["thing"] fT dT) : FnOk P w K mg base (L2.CX P w) 4 f fd ["state"] (spOof CO CS) := by
  have GJ : FnOk P w K mg base CX0 3 fJ dJ ["thing"] (spJ outB) := ok_iso DJ B L DP DN DPl DT
  have GI : FnOk P w K mg base CX0 1 N.fI N.dI ["self"] (spOI CO) := ok_oI T N
  refine D.F.okX scOof (fun vs H Q E h => ?_) (fun cdv A outer s H vs Q E hr h => ?_)
  · obtain ⟨v, rfl, _⟩ := h
    rfl
  · obtain ⟨v, rfl, kn, k0, k1⟩ := h
    have nd := scOof.nd
    have hr1 : Room 2 _ := hr.mono (by decide)
    have hr3 : Room 3 _ := hr.mono (by decide)
    refine ⟨_, pss_cons (ps_if (pt_not (pt_val (pe_call GJ hr3 rfl DJ.m DJ.k DJ.b .nil pass0 (pa_cons (pv 0) pa_nil)))) (pss_one (ps_raise rfl (takes_of rfl rfl rfl rfl) (QS.pmk_sup XS hr1 rfl gX))) pss_nil)
        (pss_cons (ps_asg (pv 0) (pg_tup rfl (pgs_cons (pg_name (i := 1) nd rfl (.inl rfl)) (pgs_cons (pg_name (i := 2) nd rfl (.inl rfl)) pgs_nil))))
        (pss_cons (ps_set (i := 3) nd rfl (.inl rfl) (pe_make0 N.mM GI hr1 rfl T.mgC N.bI .nil pass0))
        (pss_cons (ps_fld (pv 3) (pv 1) rfl)
        (pss_cons (ps_fld (pv 3) (pe_callTy call_list_of (by rfl) B.list PyProof.Rows.boot_list (pa_cons (pv 2) pa_nil)) rfl)
        (pss_one (ps_ret (pv 3))))))), ?_⟩
    refine ⟨_, rfl, v, rfl, kn, fun H1 s1 => ⟨_, rfl, ?_⟩⟩
    cases eb : outB H v with
    | false => exact iteT (k0 eb H1 s1)
    | true =>
      obtain ⟨a, b, kt, ps, os⟩ := out_true kn eb
      have kk := k1 a b kt ps os
      have o1 := os.same s1
      obtain rfl := os.e
      refine iteF ⟨_, rfl, a, _, rfl, .inl o1.ra, rfl, _, _, rfl, _, _, rfl, rfl, ?_⟩
      intro y dy ny ndy ney
      have w1 : Same H1 (upd (upd H1 dy (.own y)) y (.ins CO dy [])) := fun b u e => by
        rw [upd_ne (ne_of_none e ny), upd_ne (ne_of_none e ndy)]
        exact e
      refine ⟨y, dy, rfl, upd_same, fun lb H2 nlb lby b1 o2 => ⟨rfl, ?_⟩⟩
      have s2 : Same H1 H2 := fun b u e => b1 b u (w1 b u e) (ne_of_none e ny)
      refine ⟨_, rfl, _, rfl, y, CO, dy, _, rfl, o2.at_, T.cl, T.nK, (by show 2 < 1000; decide), ?_⟩
      rw [oF_k]
      have ey : (upd H2 y (.ins CO dy (oF kt lb))) y = some (.ins CO dy (oF kt lb)) := upd_same
      have s3 : Same H1 (upd H2 y (.ins CO dy (oF kt lb))) := fun b u e => by rw [upd_ne (ne_of_none e ny)]; exact s2 b u e
      refine ⟨_, rfl, b, ps, rfl, .inr (.inl (rdS o1.rb s3)), fun lc hlc => ?_⟩
      have nyc : y ≠ lc := ne_of_none ey hlc
      refine ⟨_, rfl, y, CO, dy, _, rfl, by rw [upd_ne nyc]; exact ey, T.cl, T.nT, (by show 2 < 1000; decide), ?_⟩
      rw [oF_t]
      have nlc1 : H2 lc = none := by rw [upd_ne nyc.symm] at hlc; exact hlc
      refine ⟨_, rfl, kk y dy lc _ (sNo s1 ny) (sNo s1 (sNo s2 nlc1)) nyc.symm (fun b u q => ?_) ⟨upd_same, by rw [upd_ne nyc.symm, upd_same], by have := os.few; omega⟩⟩
      have q0 := s1 b u q
      have q1 := s2 b u q0
      rw [upd_ne (ne_of_none q0 ny), upd_ne (ne_of_none q1 nlc1), upd_ne (ne_of_none q0 ny)]
      exact q1
theorem ok_iof {CN CS fX f fJ fP fN fPl fT : Addr} {fd dJ dP dN dPl dT : FuncData} (D : Df K mg "incoming_of" sIof ["state"] f fd) (B : Bts mg) (bd : mg "dict" = none) (L : LCst mg) (T : NTxt K mg CN) (N : NDefs K CN) (XS : QS.SupC P K mg CS fX "NoState.__init__") (gX : mg "NoState" = some (.ref CS)) (DJ : Df K mg "is_incoming_state" sIsI ["thing"] fJ dJ) (DP : Df K mg "is_pair" sIsP ["thing"] fP dP) (DN : Df K mg "is_number_below" sNum ["limit", "thing"] fN dN) (DPl : Df K mg "is_plain_int" sPlain ["thing"] fPl dPl) (DT : Df K mg "is_thing" sIsT ["thing"] fT dT) : FnOk P w K mg base (L2.CX P w) 4 f fd ["state"] (spIof CN CS) := by
  have GJ : FnOk P w K mg base CX0 3 fJ dJ ["thing"] (spJ inB) := ok_isin DJ B L DP DN DPl DT
  have GI : FnOk P w K mg base CX0 1 N.fI N.dI ["self"] (spNI CN) := ok_nI T N
  refine D.F.okX scIof (fun vs H Q E h => ?_) (fun cdv A outer s H vs Q E hr h => ?_)
  · obtain ⟨v, rfl, _⟩ := h
    rfl
  · obtain ⟨v, rfl, kn, pl, k0, k1⟩ := h
    have nd := scIof.nd
    have hr1 : Room 2 _ := hr.mono (by decide)
    have hr3 : Room 3 _ := hr.mono (by decide)
    refine ⟨_, pss_cons (ps_if (pt_not (pt_val (pe_call GJ hr3 rfl DJ.m DJ.k DJ.b .nil pass0 (pa_cons (pv 0) pa_nil)))) (pss_one (ps_raise rfl (takes_of rfl rfl rfl rfl) (QS.pmk_sup XS hr1 rfl gX))) pss_nil)
        (pss_cons (ps_asg (pv 0) (pg_tup rfl (pgs_cons (pg_name (i := 1) nd rfl (.inl rfl)) (pgs_cons (pg_name (i := 2) nd rfl (.inl rfl)) pgs_nil))))
        (pss_cons (ps_set (i := 3) nd rfl (.inl rfl) (pe_make0 N.mM GI hr1 rfl T.mgC N.bI .nil pass0))
        (pss_cons (ps_fld (pv 3) (pv 1) rfl)
        (pss_cons (ps_fld (pv 3) (pe_callTy (call_dictPT rfl) (by rfl) bd PyProof.Rows.boot_dict (pa_cons (pv 2) pa_nil)) rfl)
        (pss_one (ps_ret (pv 3))))))), ?_⟩
    refine ⟨_, rfl, v, rfl, kn, fun H1 s1 => ⟨_, rfl, ?_⟩⟩
    cases eb : inB H v with
    | false => exact iteT (k0 eb H1 s1)
    | true =>
      obtain ⟨a, b, g, as, ks, os⟩ := in_true kn eb
      have kk := k1 a b g as ks os
      have o1 := os.same s1
      obtain rfl := os.e
      have pw : PlT H b (as.map V.ref) := pl a b _ _ rfl os.ra os.rb eb
      refine iteF ⟨_, rfl, a, _, rfl, .inl o1.ra, rfl, _, _, rfl, _, _, rfl, rfl, ?_⟩
      intro y dy ny ndy ney
      have w1 : Same H1 (upd (upd H1 dy (.own y)) y (.ins CN dy [])) := fun b u e => by
        rw [upd_ne (ne_of_none e ny), upd_ne (ne_of_none e ndy)]
        exact e
      refine ⟨y, dy, rfl, upd_same, fun lb H2 nlb lby b1 o2 => ⟨rfl, ?_⟩⟩
      have s2 : Same H1 H2 := fun b u e => b1 b u (w1 b u e) (ne_of_none e ny)
      refine ⟨_, rfl, _, rfl, y, CN, dy, _, rfl, o2.at_, T.cl, T.nM, (by show 2 < 1000; decide), ?_⟩
      rw [nF_m]
      have ey : (upd H2 y (.ins CN dy (nF g lb))) y = some (.ins CN dy (nF g lb)) := upd_same
      have s3 : Same H1 (upd H2 y (.ins CN dy (nF g lb))) := fun b u e => by rw [upd_ne (ne_of_none e ny)]; exact s2 b u e
      have s03 := sT s1 s3
      refine ⟨_, rfl, b, as, kvOf ks, rfl, ?_, pr_kv (pr_same s03 os.pr), fun lc hlc => ?_⟩
      · obtain ⟨o, h1, h2⟩ := pw
        exact ⟨o, s03 _ _ h1, h2⟩
      rw [show mergeK [] (kvOf ks) = kvOf ks from merge_asc os.asc fun q hq => by simp at hq]
      have nyc : y ≠ lc := ne_of_none ey hlc
      refine ⟨_, rfl, y, CN, dy, _, rfl, by rw [upd_ne nyc]; exact ey, T.cl, T.nK, (by show 2 < 1000; decide), ?_⟩
      rw [nF_d]
      have nlc1 : H2 lc = none := by rw [upd_ne nyc.symm] at hlc; exact hlc
      have lks : ks.length ≤ 9 := by rw [← Paired.length os.pr]; exact os.few
      refine ⟨_, rfl, kk y dy lc _ (sNo s1 ny) (sNo s1 (sNo s2 nlc1)) nyc.symm (fun b u q => ?_) ⟨upd_same, by rw [upd_ne nyc.symm, upd_same], by unfold kvOf; rw [List.length_map]; omega⟩⟩
      have q0 := s1 b u q
      have q1 := s2 b u q0
      rw [upd_ne (ne_of_none q0 ny), upd_ne (ne_of_none q1 nlc1), upd_ne (ne_of_none q0 ny)]
      exact q1
end
end Q

namespace Q
open PySem L2 QR LE TDp
abbrev sOT : Stmt := top 40
abbrev sIT : Stmt := top 41
abbrev sJd : Stmt := top 42
/-- alike, of nesting below n -/
def SmR (H : Hp) : Nat → V → V → Prop
  | 0 => fun _ _ => False
  | n + 1 => fun u v => (Sc u ∧ u = v) ∨ (∃ z : Str, u = .str z ∧ v = .str z) ∨
      ∃ (a b : Addr) (xs ys : List V), u = .ref a ∧ v = .ref b ∧ ((Rd H a (.tup xs) ∧ Rd H b (.tup ys)) ∨ (H a = some (.lst xs) ∧ H b = some (.lst ys))) ∧ xs.length = ys.length ∧ ∀ (i : Nat) (x y : V), xs[i]? = some x → ys[i]? = some y → SmR H n x y
theorem SmR.same {H H' : Hp} (s : Same H H') : ∀ {n : Nat} {u v : V}, SmR H n u v → SmR H' n u v
  | 0, _, _, h => h.elim
  | n + 1, u, v, h => by
    rcases h with h | h | ⟨a, b, xs, ys, e1, e2, h1, hl, k⟩
    · exact .inl h
    · exact .inr (.inl h)
    · exact .inr (.inr ⟨a, b, xs, ys, e1, e2, h1.elim (fun h => .inl ⟨rdS h.1 s, rdS h.2 s⟩) (fun h => .inr ⟨s _ _ h.1, s _ _ h.2⟩), hl, fun i x y hx hy => (k i x y hx hy).same s⟩)
theorem smr_sc {H : Hp} {n : Nat} {u : V} (h : Sc u) : SmR H (n + 1) u u := .inl ⟨h, rfl⟩
theorem smr_i {H : Hp} {n : Nat} (i : Int) : SmR H (n + 1) (.int i) (.int i) := smr_sc (.inr (.inr ⟨i, rfl⟩))
theorem smr_s {H : Hp} {n : Nat} (z : Str) : SmR H (n + 1) (.str z) (.str z) := .inr (.inl ⟨z, rfl, rfl⟩)
/-- side by side -/
def SmRs (H : Hp) (n : Nat) : List V → List V → Prop
  | [], [] => True
  | x :: xs, y :: ys => SmR H n x y ∧ SmRs H n xs ys
  | _, _ => False
theorem SmRs.len {H : Hp} {n : Nat} : ∀ {xs ys : List V}, SmRs H n xs ys → xs.length = ys.length
  | [], [], _ => rfl
  | x :: xs, y :: ys, h => by rw [List.length_cons, List.length_cons, SmRs.len h.2]
  | [], _ :: _, h => h.elim
  | _ :: _, [], h => h.elim
theorem SmRs.at {H : Hp} {n : Nat} : ∀ {xs ys : List V}, SmRs H n xs ys → ∀ (i : Nat) (x y : V), xs[i]? = some x → ys[i]? = some y → SmR H n x y
  | [], [], _, i, x, y, hx, _ => by simp at hx
  | a :: xs, b :: ys, h, 0, x, y, hx, hy => by
    cases hx
    cases hy
    exact h.1
  | a :: xs, b :: ys, h, i + 1, x, y, hx, hy => SmRs.at h.2 i x y hx hy
  | [], _ :: _, h, _, _, _, _, _ => h.elim
  | _ :: _, [], h, _, _, _, _, _ => h.elim
theorem smr_tup {H : Hp} {n : Nat} {a b : Addr} {xs ys : List V} (ha : Rd H a (.tup xs)) (hb : Rd H b (.tup ys)) (h : SmRs H n xs ys) : SmR H (n + 1) (.ref a) (.ref b) := .inr (.inr ⟨a, b, xs, ys, rfl, rfl, .inl ⟨ha, hb⟩, h.len, h.at⟩)
theorem smr_lst {H : Hp} {n : Nat} {a b : Addr} {xs ys : List V} (ha : H a = some (.lst xs)) (hb : H b = some (.lst ys)) (h : SmRs H n xs ys) : SmR H (n + 1) (.ref a) (.ref b) := .inr (.inr ⟨a, b, xs, ys, rfl, rfl, .inr ⟨ha, hb⟩, h.len, h.at⟩)
def spSameR (n : Nat) : Sp := fun vs H Q _ => ∃ u v : V, vs = [u, v] ∧ SmR H n u v ∧ ∀ H', Same H H' → Q (.bl true) H'

theorem kn_sm {H : Hp} : ∀ {n : Nat} {v : V}, Kn H n v → ptB H n v = true → SmR H (n + 1) v v
  | 0, v, h, e => by
    rcases h with h | ⟨z, h⟩ | ⟨a, rfl, _⟩
    · exact .inl ⟨h, rfl⟩
    · exact .inr (.inl ⟨z, h, h⟩)
    · cases e
  | n + 1, v, h, e => by
    rcases h with (h | ⟨z, h⟩ | h) | ⟨a, xs, rfl, r, few, k⟩
    · exact .inl ⟨h, rfl⟩
    · exact .inr (.inl ⟨z, h, h⟩)
    · have f : KnF H v := .inr (.inr h)
      rw [f.pt] at e
      obtain ⟨a, rfl, _⟩ := h
      cases e
    · rw [pt_tup r] at e
      refine .inr (.inr ⟨a, a, xs, xs, rfl, rfl, .inl ⟨r, r⟩, rfl, fun i x y hx hy => ?_⟩)
      rw [hx] at hy
      cases hy
      have hm := List.mem_of_getElem? hx
      exact kn_sm (k x hm) (List.all_eq_true.mp e x hm)
theorem SmR.up {H : Hp} : ∀ {n : Nat} {u v : V}, SmR H n u v → SmR H (n + 1) u v
  | 0, _, _, h => h.elim
  | n + 1, u, v, h => by
    rcases h with h | h | ⟨a, b, xs, ys, e1, e2, h1, hl, k⟩
    · exact .inl h
    · exact .inr (.inl h)
    · exact .inr (.inr ⟨a, b, xs, ys, e1, e2, h1, hl, fun i x y hx hy => (k i x y hx hy).up⟩)
theorem th_pt {H : Hp} {n : Nat} {v : V} (h : thB H n v = true) : ptB H n v = true := by
  unfold thB at h
  rw [Bool.and_eq_true] at h
  exact h.2
/-- what states tell -/
def OutT (H : Hp) (r : Addr) (kt : Nat) (ps : List V) : Prop := ∃ u, H r = some (.tup [.int (kt : Int), .ref u]) ∧ H u = some (.tup ps)
def InT (H : Hp) (r : Addr) (t : Nat) (ks : List (Int × V)) : Prop := ∃ (u : Addr) (as : List Addr), H r = some (.tup [.int (t : Int), .ref u]) ∧ H u = some (.tup (as.map V.ref)) ∧ PrR H as ks
theorem sm_out {H : Hp} {r a b : Addr} {kt : Nat} {ps : List V} (o : OutT H r kt ps) (ra : Rd H a (.tup [.int (kt : Int), .ref b])) (rb : Rd H b (.tup ps)) (k : ∀ p ∈ ps, Kn H 4 p ∧ thB H 4 p = true) : SmR H 7 (.ref r) (.ref a) := by
  obtain ⟨u, h1, h2⟩ := o
  refine smr_tup (.inl h1) ra ⟨smr_i _, ?_, trivial⟩
  refine .inr (.inr ⟨u, b, ps, ps, rfl, rfl, .inl ⟨.inl h2, rb⟩, rfl, fun i x y hx hy => ?_⟩)
  rw [hx] at hy
  cases hy
  obtain ⟨k1, k2⟩ := k x (List.mem_of_getElem? hx)
  exact kn_sm k1 (th_pt k2)
theorem sm_prs {H : Hp} : ∀ {as bs : List Addr} {ks : List (Int × V)}, PrR H as ks → PrR H bs ks → (∀ p ∈ ks, Kn H 3 p.2 ∧ thB H 3 p.2 = true) → SmRs H 5 (as.map V.ref) (bs.map V.ref)
  | _, _, _, .nil, .nil, _ => trivial
  | _, _, _, .cons r t, .cons r' t', k => ⟨smr_tup r r' ⟨smr_i _, kn_sm (k _ List.mem_cons_self).1 (th_pt (k _ List.mem_cons_self).2), trivial⟩, sm_prs t t' fun p hp => k p (List.mem_cons_of_mem _ hp)⟩
theorem sm_in {H : Hp} {r a b : Addr} {t : Nat} {ks : List (Int × V)} {bs : List Addr} (o : InT H r t ks) (ra : Rd H a (.tup [.int (t : Int), .ref b])) (rb : Rd H b (.tup (bs.map V.ref))) (pr : PrR H bs ks) (k : ∀ p ∈ ks, Kn H 3 p.2 ∧ thB H 3 p.2 = true) : SmR H 7 (.ref r) (.ref a) := by
  obtain ⟨u, as, h1, h2, h3⟩ := o
  exact smr_tup (.inl h1) ra ⟨smr_i _, smr_tup (.inl h2) rb (sm_prs h3 pr k), trivial⟩
def spNSG (CN : Addr) : Sp := fun vs H Q _ => ∃ (x dx d : Addr) (t : Nat) (g : Int) (ks : List (Int × V)), vs = [.ref x] ∧ IncX CN H x dx d t (kvOf ks) ∧ Asc g ks ∧ ∀ r H', Same H H' → InT H' r t ks → Q (.ref r) H'
section
variable {P : Program} {w : World} {K : PySem.W.Frag} {mg : Str → Option Value} {base : Heap}
theorem ok_sameR {f fI : Addr} {fd fdI : FuncData} (D : Df K mg "_law_same" sSameG ["actual", "due"] f fd) (B : Bts mg) (DI : Df K mg "_law_is_integer" sLInt ["thing"] fI fdI) : ∀ n, FnOk P w K mg base CX0 (n + 1) f fd ["actual", "due"] (spSameR n)
  | 0 => by
    refine D.F.ok scSameG (fun vs H Q E h => ?_) (fun cdv A outer s H vs Q E hr h => ?_)
    · obtain ⟨u, v, rfl, _⟩ := h
      rfl
    · obtain ⟨u, v, rfl, h, _⟩ := h
      exact h.elim
  | n + 1 => by
    have IH := ok_sameR D B DI n
    have GI : FnOk P w K mg base CX0 1 fI fdI ["thing"] spInt2 := ok_lint DI B
    refine D.F.ok scSameG (fun vs H Q E h => ?_) (fun cdv A outer s H vs Q E hr h => ?_)
    · obtain ⟨u, v, rfl, _⟩ := h
      rfl
    · obtain ⟨u, v, rfl, h, k⟩ := h
      have nd := scSameG.nd
      have hr1 : Room 1 _ := hr.mono (by omega)
      have hrn : Room (n + 1) _ := hr.mono (by omega)
      refine ⟨_, pss_cons (ps_if (pt_cmp (pc_isN (pv 1))) (pss_one (ps_ret (pe_cmp (pc_isN (pv 0)) rfl))) pss_nil)
        (pss_cons (ps_if (pt_cmpR op_isB (pv 1) pe_bl (nomark _)) (pss_one (ps_ret (pe_cmpR op_isB (pv 0) pe_bl (nomark _)))) pss_nil)
        (pss_cons (ps_if (pt_cmpR op_isB (pv 1) pe_bl (nomark _)) (pss_one (ps_ret (pe_cmpR op_isB (pv 0) pe_bl (nomark _)))) pss_nil)
        (pss_cons (ps_if (pt_val (pe_callB call_isi (by rfl) B.isinstance PyProof.Rows.boot_isinstance (pa_cons (pv 1) (pa_cons (pe_bltn (v := .ty "int") rfl B.int PyProof.Rows.boot_int rfl) pa_nil))))
          (pss_one (ps_ret (pe_and (pe_call GI hr1 rfl DI.m DI.k DI.b .nil pass0 (pa_cons (pv 0) pa_nil)) (pe_one (pe_cmpR op_eq (pv 0) (pv 1) (nomark _)))))) pss_nil)
        (pss_cons (ps_if (pt_val (pe_callB call_isi (by rfl) B.isinstance PyProof.Rows.boot_isinstance (pa_cons (pv 1) (pa_cons (pe_bltn (v := .ty "str") rfl B.str PyProof.Rows.boot_str rfl) pa_nil))))
          (pss_one (ps_ret (pe_and (pe_callB call_isi (by rfl) B.isinstance PyProof.Rows.boot_isinstance (pa_cons (pv 0) (pa_cons (pe_bltn (v := .ty "str") rfl B.str PyProof.Rows.boot_str rfl) pa_nil))) (pe_one (pe_cmpR op_eq (pv 0) (pv 1) (nomark _)))))) pss_nil)
        (pss_cons (ps_if (PW.pt (pw_or (pt_cmpR op_ne (pe_callB call_isi (by rfl) B.isinstance PyProof.Rows.boot_isinstance (pa_cons (pv 1) (pa_cons (pe_bltn (v := .ty "tuple") rfl B.tuple PyProof.Rows.boot_tuple rfl) pa_nil))) (pe_callB call_isi (by rfl) B.isinstance PyProof.Rows.boot_isinstance (pa_cons (pv 0) (pa_cons (pe_bltn (v := .ty "tuple") rfl B.tuple PyProof.Rows.boot_tuple rfl) pa_nil))) (nomark _))
          (pw_or1 (pt_cmpR op_ne (pe_callB call_isi (by rfl) B.isinstance PyProof.Rows.boot_isinstance (pa_cons (pv 1) (pa_cons (pe_bltn (v := .ty "list") rfl B.list PyProof.Rows.boot_list rfl) pa_nil))) (pe_callB call_isi (by rfl) B.isinstance PyProof.Rows.boot_isinstance (pa_cons (pv 0) (pa_cons (pe_bltn (v := .ty "list") rfl B.list PyProof.Rows.boot_list rfl) pa_nil))) (nomark _))))) pss_never pss_nil)
        (pss_cons (ps_if (pt_cmpR op_ne (pe_callB call_len_seq (by rfl) B.len PySem.boot_len (pa_cons (pv 0) pa_nil)) (pe_callB call_len_seq (by rfl) B.len PySem.boot_len (pa_cons (pv 1) pa_nil)) (nomark _)) pss_never pss_nil)
        (pss_cons (ps_for PassesOwn.never rfl (RZ.pi_zipA rfl B.zip (pa_cons (pv 0) (pa_cons (pv 1) pa_nil))) (pg_tup rfl (pgs_cons (pg_name (i := 2) nd rfl (.inl rfl)) (pgs_cons (pg_name (i := 3) nd rfl (.inl rfl)) pgs_nil)))
          (pss_one (ps_if (pt_not (pt_val (pe_call IH hrn rfl D.m D.k D.b .nil pass0 (pa_cons (pv 2) (pa_cons (pv 3) pa_nil))))) pss_never pss_nil)))
        (pss_one (ps_ret pe_bl))))))))), ?_⟩
      rcases h with ⟨(rfl | ⟨b, rfl⟩ | ⟨i, rfl⟩), rfl⟩ | ⟨z, rfl, rfl⟩ | ⟨a, b, xs, ys, rfl, rfl, hab, hl, hk⟩
      · refine ⟨_, rfl, _, rfl, iteT ?_⟩
        exact ⟨_, rfl, k _ sR⟩
      · refine ⟨_, rfl, _, rfl, iteF ?_⟩
        refine ⟨_, rfl, .inr ⟨b, true, rfl, rfl, _, rfl, ?_⟩⟩
        cases b with
        | true => exact iteT ⟨_, rfl, .inr ⟨true, true, rfl, rfl, k _ sR⟩⟩
        | false =>
          refine iteF ⟨_, rfl, .inr ⟨false, false, rfl, rfl, _, rfl, iteT ?_⟩⟩
          exact ⟨_, rfl, .inr ⟨false, false, rfl, rfl, k _ sR⟩⟩
      · refine ⟨_, rfl, _, rfl, iteF ?_⟩
        refine ⟨_, rfl, .inl ⟨.inl ⟨i, rfl⟩, true, rfl, _, rfl, iteF ?_⟩⟩
        refine ⟨_, rfl, .inl ⟨.inl ⟨i, rfl⟩, false, rfl, _, rfl, iteF ?_⟩⟩
        refine ⟨_, rfl, .int i, .ty "int", .type "int", .type "int", true, rfl, .ty _, .base (.int _), kInt_int, _, rfl, iteT ?_⟩
        refine ⟨_, rfl, (fun _ => False), .int i, rfl, .inl (.inr (.inr ⟨i, rfl⟩)), _, rfl, iteT ?_⟩
        refine ⟨_, rfl, _, rfl, rfl, ?_⟩
        rw [decide_eq_true rfl]
        exact k _ sR
      · refine ⟨_, rfl, _, rfl, iteF ?_⟩
        refine ⟨_, rfl, .inl ⟨.inr (.inl ⟨z, rfl⟩), true, rfl, _, rfl, iteF ?_⟩⟩
        refine ⟨_, rfl, .inl ⟨.inr (.inl ⟨z, rfl⟩), false, rfl, _, rfl, iteF ?_⟩⟩
        refine ⟨_, rfl, .str z, .ty "int", .type "str", .type "int", false, rfl, .ty _, .base (.str _), kit_ty (by decide +kernel), _, rfl, iteF ?_⟩
        refine ⟨_, rfl, .str z, .ty "str", .type "str", .type "str", true, rfl, .ty _, .base (.str _), kit_ty (by decide +kernel), _, rfl, iteT ?_⟩
        refine ⟨_, rfl, .str z, .ty "str", .type "str", .type "str", true, rfl, .ty _, .base (.str _), kit_ty (by decide +kernel), _, rfl, iteT ?_⟩
        refine ⟨_, rfl, _, rfl, rfl, ?_⟩
        rw [decide_eq_true rfl]
        exact k _ sR
      · refine ⟨_, rfl, _, rfl, iteF ?_⟩
        refine ⟨_, rfl, .inl ⟨.inr (.inr ⟨b, rfl⟩), true, rfl, _, rfl, iteF ?_⟩⟩
        refine ⟨_, rfl, .inl ⟨.inr (.inr ⟨b, rfl⟩), false, rfl, _, rfl, iteF ?_⟩⟩
        rcases hab with ⟨ha, hb⟩ | ⟨ha, hb⟩
        · refine ⟨_, rfl, .ref b, .ty "int", .type "tuple", .type "int", false, rfl, .ty _, rd_ty hb, kit_ty (by decide +kernel), _, rfl, iteF ?_⟩
          refine ⟨_, rfl, .ref b, .ty "str", .type "tuple", .type "str", false, rfl, .ty _, rd_ty hb, kit_ty (by decide +kernel), _, rfl, iteF ?_⟩
          refine ⟨_, rfl, .ref b, .ty "tuple", .type "tuple", .type "tuple", true, rfl, .ty _, rd_ty hb, kit_ty (by decide +kernel), _, rfl, .ref a, .ty "tuple", .type "tuple", .type "tuple", true, rfl, .ty _, rd_ty ha, kit_ty (by decide +kernel), rfl, _, rfl, iteF ?_⟩
          refine ⟨_, rfl, .ref b, .ty "list", .type "tuple", .type "list", false, rfl, .ty _, rd_ty hb, kit_ty (by decide +kernel), _, rfl, .ref a, .ty "list", .type "tuple", .type "list", false, rfl, .ty _, rd_ty ha, kit_ty (by decide +kernel), rfl, _, rfl, iteF ?_⟩
          refine ⟨_, rfl, a, xs, rfl, .inr (.inl ha), _, rfl, b, ys, rfl, .inr (.inl hb), rfl, _, rfl, ?_⟩
          rw [hl, decide_eq_true rfl]
          refine iteF ⟨_, rfl, _, rfl, a, b, xs, ys, rfl, .inr ⟨.inl ha, .inl hb, RZ.for_zipT hl (fun i σ H' => ∃ x2 x3, σ = [some (.ref a), some (.ref b), x2, x3] ∧ Same H H') ⟨none, none, rfl, sR⟩ ?_ ?_ ?_⟩⟩
          · rintro i σ H' ⟨x2, x3, rfl, s1⟩
            exact ⟨.inl (rdS ha s1), .inl (rdS hb s1)⟩
          · rintro i x y T σ H' hx hy ⟨x2, x3, rfl, s1⟩ hT
            have s2 : Same H (upd H' T (.tup [x, y])) := sT s1 (sN hT)
            refine ⟨T, _, rfl, SqT.of upd_same, rfl, _, _, rfl, _, _, rfl, rfl, ?_⟩
            refine ⟨_, rfl, _, rfl, x, y, rfl, (hk i x y hx hy).same s2, fun H2 s3 => ⟨_, rfl, iteF ?_⟩⟩
            exact ⟨_, _, rfl, sT s2 s3⟩
          · rintro σ H' ⟨x2, x3, rfl, s1⟩
            exact k _ s1
        · refine ⟨_, rfl, .ref b, .ty "int", .type "list", .type "int", false, rfl, .ty _, .base (.lst hb), kit_ty (by decide +kernel), _, rfl, iteF ?_⟩
          refine ⟨_, rfl, .ref b, .ty "str", .type "list", .type "str", false, rfl, .ty _, .base (.lst hb), kit_ty (by decide +kernel), _, rfl, iteF ?_⟩
          refine ⟨_, rfl, .ref b, .ty "tuple", .type "list", .type "tuple", false, rfl, .ty _, .base (.lst hb), kit_ty (by decide +kernel), _, rfl, .ref a, .ty "tuple", .type "list", .type "tuple", false, rfl, .ty _, .base (.lst ha), kit_ty (by decide +kernel), rfl, _, rfl, iteF ?_⟩
          refine ⟨_, rfl, .ref b, .ty "list", .type "list", .type "list", true, rfl, .ty _, .base (.lst hb), kit_ty (by decide +kernel), _, rfl, .ref a, .ty "list", .type "list", .type "list", true, rfl, .ty _, .base (.lst ha), kit_ty (by decide +kernel), rfl, _, rfl, iteF ?_⟩
          refine ⟨_, rfl, a, xs, rfl, .inl (SqL.of ha), _, rfl, b, ys, rfl, .inl (SqL.of hb), rfl, _, rfl, ?_⟩
          rw [hl, decide_eq_true rfl]
          refine iteF ⟨_, rfl, _, rfl, a, b, xs, ys, rfl, .inl ⟨SqL.of ha, SqL.of hb, RZ.for_zipL hl (fun i σ H' => ∃ x2 x3, σ = [some (.ref a), some (.ref b), x2, x3] ∧ Same H H') ⟨none, none, rfl, sR⟩ ?_ ?_ ?_⟩⟩
          · rintro i σ H' ⟨x2, x3, rfl, s1⟩
            exact ⟨SqL.of (s1 _ _ ha), SqL.of (s1 _ _ hb)⟩
          · rintro i x y T σ H' hx hy ⟨x2, x3, rfl, s1⟩ hT
            have s2 : Same H (upd H' T (.tup [x, y])) := sT s1 (sN hT)
            refine ⟨T, _, rfl, SqT.of upd_same, rfl, _, _, rfl, _, _, rfl, rfl, ?_⟩
            refine ⟨_, rfl, _, rfl, x, y, rfl, (hk i x y hx hy).same s2, fun H2 s3 => ⟨_, rfl, iteF ?_⟩⟩
            exact ⟨_, _, rfl, sT s2 s3⟩
          · rintro σ H' ⟨x2, x3, rfl, s1⟩
            exact k _ s1

theorem pr_map {H H' : Hp} (f : ∀ {a : Addr} {xs : List V}, Rd H a (.tup xs) → Rd H' a (.tup xs)) : ∀ {as : List Addr} {ks : List (Int × V)}, PrR H as ks → PrR H' as ks
  | _, _, .nil => .nil
  | _, _, .cons r t => .cons (f r) (pr_map f t)
theorem pair_take {α β : Type} {R : α → β → Prop} : ∀ {as : List α} {bs : List β} {a : α} {b : β}, Paired R as bs → R a b → Paired R (as ++ [a]) (bs ++ [b])
  | _, _, _, _, .nil, r => .cons r .nil
  | _, _, _, _, .cons h t, r => .cons h (pair_take t r)
theorem ok_nSG {CN : Addr} (T : NTxt K mg CN) (M : NDefs K CN) (B : Bts mg) (L : LCst mg) : FnOk P w K mg base CX0 2 M.fS M.dS ["self"] (spNSG CN) := by
  have GH : FnOk P w K mg base CX0 1 M.fH M.dH ["self"] (spHeld CN) := ok_held T M B L.sorted
  refine M.FS.ok scNS (fun vs H Q E h => ?_) (fun cdv A outer s H vs Q E hr h => ?_)
  · obtain ⟨x, dx, d, t, g, ks, rfl, _⟩ := h
    rfl
  · obtain ⟨x, dx, d, t, g, ks, rfl, o, asc, k⟩ := h
    have nd := scNS.nd
    have hu := hu_of hr
    refine ⟨_, pss_one (ps_ret (pe_tup (pa_cons (pe_fld (pv 0) rfl) (pa_cons (pe_callTy call_tuple_of (by rfl) B.tuple PyProof.Rows.boot_tuple (pa_cons (pe_lc (own := [("number", 1)]) (g := gName 1) (tt := tYes) rfl nd (pi_tup (pe_meth0 (pv 0) T.cl M.mH GH hr M.bH .nil pass0))
      (blkOk_by (N := ["self", "number"]) (sc := defScope sNS) (by decide +kernel)) (fun _ _ _ _ _ => pg_name (i := 1) nd rfl (.inl rfl)) (fun _ _ _ _ _ => pts_nil)
      (fun _ _ _ _ _ => pe_tup (pa_cons (pv 1) (pa_cons (pe_dget (hu_of hr) (pe_fldK (K := K) rfl (pv 0) rfl) (pv 1) (by intro _ _; rfl)) pa_nil)))) pa_nil)) pa_nil)))), ?_⟩
    have fewk : ks.length ≤ 9000 := by
      have := o.few
      unfold kvOf at this
      rw [List.length_map] at this
      exact this
    refine ⟨_, rfl, x, CN, dx, _, _, rfl, o.at_, T.cl, T.nM, rfl, _, rfl, x, dx, _, rfl, o.at_, rfl, x, dx, d, t, kvOf ks, ks.map (·.1), rfl, o, ?_, fun u ns' H1 s1 nu hp hs hu1 => ?_⟩
    · unfold kvOf
      rw [List.map_map, List.map_map]
      rfl
    have en : ns' = ks.map (·.1) := srt_uniq hp (List.Perm.refl _) hs (asc_srt asc)
    subst en
    refine ⟨u, rfl, ⟨_, SqT.of hu1⟩, fun D hD => lc_tup (K := K) (a := u) (xs := (ks.map (·.1)).map V.int) (fun i H' => ∃ as : List Addr, H' D = some (.lst (as.map V.ref)) ∧ as.length = i ∧ (∀ b ∈ as, H1 b = none ∧ b ≠ D) ∧ PrR H' as (ks.take i) ∧ Same H1 H') ?_ ?_ ?_ ?_⟩
    · exact ⟨[], upd_same, rfl, fun b hb => by simp at hb, .nil, sN hD⟩
    · rintro i H' _ ⟨_, _, _, _, _, s2⟩
      exact SqT.of (s2 _ _ hu1)
    · rintro i y H' hi ⟨as, eD, la, nas, pr, s2⟩
      rw [List.map_map, List.getElem?_map] at hi
      obtain ⟨q, hq, rfl⟩ := Option.map_eq_some_iff.mp hi
      have hv := val_asc asc hq
      have s12 := sT s1 s2
      have o2 := o.same s12
      have li := (List.getElem?_eq_some_iff.mp hq).1
      have dg : DGet H' d (.int q.1) (some q.2) := by
        have z := DGet.k (k := (.inl q.1 : Key)) o2.dct
        rw [hv] at z
        exact z
      refine ⟨rfl, _, rfl, _, rfl, x, CN, dx, _, _, rfl, o2.at_, T.cl, T.nK, rfl, _, rfl, d, q.2, rfl, dg, (by show 2 ≤ sizeLine; decide), fun c hc => ?_⟩
      have s3 := sN (o := .tup [.int q.1, q.2]) hc
      have nDc : D ≠ c := ne_of_none eD hc
      refine ⟨_, s3 _ _ eD, ?_, as ++ [c], ?_, ?_, ?_, ?_, ?_⟩
      · rw [List.length_map, la]
        exact size_ok (by omega)
      · rw [upd_same, List.map_append]
        rfl
      · rw [List.length_append, la]
        rfl
      · intro b hb
        rcases List.mem_append.mp hb with hb | hb
        · exact nas b hb
        · rw [List.mem_singleton.mp hb]
          exact ⟨sNo s2 hc, nDc.symm⟩
      · rw [take_more hq]
        have up : ∀ {a : Addr} {xs : List V}, Rd H' a (.tup xs) → Rd (upd (upd H' c (.tup [.int q.1, q.2])) D (.lst (as.map V.ref ++ [.ref c]))) a (.tup xs) := fun {a xs} r => by
          have na : a ≠ D := fun z => by
            rw [z] at r
            rcases r with r | ⟨_, r⟩ <;> (rw [eD] at r; cases r)
          rcases rdS r s3 with r | ⟨o, r⟩
          · exact .inl (by rw [upd_ne na]; exact r)
          · exact .inr ⟨o, by rw [upd_ne na]; exact r⟩
        exact pair_take (pr_map up pr) (.inl (by rw [upd_ne nDc.symm, upd_same]; rfl))
      · intro b u e
        have nb : b ≠ D := fun z => by rw [z, hD] at e; cases e
        rw [upd_ne nb]
        exact s3 _ _ (s2 _ _ e)
    · rintro H' ⟨as, eD, la, nas, pr, s2⟩
      rw [List.length_map, List.length_map] at la pr
      rw [List.take_length] at pr
      refine ⟨D, _, rfl, .inl ⟨SqL.of eD, fun v hv => ?_⟩⟩
      have s3 := sN (o := .tup (as.map V.ref)) hv
      exact ⟨(by show 2 ≤ sizeLine; decide), fun r hr2 => k r _ (sT (sT s1 s2) (sT s3 (sN hr2))) ⟨v, as, upd_same, sN hr2 _ _ upd_same, pr_same (sT s3 (sN hr2)) pr⟩⟩
def spOT (CO : Addr) : Sp := fun vs H Q _ => ∃ v : V, vs = [v] ∧ Kn H 6 v ∧ (outB H v = false → ∀ r H', Same H H' → H' r = some (.tup [.str "NoState"]) → Q (.ref r) H') ∧
  (∀ a b kt ps, OutS H v a b kt ps → ∀ r u H', Same H H' → OutT H' u kt ps → H' r = some (.tup [.str "told", .ref u]) → Q (.ref r) H')
def spIT (CN : Addr) : Sp := fun vs H Q _ => ∃ v : V, vs = [v] ∧ Kn H 6 v ∧ PlIn H v ∧ (inB H v = false → ∀ r H', Same H H' → H' r = some (.tup [.str "NoState"]) → Q (.ref r) H') ∧
  (∀ a b g as ks, InS H v a b g as ks → ∀ r u H', Same H H' → InT H' u g ks → H' r = some (.tup [.str "told", .ref u]) → Q (.ref r) H')
/-- the texts of the module that make states and take them -/
structure StD (P : Program) (K : PySem.W.Frag) (mg : Str → Option Value) (CO CN CS : Addr) where
  TO : OTxt K mg CO
  TN : NTxt K mg CN
  MO : ODefs K CO
  MN : NDefs K CN
  B : Bts mg
  L : LCst mg
  bd : mg "dict" = none
  fX : Addr
  XS : QS.SupC P K mg CS fX "NoState.__init__"
  gX : mg "NoState" = some (.ref CS)
  ex : PySem.W.exmOne K (.ref CS) (.ref CS) = some true
  fOo : Addr
  dOo : FuncData
  DOo : Df K mg "outgoing_of" sOof ["state"] fOo dOo
  fIo : Addr
  dIo : FuncData
  DIo : Df K mg "incoming_of" sIof ["state"] fIo dIo
  fJo : Addr
  dJo : FuncData
  DJo : Df K mg "is_outgoing_state" sIsO ["thing"] fJo dJo
  fJi : Addr
  dJi : FuncData
  DJi : Df K mg "is_incoming_state" sIsI ["thing"] fJi dJi
  fP : Addr
  dP : FuncData
  DP : Df K mg "is_pair" sIsP ["thing"] fP dP
  fN : Addr
  dN : FuncData
  DN : Df K mg "is_number_below" sNum ["limit", "thing"] fN dN
  fPl : Addr
  dPl : FuncData
  DPl : Df K mg "is_plain_int" sPlain ["thing"] fPl dPl
  fT : Addr
  dT : FuncData
  DT : Df K mg "is_thing" sIsT ["thing"] fT dT
theorem StD.oof {CO CN CS : Addr} (S : StD P K mg CO CN CS) : FnOk P w K mg base (L2.CX P w) 4 S.fOo S.dOo ["state"] (spOof CO CS) := ok_oof S.DOo S.B S.L S.TO S.MO S.XS S.gX S.DJo S.DP S.DN S.DPl S.DT
theorem StD.iof {CO CN CS : Addr} (S : StD P K mg CO CN CS) : FnOk P w K mg base (L2.CX P w) 4 S.fIo S.dIo ["state"] (spIof CN CS) := ok_iof S.DIo S.B S.bd S.L S.TN S.MN S.XS S.gX S.DJi S.DP S.DN S.DPl S.DT
theorem scOT : FnScope ["thing"] ["thing"] (defScope sOT) := ⟨rfl, rfl, rfl, by decide +kernel, rfl, by decide +kernel, by decide +kernel⟩
theorem scIT : FnScope ["thing"] ["thing"] (defScope sIT) := ⟨rfl, rfl, rfl, by decide +kernel, rfl, by decide +kernel, by decide +kernel⟩
theorem ok_ot {CO CN CS f : Addr} {fd : FuncData} (S : StD P K mg CO CN CS) (D : Df K mg "_law_out_told" sOT ["thing"] f fd) : FnOk P w K mg base CX0 5 f fd ["thing"] (spOT CO) := by
  have GO : FnOk P w K mg base (L2.CX P w) 4 S.fOo S.dOo ["state"] (spOof CO CS) := S.oof
  have GS : FnOk P w K mg base CX0 1 S.MO.fS S.MO.dS ["self"] (spOS CO) := ok_oS S.TO S.MO S.B
  refine D.F.ok scOT (fun vs H Q E h => ?_) (fun cdv A outer s H vs Q E hr h => ?_)
  · obtain ⟨v, rfl, _⟩ := h
    rfl
  · obtain ⟨v, rfl, kn, k0, k1⟩ := h
    have nd := scOT.nd
    have hr1 : Room 1 _ := hr.mono (by decide)
    refine ⟨_, pss_one (ps_try_only (tb := fun W => tRet (tTup (tCons (tC (.str "told")) (tCons (tMeth CO "state" (spOS CO) [] E0 (tCallS (spOof CO CS) (WE W) (tCons (tVar 0) tNil)) tNil) tNil)))) (ts := fun a cls d => tRet (tTup (tCons (tC (.str "NoState")) tNil))) rfl rfl ⟨rfl, by decide, .inl S.gX⟩ takes0
      (fun W pn xe tk _ => pss_one (ps_ret (pe_tup (pa_cons pe_str (pa_cons (pe_meth0 (by exact (pe_callS GO hr rfl S.DOo.m S.DOo.k S.DOo.b (fun σ => passAt tk σ) (by exact (pa_cons (pv 0) pa_nil)))) S.TO.cl S.MO.mS GS hr1 S.MO.bS .nil pass0) pa_nil))))) (fun a oe cls d pn _ _ => pss_one (ps_ret (pe_tup (pa_cons pe_str pa_nil))))), ?_⟩
    refine ⟨_, rfl, v, rfl, kn, fun eb H1 s1 => ?_, fun a b kt ps os y dy lb H1 ny nlb nby s1 ox => ?_⟩
    · exact ⟨true, S.ex, fun _ a ha => ⟨(by show 1 ≤ sizeLine; decide), fun r hr2 => k0 eb r _ (sT s1 (sN hr2)) upd_same⟩, fun q => nomatch q⟩
    · refine ⟨y, dy, _, rfl, ox.at_, rfl, y, dy, lb, kt, ps, rfl, ox, fun t u H2 s2 e1 e2 => ?_⟩
      exact ⟨(by show 2 ≤ sizeLine; decide), fun r hr2 => k1 a b kt ps os r t _ (sT (sT s1 s2) (sN hr2)) ⟨u, sN hr2 _ _ e1, sN hr2 _ _ e2⟩ upd_same⟩
theorem ok_it {CO CN CS f : Addr} {fd : FuncData} (S : StD P K mg CO CN CS) (D : Df K mg "_law_in_told" sIT ["thing"] f fd) : FnOk P w K mg base CX0 5 f fd ["thing"] (spIT CN) := by
  have GO : FnOk P w K mg base (L2.CX P w) 4 S.fIo S.dIo ["state"] (spIof CN CS) := S.iof
  have GS : FnOk P w K mg base CX0 2 S.MN.fS S.MN.dS ["self"] (spNSG CN) := ok_nSG S.TN S.MN S.B S.L
  refine D.F.ok scIT (fun vs H Q E h => ?_) (fun cdv A outer s H vs Q E hr h => ?_)
  · obtain ⟨v, rfl, _⟩ := h
    rfl
  · obtain ⟨v, rfl, kn, pl, k0, k1⟩ := h
    have nd := scIT.nd
    have hr1 : Room 2 _ := hr.mono (by decide)
    refine ⟨_, pss_one (ps_try_only (tb := fun W => tRet (tTup (tCons (tC (.str "told")) (tCons (tMeth CN "state" (spNSG CN) [] E0 (tCallS (spIof CN CS) (WE W) (tCons (tVar 0) tNil)) tNil) tNil)))) (ts := fun a cls d => tRet (tTup (tCons (tC (.str "NoState")) tNil))) rfl rfl ⟨rfl, by decide, .inl S.gX⟩ takes0
      (fun W pn xe tk _ => pss_one (ps_ret (pe_tup (pa_cons pe_str (pa_cons (pe_meth0 (by exact (pe_callS GO hr rfl S.DIo.m S.DIo.k S.DIo.b (fun σ => passAt tk σ) (by exact (pa_cons (pv 0) pa_nil)))) S.TN.cl S.MN.mS GS hr1 S.MN.bS .nil pass0) pa_nil))))) (fun a oe cls d pn _ _ => pss_one (ps_ret (pe_tup (pa_cons pe_str pa_nil))))), ?_⟩
    refine ⟨_, rfl, v, rfl, kn, pl, fun eb H1 s1 => ?_, fun a b g as ks os y dy e H1 ny nlb nby s1 ox => ?_⟩
    · exact ⟨true, S.ex, fun _ a ha => ⟨(by show 1 ≤ sizeLine; decide), fun r hr2 => k0 eb r _ (sT s1 (sN hr2)) upd_same⟩, fun q => nomatch q⟩
    · refine ⟨y, dy, _, rfl, ox.at_, rfl, y, dy, e, g, (g : Int), ks, rfl, ox, os.asc, fun r H2 s2 e1 => ?_⟩
      exact ⟨(by show 2 ≤ sizeLine; decide), fun r' hr2 => k1 a b g as ks os r' r _ (sT (sT s1 s2) (sN hr2)) (by
        obtain ⟨u, as', h1, h2, h3⟩ := e1
        exact ⟨u, as', sN hr2 _ _ h1, sN hr2 _ _ h2, pr_same (sN hr2) h3⟩) upd_same⟩
def spJd : Sp := fun vs H Q _ => ∃ v : V, vs = [v] ∧ Kn H 6 v ∧ PlIn H v ∧ ∀ H', Same H H' → Q (.bl true) H'
theorem tups_eq {H H' : Hp} (s : Same H H') {n : Nat} {v : V} (h : Kn H n v) : prOf H' v = prOf H v := by
  unfold prOf
  rw [tups_same s h]
theorem all_eq {α : Type} {f g : α → Bool} : ∀ {xs : List α}, (∀ x ∈ xs, f x = g x) → xs.all f = xs.all g
  | [], _ => rfl
  | x :: xs, h => by rw [List.all_cons, List.all_cons, h x List.mem_cons_self, all_eq fun y hy => h y (List.mem_cons_of_mem _ hy)]
theorem ths_same {H H' : Hp} (s : Same H H') {y : V} (h : Kn H 5 y) : thsB H' 4 y = thsB H 4 y := by
  unfold thsB
  rw [tups_same s h]
  rcases h.cases with f | ⟨n', b, ps, e, rfl, rb, few, kp⟩
  · rw [f.tups]
  · cases e
    rw [tupsOf_rd rb]
    exact all_eq fun x hx => th_same s (kp x hx)
theorem out_same {H H' : Hp} (s : Same H H') {v : V} (h : Kn H 6 v) : outB H' v = outB H v := by
  unfold outB
  rw [tups_eq s h]
  rcases h.pair with ⟨ep, _⟩ | ⟨a, x, y, rfl, r, kx, ky, ep, _⟩
  · rw [ep]
  · rw [ep]
    show (numB 4294967296 x && thsB H' 4 y) = (numB 4294967296 x && thsB H 4 y)
    rw [ths_same s ky]
theorem pgo_same {H H' : Hp} (s : Same H H') {g last : Int} {p : V} (h : Kn H 4 p) : pgoB H' g last p = pgoB H g last p ∧ pgoN H' p = pgoN H p := by
  unfold pgoB pgoN
  rw [tups_eq s h]
  rcases h.pair with ⟨ep, _⟩ | ⟨a, x, w, rfl, r, kx, kw, ep, _⟩
  · rw [ep]
    exact ⟨rfl, rfl⟩
  · rw [ep]
    refine ⟨?_, rfl⟩
    show (intB x && (thB H' 3 w && _)) = (intB x && (thB H 3 w && _))
    rw [th_same s kw]
theorem go_same {H H' : Hp} (s : Same H H') {g : Int} : ∀ {ps : List V} {last : Int}, (∀ p ∈ ps, Kn H 4 p) → inGo H' g last ps = inGo H g last ps
  | [], _, _ => rfl
  | p :: r, last, h => by
    obtain ⟨e1, e2⟩ := pgo_same s (g := g) (last := last) (h p List.mem_cons_self)
    show (pgoB H' g last p && inGo H' g (pgoN H' p) r) = (pgoB H g last p && inGo H g (pgoN H p) r)
    rw [e1, e2, go_same s fun q hq => h q (List.mem_cons_of_mem _ hq)]
theorem in_same {H H' : Hp} (s : Same H H') {v : V} (h : Kn H 6 v) : inB H' v = inB H v := by
  unfold inB
  rw [tups_eq s h]
  rcases h.pair with ⟨ep, _⟩ | ⟨a, x, y, rfl, r, kx, ky, ep, _⟩
  · rw [ep]
  · rw [ep]
    show (numB 4294967296 x && insB H' (intOf x) y) = (numB 4294967296 x && insB H (intOf x) y)
    unfold insB
    rw [tups_same s ky]
    rcases ky.cases with f | ⟨n', b, ps, e, rfl, rb, few, kp⟩
    · rw [f.tups]
    · cases e
      rw [tupsOf_rd rb]
      show (_ && inGo H' _ _ ps) = (_ && inGo H _ _ ps)
      rw [go_same s kp]
theorem rd_un {H : Hp} {a : Addr} {xs ys : List V} (h : Rd H a (.tup xs)) (g : Rd H a (.tup ys)) : xs = ys := by
  have := rdX h
  rw [rdX g] at this
  exact (Option.some.inj this).symm
/-- tuples are what they were -/
theorem rd_back {H H' : Hp} (s : Same H H') {n : Nat} {a : Addr} {xs : List V} (k : Kn H n (.ref a)) (h : Rd H' a (.tup xs)) : Rd H a (.tup xs) := by
  rcases k.cases with f | ⟨n', b, ys, e, e2, r, few, _⟩
  · have := (f.same s).tx
    rw [rdX h] at this
    cases this
  · cases e2
    rw [rd_un h (rdS r s)]
    exact r
theorem PlIn.same {H H' : Hp} {v : V} (h : PlIn H v) (k : Kn H 6 v) (s : Same H H') : PlIn H' v := fun a b x xs e ra rb ib => by
  subst e
  rw [in_same s k] at ib
  have ra' := rd_back s k ra
  rcases k.cases with f | ⟨n', c, ys, e1, e2, r, few, kx⟩
  · have := f.tx
    rw [rdX ra'] at this
    cases this
  · cases e2
    cases e1
    obtain rfl := rd_un ra' r
    have rb' := rd_back s (kx (.ref b) (by simp)) rb
    obtain ⟨o, h1, h2⟩ := h a b x xs rfl ra' rb' ib
    exact ⟨o, s _ _ h1, h2⟩
theorem scJd : FnScope ["thing", "due"] ["thing"] (defScope sJd) := ⟨rfl, rfl, rfl, by decide +kernel, rfl, by decide +kernel, by decide +kernel⟩
theorem ok_jd {CO CN CS f fLO fLI fW fI fT fS fOT fIT : Addr} {fd dLO dLI dW dI dT dS dOT dIT : FuncData} (S : StD P K mg CO CN CS) (D : Df K mg "_law_judged" sJd ["thing"] f fd) (DLO : Df K mg "_law_is_out" sLIO ["thing"] fLO dLO) (DLI : Df K mg "_law_is_in" sLII ["thing"] fLI dLI) (DW : Df K mg "_law_is_within" sLWin ["thing", "least", "most"] fW dW) (DI : Df K mg "_law_is_integer" sLInt ["thing"] fI dI) (DT : Df K mg "_law_is_thing" sLIT ["thing"] fT dT) (DS : Df K mg "_law_same" sSameG ["actual", "due"] fS dS) (DOT : Df K mg "_law_out_told" sOT ["thing"] fOT dOT) (DIT : Df K mg "_law_in_told" sIT ["thing"] fIT dIT) : FnOk P w K mg base CX0 10 f fd ["thing"] spJd := by
  have GLO : FnOk P w K mg base CX0 6 fLO dLO ["thing"] (spJ outB) := ok_lio DLO S.B DW DI DT
  have GLI : FnOk P w K mg base CX0 6 fLI dLI ["thing"] (spJ inB) := ok_lii DLI S.B DW DI DT
  have GOT : FnOk P w K mg base CX0 5 fOT dOT ["thing"] (spOT CO) := ok_ot S DOT
  have GIT : FnOk P w K mg base CX0 5 fIT dIT ["thing"] (spIT CN) := ok_it S DIT
  have GS : FnOk P w K mg base CX0 9 fS dS ["actual", "due"] (spSameR 8) := ok_sameR DS S.B DI 8
  refine D.F.ok scJd (fun vs H Q E h => ?_) (fun cdv A outer s H vs Q E hr h => ?_)
  · obtain ⟨v, rfl, _⟩ := h
    rfl
  · obtain ⟨v, rfl, kn, pl, k⟩ := h
    have nd := scJd.nd
    have hr6 : Room 6 _ := hr.mono (by decide)
    have hr5 : Room 5 _ := hr.mono (by decide)
    refine ⟨_, pss_cons (ps_set (i := 1) nd rfl (.inl rfl) (pe_tup (pa_cons pe_str pa_nil)))
        (C8.pss_cut (ps_if (pt_val (pe_call GLO hr6 rfl DLO.m DLO.k DLO.b .nil pass0 (pa_cons (pv 0) pa_nil))) (pss_one (ps_set (i := 1) nd rfl (.inl rfl) (pe_tup (pa_cons pe_str (pa_cons (pv 0) pa_nil))))) pss_nil)
        (C8.pss_cut (ps_if (pt_not (pt_val (pe_call GS hr rfl DS.m DS.k DS.b .nil pass0 (pa_cons (pe_call GOT hr5 rfl DOT.m DOT.k DOT.b .nil pass0 (pa_cons (pv 0) pa_nil)) (pa_cons (pv 1) pa_nil))))) (pss_one (ps_ret pe_bl)) pss_nil)
        (pss_cons (ps_set (i := 1) nd rfl (.inl rfl) (pe_tup (pa_cons pe_str pa_nil)))
        (C8.pss_cut (ps_if (pt_val (pe_call GLI hr6 rfl DLI.m DLI.k DLI.b .nil pass0 (pa_cons (pv 0) pa_nil))) (pss_one (ps_set (i := 1) nd rfl (.inl rfl) (pe_tup (pa_cons pe_str (pa_cons (pv 0) pa_nil))))) pss_nil)
        (pss_one (ps_ret (pe_call GS hr rfl DS.m DS.k DS.b .nil pass0 (pa_cons (pe_call GIT hr5 rfl DIT.m DIT.k DIT.b .nil pass0 (pa_cons (pv 0) pa_nil)) (pa_cons (pv 1) pa_nil))))))))), ?_⟩
    refine ⟨(by show 1 ≤ sizeLine; decide), fun d0 n0 => ?_⟩
    have s1 := sN (o := .tup [.str "NoState"]) n0
    refine ⟨fun σ H' => ∃ d, σ = [some v, some (.ref d)] ∧ Same H H' ∧ ((outB H v = true ∧ H' d = some (.tup [.str "told", v])) ∨ (outB H v = false ∧ H' d = some (.tup [.str "NoState"]))), ?_, ?_⟩
    · refine ⟨_, rfl, v, rfl, kn.same s1, fun H2 s2 => ⟨_, rfl, ?_⟩⟩
      rw [out_same s1 kn]
      cases eb : outB H v with
      | true => exact iteT ⟨_, rfl, (by show 2 ≤ sizeLine; decide), fun d1 n1 => ⟨d1, rfl, sT (sT s1 s2) (sN n1), .inl ⟨rfl, upd_same⟩⟩⟩
      | false => exact iteF ⟨d0, rfl, sT s1 s2, .inr ⟨rfl, s2 _ _ upd_same⟩⟩
    rintro σ H2 ⟨d, rfl, s2, dd⟩
    refine ⟨fun σ H' => ∃ d, σ = [some v, some (.ref d)] ∧ Same H H', ?_, ?_⟩
    · refine ⟨_, rfl, v, rfl, kn.same s2, fun eb r H3 s3 er => ?_, fun a b kt ps os r u H3 s3 ot er => ?_⟩
      · rw [out_same s2 kn] at eb
        rcases dd with ⟨e1, _⟩ | ⟨_, ed⟩
        · rw [eb] at e1
          cases e1
        · exact ⟨_, rfl, _, _, rfl, smr_tup (.inl er) (.inl (s3 _ _ ed)) ⟨smr_s _, trivial⟩, fun H4 s4 => ⟨_, rfl, iteF ⟨d, rfl, sT s2 (sT s3 s4)⟩⟩⟩
      · have eb := os.b
        rw [out_same s2 kn] at eb
        rcases dd with ⟨_, ed⟩ | ⟨e1, _⟩
        · have o3 := os.same s3
          obtain rfl := os.e
          exact ⟨_, rfl, _, _, rfl, smr_tup (.inl er) (.inl (s3 _ _ ed)) ⟨smr_s _, sm_out ot o3.ra o3.rb o3.kn, trivial⟩, fun H4 s4 => ⟨_, rfl, iteF ⟨d, rfl, sT s2 (sT s3 s4)⟩⟩⟩
        · rw [eb] at e1
          cases e1
    clear dd d s2 H2 s1 n0 d0
    rintro σ H2 ⟨d, rfl, s2⟩
    refine ⟨(by show 1 ≤ sizeLine; decide), fun d0 n0 => ?_⟩
    have s1 := sT s2 (sN (o := .tup [.str "NoState"]) n0)
    refine ⟨fun σ H' => ∃ d, σ = [some v, some (.ref d)] ∧ Same H H' ∧ ((inB H v = true ∧ H' d = some (.tup [.str "told", v])) ∨ (inB H v = false ∧ H' d = some (.tup [.str "NoState"]))), ?_, ?_⟩
    · refine ⟨_, rfl, v, rfl, kn.same s1, fun H2 s2 => ⟨_, rfl, ?_⟩⟩
      rw [in_same s1 kn]
      cases eb : inB H v with
      | true => exact iteT ⟨_, rfl, (by show 2 ≤ sizeLine; decide), fun d1 n1 => ⟨d1, rfl, sT (sT s1 s2) (sN n1), .inl ⟨rfl, upd_same⟩⟩⟩
      | false => exact iteF ⟨d0, rfl, sT s1 s2, .inr ⟨rfl, s2 _ _ upd_same⟩⟩
    clear s1 n0 d0 s2 H2 d
    rintro σ H2 ⟨d, rfl, s2, dd⟩
    refine ⟨_, rfl, v, rfl, kn.same s2, pl.same kn s2, fun eb r H3 s3 er => ?_, fun a b kt as ks os r u H3 s3 ot er => ?_⟩
    · rw [in_same s2 kn] at eb
      rcases dd with ⟨e1, _⟩ | ⟨_, ed⟩
      · rw [eb] at e1
        cases e1
      · exact ⟨_, rfl, _, _, rfl, smr_tup (.inl er) (.inl (s3 _ _ ed)) ⟨smr_s _, trivial⟩, fun H4 s4 => k _ (sT s2 (sT s3 s4))⟩
    · have eb := os.b'
      rw [in_same s2 kn] at eb
      rcases dd with ⟨_, ed⟩ | ⟨e1, _⟩
      · have o3 := os.same s3
        obtain rfl := os.e
        exact ⟨_, rfl, _, _, rfl, smr_tup (.inl er) (.inl (s3 _ _ ed)) ⟨smr_s _, sm_in ot o3.ra o3.rb o3.pr fun p hp => ⟨(o3.kn p hp).1, (o3.kn p hp).2.1⟩, trivial⟩, fun H4 s4 => k _ (sT s2 (sT s3 s4))⟩
      · rw [eb] at e1
        cases e1
end
end Q

namespace Q
open PySem L2 QR LE TDp
abbrev sST : Stmt := top 34
abbrev sOSt : Stmt := top 35
abbrev sISt : Stmt := top 36
/-- all stands, but lists may be others -/
def Gw (H H' : Hp) : Prop := ∀ b o, H b = some o → H' b = some o ∨ ((∃ xs, o = .lst xs) ∧ ∃ ys, H' b = some (.lst ys))
theorem Gw.of {H H' : Hp} (s : Same H H') : Gw H H' := fun b o e => .inl (s b o e)
theorem Gw.tr {H H1 H2 : Hp} (g : Gw H H1) (k : Gw H1 H2) : Gw H H2 := fun b o e => by
  rcases g b o e with h | ⟨⟨xs, rfl⟩, ys, h⟩
  · exact k b o h
  · rcases k b _ h with h2 | ⟨_, zs, h2⟩
    · exact .inr ⟨⟨xs, rfl⟩, ys, h2⟩
    · exact .inr ⟨⟨xs, rfl⟩, zs, h2⟩
theorem Gw.hand {H H' : Hp} {p l : Addr} (g : HandAt H p l) (g' : HandAt H' p l) (x : XtP p H H') : Gw H H' := fun b o e => by
  by_cases c : b = p
  · subst c
    obtain ⟨⟨ps, hp⟩, _⟩ := g.pl
    obtain ⟨⟨qs, hq⟩, _⟩ := g'.pl
    rw [hp] at e
    cases e
    exact .inr ⟨⟨_, rfl⟩, _, hq⟩
  · exact .inl (x b o e c)
theorem Gw.put {H : Hp} {F : Addr} {xs ys : List V} (e : H F = some (.lst xs)) : Gw H (upd H F (.lst ys)) := fun b o q => by
  by_cases c : b = F
  · subst c
    rw [e] at q
    cases q
    exact .inr ⟨⟨_, rfl⟩, _, upd_same⟩
  · exact .inl (by rw [upd_ne c]; exact q)
theorem rdG {H H' : Hp} {a : Addr} {xs : List V} (g : Gw H H') (h : Rd H a (.tup xs)) : Rd H' a (.tup xs) := by
  rcases h with h | ⟨o, h⟩
  · rcases g a _ h with h2 | ⟨⟨_, h2⟩, _⟩
    · exact .inl h2
    · cases h2
  · rcases g a _ h with h2 | ⟨⟨_, h2⟩, _⟩
    · exact .inr ⟨o, h2⟩
    · cases h2
theorem plG {H H' : Hp} {a : Addr} {xs : List V} (g : Gw H H') (h : PlT H a xs) : PlT H' a xs := by
  obtain ⟨o, h, e⟩ := h
  rcases g a _ h with h2 | ⟨⟨_, h2⟩, _⟩
  · exact ⟨o, h2, e⟩
  · cases h2
theorem KnF.gw {H H' : Hp} {v : V} (g : Gw H H') (h : KnF H v) : KnF H' v := by
  rcases h with h | h | ⟨a, e, ⟨xs, h⟩ | h⟩
  · exact .inl h
  · exact .inr (.inl h)
  · rcases g a _ h with h2 | ⟨_, ys, h2⟩
    · exact .inr (.inr ⟨a, e, .inl ⟨xs, h2⟩⟩)
    · exact .inr (.inr ⟨a, e, .inl ⟨ys, h2⟩⟩)
  · rcases g a _ h with h2 | ⟨⟨_, h2⟩, _⟩
    · exact .inr (.inr ⟨a, e, .inr h2⟩)
    · cases h2
theorem Kn.gw {H H' : Hp} (g : Gw H H') : ∀ {n : Nat} {v : V}, Kn H n v → Kn H' n v
  | 0, v, h => KnF.gw g h
  | n + 1, v, h => by
    rcases h with h | ⟨a, xs, e, h1, h2, h3⟩
    · exact .inl (h.gw g)
    · exact .inr ⟨a, xs, e, rdG g h1, h2, fun x hx => (h3 x hx).gw g⟩
theorem pt_gw {H H' : Hp} (g : Gw H H') : ∀ {n : Nat} {v : V}, Kn H n v → ptB H' n v = ptB H n v
  | 0, v, h => rfl
  | n + 1, v, h => by
    rcases h with h | ⟨a, xs, e, h1, h2, h3⟩
    · rw [h.pt, (h.gw g).pt]
    · subst e
      rw [pt_tup h1, pt_tup (rdG g h1)]
      exact all_eq fun x hx => pt_gw g (h3 x hx)
theorem th_gw {H H' : Hp} (g : Gw H H') {n : Nat} {v : V} (h : Kn H n v) : thB H' n v = thB H n v := by
  unfold thB
  rw [pt_gw g h]
/-- a good part of nesting n -/
def Gd (H : Hp) (n : Nat) (v : V) : Prop := Kn H n v ∧ ptB H n v = true
theorem gd_sc {H : Hp} {n : Nat} {v : V} (h : Sc v) : Gd H n v := by
  refine ⟨Kn.flat (.inl h), ?_⟩
  rw [(show KnF H v from .inl h).pt]
  rcases h with rfl | ⟨_, rfl⟩ | ⟨_, rfl⟩ <;> rfl
theorem gd_st {H : Hp} {n : Nat} (z : Str) : Gd H n (.str z) := ⟨Kn.flat (.inr (.inl ⟨z, rfl⟩)), by rw [(show KnF H (.str z) from .inr (.inl ⟨z, rfl⟩)).pt]; rfl⟩
theorem gd_i {H : Hp} {n : Nat} (i : Int) : Gd H n (.int i) := gd_sc (.inr (.inr ⟨i, rfl⟩))
theorem gd_b {H : Hp} {n : Nat} (b : Bool) : Gd H n (.bl b) := gd_sc (.inr (.inl ⟨b, rfl⟩))
theorem gd_n {H : Hp} {n : Nat} : Gd H n .non := gd_sc (.inl rfl)
theorem gd_tup {H : Hp} {n : Nat} {a : Addr} {xs : List V} (h : Rd H a (.tup xs)) (few : xs.length ≤ 9) (k : ∀ x ∈ xs, Gd H n x) : Gd H (n + 1) (.ref a) :=
  ⟨.inr ⟨a, xs, rfl, h, few, fun x hx => (k x hx).1⟩, by rw [pt_tup h]; exact List.all_eq_true.mpr fun x hx => (k x hx).2⟩
theorem gd_t0 {H : Hp} {n : Nat} {a : Addr} (h : H a = some (.tup [])) : Gd H (n + 1) (.ref a) := gd_tup (.inl h) (by decide) fun x hx => by simp at hx
theorem gd_t1 {H : Hp} {n : Nat} {a : Addr} {x : V} (h : H a = some (.tup [x])) (k : Gd H n x) : Gd H (n + 1) (.ref a) := gd_tup (.inl h) (by show 1 ≤ 9; decide) fun y hy => by rw [List.mem_singleton.mp hy]; exact k
theorem gd_t2 {H : Hp} {n : Nat} {a : Addr} {x y : V} (h : H a = some (.tup [x, y])) (k : Gd H n x) (j : Gd H n y) : Gd H (n + 1) (.ref a) := gd_tup (.inl h) (by show 2 ≤ 9; decide) fun z hz => by
  simp only [List.mem_cons, List.not_mem_nil, or_false] at hz
  rcases hz with rfl | rfl
  · exact k
  · exact j
theorem Gd.gw {H H' : Hp} {n : Nat} {v : V} (h : Gd H n v) (g : Gw H H') : Gd H' n v := ⟨h.1.gw g, by rw [pt_gw g h.1]; exact h.2⟩
/-- a good thing -/
def GdT (H : Hp) (n : Nat) (v : V) : Prop := Kn H n v ∧ thB H n v = true
theorem Gd.t {H : Hp} {n : Nat} {a : Addr} (h : Gd H n (.ref a)) : GdT H n (.ref a) := ⟨h.1, h.2⟩
theorem GdT.gw {H H' : Hp} {n : Nat} {v : V} (h : GdT H n v) (g : Gw H H') : GdT H' n v := ⟨h.1.gw g, by rw [th_gw g h.1]; exact h.2⟩
theorem pt_up {H : Hp} : ∀ {n : Nat} {v : V}, Kn H n v → ptB H (n + 1) v = ptB H n v
  | 0, v, h => by rw [(show KnF H v from h).pt, (show KnF H v from h).pt]
  | n + 1, v, h => by
    rcases h with h | ⟨a, xs, e, h1, h2, h3⟩
    · rw [h.pt, h.pt]
    · subst e
      rw [pt_tup h1, pt_tup h1]
      exact all_eq fun x hx => pt_up (h3 x hx)
theorem GdT.up {H : Hp} {n : Nat} {v : V} (h : GdT H n v) : GdT H (n + 1) v := ⟨h.1.up, by unfold thB; rw [pt_up h.1]; exact h.2⟩
theorem pr_gw {H H' : Hp} (g : Gw H H') {as : List Addr} {ks : List (Int × V)} (h : PrR H as ks) : PrR H' as ks := pr_map (fun r => rdG g r) h
theorem OutS.gw {H H' : Hp} {v : V} {a b : Addr} {kt : Nat} {ps : List V} (h : OutS H v a b kt ps) (g : Gw H H') : OutS H' v a b kt ps :=
  ⟨h.e, rdG g h.ra, rdG g h.rb, h.few, fun p hp => GdT.gw (h.kn p hp) g, h.lt⟩
theorem InS.gw {H H' : Hp} {v : V} {a b : Addr} {t : Nat} {as : List Addr} {ks : List (Int × V)} (h : InS H v a b t as ks) (g : Gw H H') : InS H' v a b t as ks :=
  ⟨h.e, rdG g h.ra, rdG g h.rb, pr_gw g h.pr, h.asc, fun p hp => ⟨(h.kn p hp).1.gw g, by rw [th_gw g (h.kn p hp).1]; exact (h.kn p hp).2.1, (h.kn p hp).2.2⟩, h.lt, h.few⟩
theorem plin_of {H : Hp} {a b : Addr} {x : V} {xs : List V} (r : Rd H a (.tup [x, .ref b])) (pl : PlT H b xs) : PlIn H (.ref a) := fun a' b' x' xs' e ra rb _ => by
  cases e
  have := rd_un ra r
  cases this
  rw [rd_un rb pl.rd]
  exact pl
theorem OutS.k {H : Hp} {v : V} {a b : Addr} {kt : Nat} {ps : List V} (h : OutS H v a b kt ps) : Kn H 6 v := by
  rw [h.e]
  refine .inr ⟨a, _, rfl, h.ra, (by show 2 ≤ 9; decide), fun x hx => ?_⟩
  simp only [List.mem_cons, List.not_mem_nil, or_false] at hx
  rcases hx with rfl | rfl
  · exact (gd_i _).1
  · exact .inr ⟨b, _, rfl, h.rb, h.few, fun p hp => (h.kn p hp).1⟩
theorem pr_mem {H : Hp} : ∀ {as : List Addr} {ks : List (Int × V)}, PrR H as ks → ∀ x ∈ as.map V.ref, ∃ a p, x = .ref a ∧ p ∈ ks ∧ Rd H a (.tup [.int p.1, p.2])
  | _, _, .nil, x, hx => by simp at hx
  | _, _, .cons (a := a) (b := p) r t, x, hx => by
    rw [List.map_cons] at hx
    rcases List.mem_cons.mp hx with rfl | hx
    · exact ⟨a, p, rfl, List.mem_cons_self, r⟩
    · obtain ⟨a', p', h1, h2, h3⟩ := pr_mem t x hx
      exact ⟨a', p', h1, List.mem_cons_of_mem _ h2, h3⟩
theorem InS.k {H : Hp} {v : V} {a b : Addr} {t : Nat} {as : List Addr} {ks : List (Int × V)} (h : InS H v a b t as ks) : Kn H 6 v := by
  rw [h.e]
  refine .inr ⟨a, _, rfl, h.ra, (by show 2 ≤ 9; decide), fun x hx => ?_⟩
  simp only [List.mem_cons, List.not_mem_nil, or_false] at hx
  rcases hx with rfl | rfl
  · exact (gd_i _).1
  · refine .inr ⟨b, _, rfl, h.rb, by rw [List.length_map]; exact h.few, fun y hy => ?_⟩
    obtain ⟨c, q, rfl, hq, rc⟩ := pr_mem h.pr y hy
    refine .inr ⟨c, _, rfl, rc, (by show 2 ≤ 9; decide), fun z hz => ?_⟩
    simp only [List.mem_cons, List.not_mem_nil, or_false] at hz
    rcases hz with rfl | rfl
    · exact (gd_i _).1
    · exact (h.kn q hq).1
theorem asc_push : ∀ {ks : List (Int × V)} {g j : Int} {w : V}, Asc g ks → g < j → (∀ p ∈ ks, p.1 < j) → Asc g (ks ++ [(j, w)])
  | [], g, j, w, _, h, _ => ⟨h, trivial⟩
  | p :: r, g, j, w, a, h, k => ⟨a.1, asc_push a.2 (k p List.mem_cons_self) fun q hq => k q (List.mem_cons_of_mem _ hq)⟩
theorem pick_g {d : Int} (h0 : 0 ≤ d) (h1 : d < 40) {v : V} (hv : v ∈ [V.int 0, .int d, .int (2 ^ (32 : Int).toNat - 1), .int (10 ^ (9 : Int).toNat)]) : ∃ g : Nat, v = .int (g : Int) ∧ g < 4294967296 := by
  simp only [List.mem_cons, List.not_mem_nil, or_false] at hv
  rcases hv with h | h | h | h
  · exact ⟨0, h, by decide⟩
  · exact ⟨d.toNat, by rw [Int.toNat_of_nonneg h0]; exact h, by omega⟩
  · exact ⟨4294967295, h.trans (by decide), by decide⟩
  · exact ⟨1000000000, h.trans (by decide), by decide⟩
theorem pick_n {d : Int} (h0 : 0 ≤ d) (h1 : d < 300) {v : V} (hv : v ∈ [V.int 0, .int 0, .int 1, .int d, .int 900]) : ∃ g : Int, v = .int g ∧ 0 ≤ g := by
  simp only [List.mem_cons, List.not_mem_nil, or_false] at hv
  rcases hv with h | h | h | h | h
  · exact ⟨_, h, by decide⟩
  · exact ⟨_, h, by decide⟩
  · exact ⟨_, h, by decide⟩
  · exact ⟨_, h, h0⟩
  · exact ⟨_, h, by decide⟩
/-- a short tuple -/
def Shp (H : Hp) (v : V) : Prop := ∃ c ys, v = .ref c ∧ Rd H c (.tup ys) ∧ ys.length ≤ 3
theorem Shp.gw {H H' : Hp} {v : V} (h : Shp H v) (g : Gw H H') : Shp H' v := by
  obtain ⟨c, ys, e, r, n⟩ := h
  exact ⟨c, ys, e, rdG g r, n⟩
def spST : Sp := fun vs H Q _ => ∃ (p l : Addr), vs = [.ref p] ∧ HandAt H p l ∧ ∀ v H', HandAt H' p l → XtP p H H' → GdT H' 3 v → Shp H' v → Q v H'
def spOSt : Sp := fun vs H Q _ => ∃ (p l : Addr), vs = [.ref p] ∧ HandAt H p l ∧ ∀ a b kt ps H', HandAt H' p l → XtP p H H' → OutS H' (.ref a) a b kt ps → PlT H' b ps → ps.length ≤ 4 → (∀ x ∈ ps, Shp H' x) → Q (.ref a) H'
def spISt : Sp := fun vs H Q _ => ∃ (p l : Addr), vs = [.ref p] ∧ HandAt H p l ∧ ∀ a b g as ks H', HandAt H' p l → XtP p H H' → InS H' (.ref a) a b g as ks → PlT H' b (as.map V.ref) → as.length ≤ 4 → Q (.ref a) H'
section
variable {P : Program} {w : World} {K : PySem.W.Frag} {mg : Str → Option Value} {base : Heap}
theorem HandAt.off {H : Hp} {p l D : Addr} {o : HO} (h : HandAt H p l) (n1 : D ≠ p) (n2 : D ≠ l) : HandAt (upd H D o) p l := by
  obtain ⟨ns, j, r, t, c, hx⟩ := h
  exact ⟨ns, j, r, t, c, by rw [upd_ne n1.symm]; exact hx.at_, by rw [upd_ne n2.symm]; exact hx.lst, hx.len, hx.r0, hx.s0, hx.s1⟩
theorem scST : FnScope ["hand"] ["hand"] (defScope sST) := ⟨rfl, rfl, rfl, by decide +kernel, rfl, by decide +kernel, by decide +kernel⟩
theorem scOSt : FnScope ["hand", "gone", "k"] ["hand"] (defScope sOSt) := ⟨rfl, rfl, rfl, by decide +kernel, rfl, by decide +kernel, by decide +kernel⟩
theorem scISt : FnScope ["hand", "taken", "found", "number", "k"] ["hand"] (defScope sISt) := ⟨rfl, rfl, rfl, by decide +kernel, rfl, by decide +kernel, by decide +kernel⟩
theorem ok_st {f fP fT : Addr} {fd dP dT : FuncData} (D : Df K mg "_law_some_thing" sST ["hand"] f fd) (B : Bts mg) (DPk : Df K mg "_law_pick" sPick ["hand", "things"] fP dP) (DT : Df K mg "_law_take" sTake ["hand", "many"] fT dT) : FnOk P w K mg base CX0 3 f fd ["hand"] spST := by
  have GP : FnOk P w K mg base CX0 2 fP dP ["hand", "things"] spPickL := ok_pickL DPk B DT
  refine D.F.ok scST (fun vs H Q E h => ?_) (fun cdv A outer s H vs Q E hr h => ?_)
  · obtain ⟨p, l, rfl, _⟩ := h
    rfl
  · obtain ⟨p, l, rfl, g, k⟩ := h
    have nd := scST.nd
    refine ⟨_, pss_one (ps_ret (pe_call GP hr rfl DPk.m DPk.k DPk.b .nil pass0 (pa_cons (pv 0) (pa_cons (pe_lst (pa_cons (pe_tup pa_nil) (pa_cons (pe_tup (pa_cons pe_int pa_nil)) (pa_cons (pe_tup (pa_cons pe_str (pa_cons pe_non pa_nil))) (pa_cons (pe_tup (pa_cons pe_bl (pa_cons (pe_tup (pa_cons pe_int (pa_cons (pe_tup pa_nil) pa_nil))) pa_nil))) (pa_cons (pe_tup (pa_cons (pe_tup (pa_cons pe_str pa_nil)) (pa_cons pe_str pa_nil))) (pa_cons (pe_tup (pa_cons (pe_un un_neg pe_int) (pa_cons pe_bl pa_nil))) pa_nil))))))) pa_nil)))), ?_⟩
    refine ⟨_, rfl, ?_⟩
    refine ⟨Nat.zero_le _, fun a1 n1 => ?_⟩
    have t1 := sN (o := .tup []) n1
    have e1 : (upd H a1 (.tup [])) a1 = some (.tup []) := upd_same
    have S1 := t1
    clear t1
    revert e1 S1
    generalize (upd H a1 (.tup [])) = Hl1
    intro e1 S1
    refine ⟨(by show 1 ≤ sizeLine; decide), fun a2 n2 => ?_⟩
    have t2 := sN (o := .tup [.int 1]) n2
    have e1 := t2 _ _ e1
    have e2 : (upd Hl1 a2 (.tup [.int 1])) a2 = some (.tup [.int 1]) := upd_same
    have S2 := sT S1 t2
    clear t2
    revert e1 e2 S2
    generalize (upd Hl1 a2 (.tup [.int 1])) = Hl2
    intro e1 e2 S2
    refine ⟨(by show 2 ≤ sizeLine; decide), fun a3 n3 => ?_⟩
    have t3 := sN (o := .tup [.str "a", .non]) n3
    have e1 := t3 _ _ e1
    have e2 := t3 _ _ e2
    have e3 : (upd Hl2 a3 (.tup [.str "a", .non])) a3 = some (.tup [.str "a", .non]) := upd_same
    have S3 := sT S2 t3
    clear t3
    revert e1 e2 e3 S3
    generalize (upd Hl2 a3 (.tup [.str "a", .non])) = Hl3
    intro e1 e2 e3 S3
    refine ⟨Nat.zero_le _, fun a4 n4 => ?_⟩
    have t4 := sN (o := .tup []) n4
    have e1 := t4 _ _ e1
    have e2 := t4 _ _ e2
    have e3 := t4 _ _ e3
    have e4 : (upd Hl3 a4 (.tup [])) a4 = some (.tup []) := upd_same
    have S4 := sT S3 t4
    clear t4
    revert e1 e2 e3 e4 S4
    generalize (upd Hl3 a4 (.tup [])) = Hl4
    intro e1 e2 e3 e4 S4
    refine ⟨(by show 2 ≤ sizeLine; decide), fun a5 n5 => ?_⟩
    have t5 := sN (o := .tup [.int 2, .ref a4]) n5
    have e1 := t5 _ _ e1
    have e2 := t5 _ _ e2
    have e3 := t5 _ _ e3
    have e4 := t5 _ _ e4
    have e5 : (upd Hl4 a5 (.tup [.int 2, .ref a4])) a5 = some (.tup [.int 2, .ref a4]) := upd_same
    have S5 := sT S4 t5
    clear t5
    revert e1 e2 e3 e4 e5 S5
    generalize (upd Hl4 a5 (.tup [.int 2, .ref a4])) = Hl5
    intro e1 e2 e3 e4 e5 S5
    refine ⟨(by show 2 ≤ sizeLine; decide), fun a6 n6 => ?_⟩
    have t6 := sN (o := .tup [.bl true, .ref a5]) n6
    have e1 := t6 _ _ e1
    have e2 := t6 _ _ e2
    have e3 := t6 _ _ e3
    have e4 := t6 _ _ e4
    have e5 := t6 _ _ e5
    have e6 : (upd Hl5 a6 (.tup [.bl true, .ref a5])) a6 = some (.tup [.bl true, .ref a5]) := upd_same
    have S6 := sT S5 t6
    clear t6
    revert e1 e2 e3 e4 e5 e6 S6
    generalize (upd Hl5 a6 (.tup [.bl true, .ref a5])) = Hl6
    intro e1 e2 e3 e4 e5 e6 S6
    refine ⟨(by show 1 ≤ sizeLine; decide), fun a7 n7 => ?_⟩
    have t7 := sN (o := .tup [.str "b"]) n7
    have e1 := t7 _ _ e1
    have e2 := t7 _ _ e2
    have e3 := t7 _ _ e3
    have e4 := t7 _ _ e4
    have e5 := t7 _ _ e5
    have e6 := t7 _ _ e6
    have e7 : (upd Hl6 a7 (.tup [.str "b"])) a7 = some (.tup [.str "b"]) := upd_same
    have S7 := sT S6 t7
    clear t7
    revert e1 e2 e3 e4 e5 e6 e7 S7
    generalize (upd Hl6 a7 (.tup [.str "b"])) = Hl7
    intro e1 e2 e3 e4 e5 e6 e7 S7
    refine ⟨(by show 2 ≤ sizeLine; decide), fun a8 n8 => ?_⟩
    have t8 := sN (o := .tup [.ref a7, .str "c"]) n8
    have e1 := t8 _ _ e1
    have e2 := t8 _ _ e2
    have e3 := t8 _ _ e3
    have e4 := t8 _ _ e4
    have e5 := t8 _ _ e5
    have e6 := t8 _ _ e6
    have e7 := t8 _ _ e7
    have e8 : (upd Hl7 a8 (.tup [.ref a7, .str "c"])) a8 = some (.tup [.ref a7, .str "c"]) := upd_same
    have S8 := sT S7 t8
    clear t8
    revert e1 e2 e3 e4 e5 e6 e7 e8 S8
    generalize (upd Hl7 a8 (.tup [.ref a7, .str "c"])) = Hl8
    intro e1 e2 e3 e4 e5 e6 e7 e8 S8
    refine ⟨_, rfl, (by show 2 ≤ sizeLine; decide), fun a9 n9 => ?_⟩
    have t9 := sN (o := .tup [.int (-5), .bl false]) n9
    have e1 := t9 _ _ e1
    have e2 := t9 _ _ e2
    have e3 := t9 _ _ e3
    have e4 := t9 _ _ e4
    have e5 := t9 _ _ e5
    have e6 := t9 _ _ e6
    have e7 := t9 _ _ e7
    have e8 := t9 _ _ e8
    have e9 : (upd Hl8 a9 (.tup [.int (-5), .bl false])) a9 = some (.tup [.int (-5), .bl false]) := upd_same
    have S9 := sT S8 t9
    clear t9
    revert e1 e2 e3 e4 e5 e6 e7 e8 e9 S9
    generalize (upd Hl8 a9 (.tup [.int (-5), .bl false])) = Hl9
    intro e1 e2 e3 e4 e5 e6 e7 e8 e9 S9
    refine ⟨(by show 6 ≤ sizeLine; decide), fun a10 n10 => ?_⟩
    have t10 := sN (o := .lst [.ref a1, .ref a2, .ref a3, .ref a6, .ref a8, .ref a9]) n10
    have e1 := t10 _ _ e1
    have e2 := t10 _ _ e2
    have e3 := t10 _ _ e3
    have e4 := t10 _ _ e4
    have e5 := t10 _ _ e5
    have e6 := t10 _ _ e6
    have e7 := t10 _ _ e7
    have e8 := t10 _ _ e8
    have e9 := t10 _ _ e9
    have e10 : (upd Hl9 a10 (.lst [.ref a1, .ref a2, .ref a3, .ref a6, .ref a8, .ref a9])) a10 = some (.lst [.ref a1, .ref a2, .ref a3, .ref a6, .ref a8, .ref a9]) := upd_same
    have S10 := sT S9 t10
    clear t10
    revert e1 e2 e3 e4 e5 e6 e7 e8 e9 e10 S10
    generalize (upd Hl9 a10 (.lst [.ref a1, .ref a2, .ref a3, .ref a6, .ref a8, .ref a9])) = Hl10
    intro e1 e2 e3 e4 e5 e6 e7 e8 e9 e10 S10
    have npm : a10 ≠ p := by
      obtain ⟨⟨ps, hp⟩, _⟩ := g.pl
      exact (ne_of_none (S9 _ _ hp) n10).symm
    refine ⟨p, l, a10, _, rfl, g.same S10, e10, npm, (by show 0 < 6; decide), (by show 6 < 1000; decide), fun v H' hv g' b' => ?_⟩
    have gw : Gw Hl10 H' := Gw.hand (g.same S10) g' fun b o e n => by rw [b' b n]; exact e
    suffices z : GdT H' 3 v ∧ Shp H' v from k v _ g' (fun b o e n => by rw [b' b n]; exact S10 _ _ e) z.1 z.2
    simp only [List.mem_cons, List.not_mem_nil, or_false] at hv
    have m1 : Gd Hl10 3 (.ref a1) := gd_t0 e1
    have m2 : Gd Hl10 3 (.ref a2) := gd_t1 e2 (gd_i _)
    have m3 : Gd Hl10 3 (.ref a3) := gd_t2 e3 (gd_st _) gd_n
    have m6 : Gd Hl10 3 (.ref a6) := gd_t2 e6 (gd_b _) (gd_t2 e5 (gd_i _) (gd_t0 e4))
    have m8 : Gd Hl10 3 (.ref a8) := gd_t2 e8 (gd_t1 e7 (gd_st _)) (gd_st _)
    have m9 : Gd Hl10 3 (.ref a9) := gd_t2 e9 (gd_i _) (gd_b _)
    rcases hv with rfl | rfl | rfl | rfl | rfl | rfl
    · exact ⟨(m1.gw gw).t, _, _, rfl, rdG gw (.inl e1), (by show 0 ≤ 3; decide)⟩
    · exact ⟨(m2.gw gw).t, _, _, rfl, rdG gw (.inl e2), (by show 1 ≤ 3; decide)⟩
    · exact ⟨(m3.gw gw).t, _, _, rfl, rdG gw (.inl e3), (by show 2 ≤ 3; decide)⟩
    · exact ⟨(m6.gw gw).t, _, _, rfl, rdG gw (.inl e6), (by show 2 ≤ 3; decide)⟩
    · exact ⟨(m8.gw gw).t, _, _, rfl, rdG gw (.inl e8), (by show 2 ≤ 3; decide)⟩
    · exact ⟨(m9.gw gw).t, _, _, rfl, rdG gw (.inl e9), (by show 2 ≤ 3; decide)⟩
theorem ok_ost {f fP fT fS : Addr} {fd dP dT dS : FuncData} (D : Df K mg "_law_out_state" sOSt ["hand"] f fd) (B : Bts mg) (DPk : Df K mg "_law_pick" sPick ["hand", "things"] fP dP) (DT : Df K mg "_law_take" sTake ["hand", "many"] fT dT) (DST : Df K mg "_law_some_thing" sST ["hand"] fS dS) : FnOk P w K mg base CX0 4 f fd ["hand"] spOSt := by
  have GP : FnOk P w K mg base CX0 2 fP dP ["hand", "things"] spPickL := ok_pickL DPk B DT
  have GT : FnOk P w K mg base CX0 1 fT dT ["hand", "many"] spTake := ok_take DT.F B
  have GST : FnOk P w K mg base CX0 3 fS dS ["hand"] spST := ok_st DST B DPk DT
  refine D.F.ok scOSt (fun vs H Q E h => ?_) (fun cdv A outer s H vs Q E hr h => ?_)
  · obtain ⟨p, l, rfl, _⟩ := h
    rfl
  · obtain ⟨p, l, rfl, g, k⟩ := h
    have nd := scOSt.nd
    have hr1 : Room 1 _ := hr.mono (by decide)
    have hr2 : Room 2 _ := hr.mono (by decide)
    have hr3 : Room 3 _ := hr.mono (by decide)
    refine ⟨_, pss_cons (ps_set (i := 1) nd rfl (.inl rfl) (pe_call GP hr2 rfl DPk.m DPk.k DPk.b .nil pass0 (pa_cons (pv 0) (pa_cons (pe_lst (pa_cons pe_int (pa_cons (pe_call GT hr1 rfl DT.m DT.k DT.b .nil pass0 (pa_cons (pv 0) (pa_cons pe_int pa_nil))) (pa_cons (pe_op op_sub (pe_op op_pow pe_int pe_int) pe_int) (pa_cons (pe_op op_pow pe_int pe_int) pa_nil))))) pa_nil))))
        (pss_one (ps_ret (pe_tup (pa_cons (pv 1) (pa_cons (pe_callTy call_tuple_ofF (by rfl) B.tuple PyProof.Rows.boot_tuple (pa_cons (pe_lc (own := [("k", 2)]) (g := gName 2) (tt := tYes) rfl nd (pi_range1 rfl B.range (pa_cons (pe_call GT hr1 rfl DT.m DT.k DT.b .nil pass0 (pa_cons (pv 0) (pa_cons pe_int pa_nil))) pa_nil)) (blkOk_by (N := ["hand", "gone", "k"]) (sc := defScope sOSt) (by decide +kernel)) (fun _ _ _ _ _ => pg_name (i := 2) nd rfl (.inl rfl)) (fun _ _ _ _ _ => pts_nil) (fun _ _ _ _ _ => (pe_call GST hr3 rfl DST.m DST.k DST.b .nil pass0 (pa_cons (pv 0) pa_nil)))) pa_nil)) pa_nil))))), ?_⟩
    refine ⟨_, rfl, _, rfl, p, l, 40, rfl, g, by decide, by decide, fun d0 H1 l0 l1 g1 b1 => ?_⟩
    refine ⟨_, _, rfl, rfl, ⟨by decide, by decide, by decide⟩, _, _, rfl, rfl, _, _, rfl, rfl, ⟨by decide, by decide, by decide⟩, (by show 4 ≤ sizeLine; decide), fun m hm => ?_⟩
    have x1 : XtP p H H1 := fun b o e n => by rw [b1 b n]; exact e
    have s2 := sN (o := .lst [.int 0, .int d0, .int (2 ^ (32 : Int).toNat - 1), .int (10 ^ (9 : Int).toNat)]) hm
    have npm : m ≠ p := by
      obtain ⟨⟨ps, hp⟩, _⟩ := g1.pl
      exact (ne_of_none hp hm).symm
    refine ⟨p, l, m, _, rfl, g1.same s2, upd_same, npm, (by show 0 < 4; decide), (by show 4 < 1000; decide), fun v H3 hv g3 b3 => ?_⟩
    obtain ⟨kt, rfl, lkt⟩ := pick_g l0 l1 hv
    have x3 : XtP p H H3 := (x1.st s2).but b3
    clear hv npm s2 hm
    refine ⟨_, rfl, _, rfl, p, l, 5, rfl, g3, by decide, by decide, fun m H4 m0 m1 g4 b4 => ⟨m, rfl, by omega, by omega, fun D hD => ?_⟩⟩
    have x4 := x3.but b4
    obtain ⟨⟨ps, hp1⟩, ⟨ls, hl1⟩⟩ := g4.pl
    have nDp : D ≠ p := (ne_of_none hp1 hD).symm
    have nDl : D ≠ l := (ne_of_none hl1 hD).symm
    have s1 := sN (o := .lst []) hD
    have hD0 : ∀ b o, H b = some o → b ≠ p → b ≠ D := fun b o q n z => by
      have := x4 b o q n
      rw [z, hD] at this
      cases this
    refine lc_range (lo := 0) (n := m.toNat) (fun i H' => ∃ acc, H' D = some (.lst acc) ∧ acc.length = i ∧ HandAt H' p l ∧ XtP p H H' ∧ ∀ x ∈ acc, GdT H' 3 x ∧ Shp H' x) ⟨[], upd_same, rfl, g4.same s1, x4.st s1, fun x hx => by simp at hx⟩ ?_ ?_
    · rintro i H2 hi ⟨acc, eD, la, g2, x2, ta⟩
      refine ⟨rfl, _, rfl, p, l, rfl, g2, fun v H3 g3 x3 tv sv => ?_⟩
      have eD3 := x3 _ _ eD nDp
      have gw := (Gw.hand g2 g3 x3).tr (Gw.put (ys := acc ++ [v]) eD3)
      refine ⟨acc, eD3, size_ok (by omega), acc ++ [v], upd_same, by rw [List.length_append, la]; rfl, g3.off nDp nDl, ?_, ?_⟩
      · intro b o q n1
        rw [upd_ne (hD0 b o q n1)]
        exact x3 _ _ (x2 b o q n1) n1
      · intro x hx
        rcases List.mem_append.mp hx with hx | hx
        · exact ⟨(ta x hx).1.gw gw, (ta x hx).2.gw gw⟩
        · rw [List.mem_singleton.mp hx]
          exact ⟨tv.gw (Gw.put eD3), sv.gw (Gw.put eD3)⟩
    · rintro H2 ⟨acc, eD, la, g2, x2, ta⟩
      refine ⟨D, acc, rfl, SqL.of eD, fun u o hu ho => ⟨(by show 2 ≤ sizeLine; decide), fun a ha => ?_⟩⟩
      have s3 := sN (o := .frz o (.tup acc)) hu
      have s4 := sN (o := .tup [.int (kt : Int), .ref u]) ha
      have s34 := sT s3 s4
      have pl : PlT (upd (upd H2 u (.frz o (.tup acc))) a (.tup [.int (kt : Int), .ref u])) u acc := ⟨o, s4 _ _ upd_same, ho⟩
      exact k a u kt acc _ (g2.same s34) (x2.st s34) ⟨rfl, .inl upd_same, pl.rd, by omega, fun x hx => (GdT.gw (ta x hx).1 (.of s34)).up, lkt⟩ pl (by omega) fun x hx => (ta x hx).2.gw (.of s34)
theorem ok_ist2 {f fP fT fS : Addr} {fd dP dT dS : FuncData} (D : Df K mg "_law_in_state" sISt ["hand"] f fd) (B : Bts mg) (DPk : Df K mg "_law_pick" sPick ["hand", "things"] fP dP) (DT : Df K mg "_law_take" sTake ["hand", "many"] fT dT) (DST : Df K mg "_law_some_thing" sST ["hand"] fS dS) : FnOk P w K mg base CX0 4 f fd ["hand"] spISt := by
  have GP : FnOk P w K mg base CX0 2 fP dP ["hand", "things"] spPickL := ok_pickL DPk B DT
  have GT : FnOk P w K mg base CX0 1 fT dT ["hand", "many"] spTake := ok_take DT.F B
  have GST : FnOk P w K mg base CX0 3 fS dS ["hand"] spST := ok_st DST B DPk DT
  refine D.F.ok scISt (fun vs H Q E h => ?_) (fun cdv A outer s H vs Q E hr h => ?_)
  · obtain ⟨p, l, rfl, _⟩ := h
    rfl
  · obtain ⟨p, l, rfl, g, k⟩ := h
    have nd := scISt.nd
    have hr1 : Room 1 _ := hr.mono (by decide)
    have hr2 : Room 2 _ := hr.mono (by decide)
    have hr3 : Room 3 _ := hr.mono (by decide)
    refine ⟨_, pss_cons (ps_set (i := 1) nd rfl (.inl rfl) (pe_call GP hr2 rfl DPk.m DPk.k DPk.b .nil pass0 (pa_cons (pv 0) (pa_cons (pe_lst (pa_cons pe_int (pa_cons (pe_call GT hr1 rfl DT.m DT.k DT.b .nil pass0 (pa_cons (pv 0) (pa_cons pe_int pa_nil))) (pa_cons (pe_op op_sub (pe_op op_pow pe_int pe_int) pe_int) (pa_cons (pe_op op_pow pe_int pe_int) pa_nil))))) pa_nil))))
        (pss_cons (ps_set (i := 2) nd rfl (.inl rfl) (pe_lst pa_nil))
        (pss_cons (ps_set (i := 3) nd rfl (.inl rfl) (pv 1))
        (pss_cons (ps_for PassesOwn.never rfl (pi_range1 rfl B.range (pa_cons (pe_call GT hr1 rfl DT.m DT.k DT.b .nil pass0 (pa_cons (pv 0) (pa_cons pe_int pa_nil))) pa_nil)) (pg_name (i := 4) nd rfl (.inl rfl)) (pss_cons (ps_set (i := 3) nd rfl (.inl rfl) (pe_op op_add (pe_op op_add (pv 3) pe_int) (pe_call GP hr2 rfl DPk.m DPk.k DPk.b .nil pass0 (pa_cons (pv 0) (pa_cons (pe_lst (pa_cons pe_int (pa_cons pe_int (pa_cons pe_int (pa_cons (pe_call GT hr1 rfl DT.m DT.k DT.b .nil pass0 (pa_cons (pv 0) (pa_cons pe_int pa_nil))) (pa_cons pe_int pa_nil)))))) pa_nil)))))
        (pss_one (ps_if (pt_cmpR op_lt (pv 3) (pe_op op_add (pv 1) pe_int) (nomark _)) (pss_one (ps_expr (pe_bm PySem.F.plainAttrs_list PySem.F.slot_list_append PySem.F.type_list_append mt_append (pv 2) (pa_cons (pe_tup (pa_cons (pv 3) (pa_cons (pe_call GST hr3 rfl DST.m DST.k DST.b .nil pass0 (pa_cons (pv 0) pa_nil)) pa_nil))) pa_nil)))) pss_nil))))
        (pss_one (ps_ret (pe_tup (pa_cons (pv 1) (pa_cons (pe_callTy call_tuple_ofF (by rfl) B.tuple PyProof.Rows.boot_tuple (pa_cons (pv 2) pa_nil)) pa_nil)))))))), ?_⟩
    refine ⟨_, rfl, _, rfl, p, l, 40, rfl, g, by decide, by decide, fun d0 H1 l0 l1 g1 b1 => ?_⟩
    refine ⟨_, _, rfl, rfl, ⟨by decide, by decide, by decide⟩, _, _, rfl, rfl, _, _, rfl, rfl, ⟨by decide, by decide, by decide⟩, (by show 4 ≤ sizeLine; decide), fun m hm => ?_⟩
    have x1 : XtP p H H1 := fun b o e n => by rw [b1 b n]; exact e
    have s2 := sN (o := .lst [.int 0, .int d0, .int (2 ^ (32 : Int).toNat - 1), .int (10 ^ (9 : Int).toNat)]) hm
    have npm : m ≠ p := by
      obtain ⟨⟨ps, hp⟩, _⟩ := g1.pl
      exact (ne_of_none hp hm).symm
    refine ⟨p, l, m, _, rfl, g1.same s2, upd_same, npm, (by show 0 < 4; decide), (by show 4 < 1000; decide), fun v H3 hv g3 b3 => ?_⟩
    obtain ⟨kt, rfl, lkt⟩ := pick_g l0 l1 hv
    have x3 : XtP p H H3 := (x1.st s2).but b3
    clear hv npm s2 hm
    refine ⟨Nat.zero_le _, fun F hF => ?_⟩
    obtain ⟨⟨ps, hp1⟩, ⟨ls, hl1⟩⟩ := g3.pl
    have nFp : F ≠ p := (ne_of_none hp1 hF).symm
    have nFl : F ≠ l := (ne_of_none hl1 hF).symm
    have s1 := sN (o := .lst []) hF
    have hF0 : ∀ b o, H b = some o → b ≠ p → b ≠ F := fun b o q n z => by
      have := x3 b o q n
      rw [z, hF] at this
      cases this
    refine ⟨_, rfl, ?_⟩
    refine ⟨_, rfl, p, l, 5, rfl, g3.same s1, by decide, by decide, fun m H4 m0 m1 g4 b4 => ?_⟩
    have x4 := (x3.st s1).but b4
    have eF4 : H4 F = some (.lst []) := by
      rw [b4 F nFp]
      exact upd_same
    clear s1 b4 ps hp1 ls hl1
    refine ⟨m, rfl, by omega, by omega, for_range (lo := 0) (n := m.toNat) (fun i σ H' => ∃ (num : Int) (as : List Addr) (ks : List (Int × V)) (x4 : Option V), σ = [some (.ref p), some (.int (kt : Int)), some (.ref F), some (.int num), x4] ∧ HandAt H' p l ∧ XtP p H H' ∧ H' F = some (.lst (as.map V.ref)) ∧ as.length ≤ i ∧ PrR H' as ks ∧ Asc (kt : Int) ks ∧ (kt : Int) ≤ num ∧ (∀ q ∈ ks, q.1 ≤ num) ∧ ∀ q ∈ ks, GdT H' 3 q.2 ∧ q.1 < (kt : Int) + 1000) ?_ ?_ ?_⟩
    · exact ⟨(kt : Int), [], [], none, rfl, g4, x4, eF4, Nat.le_refl _, .nil, trivial, Int.le_refl _, fun q hq => by simp at hq, fun q hq => by simp at hq⟩
    · rintro i σ H5 hi ⟨num, as, ks, x4', rfl, g5, x5, eF5, la, pr, asc, ln, lk, tk⟩
      refine ⟨_, rfl, _, _, rfl, rfl, _, rfl, _, rfl, p, l, 300, rfl, g5, by decide, by decide, fun d H6 d0 d1 g6 b6 => ⟨(by show 5 ≤ sizeLine; decide), fun m hm => ?_⟩⟩
      have x6 := x5.but b6
      have s6 := sN (o := .lst [.int 0, .int 0, .int 1, .int d, .int 900]) hm
      have npm : m ≠ p := by
        obtain ⟨⟨ps, hp⟩, _⟩ := g6.pl
        exact (ne_of_none hp hm).symm
      refine ⟨p, l, m, _, rfl, g6.same s6, upd_same, npm, (by show 0 < 5; decide), (by show 5 < 1000; decide), fun v H7 hv g7 b7 => ?_⟩
      obtain ⟨j, rfl, j0⟩ := pick_n d0 d1 hv
      have x7 := (x6.st s6).but b7
      have x57 : XtP p H5 H7 := fun b o e n => by
        rw [b7 b n]
        exact s6 _ _ (by rw [b6 b n]; exact e)
      have eF7 := x57 _ _ eF5 nFp
      have pr7 := pr_gw (Gw.hand g5 g7 x57) pr
      have tk7 : ∀ q ∈ ks, GdT H7 3 q.2 ∧ q.1 < (kt : Int) + 1000 := fun q hq => ⟨(tk q hq).1.gw (Gw.hand g5 g7 x57), (tk q hq).2⟩
      clear hv npm s6 hm x57 b7 b6 tk pr
      refine ⟨_, _, rfl, rfl, _, rfl, _, rfl, _, _, rfl, rfl, _, _, rfl, rfl, _, rfl, ite2 (fun c => ?_) (fun c => ?_)⟩
      · have c : num + 1 + j < (kt : Int) + 1000 := of_decide_eq_true c
        refine ⟨_, rfl, .inl ⟨rfl, _, SqL.of eF7⟩, _, rfl, _, rfl, p, l, rfl, g7, fun w H8 g8 x8 tw _ => ⟨(by show 2 ≤ sizeLine; decide), fun e he => ?_⟩⟩
        have eF8 := x8 _ _ eF7 nFp
        have s9 := sN (o := .tup [.int (num + 1 + j), w]) he
        have eF9 := s9 _ _ eF8
        have nFe : F ≠ e := ne_of_none eF8 he
        refine ⟨F, _, _, rfl, rfl, eF9, ?_, ?_⟩
        · rw [List.length_map]
          exact size_ok (by omega)
        have gw := ((Gw.hand g7 g8 x8).tr (.of s9)).tr (Gw.put (ys := as.map V.ref ++ [.ref e]) eF9)
        refine ⟨num + 1 + j, as ++ [e], ks ++ [(num + 1 + j, w)], _, rfl, (g8.same s9).off nFp nFl, ?_, ?_, ?_, ?_, ?_, by omega, ?_, ?_⟩
        · intro b o q n1
          rw [upd_ne (hF0 b o q n1)]
          exact s9 _ _ (x8 _ _ (x7 b o q n1) n1)
        · rw [upd_same, List.map_append]
          rfl
        · rw [List.length_append]
          show _ + 1 ≤ _
          omega
        · exact pair_take (pr_gw gw pr7) (.inl (by rw [upd_ne nFe.symm, upd_same]))
        · exact asc_push asc (by omega) fun q hq => by have := lk q hq; omega
        · intro q hq
          rcases List.mem_append.mp hq with hq | hq
          · have := lk q hq
            omega
          · rw [List.mem_singleton.mp hq]
            exact Int.le_refl _
        · intro q hq
          rcases List.mem_append.mp hq with hq | hq
          · exact ⟨(tk7 q hq).1.gw gw, (tk7 q hq).2⟩
          · rw [List.mem_singleton.mp hq]
            exact ⟨tw.gw ((Gw.of s9).tr (Gw.put eF9)), c⟩
      · exact ⟨num + 1 + j, as, ks, _, rfl, g7, x7, eF7, by omega, pr7, asc, by omega, fun q hq => by have := lk q hq; omega, tk7⟩
    · rintro σ H5 ⟨num, as, ks, x4', rfl, g5, x5, eF5, la, pr, asc, ln, lk, tk⟩
      refine ⟨_, rfl, _, rfl, F, _, rfl, SqL.of eF5, fun u o hu ho => ⟨(by show 2 ≤ sizeLine; decide), fun a ha => ?_⟩⟩
      have s3 := sN (o := .frz o (.tup (as.map V.ref))) hu
      have s4 := sN (o := .tup [.int (kt : Int), .ref u]) ha
      have s34 := sT s3 s4
      have pl : PlT (upd (upd H5 u (.frz o (.tup (as.map V.ref)))) a (.tup [.int (kt : Int), .ref u])) u (as.map V.ref) := ⟨o, s4 _ _ upd_same, ho⟩
      exact k a u kt as ks _ (g5.same s34) (x5.st s34) ⟨rfl, .inl upd_same, pl.rd, pr_same s34 pr, asc, fun q hq => by
        obtain ⟨h1, h2⟩ := tk q hq
        have h3 := GdT.gw h1 (.of s34)
        exact ⟨h3.1, h3.2, h2⟩, lkt, by omega⟩ pl (by omega)
end
end Q

namespace Q
open PySem L2 QR LE TDp
/-- no pair whose second is a thing of the heap -/
def NoP (H : Hp) (v : V) : Prop := ∀ a x b, v = .ref a → ¬ Rd H a (.tup [x, .ref b])
theorem NoP.pl {H : Hp} {v : V} (h : NoP H v) : PlIn H v := fun a b x xs e ra _ _ => absurd ra (h a x b e)
theorem nop_at {H : Hp} {v : V} (h : ∀ a, v ≠ .ref a) : NoP H v := fun a x b e => absurd e (h a)
theorem nop_o {H : Hp} {a : Addr} {o : HO} (e : H a = some o) (n : ∀ x b, o ≠ .tup [x, .ref b]) (n2 : ∀ u w, o ≠ .frz u w) : NoP H (.ref a) := fun a' x b e' r => by
  cases e'
  rcases r with r | ⟨u, r⟩
  · rw [e] at r
    exact n x b (Option.some.inj r)
  · rw [e] at r
    exact n2 _ _ (Option.some.inj r)
theorem NoP.gw {H H' : Hp} {v : V} {n : Nat} (h : NoP H v) (k : Kn H n v) (g : Gw H H') : NoP H' v := fun a x b e r => by
  subst e
  rcases k.cases with f | ⟨n', c, ys, e1, e2, r0, few, _⟩
  · have := (f.gw g).tx
    rw [rdX r] at this
    cases this
  · cases e2
    have := rd_un r (rdG g r0)
    rw [← this] at r0
    exact h a x b rfl r0
/-- where a thing is a tuple, it is known whole -/
def PlV (H : Hp) (y : V) : Prop := ∀ b xs, y = .ref b → Rd H b (.tup xs) → PlT H b xs
theorem plv_in {H : Hp} {a : Addr} {x y : V} (r : Rd H a (.tup [x, y])) (pl : PlV H y) : PlIn H (.ref a) := fun a' b' x' xs' e ra rb _ => by
  cases e
  have := rd_un ra r
  cases this
  exact pl b' xs' rfl rb
theorem plv_at {H : Hp} {v : V} (h : ∀ a, v ≠ .ref a) : PlV H v := fun b xs e => absurd e (h b)
theorem plv_pl {H : Hp} {b : Addr} {xs : List V} (h : PlT H b xs) : PlV H (.ref b) := fun b' xs' e r => by
  cases e
  rw [rd_un r h.rd]
  exact h
theorem plv_l {H : Hp} {b : Addr} {xs : List V} (h : H b = some (.lst xs)) : PlV H (.ref b) := fun b' xs' e r => by
  cases e
  rcases r with r | ⟨_, r⟩ <;> (rw [h] at r; cases r)
theorem PlV.gwl {H H' : Hp} {b : Addr} {xs : List V} (h : PlT H b xs) (g : Gw H H') : PlV H' (.ref b) := plv_pl (plG g h)
section
variable {X : Cx}
def rSlR : V → Option Int → Option Int → Hp → VK → Prop := fun x lo hi H Q => ∃ a xs, x = .ref a ∧ Rd H a (.tup xs) ∧ ∀ z H', Same H H' → Rd H' z (.tup (cutV xs lo hi)) → Q (.ref z) H'
theorem sl_R : SlR X rSlR := by
  intro pins s σ H x v vl vu lo hi sl Q I rx hs pl pu h
  obtain ⟨a, xs, rfl, ha, k⟩ := h
  refine sl_tupA pins s σ H _ v vl vu lo hi sl Q I rx hs pl pu ⟨a, xs, rfl, .inl ha, fun e => k a H (fun _ _ e => e) ?_, fun _ p hp => k p _ (sN hp) (.inl upd_same)⟩
  unfold cutV
  rw [e.1, e.2, List.drop_zero, Nat.sub_zero, List.take_length]
  exact ha
/-- t + u, read -/
def rCatR : R2 := fun x y H Q => ∃ a b xs ys, x = .ref a ∧ y = .ref b ∧ Rd H a (.tup xs) ∧ Rd H b (.tup ys) ∧ xs.length + ys.length ≤ sizeLine ∧ ∀ z H', Same H H' → Rd H' z (.tup (xs ++ ys)) → Q (.ref z) H'
theorem op_catR : OpR X (binaryOp .Add) rCatR := by
  intro pins s σ H x y v u Q I rx ry h
  obtain ⟨a, b, xs, ys, rfl, rfl, ha, hb, hz, k⟩ := h
  refine op_catA pins s σ H _ _ v u Q I rx ry ⟨a, b, xs, ys, rfl, rfl, .inl ha, .inl hb, hz, fun e => ?_, fun _ e => ?_, fun _ _ p hp => k p _ (sN hp) (.inl upd_same)⟩
  · exact k b H (fun _ _ e => e) (by rw [e]; exact hb)
  · exact k a H (fun _ _ e => e) (by rw [e, List.append_nil]; exact ha)
/-- t + u, known whole: the right one is known and not empty, or the left one -/
def rCatP : R2 := fun x y H Q => ∃ a b xs ys, x = .ref a ∧ y = .ref b ∧ ((Rd H a (.tup xs) ∧ PlT H b ys ∧ ys ≠ []) ∨ (PlT H a xs ∧ Rd H b (.tup ys) ∧ xs ≠ [])) ∧ xs.length + ys.length ≤ sizeLine ∧ ∀ z H', Same H H' → PlT H' z (xs ++ ys) → Q (.ref z) H'
theorem op_catP : OpR X (binaryOp .Add) rCatP := by
  intro pins s σ H x y v u Q I rx ry h
  obtain ⟨a, b, xs, ys, rfl, rfl, hab, hz, k⟩ := h
  have ha : Rd H a (.tup xs) := by
    rcases hab with h | h
    · exact h.1
    · exact h.1.rd
  have hb : Rd H b (.tup ys) := by
    rcases hab with h | h
    · exact h.2.1.rd
    · exact h.2.1
  refine op_catF pins s σ H _ _ v u Q I rx ry ⟨a, b, xs, ys, rfl, rfl, .inl ha, .inl hb, hz, fun e => ?_, fun n e => ?_, fun _ _ p o hp ho => k p _ (sN hp) ⟨o, upd_same, ho⟩⟩
  · rcases hab with h | h
    · exact k b H (fun _ _ e => e) (by rw [e]; exact h.2.1)
    · exact absurd e h.2.2
  · rcases hab with h | h
    · exact absurd e h.2.2
    · exact k a H (fun _ _ e => e) (by rw [e, List.append_nil]; exact h.1)
end
theorem cut_toV (xs : List V) (n : Nat) : cutV xs none (some (n : Int)) = xs.take n := by
  unfold cutV
  rw [HT.sIx_none, HT.sIx_nat, List.drop_zero, Nat.sub_zero]
  rcases Nat.le_total n xs.length with c | c
  · rw [Nat.min_eq_left c]
  · rw [Nat.min_eq_right c, List.take_of_length_le (Nat.le_refl _), List.take_of_length_le c]
def spOdd2 : Sp := fun vs H Q _ => ∃ (p l : Addr), vs = [.ref p] ∧ HandAt H p l ∧ ∀ v H', HandAt H' p l → XtP p H H' → Kn H' 2 v → NoP H' v → Q v H'
theorem kn_t {H : Hp} {n : Nat} {a : Addr} {xs : List V} (h : H a = some (.tup xs)) (few : xs.length ≤ 9) (k : ∀ x ∈ xs, Kn H n x) : Kn H (n + 1) (.ref a) := .inr ⟨a, xs, rfl, .inl h, few, k⟩
theorem kn_l {H : Hp} {n : Nat} {a : Addr} {xs : List V} (h : H a = some (.lst xs)) : Kn H n (.ref a) := Kn.flat (.inr (.inr ⟨a, rfl, .inl ⟨xs, h⟩⟩))
theorem kn_d {H : Hp} {n : Nat} {a : Addr} (h : H a = some (.dK [])) : Kn H n (.ref a) := Kn.flat (.inr (.inr ⟨a, rfl, .inr h⟩))
theorem nop_l {H : Hp} {a : Addr} {xs : List V} (h : H a = some (.lst xs)) : NoP H (.ref a) := nop_o h (fun _ _ e => by cases e) (fun _ _ e => by cases e)
theorem nop_d {H : Hp} {a : Addr} (h : H a = some (.dK [])) : NoP H (.ref a) := nop_o h (fun _ _ e => by cases e) (fun _ _ e => by cases e)
section
variable {P : Program} {w : World} {K : PySem.W.Frag} {mg : Str → Option Value} {base : Heap}
theorem ok_odd2 {f fT : Addr} {fd dT : FuncData} (D : Df K mg "_law_odd" sOddL ["hand"] f fd) (B : Bts mg) (DT : Df K mg "_law_take" sTake ["hand", "many"] fT dT) : FnOk P w K mg base CX0 2 f fd ["hand"] spOdd2 := by
  have GT : FnOk P w K mg base CX0 1 fT dT ["hand", "many"] spTake := ok_take DT.F B
  refine D.F.ok scOddL (fun vs H Q E h => ?_) (fun cdv A outer s H vs Q E hr h => ?_)
  · obtain ⟨p, l, rfl, _⟩ := h
    rfl
  · obtain ⟨p, l, rfl, g, k⟩ := h
    have nd := scOddL.nd
    refine ⟨_, pss_cons (ps_set (i := 1) nd rfl (.inl rfl) (pe_call GT hr rfl DT.m DT.k DT.b .nil pass0 (pa_cons (pv 0) (pa_cons pe_int pa_nil))))
        (pss_cons (ps_if (pt_cmpR op_lt (pv 1) pe_int (nomark _)) (pss_one (ps_ret (pe_ix ix_list (pe_lst (pa_cons pe_non (pa_cons pe_bl (pa_cons pe_bl (pa_cons pe_str (pa_cons pe_str (pa_cons pe_str pa_nil))))))) (pv 1) (fun _ _ => rfl)))) pss_nil)
        (pss_cons (ps_if (pt_cmpR op_lt (pv 1) pe_int (nomark _)) (pss_one (ps_ret (pe_ix ix_list (pe_lst (pa_cons (pe_tup pa_nil) (pa_cons (pe_lst pa_nil) (pa_cons pe_dnewK (pa_cons (pe_tup (pa_cons pe_int pa_nil)) (pa_cons (pe_lst (pa_cons pe_int (pa_cons pe_int pa_nil))) (pa_cons (pe_tup (pa_cons (pe_tup pa_nil) pa_nil)) pa_nil))))))) (pe_op op_sub (pv 1) pe_int) (fun _ _ => rfl)))) pss_nil)
        (pss_one (ps_ret (pe_ix ix_list (pe_lst (pa_cons (pe_un un_neg pe_int) (pa_cons pe_int (pa_cons (pe_op op_sub (pe_op op_pow pe_int pe_int) pe_int) (pa_cons (pe_tup (pa_cons pe_int (pa_cons pe_int pa_nil))) (pa_cons (pe_tup (pa_cons pe_bl (pa_cons pe_int pa_nil))) (pa_cons (pe_tup (pa_cons pe_int (pa_cons pe_int (pa_cons pe_int pa_nil)))) pa_nil))))))) (pe_op op_sub (pv 1) pe_int) (fun _ _ => rfl)))))), ?_⟩
    refine ⟨_, rfl, p, l, 18, rfl, g, by decide, by decide, fun way H0 w0 w1 g0 b0 => ?_⟩
    have X0 : XtP p H H0 := fun b o e n => by rw [b0 b n]; exact e
    refine ⟨_, rfl, _, _, rfl, rfl, _, rfl, ite2 (fun c => ?_) (fun c => ?_)⟩
    · have c : way < 6 := of_decide_eq_true c
      refine ⟨(by show 6 ≤ sizeLine; decide), fun m hm => ?_⟩
      obtain ⟨v, hv, ev⟩ := at_in ([.non, .bl true, .bl false, .str "", .str "do", .str "0"] : List V) w0 c
      have s1 := sN (o := .lst [.non, .bl true, .bl false, .str "", .str "do", .str "0"]) hm
      have at_ : ∀ {n : Nat}, Kn (upd H0 m (.lst [.non, .bl true, .bl false, .str "", .str "do", .str "0"])) n v ∧ ∀ a, v ≠ .ref a := by
        intro n
        simp only [List.mem_cons, List.not_mem_nil, or_false] at hv
        rcases hv with rfl | rfl | rfl | rfl | rfl | rfl
        · exact ⟨gd_n.1, fun a e => by cases e⟩
        · exact ⟨(gd_b _).1, fun a e => by cases e⟩
        · exact ⟨(gd_b _).1, fun a e => by cases e⟩
        all_goals exact ⟨(gd_st _).1, fun a e => by cases e⟩
      exact ⟨_, rfl, m, _, way, v, rfl, rfl, SqL.of upd_same, ev, k v _ (g0.same s1) (X0.st s1) at_.1 (nop_at (at_ (n := 0)).2)⟩
    have c : ¬ way < 6 := fun z => c (decide_eq_true z)
    refine ⟨_, rfl, _, _, rfl, rfl, _, rfl, ite2 (fun c2 => ?_) (fun c2 => ?_)⟩
    · have c2 : way < 12 := of_decide_eq_true c2
      refine ⟨Nat.zero_le _, fun a1 n1 => ?_⟩
      have t1 := sN (o := .tup []) n1
      have e1 : (upd H0 a1 (.tup [])) a1 = some (.tup []) := upd_same
      have S1 := t1
      clear t1
      revert e1 S1
      generalize (upd H0 a1 (.tup [])) = Hl1
      intro e1 S1
      refine ⟨Nat.zero_le _, fun a2 n2 => ?_⟩
      have t2 := sN (o := .lst []) n2
      have e1 := t2 _ _ e1
      have e2 : (upd Hl1 a2 (.lst [])) a2 = some (.lst []) := upd_same
      have S2 := sT S1 t2
      clear t2
      revert e1 e2 S2
      generalize (upd Hl1 a2 (.lst [])) = Hl2
      intro e1 e2 S2
      refine fun a3 n3 => ?_
      have t3 := sN (o := .dK []) n3
      have e1 := t3 _ _ e1
      have e2 := t3 _ _ e2
      have e3 : (upd Hl2 a3 (.dK [])) a3 = some (.dK []) := upd_same
      have S3 := sT S2 t3
      clear t3
      revert e1 e2 e3 S3
      generalize (upd Hl2 a3 (.dK [])) = Hl3
      intro e1 e2 e3 S3
      refine ⟨(by show 1 ≤ sizeLine; decide), fun a4 n4 => ?_⟩
      have t4 := sN (o := .tup [.int 0]) n4
      have e1 := t4 _ _ e1
      have e2 := t4 _ _ e2
      have e3 := t4 _ _ e3
      have e4 : (upd Hl3 a4 (.tup [.int 0])) a4 = some (.tup [.int 0]) := upd_same
      have S4 := sT S3 t4
      clear t4
      revert e1 e2 e3 e4 S4
      generalize (upd Hl3 a4 (.tup [.int 0])) = Hl4
      intro e1 e2 e3 e4 S4
      refine ⟨(by show 2 ≤ sizeLine; decide), fun a5 n5 => ?_⟩
      have t5 := sN (o := .lst [.int 0, .int 0]) n5
      have e1 := t5 _ _ e1
      have e2 := t5 _ _ e2
      have e3 := t5 _ _ e3
      have e4 := t5 _ _ e4
      have e5 : (upd Hl4 a5 (.lst [.int 0, .int 0])) a5 = some (.lst [.int 0, .int 0]) := upd_same
      have S5 := sT S4 t5
      clear t5
      revert e1 e2 e3 e4 e5 S5
      generalize (upd Hl4 a5 (.lst [.int 0, .int 0])) = Hl5
      intro e1 e2 e3 e4 e5 S5
      refine ⟨Nat.zero_le _, fun a6 n6 => ?_⟩
      have t6 := sN (o := .tup []) n6
      have e1 := t6 _ _ e1
      have e2 := t6 _ _ e2
      have e3 := t6 _ _ e3
      have e4 := t6 _ _ e4
      have e5 := t6 _ _ e5
      have e6 : (upd Hl5 a6 (.tup [])) a6 = some (.tup []) := upd_same
      have S6 := sT S5 t6
      clear t6
      revert e1 e2 e3 e4 e5 e6 S6
      generalize (upd Hl5 a6 (.tup [])) = Hl6
      intro e1 e2 e3 e4 e5 e6 S6
      refine ⟨(by show 1 ≤ sizeLine; decide), fun a7 n7 => ?_⟩
      have t7 := sN (o := .tup [.ref a6]) n7
      have e1 := t7 _ _ e1
      have e2 := t7 _ _ e2
      have e3 := t7 _ _ e3
      have e4 := t7 _ _ e4
      have e5 := t7 _ _ e5
      have e6 := t7 _ _ e6
      have e7 : (upd Hl6 a7 (.tup [.ref a6])) a7 = some (.tup [.ref a6]) := upd_same
      have S7 := sT S6 t7
      clear t7
      revert e1 e2 e3 e4 e5 e6 e7 S7
      generalize (upd Hl6 a7 (.tup [.ref a6])) = Hl7
      intro e1 e2 e3 e4 e5 e6 e7 S7
      refine ⟨(by show 6 ≤ sizeLine; decide), fun a8 n8 => ?_⟩
      have t8 := sN (o := .lst [.ref a1, .ref a2, .ref a3, .ref a4, .ref a5, .ref a7]) n8
      have e1 := t8 _ _ e1
      have e2 := t8 _ _ e2
      have e3 := t8 _ _ e3
      have e4 := t8 _ _ e4
      have e5 := t8 _ _ e5
      have e6 := t8 _ _ e6
      have e7 := t8 _ _ e7
      have e8 : (upd Hl7 a8 (.lst [.ref a1, .ref a2, .ref a3, .ref a4, .ref a5, .ref a7])) a8 = some (.lst [.ref a1, .ref a2, .ref a3, .ref a4, .ref a5, .ref a7]) := upd_same
      have S8 := sT S7 t8
      clear t8
      revert e1 e2 e3 e4 e5 e6 e7 e8 S8
      generalize (upd Hl7 a8 (.lst [.ref a1, .ref a2, .ref a3, .ref a4, .ref a5, .ref a7])) = Hl8
      intro e1 e2 e3 e4 e5 e6 e7 e8 S8
      obtain ⟨v, hv, ev⟩ := at_in ([.ref a1, .ref a2, .ref a3, .ref a4, .ref a5, .ref a7] : List V) (d := way - 6) (by omega) (by show way - 6 < 6; omega)
      refine ⟨_, rfl, _, _, rfl, rfl, _, _, way - 6, v, rfl, rfl, SqL.of e8, ev, k v _ (g0.same S8) (X0.st S8) ?_ ?_⟩
      all_goals
        simp only [List.mem_cons, List.not_mem_nil, or_false] at hv
        rcases hv with rfl | rfl | rfl | rfl | rfl | rfl
      · exact (gd_t0 e1).1
      · exact kn_l e2
      · exact kn_d e3
      · exact (gd_t1 e4 (gd_i _)).1
      · exact kn_l e5
      · exact (gd_t1 e7 (gd_t0 e6)).1
      · exact nop_o e1 (fun _ _ e => by cases e) (fun _ _ e => by cases e)
      · exact nop_l e2
      · exact nop_d e3
      · exact nop_o e4 (fun _ _ e => by cases e) (fun _ _ e => by cases e)
      · exact nop_l e5
      · exact nop_o e7 (fun _ _ e => by cases e) (fun _ _ e => by cases e)
    · have c2 : ¬ way < 12 := fun z => c2 (decide_eq_true z)
      refine ⟨_, rfl, _, _, rfl, rfl, ⟨by decide, by decide, by decide⟩, _, _, rfl, rfl, (by show 2 ≤ sizeLine; decide), fun a1 n1 => ?_⟩
      have t1 := sN (o := .tup [.int 0, .int 13]) n1
      have e1 : (upd H0 a1 (.tup [.int 0, .int 13])) a1 = some (.tup [.int 0, .int 13]) := upd_same
      have S1 := t1
      clear t1
      revert e1 S1
      generalize (upd H0 a1 (.tup [.int 0, .int 13])) = Hl1
      intro e1 S1
      refine ⟨(by show 2 ≤ sizeLine; decide), fun a2 n2 => ?_⟩
      have t2 := sN (o := .tup [.bl true, .int 0]) n2
      have e1 := t2 _ _ e1
      have e2 : (upd Hl1 a2 (.tup [.bl true, .int 0])) a2 = some (.tup [.bl true, .int 0]) := upd_same
      have S2 := sT S1 t2
      clear t2
      revert e1 e2 S2
      generalize (upd Hl1 a2 (.tup [.bl true, .int 0])) = Hl2
      intro e1 e2 S2
      refine ⟨(by show 3 ≤ sizeLine; decide), fun a3 n3 => ?_⟩
      have t3 := sN (o := .tup [.int 0, .int 0, .int 0]) n3
      have e1 := t3 _ _ e1
      have e2 := t3 _ _ e2
      have e3 : (upd Hl2 a3 (.tup [.int 0, .int 0, .int 0])) a3 = some (.tup [.int 0, .int 0, .int 0]) := upd_same
      have S3 := sT S2 t3
      clear t3
      revert e1 e2 e3 S3
      generalize (upd Hl2 a3 (.tup [.int 0, .int 0, .int 0])) = Hl3
      intro e1 e2 e3 S3
      refine ⟨(by show 6 ≤ sizeLine; decide), fun a4 n4 => ?_⟩
      have t4 := sN (o := .lst [.int (-1), .int 13, .int ((10 ^ (20 : Int).toNat) - 1), .ref a1, .ref a2, .ref a3]) n4
      have e1 := t4 _ _ e1
      have e2 := t4 _ _ e2
      have e3 := t4 _ _ e3
      have e4 : (upd Hl3 a4 (.lst [.int (-1), .int 13, .int ((10 ^ (20 : Int).toNat) - 1), .ref a1, .ref a2, .ref a3])) a4 = some (.lst [.int (-1), .int 13, .int ((10 ^ (20 : Int).toNat) - 1), .ref a1, .ref a2, .ref a3]) := upd_same
      have S4 := sT S3 t4
      clear t4
      revert e1 e2 e3 e4 S4
      generalize (upd Hl3 a4 (.lst [.int (-1), .int 13, .int ((10 ^ (20 : Int).toNat) - 1), .ref a1, .ref a2, .ref a3])) = Hl4
      intro e1 e2 e3 e4 S4
      obtain ⟨v, hv, ev⟩ := at_in ([.int (-1), .int 13, .int ((10 ^ (20 : Int).toNat) - 1), .ref a1, .ref a2, .ref a3] : List V) (d := way - 12) (by omega) (by show way - 12 < 6; omega)
      refine ⟨_, rfl, _, _, rfl, rfl, _, _, way - 12, v, rfl, rfl, SqL.of e4, ev, k v _ (g0.same S4) (X0.st S4) ?_ ?_⟩
      all_goals
        simp only [List.mem_cons, List.not_mem_nil, or_false] at hv
        rcases hv with rfl | rfl | rfl | rfl | rfl | rfl
      · exact (gd_i _).1
      · exact (gd_i _).1
      · exact (gd_i _).1
      · exact (gd_t2 e1 (gd_i _) (gd_i _)).1
      · exact (gd_t2 e2 (gd_b _) (gd_i _)).1
      · exact kn_t e3 (by show 3 ≤ 9; decide) fun x hx => by
          simp only [List.mem_cons, List.not_mem_nil, or_false] at hx
          rcases hx with rfl | rfl | rfl <;> exact (gd_i _).1
      · exact nop_at fun a e => by cases e
      · exact nop_at fun a e => by cases e
      · exact nop_at fun a e => by cases e
      · exact nop_o e1 (fun _ _ e => by cases e) (fun _ _ e => by cases e)
      · exact nop_o e2 (fun _ _ e => by cases e) (fun _ _ e => by cases e)
      · exact nop_o e3 (fun _ _ e => by cases e) (fun _ _ e => by cases e)
end
end Q

namespace Q
open PySem L2 QR LE TDp
abbrev sSpo : Stmt := top 37
/-- a drawn state: a number, and things -/
structure Sta (H : Hp) (a b : Addr) (kt : Nat) (ps : List V) : Prop where
  ra : Rd H a (.tup [.int (kt : Int), .ref b])
  pl : PlT H b ps
  few : ps.length ≤ 4
  it : ∀ x ∈ ps, Shp H x ∧ Kn H 4 x
theorem Sta.gw {H H' : Hp} {a b : Addr} {kt : Nat} {ps : List V} (h : Sta H a b kt ps) (g : Gw H H') : Sta H' a b kt ps := ⟨rdG g h.ra, plG g h.pl, h.few, fun x hx => ⟨(h.it x hx).1.gw g, (h.it x hx).2.gw g⟩⟩
theorem Sta.k5 {H : Hp} {a b : Addr} {kt : Nat} {ps : List V} (h : Sta H a b kt ps) : Kn H 5 (.ref b) := .inr ⟨b, _, rfl, h.pl.rd, by have := h.few; omega, fun x hx => (h.it x hx).2⟩
theorem shp_it {H : Hp} {x : V} (s : Shp H x) (k : Kn H 4 x) : ∃ c ys, x = .ref c ∧ Rd H c (.tup ys) ∧ ys.length ≤ 3 ∧ ∀ y ∈ ys, Kn H 3 y := by
  obtain ⟨c, ys, rfl, r, n⟩ := s
  rcases k.cases with f | ⟨n', d, zs, e1, e2, r0, few, kz⟩
  · have := f.tx
    rw [rdX r] at this
    cases this
  · cases e2
    cases e1
    obtain rfl := rd_un r r0
    exact ⟨c, ys, rfl, r, n, kz⟩
theorem kn_r {H : Hp} {n : Nat} {a : Addr} {xs : List V} (h : Rd H a (.tup xs)) (few : xs.length ≤ 9) (k : ∀ x ∈ xs, Kn H n x) : Kn H (n + 1) (.ref a) := .inr ⟨a, xs, rfl, h, few, k⟩
theorem kn_r2 {H : Hp} {n : Nat} {a : Addr} {x y : V} (h : Rd H a (.tup [x, y])) (k1 : Kn H n x) (k2 : Kn H n y) : Kn H (n + 1) (.ref a) := kn_r h (by show 2 ≤ 9; decide) fun z hz => by
  simp only [List.mem_cons, List.not_mem_nil, or_false] at hz
  rcases hz with rfl | rfl
  · exact k1
  · exact k2
theorem Kn.upk {H : Hp} {v : V} : ∀ {n : Nat} (k : Nat), Kn H n v → Kn H (n + k) v
  | n, 0, h => h
  | n, k + 1, h => (Kn.upk k h).up
/-- flat -/
def Fl (v : V) : Prop := Sc v ∨ ∃ z, v = .str z
theorem Fl.kn {H : Hp} {n : Nat} {v : V} (h : Fl v) : Kn H n v := Kn.flat (h.elim .inl fun h => .inr (.inl h))
theorem fl_menu {j : Int} {v : V} (hv : v ∈ [V.int (-1), .bl true, .int (2 ^ (32 : Int).toNat), .non, .int j, .str "0"]) : Fl v := by
  simp only [List.mem_cons, List.not_mem_nil, or_false] at hv
  rcases hv with h | h | h | h | h | h
  · exact .inl (.inr (.inr ⟨_, h⟩))
  · exact .inl (.inr (.inl ⟨_, h⟩))
  · exact .inl (.inr (.inr ⟨_, h⟩))
  · exact .inl (.inl h)
  · exact .inl (.inr (.inr ⟨_, h⟩))
  · exact .inr ⟨_, h⟩
theorem PlV.gw {H H' : Hp} {n : Nat} {v : V} (h : PlV H v) (k : Kn H n v) (g : Gw H H') : PlV H' v := fun b xs e r => by
  subst e
  rcases k.cases with f | ⟨n', c, ys, e1, e2, r0, few, _⟩
  · have := (f.gw g).tx
    rw [rdX r] at this
    cases this
  · cases e2
    obtain rfl := rd_un r (rdG g r0)
    exact plG g (h b _ rfl r0)
def spSpo : Sp := fun vs H Q _ => ∃ (p l a b : Addr) (kt : Nat) (ps : List V), vs = [.ref p, .ref a] ∧ HandAt H p l ∧ Sta H a b kt ps ∧ ∀ v H', HandAt H' p l → XtP p H H' → Kn H' 6 v → PlIn H' v → Q v H'
section
variable {P : Program} {w : World} {K : PySem.W.Frag} {mg : Str → Option Value} {base : Heap}
theorem scSpo : FnScope ["hand", "state", "way", "some", "at", "other", "menu"] ["hand", "state"] (defScope sSpo) := ⟨rfl, rfl, rfl, by decide +kernel, rfl, by decide +kernel, by decide +kernel⟩
theorem ok_spo {f fP fT fO : Addr} {fd dP dT dO : FuncData} (D : Df K mg "_law_spoilt" sSpo ["hand", "state"] f fd) (B : Bts mg) (DPk : Df K mg "_law_pick" sPick ["hand", "things"] fP dP) (DT : Df K mg "_law_take" sTake ["hand", "many"] fT dT) (DO : Df K mg "_law_odd" sOddL ["hand"] fO dO) : FnOk P w K mg base CX0 3 f fd ["hand", "state"] spSpo := by
  have GP : FnOk P w K mg base CX0 2 fP dP ["hand", "things"] spPickL := ok_pickL DPk B DT
  have GT : FnOk P w K mg base CX0 1 fT dT ["hand", "many"] spTake := ok_take DT.F B
  have GO : FnOk P w K mg base CX0 2 fO dO ["hand"] spOdd2 := ok_odd2 DO B DT
  refine D.F.ok scSpo (fun vs H Q E h => ?_) (fun cdv A outer s H vs Q E hr h => ?_)
  · obtain ⟨p, l, a, b, kt, ps, rfl, _⟩ := h
    rfl
  · obtain ⟨p, l, a, b, kt, ps, rfl, g, st, k⟩ := h
    have nd := scSpo.nd
    have hr1 : Room 1 _ := hr.mono (by decide)
    have hr2 : Room 2 _ := hr.mono (by decide)
    refine ⟨_, pss_cons (ps_set (i := 2) nd rfl (.inl rfl) (pe_call GT hr1 rfl DT.m DT.k DT.b .nil pass0 (pa_cons (pv 0) (pa_cons pe_int pa_nil))))
        (pss_cons (ps_if (pt_cmpR op_eq (pv 2) pe_int (nomark _)) (pss_one (ps_ret (pe_call GP hr2 rfl DPk.m DPk.k DPk.b .nil pass0 (pa_cons (pv 0) (pa_cons (pe_lst (pa_cons (pe_call GO hr2 rfl DO.m DO.k DO.b .nil pass0 (pa_cons (pv 0) pa_nil)) (pa_cons (pe_callTy call_list_of (by rfl) B.list PyProof.Rows.boot_list (pa_cons (pv 1) pa_nil)) (pa_cons (pe_slice sl_R (pv 1) po_none (po_some pe_int)) (pa_cons (pe_op op_catR (pv 1) (pe_tup (pa_cons pe_int pa_nil))) pa_nil))))) pa_nil))))) pss_nil)
        (pss_cons (ps_if (pt_cmpR op_eq (pv 2) pe_int (nomark _)) (pss_one (ps_ret (pe_tup (pa_cons (pe_call GP hr2 rfl DPk.m DPk.k DPk.b .nil pass0 (pa_cons (pv 0) (pa_cons (pe_lst (pa_cons (pe_un un_neg pe_int) (pa_cons pe_bl (pa_cons (pe_op op_pow pe_int pe_int) (pa_cons pe_non (pa_cons (pe_op op_add (pe_ix ix_tup (pv 1) pe_int (fun _ _ => rfl)) pe_int) (pa_cons pe_str pa_nil))))))) pa_nil))) (pa_cons (pe_ix ix_tup (pv 1) pe_int (fun _ _ => rfl)) pa_nil))))) pss_nil)
        (pss_cons (ps_if (PW.pt (pw_or (pt_cmpR op_eq (pv 2) pe_int (nomark _)) (pw_or1 (pt_cmpR op_eq (pe_callB call_len_seq (by rfl) B.len PySem.boot_len (pa_cons (pe_ix ix_tup (pv 1) pe_int (fun _ _ => rfl)) pa_nil)) pe_int (nomark _))))) (pss_cons (ps_set (i := 3) nd rfl (.inl rfl) (pe_lst (pa_cons (pe_callTy call_list_of (by rfl) B.list PyProof.Rows.boot_list (pa_cons (pe_ix ix_tup (pv 1) pe_int (fun _ _ => rfl)) pa_nil)) (pa_cons (pe_op op_catP (pe_ix ix_tup (pv 1) pe_int (fun _ _ => rfl)) (pe_tupF (pa_cons (pe_call GO hr2 rfl DO.m DO.k DO.b .nil pass0 (pa_cons (pv 0) pa_nil)) pa_nil))) (pa_cons pe_non (pa_cons (pe_op op_catP (pe_ix ix_tup (pv 1) pe_int (fun _ _ => rfl)) (pe_tupF (pa_cons (pe_tup (pa_cons (pe_ix ix_tup (pv 1) pe_int (fun _ _ => rfl)) (pa_cons (pe_tup pa_nil) pa_nil))) pa_nil))) pa_nil))))))
        (pss_one (ps_ret (pe_tup (pa_cons (pe_ix ix_tup (pv 1) pe_int (fun _ _ => rfl)) (pa_cons (pe_call GP hr2 rfl DPk.m DPk.k DPk.b .nil pass0 (pa_cons (pv 0) (pa_cons (pv 3) pa_nil))) pa_nil)))))) pss_nil)
        (pss_cons (ps_set (i := 4) nd rfl (.inl rfl) (pe_call GT hr1 rfl DT.m DT.k DT.b .nil pass0 (pa_cons (pv 0) (pa_cons (pe_callB call_len_seq (by rfl) B.len PySem.boot_len (pa_cons (pe_ix ix_tup (pv 1) pe_int (fun _ _ => rfl)) pa_nil)) pa_nil))))
        (pss_cons (ps_set (i := 5) nd rfl (.inl rfl) (pe_ix ix_tup (pe_ix ix_tup (pv 1) pe_int (fun _ _ => rfl)) (pv 4) (fun _ _ => rfl)))
        (pss_cons (ps_set (i := 6) nd rfl (.inl rfl) (pe_lst (pa_cons (pe_call GO hr2 rfl DO.m DO.k DO.b .nil pass0 (pa_cons (pv 0) pa_nil)) (pa_cons (pe_callTy call_list_of (by rfl) B.list PyProof.Rows.boot_list (pa_cons (pv 5) pa_nil)) (pa_cons (pe_op op_catR (pv 5) (pe_tup (pa_cons (pe_lst pa_nil) pa_nil))) (pa_cons (pe_op op_catR (pv 5) (pe_tup (pa_cons pe_dnewK pa_nil))) (pa_cons (pv 5) pa_nil)))))))
        (pss_cons (ps_set (i := 6) nd rfl (.inl rfl) (pe_op op_cat (pv 6) (pe_lst (pa_cons (pe_tup (pa_cons (pe_op op_add (pe_ix ix_tup (pv 1) pe_int (fun _ _ => rfl)) pe_int) (pa_cons (pe_tup pa_nil) pa_nil))) (pa_cons (pe_tup (pa_cons (pe_op op_add (pe_ix ix_tup (pv 1) pe_int (fun _ _ => rfl)) pe_int) (pa_cons (pe_tup pa_nil) pa_nil))) pa_nil)))))
        (pss_one (ps_ret (pe_tup (pa_cons (pe_ix ix_tup (pv 1) pe_int (fun _ _ => rfl)) (pa_cons (pe_op op_catP (pe_op op_catP (pe_slice sl_R (pe_ix ix_tup (pv 1) pe_int (fun _ _ => rfl)) po_none (po_some (pv 4))) (pe_tupF (pa_cons (pe_call GP hr2 rfl DPk.m DPk.k DPk.b .nil pass0 (pa_cons (pv 0) (pa_cons (pv 6) pa_nil))) pa_nil))) (pe_slice sl_R (pe_ix ix_tup (pv 1) pe_int (fun _ _ => rfl)) (po_some (pe_op op_add (pv 4) pe_int)) po_none)) pa_nil)))))))))))), ?_⟩
    refine ⟨_, rfl, p, l, 8, rfl, g, by decide, by decide, fun way H0 w0 w1 g0 b0 => ?_⟩
    have X0 : XtP p H H0 := fun b o e n => by rw [b0 b n]; exact e
    have st0 := st.gw (Gw.hand g g0 X0)
    clear st b0 g
    refine ⟨_, rfl, rfl, _, rfl, ite2 (fun _ => ?_) (fun _ => ?_)⟩
    · -- way 0
      refine ⟨_, rfl, _, rfl, p, l, rfl, g0, fun v1 H1 g1 x1 k1 n1 => ?_⟩
      have st1 := st0.gw (Gw.hand g0 g1 x1)
      have X1 : XtP p H H1 := fun b o e n => x1 _ _ (X0 b o e n) n
      refine ⟨_, rfl, a, _, rfl, .inr (.inl st1.ra), fun m2 hm2 => ?_⟩
      have s2 := sN (o := .lst [.int (kt : Int), .ref b]) hm2
      refine ⟨_, rfl, _, rfl, a, _, rfl, rdS st1.ra s2, fun z3 H3 s3 r3 => ?_⟩
      have r3 : Rd H3 z3 (.tup [.int (kt : Int)]) := r3
      refine ⟨_, rfl, (by show 1 ≤ sizeLine; decide), fun c4 hc4 => ?_⟩
      have s4 := sN (o := .tup [.int 0]) hc4
      have e4 : (upd H3 c4 (.tup [.int 0])) c4 = some (.tup [.int 0]) := upd_same
      revert s4 e4
      generalize (upd H3 c4 (.tup [.int 0])) = H4
      intro s4 e4
      have s14 := sT s2 (sT s3 s4)
      refine ⟨a, c4, _, _, rfl, rfl, rdS st1.ra s14, .inl e4, (by show 2 + 1 ≤ sizeLine; decide), fun z5 H5 s5 r5 => ⟨(by show 4 ≤ sizeLine; decide), fun m hm => ?_⟩⟩
      have s6 := sN (o := .lst [v1, .ref m2, .ref z3, .ref z5]) hm
      have s16 := sT s14 (sT s5 s6)
      have npm : m ≠ p := by
        obtain ⟨⟨ps, hp⟩, _⟩ := g1.pl
        exact (ne_of_none (sT s14 s5 _ _ hp) hm).symm
      refine ⟨p, l, m, _, rfl, g1.same s16, upd_same, npm, (by show 0 < 4; decide), (by show 4 < 1000; decide), fun v H7 hv g7 b7 => ?_⟩
      have gw : Gw (upd H5 m (.lst [v1, .ref m2, .ref z3, .ref z5])) H7 := Gw.hand (g1.same s16) g7 fun b o e n => by rw [b7 b n]; exact e
      have X7 : XtP p H H7 := (X1.st s16).but b7
      suffices z : Kn H7 6 v ∧ PlIn H7 v from k v H7 g7 X7 z.1 z.2
      simp only [List.mem_cons, List.not_mem_nil, or_false] at hv
      rcases hv with rfl | rfl | rfl | rfl
      · exact ⟨((k1.same s16).gw gw).upk 4, ((n1.gw k1 (.of s16)).gw (k1.same s16) gw).pl⟩
      · have e : (upd H5 m (.lst [v1, .ref m2, .ref z3, .ref z5])) m2 = some (.lst [.int (kt : Int), .ref b]) := (sT s3 (sT s4 (sT s5 s6))) _ _ upd_same
        exact ⟨(kn_l e).gw gw, ((nop_l e).gw (n := 0) (kn_l e) gw).pl⟩
      · have r := rdG ((Gw.of (sT s4 (sT s5 s6))).tr gw) r3
        exact ⟨kn_r r (by show 1 ≤ 9; decide) fun x hx => by rw [List.mem_singleton.mp hx]; exact (gd_i _).1, NoP.pl fun a x b e r' => by
          cases e
          have := rd_un r r'
          cases this⟩
      · have r := rdG ((Gw.of s6).tr gw) r5
        refine ⟨kn_r r (by show 3 ≤ 9; decide) fun x hx => ?_, NoP.pl fun a x b e r' => by
          cases e
          have := rd_un r r'
          cases this⟩
        have hx : x ∈ [V.int (kt : Int), .ref b, .int 0] := hx
        simp only [List.mem_cons, List.not_mem_nil, or_false] at hx
        rcases hx with rfl | rfl | rfl
        · exact (gd_i _).1
        · exact (st1.k5.same s16).gw gw
        · exact (gd_i _).1
    refine ⟨_, rfl, rfl, _, rfl, ite2 (fun _ => ?_) (fun _ => ?_)⟩
    · -- way 1
      refine ⟨_, rfl, _, rfl, _, _, rfl, rfl, ⟨by decide, by decide, by decide⟩, _, rfl, a, _, 0, _, rfl, rfl, .inl st0.ra, rfl, _, _, rfl, rfl, (by show 6 ≤ sizeLine; decide), fun m hm => ?_⟩
      have s1 := sN (o := .lst [.int (-1), .bl true, .int (2 ^ (32 : Int).toNat), .non, .int ((kt : Int) + 1), .str "0"]) hm
      have npm : m ≠ p := by
        obtain ⟨⟨ps, hp⟩, _⟩ := g0.pl
        exact (ne_of_none hp hm).symm
      refine ⟨p, l, m, _, rfl, g0.same s1, upd_same, npm, (by show 0 < 6; decide), (by show 6 < 1000; decide), fun v H7 hv g7 b7 => ?_⟩
      have fl := fl_menu hv
      have st7 := st0.gw ((Gw.of s1).tr (Gw.hand (g0.same s1) g7 fun b o e n => by rw [b7 b n]; exact e))
      have X7 : XtP p H H7 := (X0.st s1).but b7
      clear hv b7 npm s1 hm
      refine ⟨_, rfl, a, _, 1, .ref b, rfl, rfl, .inl st7.ra, rfl, (by show 2 ≤ sizeLine; decide), fun z hz => ?_⟩
      have s8 := sN (o := .tup [v, .ref b]) hz
      have st8 := st7.gw (.of s8)
      exact k _ _ (g7.same s8) (X7.st s8) (kn_r2 (.inl upd_same) fl.kn st8.k5) (plin_of (.inl upd_same) st8.pl)
    refine ⟨_, rfl, rfl, _, rfl, ite2 (fun _ => iteT ?_) (fun _ => ⟨_, rfl, a, _, 1, .ref b, rfl, rfl, .inl st0.ra, rfl, b, ps, rfl, .inr st0.pl.sq, rfl, _, rfl, ?_⟩)⟩
    rotate_left
    · by_cases emp : ps = []
      · rw [decide_eq_true (show V.int (ps.length : Int) = V.int 0 by rw [emp]; rfl)]
        refine iteT ?_
        refine ⟨_, rfl, a, _, 1, .ref b, rfl, rfl, .inl st0.ra, rfl, b, ps, rfl, .inr st0.pl.sq, fun m1 h1 => ?_⟩
        have s1 := sN (o := .lst ps) h1
        have e1 : (upd H0 m1 (.lst ps)) m1 = some (.lst ps) := upd_same
        revert s1 e1
        generalize (upd H0 m1 (.lst ps)) = H1
        intro s1 e1
        have st1 := st0.gw (.of s1)
        refine ⟨_, rfl, a, _, 1, .ref b, rfl, rfl, .inl st1.ra, rfl, _, rfl, p, l, rfl, g0.same s1, fun v2 H2 g2 x2 k2 n2 => ⟨(by show 1 ≤ sizeLine; decide), fun c3 o3 h3 ho3 => ?_⟩⟩
        have gw2 := Gw.hand (g0.same s1) g2 x2
        have X2 : XtP p H H2 := fun b o e n => x2 _ _ (s1 _ _ (X0 b o e n)) n
        have em1 := x2 _ _ e1 (by
          obtain ⟨⟨ps, hp⟩, _⟩ := g0.pl
          exact (ne_of_none hp h1).symm)
        have s3 := sN (o := .frz o3 (.tup [v2])) h3
        have e3 : (upd H2 c3 (.frz o3 (.tup [v2]))) c3 = some (.frz o3 (.tup [v2])) := upd_same
        revert s3 e3
        generalize (upd H2 c3 (.frz o3 (.tup [v2]))) = H3
        intro s3 e3
        have st3 := st1.gw (gw2.tr (.of s3))
        refine ⟨b, c3, ps, [v2], rfl, rfl, .inl ⟨st3.pl.rd, ⟨o3, e3, ho3⟩, by simp⟩, (by have := st3.few; show ps.length + 1 ≤ sizeLine; exact Nat.le_of_lt (size_ok (by omega))), fun z4 H4 s4 r4 => ?_⟩
        have st4 := st3.gw (.of s4)
        refine ⟨_, rfl, a, _, 1, .ref b, rfl, rfl, .inl st4.ra, rfl, _, rfl, a, _, 0, _, rfl, rfl, .inl st4.ra, rfl, Nat.zero_le _, fun c5 h5 => ?_⟩
        have s5 := sN (o := .tup []) h5
        have e5 : (upd H4 c5 (.tup [])) c5 = some (.tup []) := upd_same
        revert s5 e5
        generalize (upd H4 c5 (.tup [])) = H5
        intro s5 e5
        refine ⟨(by show 2 ≤ sizeLine; decide), fun c6 h6 => ?_⟩
        have e56 := sN (o := .tup [.int (kt : Int), .ref c5]) h6 _ _ e5
        have s6 := sN (o := .tup [.int (kt : Int), .ref c5]) h6
        have e6 : (upd H5 c6 (.tup [.int (kt : Int), .ref c5])) c6 = some (.tup [.int (kt : Int), .ref c5]) := upd_same
        revert s6 e6
        generalize (upd H5 c6 (.tup [.int (kt : Int), .ref c5])) = H6
        intro s6 e6
        refine ⟨(by show 1 ≤ sizeLine; decide), fun c7 o7 h7 ho7 => ?_⟩
        have s7 := sN (o := .frz o7 (.tup [.ref c6])) h7
        have e7 : (upd H6 c7 (.frz o7 (.tup [.ref c6]))) c7 = some (.frz o7 (.tup [.ref c6])) := upd_same
        revert s7 e7
        generalize (upd H6 c7 (.frz o7 (.tup [.ref c6]))) = H7
        intro s7 e7
        have s47 := sT s5 (sT s6 s7)
        have st7 := st4.gw (.of s47)
        refine ⟨b, c7, ps, [.ref c6], rfl, rfl, .inl ⟨st7.pl.rd, ⟨o7, e7, ho7⟩, by simp⟩, (by have := st7.few; show ps.length + 1 ≤ sizeLine; exact Nat.le_of_lt (size_ok (by omega))), fun z8 H8 s8 r8 => ⟨(by show 4 ≤ sizeLine; decide), fun m hm => ?_⟩⟩
        have s9 := sN (o := .lst [.ref m1, .ref z4, .non, .ref z8]) hm
        have e9 : (upd H8 m (.lst [.ref m1, .ref z4, .non, .ref z8])) m = some (.lst [.ref m1, .ref z4, .non, .ref z8]) := upd_same
        revert s9 e9
        generalize (upd H8 m (.lst [.ref m1, .ref z4, .non, .ref z8])) = H9
        intro s9 e9
        have s29 := sT s3 (sT s4 (sT s47 (sT s8 s9)))
        have g9 := g2.same s29
        have npm : m ≠ p := by
          obtain ⟨⟨ps, hp⟩, _⟩ := g2.pl
          exact (ne_of_none ((sT s3 (sT s4 (sT s47 s8))) _ _ hp) hm).symm
        have st9 := st7.gw (.of (sT s8 s9))
        have good : ∀ v ∈ [V.ref m1, .ref z4, .non, .ref z8], Kn H9 5 v ∧ PlV H9 v := fun v hv => by
          simp only [List.mem_cons, List.not_mem_nil, or_false] at hv
          rcases hv with rfl | rfl | rfl | rfl
          · have e := s29 _ _ em1
            exact ⟨kn_l e, plv_l e⟩
          · have r := plG (.of (sT s47 (sT s8 s9))) r4
            refine ⟨kn_r r.rd (by rw [List.length_append]; have := st9.few; show _ + 1 ≤ _; omega) fun x hx => ?_, plv_pl r⟩
            rcases List.mem_append.mp hx with hx | hx
            · exact (st9.it x hx).2
            · rw [List.mem_singleton.mp hx]
              exact (k2.same s29).upk 2
          · exact ⟨gd_n.1, plv_at fun a e => by cases e⟩
          · have r := plG (.of s9) r8
            refine ⟨kn_r r.rd (by rw [List.length_append]; have := st9.few; show _ + 1 ≤ _; omega) fun x hx => ?_, plv_pl r⟩
            rcases List.mem_append.mp hx with hx | hx
            · exact (st9.it x hx).2
            · rw [List.mem_singleton.mp hx]
              have e6' := (sT s7 (sT s8 s9)) _ _ e6
              have e5' := (sT s7 (sT s8 s9)) _ _ (s6 _ _ e5)
              exact kn_r2 (.inl e6') (gd_i _).1 (gd_t0 e5').1
        refine ⟨_, rfl, a, _, 0, _, rfl, rfl, .inl st9.ra, rfl, _, rfl, _, rfl, p, l, m, _, rfl, g9, e9, npm, (by show 0 < 4; decide), (by show 4 < 1000; decide), fun v H10 hv g10 b10 => ⟨(by show 2 ≤ sizeLine; decide), fun z hz => ?_⟩⟩
        have gw10 : Gw H9 H10 := Gw.hand g9 g10 fun b o e n => by rw [b10 b n]; exact e
        obtain ⟨kv, pv⟩ := good v hv
        have pv10 : PlV H10 v := pv.gw kv gw10
        have s11 := sN (o := .tup [.int (kt : Int), v]) hz
        exact k _ _ (g10.same s11) ((((X2.st s29).but b10)).st s11) (kn_r2 (.inl upd_same) (gd_i _).1 ((kv.gw gw10).same s11)) (plv_in (.inl upd_same) (pv10.gw (kv.gw gw10) (.of s11)))
      · rw [decide_eq_false (show ¬ V.int (ps.length : Int) = V.int 0 from fun z => emp (List.eq_nil_of_length_eq_zero (by have := V.int.inj z; omega)))]
        refine iteF ?_
        have lps : 0 < ps.length := List.length_pos_iff.mpr emp
        refine ⟨_, rfl, _, rfl, a, _, 1, .ref b, rfl, rfl, .inl st0.ra, rfl, b, ps, rfl, .inr st0.pl.sq, p, l, _, rfl, g0, by omega, by have := st0.few; omega, fun d H1 d0 d1 g1 b1 => ?_⟩
        have gw1 : Gw H0 H1 := Gw.hand g0 g1 fun b o e n => by rw [b1 b n]; exact e
        have st1 := st0.gw gw1
        have X1 := X0.but b1
        clear b1 gw1 st0 X0 g0
        obtain ⟨x, hx, ex⟩ := at_in ps d0 d1
        obtain ⟨sx, kx⟩ := st1.it x hx
        obtain ⟨c, ys, rfl, rc, lys, kys⟩ := shp_it sx kx
        refine ⟨_, rfl, a, _, 1, .ref b, rfl, rfl, .inl st1.ra, rfl, _, rfl, b, ps, d, .ref c, rfl, rfl, st1.pl.sq, ex, ?_⟩
        refine ⟨_, rfl, p, l, rfl, g1, fun v2 H2 g2 x2 k2 n2 => ?_⟩
        have gw2 := Gw.hand g1 g2 x2
        have X2 : XtP p H H2 := fun b o e n => x2 _ _ (X1 b o e n) n
        have st2 := st1.gw gw2
        have rc2 := rdG gw2 rc
        have kys2 : ∀ y ∈ ys, Kn H2 3 y := fun y hy => (kys y hy).gw gw2
        clear gw2 x2 X1 st1 rc kys sx kx ex hx g1
        refine ⟨_, rfl, c, ys, rfl, .inr (.inl rc2), fun m3 h3 => ?_⟩
        have s3 := sN (o := .lst ys) h3
        have e3 : (upd H2 m3 (.lst ys)) m3 = some (.lst ys) := upd_same
        revert s3 e3
        generalize (upd H2 m3 (.lst ys)) = H3
        intro s3 e3
        have lsz : ys.length + 1 ≤ sizeLine := Nat.le_of_lt (size_ok (by omega))
        refine ⟨_, rfl, Nat.zero_le _, fun c4 h4 => ?_⟩
        have s4 := sN (o := .lst []) h4
        have e4 : (upd H3 c4 (.lst [])) c4 = some (.lst []) := upd_same
        revert s4 e4
        generalize (upd H3 c4 (.lst [])) = H4
        intro s4 e4
        refine ⟨(by show 1 ≤ sizeLine; decide), fun c5 h5 => ?_⟩
        have s5 := sN (o := .tup [.ref c4]) h5
        have e5 : (upd H4 c5 (.tup [.ref c4])) c5 = some (.tup [.ref c4]) := upd_same
        revert s5 e5
        generalize (upd H4 c5 (.tup [.ref c4])) = H5
        intro s5 e5
        have s35 := sT s3 (sT s4 s5)
        refine ⟨c, c5, ys, [.ref c4], rfl, rfl, rdS rc2 s35, .inl e5, lsz, fun z6 H6 s6 r6 => ?_⟩
        refine ⟨_, rfl, fun c7 h7 => ?_⟩
        have s7 := sN (o := .dK []) h7
        have e7 : (upd H6 c7 (.dK [])) c7 = some (.dK []) := upd_same
        revert s7 e7
        generalize (upd H6 c7 (.dK [])) = H7
        intro s7 e7
        refine ⟨(by show 1 ≤ sizeLine; decide), fun c8 h8 => ?_⟩
        have s8 := sN (o := .tup [.ref c7]) h8
        have e8 : (upd H7 c8 (.tup [.ref c7])) c8 = some (.tup [.ref c7]) := upd_same
        revert s8 e8
        generalize (upd H7 c8 (.tup [.ref c7])) = H8
        intro s8 e8
        have s78 := sT s7 s8
        refine ⟨c, c8, ys, [.ref c7], rfl, rfl, rdS rc2 (sT s35 (sT s6 s78)), .inl e8, lsz, fun z9 H9 s9 r9 => ⟨_, rfl, (by show 5 ≤ sizeLine; decide), fun m10 h10 => ?_⟩⟩
        have s10 := sN (o := .lst [v2, .ref m3, .ref z6, .ref z9, .ref c]) h10
        have e10 : (upd H9 m10 (.lst [v2, .ref m3, .ref z6, .ref z9, .ref c])) m10 = some (.lst [v2, .ref m3, .ref z6, .ref z9, .ref c]) := upd_same
        revert s10 e10
        generalize (upd H9 m10 (.lst [v2, .ref m3, .ref z6, .ref z9, .ref c])) = H10
        intro s10 e10
        have s910 := sT s9 s10
        have s310 : Same H2 H10 := sT s35 (sT s6 (sT s78 s910))
        have st10 := st2.gw (.of s310)
        refine ⟨_, rfl, _, rfl, a, _, 0, _, rfl, rfl, .inl st10.ra, rfl, _, _, rfl, rfl, Nat.zero_le _, fun c11 h11 => ?_⟩
        have s11 := sN (o := .tup []) h11
        have e11 : (upd H10 c11 (.tup [])) c11 = some (.tup []) := upd_same
        revert s11 e11
        generalize (upd H10 c11 (.tup [])) = H11
        intro s11 e11
        refine ⟨(by show 2 ≤ sizeLine; decide), fun c12 h12 => ?_⟩
        have s12 := sN (o := .tup [.int ((kt : Int) + 1000), .ref c11]) h12
        have e12 : (upd H11 c12 (.tup [.int ((kt : Int) + 1000), .ref c11])) c12 = some (.tup [.int ((kt : Int) + 1000), .ref c11]) := upd_same
        revert s12 e12
        generalize (upd H11 c12 (.tup [.int ((kt : Int) + 1000), .ref c11])) = H12
        intro s12 e12
        have st12 := st10.gw (.of (sT s11 s12))
        refine ⟨_, rfl, a, _, 0, _, rfl, rfl, .inl st12.ra, rfl, _, _, rfl, rfl, Nat.zero_le _, fun c13 h13 => ?_⟩
        have s13 := sN (o := .tup []) h13
        have e13 : (upd H12 c13 (.tup [])) c13 = some (.tup []) := upd_same
        revert s13 e13
        generalize (upd H12 c13 (.tup [])) = H13
        intro s13 e13
        refine ⟨(by show 2 ≤ sizeLine; decide), fun c14 h14 => ?_⟩
        have s14 := sN (o := .tup [.int ((kt : Int) + 999), .ref c13]) h14
        have e14 : (upd H13 c14 (.tup [.int ((kt : Int) + 999), .ref c13])) c14 = some (.tup [.int ((kt : Int) + 999), .ref c13]) := upd_same
        revert s14 e14
        generalize (upd H13 c14 (.tup [.int ((kt : Int) + 999), .ref c13])) = H14
        intro s14 e14
        refine ⟨(by show 2 ≤ sizeLine; decide), fun m15 h15 => ?_⟩
        have s15 := sN (o := .lst [.ref c12, .ref c14]) h15
        have e15 : (upd H14 m15 (.lst [.ref c12, .ref c14])) m15 = some (.lst [.ref c12, .ref c14]) := upd_same
        revert s15 e15
        generalize (upd H14 m15 (.lst [.ref c12, .ref c14])) = H15
        intro s15 e15
        have s1115 := sT s11 (sT s12 (sT s13 (sT s14 s15)))
        refine ⟨m10, m15, _, _, rfl, rfl, s1115 _ _ e10, e15, (by show 5 + 2 ≤ sizeLine; decide), fun m h16 => ?_⟩
        have s16 := sN (o := .lst ([v2, .ref m3, .ref z6, .ref z9, .ref c] ++ [.ref c12, .ref c14])) h16
        have e16 : (upd H15 m (.lst ([v2, .ref m3, .ref z6, .ref z9, .ref c] ++ [.ref c12, .ref c14]))) m = some (.lst [v2, .ref m3, .ref z6, .ref z9, .ref c, .ref c12, .ref c14]) := upd_same
        revert s16 e16
        generalize (upd H15 m (.lst ([v2, .ref m3, .ref z6, .ref z9, .ref c] ++ [.ref c12, .ref c14]))) = H16
        intro s16 e16
        have s1116 := sT s1115 s16
        have s316 := sT s310 s1116
        have g16 := g2.same s316
        have st16 := st2.gw (.of s316)
        have npm : m ≠ p := by
          obtain ⟨⟨ps, hp⟩, _⟩ := g2.pl
          exact (ne_of_none ((sT s310 s1115) _ _ hp) h16).symm
        have knr : ∀ z w, Rd H16 z (.tup (ys ++ [w])) → Kn H16 3 w → Kn H16 4 (.ref z) := fun z w r kw => kn_r r (by rw [List.length_append]; show _ + 1 ≤ _; omega) fun y hy => by
          rcases List.mem_append.mp hy with hy | hy
          · exact (kys2 y hy).same s316
          · rw [List.mem_singleton.mp hy]
            exact kw
        have good : ∀ v ∈ [v2, .ref m3, .ref z6, .ref z9, .ref c, .ref c12, .ref c14], Kn H16 4 v := fun v hv => by
          simp only [List.mem_cons, List.not_mem_nil, or_false] at hv
          rcases hv with rfl | rfl | rfl | rfl | rfl | rfl | rfl
          · exact (k2.same s316).upk 2
          · exact kn_l ((sT (sT s4 s5) (sT s6 (sT s78 (sT s910 s1116)))) _ _ e3)
          · exact knr _ _ (rdS r6 (sT s78 (sT s910 s1116))) (kn_l ((sT s5 (sT s6 (sT s78 (sT s910 s1116)))) _ _ e4))
          · exact knr _ _ (rdS r9 (sT s10 s1116)) (kn_d ((sT s8 (sT s910 s1116)) _ _ e7))
          · exact kn_r (rdS rc2 s316) (by omega) fun y hy => (kys2 y hy).same s316
          · have q1 := (sT s13 (sT s14 (sT s15 s16))) _ _ e12
            have q2 := (sT s12 (sT s13 (sT s14 (sT s15 s16)))) _ _ e11
            exact (kn_r2 (n := 1) (.inl q1) (gd_i _).1 (gd_t0 q2).1).upk 2
          · have q1 := (sT s15 s16) _ _ e14
            have q2 := (sT s14 (sT s15 s16)) _ _ e13
            exact (kn_r2 (n := 1) (.inl q1) (gd_i _).1 (gd_t0 q2).1).upk 2
        have X16 := X2.st s316
        clear knr s1116 s1115 s310 s910 s78 s35 kys2 rc2 st2 st10 st12 k2 n2
        refine ⟨_, rfl, a, _, 0, _, rfl, rfl, .inl st16.ra, rfl, _, rfl, a, _, 1, .ref b, rfl, rfl, .inl st16.ra, rfl, _, rfl, _, rfl, b, ps, rfl, st16.pl.rd, fun z17 H17 s17 r17 => ?_⟩
        obtain ⟨dn, rfl⟩ : ∃ dn : Nat, d = (dn : Int) := ⟨d.toNat, by omega⟩
        rw [cut_toV] at r17
        have npm17 : m ≠ p := npm
        refine ⟨_, rfl, _, rfl, p, l, m, _, rfl, g16.same s17, s17 _ _ e16, npm, (by show 0 < 7; decide), (by show 7 < 1000; decide), fun v H18 hv g18 b18 => ⟨(by show 1 ≤ sizeLine; decide), fun c19 o19 h19 ho19 => ?_⟩⟩
        have gw18 : Gw H17 H18 := Gw.hand (g16.same s17) g18 fun b o e n => by rw [b18 b n]; exact e
        have kv18 := ((good v hv).same s17).gw gw18
        have st18 := (st16.gw (.of s17)).gw gw18
        have r18 := rdG gw18 r17
        have X18 := (X16.st s17).but b18
        clear hv b18 gw18 r17 good st16 X16 g16
        have s19 := sN (o := .frz o19 (.tup [v])) h19
        have e19 : (upd H18 c19 (.frz o19 (.tup [v]))) c19 = some (.frz o19 (.tup [v])) := upd_same
        revert s19 e19
        generalize (upd H18 c19 (.frz o19 (.tup [v]))) = H19
        intro s19 e19
        have st19 := st18.gw (.of s19)
        have lt : (ps.take dn).length ≤ 4 := by
          rw [List.length_take]
          have := st19.few
          omega
        have ld : (ps.drop (dn + 1)).length ≤ 4 := by
          rw [List.length_drop]
          have := st19.few
          omega
        refine ⟨z17, c19, _, [v], rfl, rfl, .inl ⟨rdS r18 s19, ⟨o19, e19, ho19⟩, by simp⟩, Nat.le_of_lt (size_ok (by show _ + 1 ≤ _; omega)), fun z20 H20 s20 r20 => ?_⟩
        have st20 := st19.gw (.of s20)
        refine ⟨_, rfl, a, _, 1, .ref b, rfl, rfl, .inl st20.ra, rfl, _, rfl, _, _, rfl, rfl, _, rfl, b, ps, rfl, st20.pl.rd, fun z21 H21 s21 r21 => ?_⟩
        rw [show ((dn : Int) + 1) = ((dn + 1 : Nat) : Int) by omega, cut_fromV] at r21
        refine ⟨z20, z21, _, _, rfl, rfl, .inr ⟨plG (.of s21) r20, r21, by simp⟩, Nat.le_of_lt (size_ok (by rw [List.length_append]; show _ + 1 + _ ≤ _; omega)), fun z22 H22 s22 r22 => ⟨(by show 2 ≤ sizeLine; decide), fun z hz => ?_⟩⟩
        have s23 := sN (o := .tup [.int (kt : Int), .ref z22]) hz
        have s2023 := sT s20 (sT s21 (sT s22 s23))
        have st23 := st19.gw (.of s2023)
        have pl23 := plG (.of s23) r22
        refine k _ _ (g18.same (sT s19 s2023)) (X18.st (sT s19 s2023)) (kn_r2 (.inl upd_same) (gd_i _).1 (kn_r pl23.rd ?_ fun y hy => ?_)) (plin_of (.inl upd_same) pl23)
        · rw [List.length_append, List.length_append]
          show _ + 1 + _ ≤ 9
          omega
        · rcases List.mem_append.mp hy with hy | hy
          · rcases List.mem_append.mp hy with hy | hy
            · exact (st23.it y (List.mem_of_mem_take hy)).2
            · rw [List.mem_singleton.mp hy]
              exact kv18.same (sT s19 s2023)
          · exact (st23.it y (List.mem_of_mem_drop hy)).2
    · refine ⟨_, rfl, a, _, 1, .ref b, rfl, rfl, .inl st0.ra, rfl, b, ps, rfl, .inr st0.pl.sq, fun m1 h1 => ?_⟩
      have s1 := sN (o := .lst ps) h1
      have e1 : (upd H0 m1 (.lst ps)) m1 = some (.lst ps) := upd_same
      revert s1 e1
      generalize (upd H0 m1 (.lst ps)) = H1
      intro s1 e1
      have st1 := st0.gw (.of s1)
      refine ⟨_, rfl, a, _, 1, .ref b, rfl, rfl, .inl st1.ra, rfl, _, rfl, p, l, rfl, g0.same s1, fun v2 H2 g2 x2 k2 n2 => ⟨(by show 1 ≤ sizeLine; decide), fun c3 o3 h3 ho3 => ?_⟩⟩
      have gw2 := Gw.hand (g0.same s1) g2 x2
      have X2 : XtP p H H2 := fun b o e n => x2 _ _ (s1 _ _ (X0 b o e n)) n
      have em1 := x2 _ _ e1 (by
        obtain ⟨⟨ps, hp⟩, _⟩ := g0.pl
        exact (ne_of_none hp h1).symm)
      have s3 := sN (o := .frz o3 (.tup [v2])) h3
      have e3 : (upd H2 c3 (.frz o3 (.tup [v2]))) c3 = some (.frz o3 (.tup [v2])) := upd_same
      revert s3 e3
      generalize (upd H2 c3 (.frz o3 (.tup [v2]))) = H3
      intro s3 e3
      have st3 := st1.gw (gw2.tr (.of s3))
      refine ⟨b, c3, ps, [v2], rfl, rfl, .inl ⟨st3.pl.rd, ⟨o3, e3, ho3⟩, by simp⟩, (by have := st3.few; show ps.length + 1 ≤ sizeLine; exact Nat.le_of_lt (size_ok (by omega))), fun z4 H4 s4 r4 => ?_⟩
      have st4 := st3.gw (.of s4)
      refine ⟨_, rfl, a, _, 1, .ref b, rfl, rfl, .inl st4.ra, rfl, _, rfl, a, _, 0, _, rfl, rfl, .inl st4.ra, rfl, Nat.zero_le _, fun c5 h5 => ?_⟩
      have s5 := sN (o := .tup []) h5
      have e5 : (upd H4 c5 (.tup [])) c5 = some (.tup []) := upd_same
      revert s5 e5
      generalize (upd H4 c5 (.tup [])) = H5
      intro s5 e5
      refine ⟨(by show 2 ≤ sizeLine; decide), fun c6 h6 => ?_⟩
      have e56 := sN (o := .tup [.int (kt : Int), .ref c5]) h6 _ _ e5
      have s6 := sN (o := .tup [.int (kt : Int), .ref c5]) h6
      have e6 : (upd H5 c6 (.tup [.int (kt : Int), .ref c5])) c6 = some (.tup [.int (kt : Int), .ref c5]) := upd_same
      revert s6 e6
      generalize (upd H5 c6 (.tup [.int (kt : Int), .ref c5])) = H6
      intro s6 e6
      refine ⟨(by show 1 ≤ sizeLine; decide), fun c7 o7 h7 ho7 => ?_⟩
      have s7 := sN (o := .frz o7 (.tup [.ref c6])) h7
      have e7 : (upd H6 c7 (.frz o7 (.tup [.ref c6]))) c7 = some (.frz o7 (.tup [.ref c6])) := upd_same
      revert s7 e7
      generalize (upd H6 c7 (.frz o7 (.tup [.ref c6]))) = H7
      intro s7 e7
      have s47 := sT s5 (sT s6 s7)
      have st7 := st4.gw (.of s47)
      refine ⟨b, c7, ps, [.ref c6], rfl, rfl, .inl ⟨st7.pl.rd, ⟨o7, e7, ho7⟩, by simp⟩, (by have := st7.few; show ps.length + 1 ≤ sizeLine; exact Nat.le_of_lt (size_ok (by omega))), fun z8 H8 s8 r8 => ⟨(by show 4 ≤ sizeLine; decide), fun m hm => ?_⟩⟩
      have s9 := sN (o := .lst [.ref m1, .ref z4, .non, .ref z8]) hm
      have e9 : (upd H8 m (.lst [.ref m1, .ref z4, .non, .ref z8])) m = some (.lst [.ref m1, .ref z4, .non, .ref z8]) := upd_same
      revert s9 e9
      generalize (upd H8 m (.lst [.ref m1, .ref z4, .non, .ref z8])) = H9
      intro s9 e9
      have s29 := sT s3 (sT s4 (sT s47 (sT s8 s9)))
      have g9 := g2.same s29
      have npm : m ≠ p := by
        obtain ⟨⟨ps, hp⟩, _⟩ := g2.pl
        exact (ne_of_none ((sT s3 (sT s4 (sT s47 s8))) _ _ hp) hm).symm
      have st9 := st7.gw (.of (sT s8 s9))
      have good : ∀ v ∈ [V.ref m1, .ref z4, .non, .ref z8], Kn H9 5 v ∧ PlV H9 v := fun v hv => by
        simp only [List.mem_cons, List.not_mem_nil, or_false] at hv
        rcases hv with rfl | rfl | rfl | rfl
        · have e := s29 _ _ em1
          exact ⟨kn_l e, plv_l e⟩
        · have r := plG (.of (sT s47 (sT s8 s9))) r4
          refine ⟨kn_r r.rd (by rw [List.length_append]; have := st9.few; show _ + 1 ≤ _; omega) fun x hx => ?_, plv_pl r⟩
          rcases List.mem_append.mp hx with hx | hx
          · exact (st9.it x hx).2
          · rw [List.mem_singleton.mp hx]
            exact (k2.same s29).upk 2
        · exact ⟨gd_n.1, plv_at fun a e => by cases e⟩
        · have r := plG (.of s9) r8
          refine ⟨kn_r r.rd (by rw [List.length_append]; have := st9.few; show _ + 1 ≤ _; omega) fun x hx => ?_, plv_pl r⟩
          rcases List.mem_append.mp hx with hx | hx
          · exact (st9.it x hx).2
          · rw [List.mem_singleton.mp hx]
            have e6' := (sT s7 (sT s8 s9)) _ _ e6
            have e5' := (sT s7 (sT s8 s9)) _ _ (s6 _ _ e5)
            exact kn_r2 (.inl e6') (gd_i _).1 (gd_t0 e5').1
      refine ⟨_, rfl, a, _, 0, _, rfl, rfl, .inl st9.ra, rfl, _, rfl, _, rfl, p, l, m, _, rfl, g9, e9, npm, (by show 0 < 4; decide), (by show 4 < 1000; decide), fun v H10 hv g10 b10 => ⟨(by show 2 ≤ sizeLine; decide), fun z hz => ?_⟩⟩
      have gw10 : Gw H9 H10 := Gw.hand g9 g10 fun b o e n => by rw [b10 b n]; exact e
      obtain ⟨kv, pv⟩ := good v hv
      have pv10 : PlV H10 v := pv.gw kv gw10
      have s11 := sN (o := .tup [.int (kt : Int), v]) hz
      exact k _ _ (g10.same s11) ((((X2.st s29).but b10)).st s11) (kn_r2 (.inl upd_same) (gd_i _).1 ((kv.gw gw10).same s11)) (plv_in (.inl upd_same) (pv10.gw (kv.gw gw10) (.of s11)))
end
end Q

namespace Q
open PySem L2 QR LE TDp
/-! what a filled gap lets go -/
def lead : Int → List (Int × V) → List V
  | _, [] => []
  | g, p :: r => if p.1 = g + 1 then p.2 :: lead (g + 1) r else []
theorem lead_le : ∀ {ks : List (Int × V)} {g : Int}, (lead g ks).length ≤ ks.length
  | [], _ => Nat.le_refl _
  | p :: r, g => by
    unfold lead
    split
    · exact Nat.succ_le_succ lead_le
    · exact Nat.zero_le _
theorem asc_ge : ∀ {ks : List (Int × V)} {g : Int} {i : Nat} {p : Int × V}, Asc g ks → ks[i]? = some p → g + 1 + (i : Int) ≤ p.1
  | [], g, i, p, _, h => by simp at h
  | q :: r, g, 0, p, a, h => by
    cases h
    have := a.1
    omega
  | q :: r, g, i + 1, p, a, h => by
    have h : r[i]? = some p := h
    have := asc_ge a.2 h
    have := a.1
    omega
theorem lead_at : ∀ {ks : List (Int × V)} {g : Int} {i : Nat} {p : Int × V}, Asc g ks → ks[i]? = some p → (p.1 = g + 1 + (i : Int) → (lead g ks)[i]? = some p.2) ∧ (p.1 ≠ g + 1 + (i : Int) → (lead g ks).length ≤ i)
  | [], g, i, p, _, h => by simp at h
  | q :: r, g, 0, p, a, h => by
    cases h
    unfold lead
    refine ⟨fun e => ?_, fun n => ?_⟩
    · rw [if_pos (by omega)]
      rfl
    · rw [if_neg (by omega)]
      exact Nat.le_refl _
  | q :: r, g, i + 1, p, a, h => by
    have h : r[i]? = some p := h
    unfold lead
    by_cases c : q.1 = g + 1
    · rw [if_pos c]
      have a2 := a.2
      rw [c] at a2
      obtain ⟨h1, h2⟩ := lead_at a2 h
      refine ⟨fun e => ?_, fun n => ?_⟩
      · exact h1 (by omega)
      · have := h2 (by omega)
        show (lead (g + 1) r).length + 1 ≤ i + 1
        omega
    · rw [if_neg c]
      refine ⟨fun e => ?_, fun _ => Nat.zero_le _⟩
      have := asc_ge a.2 h
      have := a.1
      omega
theorem val_lo {ks : List (Int × V)} {g j : Int} (a : Asc g ks) (h : j ≤ g) : valV (kvOf ks) (.inl j : Key) = none := by
  induction ks generalizing g with
  | nil => rfl
  | cons p r ih =>
    have := a.1
    show valV ((.inl p.1, p.2) :: kvOf r) (.inl j : Key) = none
    rw [valV_neg (fun z => by injection z with z; omega)]
    exact ih a.2 (by omega)
theorem drop_lo {ks : List (Int × V)} {g j : Int} (a : Asc g ks) (h : j ≤ g) : dropK (kvOf ks) (.inl j : Key) = kvOf ks := by
  induction ks generalizing g with
  | nil => rfl
  | cons p r ih =>
    have := a.1
    show dropK ((.inl p.1, p.2) :: kvOf r) (.inl j : Key) = (.inl p.1, p.2) :: kvOf r
    have ih := ih a.2 (by omega)
    unfold dropK at ih ⊢
    rw [List.filter_cons, if_pos (by simp; omega), ih]
theorem drn_lead : ∀ {ks : List (Int × V)} {t : Nat} {g : Int}, (t : Int) = g + 1 → Asc g ks → drn t (kvOf ks) = (lead g ks, t + (lead g ks).length, kvOf (ks.drop (lead g ks).length))
  | [], t, g, _, _ => drn_none rfl
  | p :: r, t, g, e, a => by
    by_cases c : p.1 = g + 1
    · have el : lead g (p :: r) = p.2 :: lead (g + 1) r := by
        conv => lhs; unfold lead
        rw [if_pos c]
      have ev : valV (kvOf (p :: r)) (.inl (t : Int) : Key) = some p.2 := valV_pos (by rw [e, ← c])
      have a2 := a.2
      rw [c] at a2
      have ed : dropK (kvOf (p :: r)) (.inl (t : Int) : Key) = kvOf r := by
        have := drop_lo a2 (Int.le_refl (g + 1))
        show dropK ((.inl p.1, p.2) :: kvOf r) _ = _
        rw [e]
        unfold dropK at this ⊢
        rw [List.filter_cons, if_neg (by simp [c]), this]
      rw [drn_some ev, ed, drn_lead (show ((t + 1 : Nat) : Int) = g + 1 + 1 by omega) a2, el]
      show (p.2 :: lead (g + 1) r, t + 1 + (lead (g + 1) r).length, _) = (p.2 :: lead (g + 1) r, t + ((lead (g + 1) r).length + 1), kvOf ((p :: r).drop ((lead (g + 1) r).length + 1)))
      rw [show t + 1 + (lead (g + 1) r).length = t + ((lead (g + 1) r).length + 1) by omega]
      rfl
    · have el : lead g (p :: r) = [] := by
        unfold lead
        rw [if_neg c]
      have ev : valV (kvOf (p :: r)) (.inl (t : Int) : Key) = none := by
        show valV ((.inl p.1, p.2) :: kvOf r) _ = none
        rw [valV_neg (fun z => by injection z with z; omega)]
        exact val_lo a.2 (by have := a.1; omega)
      rw [drn_none ev, el]
      rfl
theorem gap_let {ks : List (Int × V)} {g : Nat} {w : V} (a : Asc (g : Int) ks) : drn g (held1 g g w (kvOf ks)) = (w :: lead (g : Int) ks, g + 1 + (lead (g : Int) ks).length, kvOf (ks.drop (lead (g : Int) ks).length)) := by
  have ev : valV (kvOf ks) (.inl (g : Int) : Key) = none := val_lo a (Int.le_refl _)
  have eh : held1 g g w (kvOf ks) = kvOf ks ++ [(.inl (g : Int), w)] := by
    unfold held1
    rw [if_pos ⟨Nat.le_refl _, by omega, by rw [ev]; rfl⟩, putK_new _ ev]
  have e2 : valV (kvOf ks ++ [((.inl (g : Int) : Key), w)]) (.inl (g : Int)) = some w := by
    clear eh ev
    generalize (g : Int) = j at a
    have : ∀ {ks : List (Int × V)} {u : Int}, Asc u ks → j ≤ u → valV (kvOf ks ++ [((.inl j : Key), w)]) (.inl j) = some w := by
      intro ks
      induction ks with
      | nil => intro u _ _; exact valV_pos rfl
      | cons p r ih =>
        intro u a h
        have := a.1
        show valV ((.inl p.1, p.2) :: (kvOf r ++ [_])) (.inl j : Key) = _
        rw [valV_neg (fun z => by injection z with z; omega)]
        exact ih a.2 (by omega)
    exact this a (Int.le_refl _)
  have ed : dropK (kvOf ks ++ [((.inl (g : Int) : Key), w)]) (.inl (g : Int)) = kvOf ks := by
    have := drop_lo a (Int.le_refl (g : Int))
    unfold dropK at this ⊢
    rw [List.filter_append, this, List.filter_cons, if_neg (by simp), List.filter_nil, List.append_nil]
  rw [eh, drn_some e2, ed, drn_lead (show ((g + 1 : Nat) : Int) = (g : Int) + 1 by omega) a]
theorem asc_drop : ∀ {ks : List (Int × V)} {g : Int} (n : Nat), Asc g ks → ∃ g', Asc g' (ks.drop n)
  | ks, g, 0, a => ⟨g, a⟩
  | [], g, n + 1, _ => ⟨0, trivial⟩
  | p :: r, g, n + 1, a => asc_drop n a.2
theorem pr_drop {H : Hp} : ∀ {as : List Addr} {ks : List (Int × V)} (n : Nat), PrR H as ks → PrR H (as.drop n) (ks.drop n)
  | _, _, 0, h => h
  | _, _, _ + 1, .nil => .nil
  | _, _, n + 1, .cons _ t => pr_drop n t
theorem pr_at {H : Hp} : ∀ {as : List Addr} {ks : List (Int × V)} {i : Nat} {a : Addr}, PrR H as ks → as[i]? = some a → ∃ p, ks[i]? = some p ∧ Rd H a (.tup [.int p.1, p.2])
  | _, _, i, a, .nil, h => by simp at h
  | _, _, 0, a, .cons (b := p) r t, h => by
    cases h
    exact ⟨p, rfl, r⟩
  | _, _, i + 1, a, .cons r t, h => pr_at (i := i) t h
theorem lead_mem : ∀ {ks : List (Int × V)} {g : Int} {v : V}, v ∈ lead g ks → ∃ p ∈ ks, v = p.2
  | [], g, v, h => by simp [lead] at h
  | p :: r, g, v, h => by
    unfold lead at h
    by_cases c : p.1 = g + 1
    · rw [if_pos c] at h
      rcases List.mem_cons.mp h with rfl | h
      · exact ⟨p, List.mem_cons_self, rfl⟩
      · obtain ⟨q, hq, e⟩ := lead_mem h
        exact ⟨q, List.mem_cons_of_mem _ hq, e⟩
    · rw [if_neg c] at h
      simp at h
theorem smrs_gd {H : Hp} {n : Nat} : ∀ {xs : List V}, (∀ x ∈ xs, SmR H n x x) → SmRs H n xs xs
  | [], _ => trivial
  | x :: xs, h => ⟨h x List.mem_cons_self, smrs_gd fun y hy => h y (List.mem_cons_of_mem _ hy)⟩
theorem smrs_app {H : Hp} {n : Nat} : ∀ {xs ys us ws : List V}, SmRs H n xs ys → SmRs H n us ws → SmRs H n (xs ++ us) (ys ++ ws)
  | [], [], _, _, _, h => h
  | x :: xs, y :: ys, us, ws, h, k => ⟨h.1, smrs_app h.2 k⟩
  | [], _ :: _, _, _, h, _ => h.elim
  | _ :: _, [], _, _, h, _ => h.elim
theorem OutS.un {H : Hp} {v : V} {a b a' b' : Addr} {kt kt' : Nat} {ps ps' : List V} (h : OutS H v a b kt ps) (h' : OutS H v a' b' kt' ps') : kt' = kt ∧ ps' = ps := by
  have e := h'.e
  rw [h.e] at e
  cases e
  have := rd_un h.ra h'.ra
  injection this with e1 e2
  injection e2 with e2 _
  cases e2
  have e3 := rd_un h.rb h'.rb
  injection e1 with e1
  exact ⟨by omega, e3.symm⟩
theorem pr_un {H : Hp} : ∀ {as : List Addr} {ks ks' : List (Int × V)}, PrR H as ks → PrR H as ks' → ks = ks'
  | _, _, _, .nil, .nil => rfl
  | _, _, _, .cons (b := p) r t, .cons (b := q) r' t' => by
    rw [pr_un t t']
    have := rd_un r r'
    obtain ⟨p1, p2⟩ := p
    obtain ⟨q1, q2⟩ := q
    injection this with e1 e2
    injection e1 with e1
    injection e2 with e2 _
    cases e1
    cases e2
    rfl
theorem refs_un : ∀ {as bs : List Addr}, as.map V.ref = bs.map V.ref → as = bs
  | [], [], _ => rfl
  | a :: as, b :: bs, h => by
    injection h with h1 h2
    injection h1 with h1
    rw [h1, refs_un h2]
  | [], _ :: _, h => by cases h
  | _ :: _, [], h => by cases h
theorem InS.un {H : Hp} {v : V} {a b a' b' : Addr} {g g' : Nat} {as as' : List Addr} {ks ks' : List (Int × V)} (h : InS H v a b g as ks) (h' : InS H v a' b' g' as' ks') : g' = g ∧ ks' = ks := by
  have e := h'.e
  rw [h.e] at e
  cases e
  have := rd_un h.ra h'.ra
  injection this with e1 e2
  injection e2 with e2 _
  cases e2
  have e3 := refs_un (rd_un h.rb h'.rb)
  subst e3
  injection e1 with e1
  exact ⟨by omega, pr_un h'.pr h.pr⟩
end Q

namespace Q
open PySem L2 QR LE TDp
abbrev sGo : Stmt := top 43
theorem at0 {xs : List V} {i : Nat} {v : V} (h : xs[i]? = some v) : atI xs (0 + (i : Int)) = some v := by
  rw [Int.zero_add]
  exact atI_nat h
/-- whatever it is -/
theorem ex_bl {b : Bool} {P : Bool → Prop} (h : ∀ c, P c) : ∃ c, V.bl b = V.bl c ∧ P c := ⟨b, rfl, h b⟩
def spGo : Sp := fun vs H Q _ => ∃ (p l a b a2 b2 : Addr) (kt g : Nat) (ps : List V) (as : List Addr) (ks : List (Int × V)), vs = [.ref p, .ref a, .ref a2] ∧ HandAt H p l ∧ OutS H (.ref a) a b kt ps ∧ InS H (.ref a2) a2 b2 g as ks ∧ PlT H b2 (as.map V.ref) ∧ ps.length ≤ 4 ∧ as.length ≤ 4 ∧ ∀ H', HandAt H' p l → XtP p H H' → Q (.bl true) H'
section
variable {P : Program} {w : World} {K : PySem.W.Frag} {mg : Str → Option Value} {base : Heap}
theorem scGo : FnScope ["hand", "state", "other", "out", "twin", "number", "end", "copied", "due", "k", "left"] ["hand", "state", "other"] (defScope sGo) := ⟨rfl, rfl, rfl, by decide +kernel, rfl, by decide +kernel, by decide +kernel⟩
theorem ok_go {CO CN CS CX f fS fI fT fX : Addr} {fd dS dI dT : FuncData} (S : StD P K mg CO CN CS) (D : Df K mg "_law_goes_on" sGo ["hand", "state", "other"] f fd) (MM : OMore K CO) (NM : NMore K CN) (XN : QS.SupC P K mg CX fX "NoNumber.__init__") (gN : mg "NoNumber" = some (.ref CX)) (DS : Df K mg "_law_same" sSameG ["actual", "due"] fS dS) (DI : Df K mg "_law_is_integer" sLInt ["thing"] fI dI) (DT : Df K mg "_law_take" sTake ["hand", "many"] fT dT) : FnOk P w K mg base CX0 10 f fd ["hand", "state", "other"] spGo := by
  have GT : FnOk P w K mg base CX0 1 fT dT ["hand", "many"] spTake := ok_take DT.F S.B
  have GO : FnOk P w K mg base (L2.CX P w) 4 S.fOo S.dOo ["state"] (spOof CO CS) := S.oof
  have GI : FnOk P w K mg base (L2.CX P w) 4 S.fIo S.dIo ["state"] (spIof CN CS) := S.iof
  have GS : FnOk P w K mg base CX0 9 fS dS ["actual", "due"] (spSameR 8) := ok_sameR DS S.B DI 8
  have GCo : FnOk P w K mg base CX0 3 MM.fC MM.dC ["self"] (spOC CO) := ok_oC S.TO MM S.MO S.B
  have GCn : FnOk P w K mg base CX0 3 NM.fC NM.dC ["self"] (spNC CN) := ok_nC S.TN NM S.MN S.B S.bd
  have GSo : FnOk P w K mg base CX0 1 S.MO.fS S.MO.dS ["self"] (spOS CO) := ok_oS S.TO S.MO S.B
  have GSn : FnOk P w K mg base CX0 2 S.MN.fS S.MN.dS ["self"] (spNSG CN) := ok_nSG S.TN S.MN S.B S.L
  have GPu : FnOk P w K mg base CX0 2 S.MO.fP S.MO.dP ["self", "thing"] (spOP CO) := ok_oP S.TO S.MO S.B
  have GK : FnOk P w K mg base (L2.CX P w) 3 S.MO.fK S.MO.dK ["self", "number"] (spOK CO CX) := ok_oK S.TO S.MO S.B S.L XN gN S.DN S.DPl
  have GTk : FnOk P w K mg base (L2.CX P w) 3 S.MN.fT S.MN.dT ["self", "number", "thing"] (spNT CN CX) := ok_nT S.TN S.MN S.B S.L XN gN S.DN S.DPl
  have B := S.B
  refine D.F.ok scGo (fun vs H Q E h => ?_) (fun cdv A outer s H vs Q E hr h => ?_)
  · obtain ⟨p, l, a, b, a2, b2, kt, g, ps, as, ks, rfl, _⟩ := h
    rfl
  · obtain ⟨p, l, a, b, a2, b2, kt, g, ps, as, ks, rfl, hh, os, is, pl, few, few2, k⟩ := h
    have nd := scGo.nd
    have hr1 : Room 1 _ := hr.mono (by decide)
    have hr2 : Room 2 _ := hr.mono (by decide)
    have hr3 : Room 3 _ := hr.mono (by decide)
    have hr4 : Room 4 _ := hr.mono (by decide)
    refine ⟨_, pss_cons (ps_set (i := 3) nd rfl (.inl rfl) (pe_call GO hr4 rfl S.DOo.m S.DOo.k S.DOo.b .nil passF (pa_cons (pv 1) pa_nil)))
        (pss_cons (ps_set (i := 4) nd rfl (.inl rfl) (pe_meth0 (pv 3) S.TO.cl MM.mC GCo hr3 MM.bC .nil pass0))
        (pss_cons (ps_if (PW.pt (pw_or (pt_not (pt_val (pe_call GS hr rfl DS.m DS.k DS.b .nil pass0 (pa_cons (pe_meth (pv 3) S.TO.cl S.MO.mP GPu hr2 S.MO.bP .nil pass0 (pa_cons (pe_tup (pa_cons pe_str pa_nil)) pa_nil)) (pa_cons (pe_op op_add (pe_ix ix_tup (pv 1) pe_int (fun _ _ => rfl)) (pe_callB call_len_seq (by rfl) B.len PySem.boot_len (pa_cons (pe_ix ix_tup (pv 1) pe_int (fun _ _ => rfl)) pa_nil))) pa_nil))))) (pw_or1 (pt_not (pt_val (pe_call GS hr rfl DS.m DS.k DS.b .nil pass0 (pa_cons (pe_meth0 (pv 4) S.TO.cl S.MO.mS GSo hr1 S.MO.bS .nil pass0) (pa_cons (pv 1) pa_nil)))))))) (pss_one (ps_ret pe_bl)) pss_nil)
        (pss_cons (ps_set (i := 5) nd rfl (.inl rfl) (pe_op op_add (pe_ix ix_tup (pv 1) pe_int (fun _ _ => rfl)) (pe_call GT hr1 rfl DT.m DT.k DT.b .nil pass0 (pa_cons (pv 0) (pa_cons (pe_op op_add (pe_callB call_len_seq (by rfl) B.len PySem.boot_len (pa_cons (pe_ix ix_tup (pv 1) pe_int (fun _ _ => rfl)) pa_nil)) pe_int) pa_nil)))))
        (pss_cons (ps_if (pt_not (pt_val (pe_call GS hr rfl DS.m DS.k DS.b .nil pass0 (pa_cons (pe_meth (pv 3) S.TO.cl S.MO.mK GK hr3 S.MO.bK .nil passF (pa_cons (pv 5) pa_nil)) (pa_cons (pe_op op_sub (pv 5) (pe_ix ix_tup (pv 1) pe_int (fun _ _ => rfl))) pa_nil))))) (pss_one (ps_ret pe_bl)) pss_nil)
        (pss_cons (ps_if (pt_not (pt_val (pe_call GS hr rfl DS.m DS.k DS.b .nil pass0 (pa_cons (pe_meth0 (pv 3) S.TO.cl S.MO.mS GSo hr1 S.MO.bS .nil pass0) (pa_cons (pe_tup (pa_cons (pv 5) (pa_cons (pe_op op_catR (pe_slice sl_R (pe_ix ix_tup (pv 1) pe_int (fun _ _ => rfl)) (po_some (pe_op op_sub (pv 5) (pe_ix ix_tup (pv 1) pe_int (fun _ _ => rfl)))) po_none) (pe_tup (pa_cons (pe_tup (pa_cons pe_str pa_nil)) pa_nil))) pa_nil))) pa_nil))))) (pss_one (ps_ret pe_bl)) pss_nil)
        (pss_cons (ps_set (i := 6) nd rfl (.inl rfl) (pe_call GI hr4 rfl S.DIo.m S.DIo.k S.DIo.b .nil passF (pa_cons (pv 2) pa_nil)))
        (pss_cons (ps_set (i := 7) nd rfl (.inl rfl) (pe_meth0 (pv 6) S.TN.cl NM.mC GCn hr3 NM.bC .nil pass0))
        (C8.pss_cut (ps_if (pt_cmpR op_lt (pe_ix ix_tup (pv 2) pe_int (fun _ _ => rfl)) (pe_op op_sub (pe_op op_pow pe_int pe_int) pe_int) (nomark _)) (pss_cons (ps_set (i := 8) nd rfl (.inl rfl) (pe_lst (pa_cons (pe_tup (pa_cons pe_str pa_nil)) pa_nil)))
        (pss_cons (ps_for PassesOwn.never rfl (pi_range1 rfl B.range (pa_cons (pe_callB call_len_seq (by rfl) B.len PySem.boot_len (pa_cons (pe_ix ix_tup (pv 2) pe_int (fun _ _ => rfl)) pa_nil)) pa_nil)) (pg_name (i := 9) nd rfl (.inl rfl)) (pss_one (ps_if (pt_cmpR op_eq (pe_ix ix_tup (pe_ix ix_tup (pe_ix ix_tup (pv 2) pe_int (fun _ _ => rfl)) (pv 9) (fun _ _ => rfl)) pe_int (fun _ _ => rfl)) (pe_op op_add (pe_op op_add (pe_ix ix_tup (pv 2) pe_int (fun _ _ => rfl)) pe_int) (pv 9)) (nomark _)) (pss_one (ps_expr (pe_bm PySem.F.plainAttrs_list PySem.F.slot_list_append PySem.F.type_list_append mt_append (pv 8) (pa_cons (pe_ix ix_tup (pe_ix ix_tup (pe_ix ix_tup (pv 2) pe_int (fun _ _ => rfl)) (pv 9) (fun _ _ => rfl)) pe_int (fun _ _ => rfl)) pa_nil)))) pss_nil)))
        (pss_cons (ps_if (pt_not (pt_val (pe_call GS hr rfl DS.m DS.k DS.b .nil pass0 (pa_cons (pe_meth (pv 6) S.TN.cl S.MN.mT GTk hr3 S.MN.bT .nil passF (pa_cons (pe_ix ix_tup (pv 2) pe_int (fun _ _ => rfl)) (pa_cons (pe_tup (pa_cons pe_str pa_nil)) pa_nil))) (pa_cons (pv 8) pa_nil))))) (pss_one (ps_ret pe_bl)) pss_nil)
        (pss_cons (ps_set (i := 10) nd rfl (.inl rfl) (pe_slice sl_R (pe_ix ix_tup (pv 2) pe_int (fun _ _ => rfl)) (po_some (pe_op op_sub (pe_callB call_len_seq (by rfl) B.len PySem.boot_len (pa_cons (pv 8) pa_nil)) pe_int)) po_none))
        (pss_one (ps_if (pt_not (pt_val (pe_call GS hr rfl DS.m DS.k DS.b .nil pass0 (pa_cons (pe_meth0 (pv 6) S.TN.cl S.MN.mS GSn hr2 S.MN.bS .nil pass0) (pa_cons (pe_tup (pa_cons (pe_op op_add (pe_ix ix_tup (pv 2) pe_int (fun _ _ => rfl)) (pe_callB call_len_seq (by rfl) B.len PySem.boot_len (pa_cons (pv 8) pa_nil))) (pa_cons (pv 10) pa_nil))) pa_nil))))) (pss_one (ps_ret pe_bl)) pss_nil)))))) pss_nil)
        (pss_one (ps_ret (pe_call GS hr rfl DS.m DS.k DS.b .nil pass0 (pa_cons (pe_meth0 (pv 7) S.TN.cl S.MN.mS GSn hr2 S.MN.bS .nil pass0) (pa_cons (pv 2) pa_nil))))))))))))), ?_⟩
    -- out, twin
    refine ⟨_, rfl, .ref a, rfl, os.k, fun eb => ?_, fun a' b' kt' ps' os' x dx la H1 nx nla nlx s1 o1 => ?_⟩
    · rw [os.b] at eb
      cases eb
    obtain ⟨rfl, rfl⟩ := os.un os'
    clear os'
    refine ⟨_, rfl, x, dx, _, rfl, o1.at_, rfl, x, dx, la, kt', ps', rfl, o1, fun y dy lb H2 ny nlb nyb s2 o2 => ?_⟩
    have s12 := sT s1 s2
    have x2 := o1.same s2
    refine ⟨_, rfl, x, dx, _, rfl, x2.at_, rfl, (by show 1 ≤ sizeLine; decide), fun c3 h3 => ?_⟩
    have s3 := sN (o := .tup [.str "new"]) h3
    have e3 : (upd H2 c3 (.tup [.str "new"])) c3 = some (.tup [.str "new"]) := upd_same
    revert s3 e3
    generalize (upd H2 c3 (.tup [.str "new"])) = H3
    intro s3 e3
    have x3 := x2.same s3
    have nla1 : la ≠ y := ne_of_none o1.lst ny
    have nlab : la ≠ lb := ne_of_none o1.lst nlb
    refine ⟨x, dx, la, kt', ps', _, rfl, x3, by omega, fun H4 b4 o4 => ?_⟩
    have t4 : OutX CO H4 y dy lb kt' ps' := ⟨b4 _ _ (s3 _ _ o2.at_) nla1.symm, b4 _ _ (s3 _ _ o2.lst) nlab.symm, o2.few⟩
    have e34 : H4 c3 = some (.tup [.str "new"]) := b4 _ _ e3 (ne_of e3 x3.lst (fun z => by cases z))
    have x04 : ∀ b o, H b = some o → H4 b = some o := fun b o e => b4 b o ((sT s12 s3) b o e) (ne_of_none e nla)
    clear b4 x3 e3 s3 h3 x2 o2 s2 o1 s12
    have g4 := hh.same x04
    have os4 := os.same x04
    refine ⟨_, rfl, a, _, 0, _, rfl, rfl, .inl os4.ra, rfl, _, rfl, a, _, 1, .ref b, rfl, rfl, .inl os4.ra, rfl, b, ps', rfl, .inr (.inl os4.rb), _, _, rfl, rfl, ?_⟩
    refine ⟨_, _, rfl, .inl ⟨.inr (.inr ⟨_, rfl⟩), by rw [show ((kt' + ps'.length : Nat) : Int) = (kt' : Int) + (ps'.length : Int) by omega]⟩, fun H5 s5 => ⟨_, rfl, iteF ?_⟩⟩
    have t5 := t4.same s5
    refine ⟨_, rfl, y, dy, _, rfl, t5.at_, rfl, y, dy, lb, kt', ps', rfl, t5, fun r u H6 s6 e1 e2 => ?_⟩
    have os6 := os4.same (sT s5 s6)
    refine ⟨_, rfl, _, _, rfl, (sm_out ⟨u, e1, e2⟩ os6.ra os6.rb os6.kn).up, fun H7 s7 => ⟨_, rfl, iteF ?_⟩⟩
    have s47 := sT s5 (sT s6 s7)
    have g7 := g4.same s47
    have o7 := o4.same s47
    have os7 := os4.same s47
    have e37 := s47 _ _ e34
    have x07 : ∀ b o, H b = some o → H7 b = some o := fun b o e => s47 _ _ (x04 b o e)
    clear s47 s7 os6 e2 e1 s6 t5 s5 os4 g4 x04 e34 t4 o4
    -- number
    refine ⟨_, rfl, a, _, 0, _, rfl, rfl, .inl os7.ra, rfl, _, rfl, _, rfl, a, _, 1, .ref b, rfl, rfl, .inl os7.ra, rfl, b, ps', rfl, .inr (.inl os7.rb), _, _, rfl, rfl, p, l, _, rfl, g7, by omega, by omega, fun d H8 d0 d1 g8 b8 => ?_⟩
    obtain ⟨dn, rfl⟩ : ∃ dn : Nat, d = (dn : Int) := ⟨d.toNat, by omega⟩
    have ld : dn ≤ ps'.length := by omega
    have X7 : XtP p H H7 := fun b o e _ => x07 b o e
    have X8 := X7.but b8
    have npx : x ≠ p := fun z => by
      obtain ⟨⟨qs, hq⟩, _⟩ := hh.pl
      rw [z, hq] at nx
      cases nx
    have npl : la ≠ p := fun z => by
      obtain ⟨⟨qs, hq⟩, _⟩ := hh.pl
      rw [z, hq] at nla
      cases nla
    have np3 : c3 ≠ p := fun z => by
      obtain ⟨⟨qs, hq⟩, _⟩ := g7.pl
      rw [z, hq] at e37
      cases e37
    have o8 : OutX CO H8 x dx la kt' (ps' ++ [.ref c3]) := ⟨by rw [b8 x npx]; exact o7.at_, by rw [b8 la npl]; exact o7.lst, o7.few⟩
    have e38 : H8 c3 = some (.tup [.str "new"]) := by rw [b8 c3 np3]; exact e37
    have os8 := os.gw (Gw.hand hh g8 X8)
    clear b8 X7 x07 e37 os7 o7 g7
    refine ⟨_, _, rfl, rfl, ?_⟩
    have lap : (ps' ++ [V.ref c3]).length = ps'.length + 1 := by rw [List.length_append]; rfl
    refine ⟨_, rfl, x, dx, _, rfl, o8.at_, rfl, _, rfl, (fun _ => False), x, dx, la, kt', _, .int ((kt' : Int) + (dn : Int)), rfl, o8, kn0, fun i ei hi lc H9 hlc b9 o9 => ?_, fun nb => ?_⟩
    case refine_2 =>
      rw [show (kt' : Int) + (dn : Int) = ((kt' + dn : Nat) : Int) by omega, num_lt (by rw [lap]; omega)] at nb
      cases nb
    obtain rfl : kt' + dn = i := by
      injection ei with ei
      omega
    rw [show kt' + dn - kt' = dn by omega] at o9 ⊢
    have x09 : ∀ b o, H b = some o → b ≠ p → H9 b = some o := fun b o e n => b9 _ _ (X8 b o e n) (ne_of_none e nx)
    have X9 : XtP p H H9 := x09
    have g9 : HandAt H9 p l := by
      obtain ⟨ns, j, r, t, c, hx⟩ := g8
      obtain ⟨_, ⟨qs, hq⟩⟩ := hh.pl
      exact ⟨ns, j, r, t, c, b9 _ _ hx.at_ npx.symm, b9 _ _ hx.lst (ne_of_none hq nx), hx.len, hx.r0, hx.s0, hx.s1⟩
    have e39 := b9 _ _ e38 (ne_of e38 o8.at_ (fun z => by cases z))
    have os9 := os.gw (Gw.hand hh g9 X9)
    clear x09 b9 o8 e38 os8 g8 X8 ei hi hlc
    refine ⟨_, rfl, _, rfl, a, _, 0, _, rfl, rfl, .inl os9.ra, rfl, _, _, rfl, rfl, ?_⟩
    refine ⟨_, _, rfl, .inl ⟨.inr (.inr ⟨_, rfl⟩), by show V.int (dn : Int) = V.int ((kt' : Int) + (dn : Int) - (kt' : Int)); rw [show (kt' : Int) + (dn : Int) - (kt' : Int) = (dn : Int) by omega]⟩, fun H10 s10 => ⟨_, rfl, iteF ?_⟩⟩
    have o10 := o9.same s10
    refine ⟨_, rfl, x, dx, _, rfl, o10.at_, rfl, x, dx, lc, _, _, rfl, o10, fun r u H11 s11 e1 e2 => ?_⟩
    have s911 := sT s10 s11
    have os11 := os9.same s911
    refine ⟨_, rfl, _, rfl, a, _, 1, .ref b, rfl, rfl, .inl os11.ra, rfl, _, rfl, _, rfl, a, _, 0, _, rfl, rfl, .inl os11.ra, rfl, _, _, rfl, rfl, _, rfl, b, ps', rfl, os11.rb, fun z12 H12 s12 r12 => ?_⟩
    have r12 : Rd H12 z12 (.tup (ps'.drop dn)) := by
      have e : (kt' : Int) + (dn : Int) - (kt' : Int) = (dn : Int) := by omega
      have r : Rd H12 z12 (.tup (cutV ps' (some ((kt' : Int) + (dn : Int) - (kt' : Int))) none)) := r12
      rw [e, cut_fromV] at r
      exact r
    refine ⟨(by show 1 ≤ sizeLine; decide), fun c13 h13 => ?_⟩
    have s13 := sN (o := .tup [.str "new"]) h13
    have e13 : (upd H12 c13 (.tup [.str "new"])) c13 = some (.tup [.str "new"]) := upd_same
    revert s13 e13
    generalize (upd H12 c13 (.tup [.str "new"])) = H13
    intro s13 e13
    refine ⟨(by show 1 ≤ sizeLine; decide), fun c14 h14 => ?_⟩
    have s14 := sN (o := .tup [.ref c13]) h14
    have e14 : (upd H13 c14 (.tup [.ref c13])) c14 = some (.tup [.ref c13]) := upd_same
    revert s14 e14
    generalize (upd H13 c14 (.tup [.ref c13])) = H14
    intro s14 e14
    have e134 := s14 _ _ e13
    refine ⟨z12, c14, _, _, rfl, rfl, rdS r12 (sT s13 s14), .inl e14, Nat.le_of_lt (size_ok (by rw [List.length_drop]; show _ + 1 ≤ _; omega)), fun z15 H15 s15 r15 => ⟨(by show 2 ≤ sizeLine; decide), fun c16 h16 => ?_⟩⟩
    have s16 := sN (o := .tup [.int ((kt' : Int) + (dn : Int)), .ref z15]) h16
    have s1116 := sT s12 (sT s13 (sT s14 (sT s15 s16)))
    have os16 := os11.same s1116
    refine ⟨_, _, rfl, smr_tup (.inl (s1116 _ _ e1)) (.inl upd_same) ⟨.inl ⟨.inr (.inr ⟨_, rfl⟩), by rw [show ((kt' + dn : Nat) : Int) = (kt' : Int) + (dn : Int) by omega]⟩, smr_tup (n := 6) (.inl (s1116 _ _ e2)) (rdS r15 s16) ?_, trivial⟩, fun H17 s17 => ⟨_, rfl, iteF ?_⟩⟩
    · rw [List.drop_append_of_le_length ld]
      refine smrs_app (smrs_gd fun v hv => ?_) ⟨smr_tup (n := 5) (.inl ((sT s911 s1116) _ _ e39)) (.inl ((sT s15 s16) _ _ e134)) ⟨smr_s _, trivial⟩, trivial⟩
      obtain ⟨k1, k2⟩ := os16.kn v (List.mem_of_mem_drop hv)
      exact (kn_sm k1 (th_pt k2)).up
    have s917 := sT s911 (sT s1116 s17)
    have g17 := g9.same s917
    have X17 := X9.st s917
    clear s17 os16 s16 s1116 r15 s15 e134 e14 s14 h14 e13 s13 h13 r12 s12 os11 s911 e2 e1 s11 o10 s10 os9 g9 X9 e39 o9 s917
    have gw17 := Gw.hand hh g17 X17
    have is17 := is.gw gw17
    have pl17 := plG gw17 pl
    -- end, copied
    refine ⟨_, rfl, .ref a2, rfl, is17.k, plin_of is17.ra pl17, fun eb => ?_, fun a'' b'' g' as' ks' is' e de d H18 ne nde dne s18 n18 => ?_⟩
    · rw [is17.b'] at eb
      cases eb
    obtain ⟨rfl, rfl⟩ := is17.un is'
    clear is'
    have lks : as.length = ks'.length := Paired.length is.pr
    refine ⟨_, rfl, e, de, _, rfl, n18.at_, rfl, e, de, d, g', kvOf ks', rfl, n18, fun fc dfc d2 H19 nf nd2 d2f s19 n19 => ?_⟩
    have s1719 := sT s18 s19
    have g19 := g17.same s1719
    have X19 := X17.st s1719
    have is19 := is17.same s1719
    have ne19 := n18.same s19
    have fe : fc ≠ e := (ne_of_none n18.at_ nf).symm
    have fd' : fc ≠ d := (ne_of_none n18.dct nf).symm
    have d2e : d2 ≠ e := (ne_of_none n18.at_ nd2).symm
    have d2d : d2 ≠ d := (ne_of_none n18.dct nd2).symm
    have he0 : ∀ b o, H b = some o → b ≠ p → b ≠ e ∧ b ≠ d := fun b o q n => ⟨ne_of_none (X17 b o q n) ne, ne_of_none (X17 b o q n) nde⟩
    have hpe : p ≠ e ∧ p ≠ d ∧ l ≠ e ∧ l ≠ d := by
      obtain ⟨⟨qs, hq⟩, ⟨us, hu⟩⟩ := g17.pl
      exact ⟨ne_of_none hq ne, ne_of_none hq nde, ne_of_none hu ne, ne_of_none hu nde⟩
    clear s1719 s19 n18 s18 is17 pl17 gw17 g17 X17 nf nd2
    refine ⟨fun σ H' => ∃ (x8 x9 x10 : Option V), σ = [some (.ref p), some (.ref a), some (.ref a2), some (.ref x), some (.ref y), some (.int ((kt' : Int) + (dn : Int))), some (.ref e), some (.ref fc), x8, x9, x10] ∧ HandAt H' p l ∧ XtP p H H' ∧ IncX CN H' fc dfc d2 g' (kvOf ks'), ?_, ?_⟩
    case refine_2 =>
      rintro σ H20 ⟨x8, x9, x10, rfl, g20, X20, n20⟩
      refine ⟨_, rfl, fc, dfc, _, rfl, n20.at_, rfl, fc, dfc, d2, g', (g' : Int), ks', rfl, n20, is.asc, fun r H21 s21 it => ?_⟩
      have is21 := (is.gw (Gw.hand hh g20 X20)).same s21
      exact ⟨_, rfl, _, _, rfl, (sm_in it is21.ra is21.rb is21.pr fun q hq => ⟨(is21.kn q hq).1, (is21.kn q hq).2.1⟩).up, fun H22 s22 => k _ (g20.same (sT s21 s22)) (X20.st (sT s21 s22))⟩
    refine ⟨_, rfl, a2, _, 0, _, rfl, rfl, .inl is19.ra, rfl, _, _, rfl, rfl, ⟨by decide, by decide, by decide⟩, _, _, rfl, rfl, _, _, rfl, rfl, ex_bl fun c => ?_⟩
    cases c with
    | false => exact iteF ⟨none, none, none, rfl, g19, X19, n19⟩
    | true =>
    refine iteT ?_
    refine ⟨(by show 1 ≤ sizeLine; decide), fun c20 h20 => ?_⟩
    have s20 := sN (o := .tup [.str "gap"]) h20
    have e20 : (upd H19 c20 (.tup [.str "gap"])) c20 = some (.tup [.str "gap"]) := upd_same
    revert s20 e20
    generalize (upd H19 c20 (.tup [.str "gap"])) = H20
    intro s20 e20
    refine ⟨(by show 1 ≤ sizeLine; decide), fun D h21 => ?_⟩
    have t20 := sN (o := .lst [.ref c20]) h21
    have eD := (upd_same : (upd H20 D (.lst [.ref c20])) D = some (.lst [.ref c20]))
    have e20 := t20 _ _ e20
    revert t20 eD e20
    generalize (upd H20 D (.lst [.ref c20])) = H21
    intro t20 eD e20
    have s1921 := sT s20 t20
    have nD19 : H19 D = none := sNo s20 h21
    have g21 := g19.same s1921
    have X21 := X19.st s1921
    have n21 := n19.same s1921
    have ne21 := ne19.same s1921
    have is21 := is19.same s1921
    have nDe : D ≠ e := (ne_of_none ne19.at_ nD19).symm
    have nDd : D ≠ d := (ne_of_none ne19.dct nD19).symm
    have keepD : ∀ b o, H19 b = some o → b ≠ D := fun b o q => ne_of_none q nD19
    have hpD0 : p ≠ D ∧ l ≠ D := by
      obtain ⟨⟨qs, hq⟩, ⟨us, hu⟩⟩ := g19.pl
      exact ⟨ne_of_none hq nD19, ne_of_none hu nD19⟩
    have hD00 : ∀ b o, H b = some o → b ≠ D := fun b o q => by
      by_cases c : b = p
      · rw [c]
        exact hpD0.1
      · exact ne_of_none (X19 b o q c) nD19
    clear t20 s20 h20 h21 s1921 is19 ne19 n19 X19 g19
    refine ⟨_, rfl, a2, _, 1, .ref b2, rfl, rfl, .inl is21.ra, rfl, b2, _, rfl, .inr (.inl is21.rb), _, rfl, by omega, by rw [List.length_map]; omega, for_range (lo := 0) (n := (((as.map V.ref).length : Nat) : Int).toNat) (fun i σ H' => ∃ x9 : Option V, σ = [some (.ref p), some (.ref a), some (.ref a2), some (.ref x), some (.ref y), some (.int ((kt' : Int) + (dn : Int))), some (.ref e), some (.ref fc), some (.ref D), x9, none] ∧ (∀ b o, H21 b = some o → b ≠ D → H' b = some o) ∧ H' D = some (.lst (.ref c20 :: (lead (g' : Int) ks').take i))) ?_ ?_ ?_⟩
    · exact ⟨none, rfl, fun b o q _ => q, eD⟩
    · rintro i σ H22 hi ⟨x9, rfl, kp, eD2⟩
      have hi : i < as.length := by
        rw [List.length_map] at hi
        omega
      have upT : ∀ {a : Addr} {xs : List V}, Rd H21 a (.tup xs) → Rd H22 a (.tup xs) := fun {a xs} r => by
        have na : a ≠ D := fun z => by
          rw [z] at r
          rcases r with r | ⟨_, r⟩ <;> (rw [eD] at r; cases r)
        rcases r with r | ⟨o, r⟩
        · exact .inl (kp _ _ r na)
        · exact .inr ⟨o, kp _ _ r na⟩
      have ra := upT is21.ra
      have rb := upT is21.rb
      have ea : (as.map V.ref)[i]? = some (.ref as[i]) := by rw [List.getElem?_map, List.getElem?_eq_getElem hi]; rfl
      obtain ⟨q, hq, rq⟩ := pr_at is21.pr (List.getElem?_eq_getElem hi)
      have rq := upT rq
      obtain ⟨l1, l2⟩ := lead_at is21.asc hq
      refine ⟨_, rfl, a2, _, 1, .ref b2, rfl, rfl, .inl ra, rfl, _, rfl, b2, _, _, .ref as[i], rfl, rfl, .inl rb, at0 ea, as[i], _, 0, _, rfl, rfl, .inl rq, rfl, _, rfl, a2, _, 0, _, rfl, rfl, .inl ra, rfl, _, _, rfl, rfl, _, rfl, _, _, rfl, rfl, rfl, ?_⟩
      by_cases c : q.1 = (g' : Int) + 1 + (i : Int)
      · refine ⟨_, rfl, ?_⟩
        rw [decide_eq_true (show V.int q.1 = V.int ((g' : Int) + 1 + (0 + (i : Int))) by rw [Int.zero_add, c])]
        refine iteT ⟨_, rfl, .inl ⟨rfl, _, SqL.of eD2⟩, _, rfl, a2, _, 1, .ref b2, rfl, rfl, .inl ra, rfl, _, rfl, b2, _, _, .ref as[i], rfl, rfl, .inl rb, at0 ea, as[i], _, 1, _, rfl, rfl, .inl rq, rfl, D, _, _, rfl, rfl, eD2, ?_, ?_⟩
        · refine size_ok ?_
          rw [List.length_cons, List.length_take]
          omega
        · refine ⟨_, rfl, fun b o q n => by rw [upd_ne n]; exact kp b o q n, ?_⟩
          rw [upd_same, take_more (l1 c)]
          rfl
      · refine ⟨_, rfl, ?_⟩
        rw [decide_eq_false (show ¬ V.int q.1 = V.int ((g' : Int) + 1 + (0 + (i : Int))) from fun z => c (by have := V.int.inj z; omega))]
        have := l2 c
        refine iteF ⟨_, rfl, kp, ?_⟩
        rw [eD2, List.take_of_length_le this, List.take_of_length_le (by omega)]
    rintro σ H22 ⟨x9, rfl, kp, eD2⟩
    have hl : (lead (g' : Int) ks').length ≤ (((as.map V.ref).length : Nat) : Int).toNat := by
      have := lead_le (ks := ks') (g := (g' : Int))
      rw [List.length_map]
      omega
    rw [List.take_of_length_le hl] at eD2
    have gwD : Gw H21 H22 := fun b o q => by
      by_cases c : b = D
      · rw [c, eD] at q
        cases q
        exact .inr ⟨⟨_, rfl⟩, _, by rw [c]; exact eD2⟩
      · exact .inl (kp b o q c)
    have is22 := is21.gw gwD
    have nDf : D ≠ fc := ne_of eD n21.at_ (fun z => by cases z)
    have nDd2 : D ≠ d2 := ne_of eD n21.dct (fun z => by cases z)
    have n22 : IncX CN H22 fc dfc d2 g' (kvOf ks') := ⟨kp _ _ n21.at_ nDf.symm, kp _ _ n21.dct nDd2.symm, n21.few⟩
    have ne22 : IncX CN H22 e de d g' (kvOf ks') := ⟨kp _ _ ne21.at_ nDe.symm, kp _ _ ne21.dct nDd.symm, ne21.few⟩
    have hpD := hpD0
    have hD0 := hD00
    have g22 : HandAt H22 p l := by
      obtain ⟨ns, j, r, t, c, hx⟩ := g21
      exact ⟨ns, j, r, t, c, kp _ _ hx.at_ hpD.1, kp _ _ hx.lst hpD.2, hx.len, hx.r0, hx.s0, hx.s1⟩
    have X22 : XtP p H H22 := fun b o q n => kp _ _ (X21 b o q n) (hD0 b o q)
    have e22 := kp _ _ e20 (ne_of e20 eD (fun z => by cases z))
    clear gwD kp n21 ne21 is21 X21 g21 e20 eD hl nDf nDd2
    have lks0 : (kvOf ks').length = ks'.length := by unfold kvOf; rw [List.length_map]
    refine ⟨_, rfl, e, de, _, rfl, ne22.at_, rfl, _, rfl, a2, _, 0, _, rfl, rfl, .inl is22.ra, rfl, (by show 1 ≤ sizeLine; decide), fun c23 h23 => ?_⟩
    have s23 := sN (o := .tup [.str "gap"]) h23
    have e23 : (upd H22 c23 (.tup [.str "gap"])) c23 = some (.tup [.str "gap"]) := upd_same
    revert s23 e23
    generalize (upd H22 c23 (.tup [.str "gap"])) = H23
    intro s23 e23
    have ne23 := ne22.same s23
    refine ⟨(fun _ => False), e, de, d, g', kvOf ks', .int (g' : Int), .ref c23, rfl, ne23, by omega, kn0, fun i ei li z H24 hz b24 ez n24 => ?_, fun nb => ?_⟩
    case refine_2 =>
      rw [num_nat is22.lt] at nb
      cases nb
    obtain rfl : g' = i := by
      injection ei with ei
      omega
    rw [gap_let is22.asc] at ez n24
    have ez : H24 z = some (.lst (.ref c23 :: lead (g' : Int) ks')) := ez
    have n24 : IncX CN H24 e de d (g' + 1 + (lead (g' : Int) ks').length) (kvOf (ks'.drop (lead (g' : Int) ks').length)) := n24
    have eD24 := b24 _ _ (s23 _ _ eD2) nDe nDd
    have e24 := b24 _ _ (s23 _ _ e22) (ne_of (s23 _ _ e22) ne23.at_ (fun z => by cases z)) (ne_of (s23 _ _ e22) ne23.dct (fun z => by cases z))
    have e234 := b24 _ _ e23 (ne_of e23 ne23.at_ (fun z => by cases z)) (ne_of e23 ne23.dct (fun z => by cases z))
    have X24 : XtP p H H24 := fun b o q n => b24 _ _ (s23 _ _ (X22 b o q n)) (he0 b o q n).1 (he0 b o q n).2
    have g24 : HandAt H24 p l := by
      obtain ⟨ns, j, r, t, c, hx⟩ := g22.same s23
      exact ⟨ns, j, r, t, c, b24 _ _ hx.at_ hpe.1 hpe.2.1, b24 _ _ hx.lst hpe.2.2.1 hpe.2.2.2, hx.len, hx.r0, hx.s0, hx.s1⟩
    have nf24 : IncX CN H24 fc dfc d2 g' (kvOf ks') := ⟨b24 _ _ (s23 _ _ n22.at_) fe fd', b24 _ _ (s23 _ _ n22.dct) d2e d2d, n22.few⟩
    have is24 := is.gw (Gw.hand hh g24 X24)
    clear b24 hz ei li ne23 s23 e23 h23 ne22 n22 is22 X22 g22 e22 eD2
    refine ⟨_, rfl, _, _, rfl, smr_lst ez eD24 ⟨smr_tup (n := 6) (.inl e234) (.inl e24) ⟨smr_s _, trivial⟩, smrs_gd fun v hv => ?_⟩, fun H25 s25 => ⟨_, rfl, iteF ?_⟩⟩
    · obtain ⟨q, hq, rfl⟩ := lead_mem hv
      obtain ⟨k1, k2, _⟩ := is24.kn q hq
      exact (kn_sm k1 (th_pt k2)).up.up.up
    have is25 := is24.same s25
    have n25 := n24.same s25
    have eD25 := s25 _ _ eD24
    refine ⟨_, rfl, a2, _, 1, .ref b2, rfl, rfl, .inl is25.ra, rfl, _, rfl, D, _, rfl, .inl (SqL.of eD25), _, _, rfl, rfl, _, rfl, b2, _, rfl, is25.rb, fun z26 H26 s26 r26 => ?_⟩
    have r26 : Rd H26 z26 (.tup ((as.drop (lead (g' : Int) ks').length).map V.ref)) := by
      have r : Rd H26 z26 (.tup (cutV (as.map V.ref) (some ((((V.ref c20 :: lead (g' : Int) ks').length : Nat) : Int) - 1)) none)) := r26
      rw [List.length_cons, show ((((lead (g' : Int) ks').length + 1 : Nat) : Int) - 1) = (((lead (g' : Int) ks').length : Nat) : Int) by omega, cut_fromV, ← List.map_drop] at r
      exact r
    have n26 := n25.same s26
    obtain ⟨g2, as2⟩ := asc_drop (lead (g' : Int) ks').length is25.asc
    refine ⟨_, rfl, e, de, _, rfl, n26.at_, rfl, e, de, d, _, g2, _, rfl, n26, as2, fun r H27 s27 it => ?_⟩
    have s267 := sT s26 s27
    have is27 := is25.same s267
    refine ⟨_, rfl, a2, _, 0, _, rfl, rfl, .inl is27.ra, rfl, _, rfl, D, _, rfl, .inl (SqL.of (s267 _ _ eD25)), _, _, rfl, rfl, _, rfl, (by show 2 ≤ sizeLine; decide), fun c28 h28 => ?_⟩
    have s28 := sN (o := .tup [.int ((g' : Int) + (((V.ref c20 :: lead (g' : Int) ks').length : Nat) : Int)), .ref z26]) h28
    have is28 := is27.same s28
    have e28 : Rd (upd H27 c28 (.tup [.int ((g' : Int) + (((V.ref c20 :: lead (g' : Int) ks').length : Nat) : Int)), .ref z26])) c28 (.tup [.int ((g' + 1 + (lead (g' : Int) ks').length : Nat) : Int), .ref z26]) := by
      refine .inl ?_
      rw [upd_same, List.length_cons, show (g' : Int) + (((lead (g' : Int) ks').length + 1 : Nat) : Int) = ((g' + 1 + (lead (g' : Int) ks').length : Nat) : Int) by omega]
    have it2 : InT (upd H27 c28 (.tup [.int ((g' : Int) + (((V.ref c20 :: lead (g' : Int) ks').length : Nat) : Int)), .ref z26])) r (g' + 1 + (lead (g' : Int) ks').length) (ks'.drop (lead (g' : Int) ks').length) := by
      obtain ⟨u, as', h1, h2, h3⟩ := it
      exact ⟨u, as', s28 _ _ h1, s28 _ _ h2, pr_same s28 h3⟩
    refine ⟨_, _, rfl, (sm_in it2 e28 (rdS r26 (sT s27 s28)) (pr_drop _ is28.pr) fun q hq => ?_).up, fun H29 s29 => ⟨_, rfl, iteF ?_⟩⟩
    · obtain ⟨k1, k2, _⟩ := is28.kn q (List.mem_of_mem_drop hq)
      exact ⟨k1, k2⟩
    have s2529 := sT s25 (sT s267 (sT s28 s29))
    exact ⟨_, _, _, rfl, g24.same s2529, X24.st s2529, nf24.same s2529⟩
end
end Q

namespace Q
open PySem L2 QR LE TDp
abbrev sSnd32 : Stmt := top 44
structure PD32 (K : PySem.W.Frag) (mg : Str → Option Value) where
  f0 : Addr
  d0 : FuncData
  D0 : Df K mg "is_plain_int" sPlain ["thing"] f0 d0
  f1 : Addr
  d1 : FuncData
  D1 : Df K mg "is_number_below" sNum ["limit", "thing"] f1 d1
  f2 : Addr
  d2 : FuncData
  D2 : Df K mg "is_thing" sIsT ["thing"] f2 d2
  f3 : Addr
  d3 : FuncData
  D3 : Df K mg "is_pair" sIsP ["thing"] f3 d3
  f4 : Addr
  d4 : FuncData
  D4 : Df K mg "is_outgoing_state" sIsO ["thing"] f4 d4
  f5 : Addr
  d5 : FuncData
  D5 : Df K mg "is_incoming_state" sIsI ["thing"] f5 d5
  f6 : Addr
  d6 : FuncData
  D6 : Df K mg "outgoing_of" sOof ["state"] f6 d6
  f7 : Addr
  d7 : FuncData
  D7 : Df K mg "incoming_of" sIof ["state"] f7 d7
structure LD32 (K : PySem.W.Frag) (mg : Str → Option Value) where
  f0 : Addr
  d0 : FuncData
  D0 : Df K mg "_law_hand" sHand ["script"] f0 d0
  f1 : Addr
  d1 : FuncData
  D1 : Df K mg "_law_take" sTake ["hand", "many"] f1 d1
  f2 : Addr
  d2 : FuncData
  D2 : Df K mg "_law_pick" sPick ["hand", "things"] f2 d2
  f3 : Addr
  d3 : FuncData
  D3 : Df K mg "_law_is_integer" sLInt ["thing"] f3 d3
  f4 : Addr
  d4 : FuncData
  D4 : Df K mg "_law_same" sSameG ["actual", "due"] f4 d4
  f5 : Addr
  d5 : FuncData
  D5 : Df K mg "_law_item" sItem ["hand", "deep"] f5 d5
  f6 : Addr
  d6 : FuncData
  D6 : Df K mg "_law_thing" sLTh ["hand"] f6 d6
  f7 : Addr
  d7 : FuncData
  D7 : Df K mg "_law_heard" sHeard ["mind", "number", "thing"] f7 d7
  f8 : Addr
  d8 : FuncData
  D8 : Df K mg "_law_ends_right" sER ["out", "end", "things", "gone", "mind"] f8 d8
  f9 : Addr
  d9 : FuncData
  D9 : Df K mg "_law_deed" sDeed ["hand", "out", "end", "things", "gone", "mind", "all_taken"] f9 d9
  f10 : Addr
  d10 : FuncData
  D10 : Df K mg "_law_drained" sDr ["out", "end", "many"] f10 d10
  f11 : Addr
  d11 : FuncData
  D11 : Df K mg "_law_first" sFst32 ["script"] f11 d11
  f12 : Addr
  d12 : FuncData
  D12 : Df K mg "_law_is_within" sLWin ["thing", "least", "most"] f12 d12
  f13 : Addr
  d13 : FuncData
  D13 : Df K mg "_law_odd" sOddL ["hand"] f13 d13
  f14 : Addr
  d14 : FuncData
  D14 : Df K mg "_law_is_thing" sLIT ["thing"] f14 d14
  f15 : Addr
  d15 : FuncData
  D15 : Df K mg "_law_some_thing" sST ["hand"] f15 d15
  f16 : Addr
  d16 : FuncData
  D16 : Df K mg "_law_out_state" sOSt ["hand"] f16 d16
  f17 : Addr
  d17 : FuncData
  D17 : Df K mg "_law_in_state" sISt ["hand"] f17 d17
  f18 : Addr
  d18 : FuncData
  D18 : Df K mg "_law_spoilt" sSpo ["hand", "state"] f18 d18
  f19 : Addr
  d19 : FuncData
  D19 : Df K mg "_law_is_out" sLIO ["thing"] f19 d19
  f20 : Addr
  d20 : FuncData
  D20 : Df K mg "_law_is_in" sLII ["thing"] f20 d20
  f21 : Addr
  d21 : FuncData
  D21 : Df K mg "_law_out_told" sOT ["thing"] f21 d21
  f22 : Addr
  d22 : FuncData
  D22 : Df K mg "_law_in_told" sIT ["thing"] f22 d22
  f23 : Addr
  d23 : FuncData
  D23 : Df K mg "_law_judged" sJd ["thing"] f23 d23
  f24 : Addr
  d24 : FuncData
  D24 : Df K mg "_law_goes_on" sGo ["hand", "state", "other"] f24 d24
  f25 : Addr
  d25 : FuncData
  D25 : Df K mg "_law_second" sSnd32 ["script"] f25 d25
theorem exm_ot {K : PySem.W.Frag} {A S : Addr} {b : Bool} (h1 : PySem.W.subIn K (.ref S) (.type "BaseException") = some true) (h2 : PySem.W.isClsIn K S = true) (h3 : PySem.W.typeIn K (.ref S) = some (.type "type")) (h4 : PySem.W.subIn K (.ref A) (.ref S) = some b) : PySem.W.exmOne K (.ref A) (.ref S) = some b := by
  have u1 : (PySem.W.subIn K (.ref S) (.type "BaseException") == some true) = true := by rw [h1] <;> rfl
  have u2 : ((PySem.W.clsIn K S).isSome && PySem.W.typeIn K (.ref S) == some (.type "type")) = true := by
    have z : (PySem.W.clsIn K S).isSome = true := h2
    rw [z, h3] <;> rfl
  show (if (PySem.W.subIn K (.ref S) (.type "BaseException") == some true) = true then (if ((PySem.W.clsIn K S).isSome && PySem.W.typeIn K (.ref S) == some (.type "type")) = true then PySem.W.subIn K (.ref A) (.ref S) else none) else none) = some b
  rw [if_pos u1, if_pos u2, h4]
section
variable {P : Program} {w : World} {K : PySem.W.Frag} {mg : Str → Option Value} {base : Heap}
theorem scSnd32 : FnScope ["script", "hand", "state", "other", "k"] ["script"] (defScope sSnd32) := ⟨rfl, rfl, rfl, by decide +kernel, rfl, by decide +kernel, by decide +kernel⟩
theorem OutS.sta {H : Hp} {v : V} {a b : Addr} {kt : Nat} {ps : List V} (h : OutS H v a b kt ps) (pl : PlT H b ps) (few : ps.length ≤ 4) (sh : ∀ x ∈ ps, Shp H x) : Sta H a b kt ps := ⟨h.ra, pl, few, fun x hx => ⟨sh x hx, (h.kn x hx).1⟩⟩
theorem InS.sta {H : Hp} {v : V} {a b : Addr} {g : Nat} {as : List Addr} {ks : List (Int × V)} (h : InS H v a b g as ks) (pl : PlT H b (as.map V.ref)) (few : as.length ≤ 4) : Sta H a b g (as.map V.ref) := ⟨h.ra, pl, by rw [List.length_map]; exact few, fun x hx => by
  obtain ⟨c, p, rfl, hp, rc⟩ := pr_mem h.pr x hx
  exact ⟨⟨c, _, rfl, rc, (by show 2 ≤ 3; decide)⟩, kn_r2 rc (gd_i _).1 (h.kn p hp).1⟩⟩
theorem ok_snd32 {CO CN CS CX fX : Addr} (S : StD P K mg CO CN CS) (L : LD32 K mg) (MM : OMore K CO) (NM : NMore K CN) (XN : QS.SupC P K mg CX fX "NoNumber.__init__") (gN : mg "NoNumber" = some (.ref CX)) : FnOk P w K mg base CX0 11 L.f25 L.d25 ["script"] (spFst32 K) := by
  have B := S.B
  have GH : FnOk P w K mg base CX0 1 L.f0 L.d0 ["script"] (spHand K) := ok_hand L.D0.F B
  have GOst : FnOk P w K mg base CX0 4 L.f16 L.d16 ["hand"] spOSt := ok_ost L.D16 B L.D2 L.D1 L.D15
  have GIst : FnOk P w K mg base CX0 4 L.f17 L.d17 ["hand"] spISt := ok_ist2 L.D17 B L.D2 L.D1 L.D15
  have GJ : FnOk P w K mg base CX0 10 L.f23 L.d23 ["thing"] spJd := ok_jd S L.D23 L.D19 L.D20 L.D12 L.D3 L.D14 L.D4 L.D21 L.D22
  have GG : FnOk P w K mg base CX0 10 L.f24 L.d24 ["hand", "state", "other"] spGo := ok_go S L.D24 MM NM XN gN L.D4 L.D3 L.D1
  have GSp : FnOk P w K mg base CX0 3 L.f18 L.d18 ["hand", "state"] spSpo := ok_spo L.D18 B L.D2 L.D1 L.D13
  have GS : FnOk P w K mg base CX0 9 L.f4 L.d4 ["actual", "due"] (spSameR 8) := ok_sameR L.D4 B L.D3 8
  have GOI : FnOk P w K mg base CX0 1 S.MO.fI S.MO.dI ["self"] (spOI CO) := ok_oI S.TO S.MO
  have GNI : FnOk P w K mg base CX0 1 S.MN.fI S.MN.dI ["self"] (spNI CN) := ok_nI S.TN S.MN
  have GSo : FnOk P w K mg base CX0 1 S.MO.fS S.MO.dS ["self"] (spOS CO) := ok_oS S.TO S.MO S.B
  have GSn : FnOk P w K mg base CX0 2 S.MN.fS S.MN.dS ["self"] (spNSG CN) := ok_nSG S.TN S.MN S.B S.L
  refine L.D25.F.ok scSnd32 (fun vs H Q E h => ?_) (fun cdv A outer s H vs Q E hr h => ?_)
  · obtain ⟨a, ns, rfl, _⟩ := h
    rfl
  · obtain ⟨s0, ns, rfl, hS, hlen, k⟩ := h
    have nd := scSnd32.nd
    have hr1 : Room 1 _ := hr.mono (by decide)
    have hr2 : Room 2 _ := hr.mono (by decide)
    have hr3 : Room 3 _ := hr.mono (by decide)
    have hr4 : Room 4 _ := hr.mono (by decide)
    have hr9 : Room 9 _ := hr.mono (by decide)
    have hr10 : Room 10 _ := hr
    refine ⟨_, pss_cons (ps_set (i := 1) nd rfl (.inl rfl) (pe_call GH hr1 rfl L.D0.m L.D0.k L.D0.b .nil pass0 (pa_cons (pv 0) pa_nil)))
        (pss_cons (ps_set (i := 2) nd rfl (.inl rfl) (pe_call GOst hr4 rfl L.D16.m L.D16.k L.D16.b .nil pass0 (pa_cons (pv 1) pa_nil)))
        (pss_cons (ps_set (i := 3) nd rfl (.inl rfl) (pe_call GIst hr4 rfl L.D17.m L.D17.k L.D17.b .nil pass0 (pa_cons (pv 1) pa_nil)))
        (pss_cons (ps_if (PW.pt (pw_or (pt_not (pt_val (pe_call GJ hr10 rfl L.D23.m L.D23.k L.D23.b .nil pass0 (pa_cons (pv 2) pa_nil)))) (pw_or (pt_not (pt_val (pe_call GJ hr10 rfl L.D23.m L.D23.k L.D23.b .nil pass0 (pa_cons (pv 3) pa_nil)))) (pw_or1 (pt_not (pt_val (pe_call GG hr10 rfl L.D24.m L.D24.k L.D24.b .nil pass0 (pa_cons (pv 1) (pa_cons (pv 2) (pa_cons (pv 3) pa_nil)))))))))) (pss_one (ps_ret pe_bl)) pss_nil)
        (pss_cons (ps_for PassesOwn.never rfl (pi_range1 rfl B.range (pa_cons pe_int pa_nil)) (pg_name (i := 4) nd rfl (.inl rfl)) (pss_one (ps_if (PW.pt (pw_or (pt_not (pt_val (pe_call GJ hr10 rfl L.D23.m L.D23.k L.D23.b .nil pass0 (pa_cons (pe_call GSp hr3 rfl L.D18.m L.D18.k L.D18.b .nil pass0 (pa_cons (pv 1) (pa_cons (pv 2) pa_nil))) pa_nil)))) (pw_or1 (pt_not (pt_val (pe_call GJ hr10 rfl L.D23.m L.D23.k L.D23.b .nil pass0 (pa_cons (pe_call GSp hr3 rfl L.D18.m L.D18.k L.D18.b .nil pass0 (pa_cons (pv 1) (pa_cons (pv 3) pa_nil))) pa_nil))))))) (pss_one (ps_ret pe_bl)) pss_nil)))
        (pss_one (ps_ret (pe_and (pe_call GS hr9 rfl L.D4.m L.D4.k L.D4.b .nil pass0 (pa_cons (pe_meth0 (pe_make0 S.MO.mM GOI hr2 rfl S.TO.mgC S.MO.bI .nil pass0) S.TO.cl S.MO.mS GSo hr1 S.MO.bS .nil pass0) (pa_cons (pe_tup (pa_cons pe_int (pa_cons (pe_tup pa_nil) pa_nil))) pa_nil))) (pe_one (pe_call GS hr9 rfl L.D4.m L.D4.k L.D4.b .nil pass0 (pa_cons (pe_meth0 (pe_make0 S.MN.mM GNI hr2 rfl S.TN.mgC S.MN.bI .nil pass0) S.TN.cl S.MN.mS GSn hr2 S.MN.bS .nil pass0) (pa_cons (pe_tup (pa_cons pe_int (pa_cons (pe_tup pa_nil) pa_nil))) pa_nil))))))))))), ?_⟩
    refine ⟨_, rfl, s0, ns, rfl, hS, hlen, fun p l H1 g1 np nl s1 => ?_⟩
    refine ⟨_, rfl, p, l, rfl, g1, fun a b kt ps H2 g2 x2 os pl few sh => ?_⟩
    refine ⟨_, rfl, p, l, rfl, g2, fun a2 b2 g as ks H3 g3 x3 is pl2 few2 => ?_⟩
    have gw3 := Gw.hand g2 g3 x3
    have os3 := os.gw gw3
    have pl3 := plG gw3 pl
    have sta := os3.sta pl3 few fun x hx => (sh x hx).gw gw3
    have stb := is.sta pl2 few2
    have X3 : XtP p H1 H3 := fun b o e n => x3 _ _ (x2 b o e n) n
    clear gw3 os pl sh x2 x3 g2
    refine ⟨_, rfl, .ref a, rfl, os3.k, plin_of os3.ra pl3, fun H4 s4 => ⟨_, rfl, iteF ?_⟩⟩
    have is4 := is.same s4
    refine ⟨_, rfl, .ref a2, rfl, is4.k, plin_of is4.ra (plG (.of s4) pl2), fun H5 s5 => ⟨_, rfl, iteF ?_⟩⟩
    have s45 := sT s4 s5
    refine ⟨_, rfl, _, rfl, _, rfl, p, l, a, b, a2, b2, kt, g, ps, as, ks, rfl, g3.same s45, os3.same s45, is.same s45, plG (.of s45) pl2, few, few2, fun H6 g6 x6 => ⟨_, rfl, iteF ?_⟩⟩
    have X6 : XtP p H3 H6 := fun b o e n => x6 _ _ (s45 _ _ e) n
    refine ⟨4, rfl, by decide, by decide, for_range (lo := 0) (n := 4) (fun i σ H' => ∃ x4 : Option V, σ = [some (.ref s0), some (.ref p), some (.ref a), some (.ref a2), x4] ∧ HandAt H' p l ∧ XtP p H3 H') ⟨none, rfl, g6, X6⟩ ?_ ?_⟩
    · rintro i σ H7 hi ⟨x4, rfl, g7, X7⟩
      refine ⟨_, rfl, _, rfl, p, l, a, b, kt, ps, rfl, g7, sta.gw (Gw.hand g3 g7 X7), fun v H8 g8 x8 kn pv => ⟨_, rfl, kn, pv, fun H9 s9 => ⟨_, rfl, iteF ?_⟩⟩⟩
      have X9 : XtP p H3 H9 := fun b o e n => s9 _ _ (x8 _ _ (X7 b o e n) n)
      have g9 := g8.same s9
      refine ⟨_, rfl, _, rfl, p, l, a2, b2, g, _, rfl, g9, stb.gw (Gw.hand g3 g9 X9), fun v H10 g10 x10 kn pv => ⟨_, rfl, kn, pv, fun H11 s11 => ⟨_, rfl, iteF ?_⟩⟩⟩
      exact ⟨_, rfl, g10.same s11, fun b o e n => s11 _ _ (x10 _ _ (X9 b o e n) n)⟩
    rintro σ H7 ⟨x4, rfl, g7, X7⟩
    have sH : Same H H7 := fun b o e => X7 _ _ (X3 _ _ (s1 _ _ e) (ne_of_none e np)) (ne_of_none e np)
    clear g7 X7 X6 g6 x6 s45 s5 s4 is4 os3 pl3 is pl2 sta stb X3 g3 g1
    intro y dy ny ndy ney
    have w1 : Same H7 (upd (upd H7 dy (.own y)) y (.ins CO dy [])) := fun b u e => by
      rw [upd_ne (ne_of_none e ny), upd_ne (ne_of_none e ndy)]
      exact e
    refine ⟨y, dy, rfl, upd_same, fun lb H8 nlb lby b8 o8 => ⟨rfl, ?_⟩⟩
    have s8 : Same H7 H8 := fun b u e => b8 b u (w1 b u e) (ne_of_none e ny)
    refine ⟨y, dy, _, rfl, o8.at_, rfl, y, dy, lb, 0, [], rfl, o8, fun t u H9 s9 e1 e2 => ?_⟩
    refine ⟨Nat.zero_le _, fun c hc => ⟨(by show 2 ≤ sizeLine; decide), fun c2 hc2 => ?_⟩⟩
    have q1 := sN (o := .tup []) hc
    have q2 := sN (o := .tup [.int 0, .ref c]) hc2
    have q12 := sT q1 q2
    refine ⟨_, _, rfl, (sm_out (kt := 0) (ps := []) ⟨u, q12 _ _ e1, q12 _ _ e2⟩ (.inl upd_same) (.inl (q2 _ _ upd_same)) fun p hp => by simp at hp).up, fun H10 s10 => ⟨_, rfl, iteT ?_⟩⟩
    have s710 := sT sH (sT s8 (sT s9 (sT q12 s10)))
    clear q12 q2 q1 hc hc2 e1 e2 s9 o8 s8 b8 lby nlb w1 ney ndy ny sH
    intro y' dy' ny ndy ney
    have w1 : Same H10 (upd (upd H10 dy' (.own y')) y' (.ins CN dy' [])) := fun b u e => by
      rw [upd_ne (ne_of_none e ny), upd_ne (ne_of_none e ndy)]
      exact e
    refine ⟨y', dy', rfl, upd_same, fun lb' H8' nlb lby b8 o8 => ⟨rfl, ?_⟩⟩
    have s8 : Same H10 H8' := fun b u e => b8 b u (w1 b u e) (ne_of_none e ny)
    refine ⟨y', dy', _, rfl, o8.at_, rfl, y', dy', lb', 0, 0, [], rfl, o8, trivial, fun r H9' s9 it => ?_⟩
    refine ⟨Nat.zero_le _, fun c' hc => ⟨(by show 2 ≤ sizeLine; decide), fun c2' hc2 => ?_⟩⟩
    have q1 := sN (o := .tup []) hc
    have q2 := sN (o := .tup [.int 0, .ref c']) hc2
    have q12 := sT q1 q2
    have it2 : InT (upd (upd H9' c' (.tup [])) c2' (.tup [.int 0, .ref c'])) r 0 [] := by
      obtain ⟨u, as', h1, h2, h3⟩ := it
      exact ⟨u, as', q12 _ _ h1, q12 _ _ h2, pr_same q12 h3⟩
    exact ⟨_, _, rfl, (sm_in (t := 0) (bs := []) it2 (.inl upd_same) (.inl (q2 _ _ upd_same)) .nil fun p hp => by simp at hp).up, fun H11 s11 => k _ (sT s710 (sT s8 (sT s9 (sT q12 s11))))⟩
theorem scLaw32 : FnScope ["script"] ["script"] (defScope sLaw) := ⟨rfl, rfl, rfl, by decide +kernel, rfl, by decide +kernel, by decide +kernel⟩
theorem ok_law {f CO CN CS CX fX : Addr} {fd : FuncData} (F : Fun K "law" "law" sLaw f fd) (S : StD P K mg CO CN CS) (A : PD32 K mg) (L : LD32 K mg) (be : mg "enumerate" = none) (MM : OMore K CO) (NM : NMore K CN) (XN : QS.SupC P K mg CX fX "NoNumber.__init__") (gN : mg "NoNumber" = some (.ref CX)) : FnOk P w K mg base CX0 12 f fd ["script"] (spLaw K) := by
  have G1 : FnOk P w K mg base CX0 10 L.f11 L.d11 ["script"] (spFst32 K) := ok_fst32 L.D11 S.B be S.bd S.L S.TO S.MO MM S.TN S.MN NM XN gN A.D1 A.D0 L.D0 L.D1 L.D2 L.D4 L.D3 L.D5 L.D6 L.D7 L.D8 L.D9 L.D10
  have G2 : FnOk P w K mg base CX0 11 L.f25 L.d25 ["script"] (spFst32 K) := ok_snd32 S L MM NM XN gN
  refine F.ok scLaw32 (fun vs H Q E h => ?_) (fun cdv Ar outer s H vs Q E hr h => ?_)
  · obtain ⟨a, ns, rfl, _⟩ := h
    rfl
  · obtain ⟨a, ns, rfl, hS, hlen, k⟩ := h
    have hr1 : Room 10 _ := hr.mono (by decide)
    refine ⟨_, pss_one (ps_ret (pe_and (pe_call G1 hr1 rfl L.D11.m L.D11.k L.D11.b .nil pass0 (pa_cons (pv 0) pa_nil)) (pe_one (pe_call G2 hr rfl L.D25.m L.D25.k L.D25.b .nil pass0 (pa_cons (pv 0) pa_nil))))), ?_⟩
    exact ⟨_, rfl, a, ns, rfl, hS, hlen, fun H' s1 => ⟨_, rfl, iteT ⟨_, rfl, a, ns, rfl, s1.seq hS, hlen, fun H'' _ => k H''⟩⟩⟩
end
end Q

namespace Q
open PySem L2 QR QS
theorem exm_me {K : PySem.W.Frag} {S : Addr} (h1 : PySem.W.subIn K (.ref S) (.type "BaseException") = some true) (h2 : PySem.W.isClsIn K S = true) (h3 : PySem.W.typeIn K (.ref S) = some (.type "type")) (h4 : PySem.W.subIn K (.ref S) (.ref S) = some true) : PySem.W.exmOne K (.ref S) (.ref S) = some true := by
  have u1 : (PySem.W.subIn K (.ref S) (.type "BaseException") == some true) = true := by rw [h1] <;> rfl
  have u2 : ((PySem.W.clsIn K S).isSome && PySem.W.typeIn K (.ref S) == some (.type "type")) = true := by
    have z : (PySem.W.clsIn K S).isSome = true := h2
    rw [z, h3] <;> rfl
  show (if (PySem.W.subIn K (.ref S) (.type "BaseException") == some true) = true then (if ((PySem.W.clsIn K S).isSome && PySem.W.typeIn K (.ref S) == some (.type "type")) = true then PySem.W.subIn K (.ref S) (.ref S) else none) else none) = some true
  rw [if_pos u1, if_pos u2, h4]

theorem all_mk {l : PySem.W.OpenLaw} {w : World} {K : PySem.W.Frag} {h : Heap} {mg : Str → Option Value} {fa : Addr} (X : K.In h) (G : h.Ns mainGlobals mg) (hfa : mg "law" = some (.ref fa))
    {tc_NUMBERS : Tok}
    {tc_HELD_AHEAD : Tok}
    {CO CN : Addr}
    {foI : Addr} {ocoI kVoI dcoI pmoI cdoI ctoI : Value} {odoI anoI : Option Addr} {sloI : Array (Option Value)}
    {foP : Addr} {ocoP kVoP dcoP pmoP cdoP ctoP : Value} {odoP anoP : Option Addr} {sloP : Array (Option Value)}
    {foK : Addr} {ocoK kVoK dcoK pmoK cdoK ctoK : Value} {odoK anoK : Option Addr} {sloK : Array (Option Value)}
    {foM : Addr} {ocoM kVoM dcoM pmoM cdoM ctoM : Value} {odoM anoM : Option Addr} {sloM : Array (Option Value)}
    {foS : Addr} {ocoS kVoS dcoS pmoS cdoS ctoS : Value} {odoS anoS : Option Addr} {sloS : Array (Option Value)}
    {foW : Addr} {ocoW kVoW dcoW pmoW cdoW ctoW : Value} {odoW anoW : Option Addr} {sloW : Array (Option Value)}
    {foC : Addr} {ocoC kVoC dcoC pmoC cdoC ctoC : Value} {odoC anoC : Option Addr} {sloC : Array (Option Value)}
    {fnI : Addr} {ocnI kVnI dcnI pmnI cdnI ctnI : Value} {odnI annI : Option Addr} {slnI : Array (Option Value)}
    {fnT : Addr} {ocnT kVnT dcnT pmnT cdnT ctnT : Value} {odnT annT : Option Addr} {slnT : Array (Option Value)}
    {fnN : Addr} {ocnN kVnN dcnN pmnN cdnN ctnN : Value} {odnN annN : Option Addr} {slnN : Array (Option Value)}
    {fnH : Addr} {ocnH kVnH dcnH pmnH cdnH ctnH : Value} {odnH annH : Option Addr} {slnH : Array (Option Value)}
    {fnS : Addr} {ocnS kVnS dcnS pmnS cdnS ctnS : Value} {odnS annS : Option Addr} {slnS : Array (Option Value)}
    {fnC : Addr} {ocnC kVnC dcnC pmnC cdnC ctnC : Value} {odnC annC : Option Addr} {slnC : Array (Option Value)}
    {Cn fn cdan ccn : Addr} {nmn qn : Str} {Nn : Addr} {bsn bmn : List Value} {snn : List Str} {subn : List Value} {abn : Bool} {coln : Option Bool} {ddn : Option Addr} {k0n k1n k2n k3n k5n : Option Value} {ocn : Value} {odn : Option Addr} {docn pmn : Value} {ann : Option Addr} {ctn : Value} {osln : Array (Option Value)} {pn q1n q2n q3n q4n q5n : Pos} {ccln cln : Value} {cddn cldn : Option Addr} {ccsn csln : Array (Option Value)} {vsn : Array Value} {filen : Str} {tfn : Tok}
    {Cs fs cdas ccs : Addr} {nms qs : Str} {Ns : Addr} {bss bms : List Value} {sns : List Str} {subs : List Value} {abs : Bool} {cols : Option Bool} {dds : Option Addr} {k0s k1s k2s k3s k5s : Option Value} {ocs : Value} {ods : Option Addr} {docs pms : Value} {ans : Option Addr} {cts : Value} {osls : Array (Option Value)} {ps q1s q2s q3s q4s q5s : Pos} {ccls cls : Value} {cdds clds : Option Addr} {ccss csls : Array (Option Value)} {vss : Array Value} {files : Str} {tfs : Tok}
    {f0 : Addr} {od0 an0 : Option Addr} {sl0 : Array (Option Value)} {oc0 kV0 dc0 pm0 cd0 ct0 : Value}
    {f1 : Addr} {od1 an1 : Option Addr} {sl1 : Array (Option Value)} {oc1 kV1 dc1 pm1 cd1 ct1 : Value}
    {f2 : Addr} {od2 an2 : Option Addr} {sl2 : Array (Option Value)} {oc2 kV2 dc2 pm2 cd2 ct2 : Value}
    {f3 : Addr} {od3 an3 : Option Addr} {sl3 : Array (Option Value)} {oc3 kV3 dc3 pm3 cd3 ct3 : Value}
    {f4 : Addr} {od4 an4 : Option Addr} {sl4 : Array (Option Value)} {oc4 kV4 dc4 pm4 cd4 ct4 : Value}
    {f5 : Addr} {od5 an5 : Option Addr} {sl5 : Array (Option Value)} {oc5 kV5 dc5 pm5 cd5 ct5 : Value}
    {f6 : Addr} {od6 an6 : Option Addr} {sl6 : Array (Option Value)} {oc6 kV6 dc6 pm6 cd6 ct6 : Value}
    {f7 : Addr} {od7 an7 : Option Addr} {sl7 : Array (Option Value)} {oc7 kV7 dc7 pm7 cd7 ct7 : Value}
    {f8 : Addr} {od8 an8 : Option Addr} {sl8 : Array (Option Value)} {oc8 kV8 dc8 pm8 cd8 ct8 : Value}
    {f9 : Addr} {od9 an9 : Option Addr} {sl9 : Array (Option Value)} {oc9 kV9 dc9 pm9 cd9 ct9 : Value}
    {f10 : Addr} {od10 an10 : Option Addr} {sl10 : Array (Option Value)} {oc10 kV10 dc10 pm10 cd10 ct10 : Value}
    {f11 : Addr} {od11 an11 : Option Addr} {sl11 : Array (Option Value)} {oc11 kV11 dc11 pm11 cd11 ct11 : Value}
    {f12 : Addr} {od12 an12 : Option Addr} {sl12 : Array (Option Value)} {oc12 kV12 dc12 pm12 cd12 ct12 : Value}
    {f13 : Addr} {od13 an13 : Option Addr} {sl13 : Array (Option Value)} {oc13 kV13 dc13 pm13 cd13 ct13 : Value}
    {f14 : Addr} {od14 an14 : Option Addr} {sl14 : Array (Option Value)} {oc14 kV14 dc14 pm14 cd14 ct14 : Value}
    {f15 : Addr} {od15 an15 : Option Addr} {sl15 : Array (Option Value)} {oc15 kV15 dc15 pm15 cd15 ct15 : Value}
    {f16 : Addr} {od16 an16 : Option Addr} {sl16 : Array (Option Value)} {oc16 kV16 dc16 pm16 cd16 ct16 : Value}
    {f17 : Addr} {od17 an17 : Option Addr} {sl17 : Array (Option Value)} {oc17 kV17 dc17 pm17 cd17 ct17 : Value}
    {f18 : Addr} {od18 an18 : Option Addr} {sl18 : Array (Option Value)} {oc18 kV18 dc18 pm18 cd18 ct18 : Value}
    {f19 : Addr} {od19 an19 : Option Addr} {sl19 : Array (Option Value)} {oc19 kV19 dc19 pm19 cd19 ct19 : Value}
    {f20 : Addr} {od20 an20 : Option Addr} {sl20 : Array (Option Value)} {oc20 kV20 dc20 pm20 cd20 ct20 : Value}
    {f21 : Addr} {od21 an21 : Option Addr} {sl21 : Array (Option Value)} {oc21 kV21 dc21 pm21 cd21 ct21 : Value}
    {f22 : Addr} {od22 an22 : Option Addr} {sl22 : Array (Option Value)} {oc22 kV22 dc22 pm22 cd22 ct22 : Value}
    {f23 : Addr} {od23 an23 : Option Addr} {sl23 : Array (Option Value)} {oc23 kV23 dc23 pm23 cd23 ct23 : Value}
    {f24 : Addr} {od24 an24 : Option Addr} {sl24 : Array (Option Value)} {oc24 kV24 dc24 pm24 cd24 ct24 : Value}
    {f25 : Addr} {od25 an25 : Option Addr} {sl25 : Array (Option Value)} {oc25 kV25 dc25 pm25 cd25 ct25 : Value}
    {f26 : Addr} {od26 an26 : Option Addr} {sl26 : Array (Option Value)} {oc26 kV26 dc26 pm26 cd26 ct26 : Value}
    {f27 : Addr} {od27 an27 : Option Addr} {sl27 : Array (Option Value)} {oc27 kV27 dc27 pm27 cd27 ct27 : Value}
    {f28 : Addr} {od28 an28 : Option Addr} {sl28 : Array (Option Value)} {oc28 kV28 dc28 pm28 cd28 ct28 : Value}
    {f29 : Addr} {od29 an29 : Option Addr} {sl29 : Array (Option Value)} {oc29 kV29 dc29 pm29 cd29 ct29 : Value}
    {f30 : Addr} {od30 an30 : Option Addr} {sl30 : Array (Option Value)} {oc30 kV30 dc30 pm30 cd30 ct30 : Value}
    {f31 : Addr} {od31 an31 : Option Addr} {sl31 : Array (Option Value)} {oc31 kV31 dc31 pm31 cd31 ct31 : Value}
    {f32 : Addr} {od32 an32 : Option Addr} {sl32 : Array (Option Value)} {oc32 kV32 dc32 pm32 cd32 ct32 : Value}
    {f33 : Addr} {od33 an33 : Option Addr} {sl33 : Array (Option Value)} {oc33 kV33 dc33 pm33 cd33 ct33 : Value}
    {f34 : Addr} {od34 an34 : Option Addr} {sl34 : Array (Option Value)} {oc34 kV34 dc34 pm34 cd34 ct34 : Value}
    (a0 : PySem.W.nsIn K mainGlobals "is_plain_int" = some (some (.ref f0)))
    (l0 : K.lookup f0 = some ⟨oc0, od0, .func (PySem.W.fnOf "is_plain_int" "is_plain_int" (defArgs sPlain) (defBody sPlain) (defScope sPlain) .none kV0 dc0 pm0 an0 cd0 ct0), sl0⟩)
    (c0 : PySem.W.codeIn K cd0 "is_plain_int" = true)
    (k0 : PySem.W.keepIn K (.ref f0) = true)
    (a1 : PySem.W.nsIn K mainGlobals "is_number_below" = some (some (.ref f1)))
    (l1 : K.lookup f1 = some ⟨oc1, od1, .func (PySem.W.fnOf "is_number_below" "is_number_below" (defArgs sNum) (defBody sNum) (defScope sNum) .none kV1 dc1 pm1 an1 cd1 ct1), sl1⟩)
    (c1 : PySem.W.codeIn K cd1 "is_number_below" = true)
    (k1 : PySem.W.keepIn K (.ref f1) = true)
    (a2 : PySem.W.nsIn K mainGlobals "is_thing" = some (some (.ref f2)))
    (l2 : K.lookup f2 = some ⟨oc2, od2, .func (PySem.W.fnOf "is_thing" "is_thing" (defArgs sIsT) (defBody sIsT) (defScope sIsT) .none kV2 dc2 pm2 an2 cd2 ct2), sl2⟩)
    (c2 : PySem.W.codeIn K cd2 "is_thing" = true)
    (k2 : PySem.W.keepIn K (.ref f2) = true)
    (a3 : PySem.W.nsIn K mainGlobals "is_pair" = some (some (.ref f3)))
    (l3 : K.lookup f3 = some ⟨oc3, od3, .func (PySem.W.fnOf "is_pair" "is_pair" (defArgs sIsP) (defBody sIsP) (defScope sIsP) .none kV3 dc3 pm3 an3 cd3 ct3), sl3⟩)
    (c3 : PySem.W.codeIn K cd3 "is_pair" = true)
    (k3 : PySem.W.keepIn K (.ref f3) = true)
    (a4 : PySem.W.nsIn K mainGlobals "is_outgoing_state" = some (some (.ref f4)))
    (l4 : K.lookup f4 = some ⟨oc4, od4, .func (PySem.W.fnOf "is_outgoing_state" "is_outgoing_state" (defArgs sIsO) (defBody sIsO) (defScope sIsO) .none kV4 dc4 pm4 an4 cd4 ct4), sl4⟩)
    (c4 : PySem.W.codeIn K cd4 "is_outgoing_state" = true)
    (k4 : PySem.W.keepIn K (.ref f4) = true)
    (a5 : PySem.W.nsIn K mainGlobals "is_incoming_state" = some (some (.ref f5)))
    (l5 : K.lookup f5 = some ⟨oc5, od5, .func (PySem.W.fnOf "is_incoming_state" "is_incoming_state" (defArgs sIsI) (defBody sIsI) (defScope sIsI) .none kV5 dc5 pm5 an5 cd5 ct5), sl5⟩)
    (c5 : PySem.W.codeIn K cd5 "is_incoming_state" = true)
    (k5 : PySem.W.keepIn K (.ref f5) = true)
    (a6 : PySem.W.nsIn K mainGlobals "outgoing_of" = some (some (.ref f6)))
    (l6 : K.lookup f6 = some ⟨oc6, od6, .func (PySem.W.fnOf "outgoing_of" "outgoing_of" (defArgs sOof) (defBody sOof) (defScope sOof) .none kV6 dc6 pm6 an6 cd6 ct6), sl6⟩)
    (c6 : PySem.W.codeIn K cd6 "outgoing_of" = true)
    (k6 : PySem.W.keepIn K (.ref f6) = true)
    (a7 : PySem.W.nsIn K mainGlobals "incoming_of" = some (some (.ref f7)))
    (l7 : K.lookup f7 = some ⟨oc7, od7, .func (PySem.W.fnOf "incoming_of" "incoming_of" (defArgs sIof) (defBody sIof) (defScope sIof) .none kV7 dc7 pm7 an7 cd7 ct7), sl7⟩)
    (c7 : PySem.W.codeIn K cd7 "incoming_of" = true)
    (k7 : PySem.W.keepIn K (.ref f7) = true)
    (a8 : PySem.W.nsIn K mainGlobals "_law_hand" = some (some (.ref f8)))
    (l8 : K.lookup f8 = some ⟨oc8, od8, .func (PySem.W.fnOf "_law_hand" "_law_hand" (defArgs sHand) (defBody sHand) (defScope sHand) .none kV8 dc8 pm8 an8 cd8 ct8), sl8⟩)
    (c8 : PySem.W.codeIn K cd8 "_law_hand" = true)
    (k8 : PySem.W.keepIn K (.ref f8) = true)
    (a9 : PySem.W.nsIn K mainGlobals "_law_take" = some (some (.ref f9)))
    (l9 : K.lookup f9 = some ⟨oc9, od9, .func (PySem.W.fnOf "_law_take" "_law_take" (defArgs sTake) (defBody sTake) (defScope sTake) .none kV9 dc9 pm9 an9 cd9 ct9), sl9⟩)
    (c9 : PySem.W.codeIn K cd9 "_law_take" = true)
    (k9 : PySem.W.keepIn K (.ref f9) = true)
    (a10 : PySem.W.nsIn K mainGlobals "_law_pick" = some (some (.ref f10)))
    (l10 : K.lookup f10 = some ⟨oc10, od10, .func (PySem.W.fnOf "_law_pick" "_law_pick" (defArgs sPick) (defBody sPick) (defScope sPick) .none kV10 dc10 pm10 an10 cd10 ct10), sl10⟩)
    (c10 : PySem.W.codeIn K cd10 "_law_pick" = true)
    (k10 : PySem.W.keepIn K (.ref f10) = true)
    (a11 : PySem.W.nsIn K mainGlobals "_law_is_integer" = some (some (.ref f11)))
    (l11 : K.lookup f11 = some ⟨oc11, od11, .func (PySem.W.fnOf "_law_is_integer" "_law_is_integer" (defArgs sLInt) (defBody sLInt) (defScope sLInt) .none kV11 dc11 pm11 an11 cd11 ct11), sl11⟩)
    (c11 : PySem.W.codeIn K cd11 "_law_is_integer" = true)
    (k11 : PySem.W.keepIn K (.ref f11) = true)
    (a12 : PySem.W.nsIn K mainGlobals "_law_same" = some (some (.ref f12)))
    (l12 : K.lookup f12 = some ⟨oc12, od12, .func (PySem.W.fnOf "_law_same" "_law_same" (defArgs sSameG) (defBody sSameG) (defScope sSameG) .none kV12 dc12 pm12 an12 cd12 ct12), sl12⟩)
    (c12 : PySem.W.codeIn K cd12 "_law_same" = true)
    (k12 : PySem.W.keepIn K (.ref f12) = true)
    (a13 : PySem.W.nsIn K mainGlobals "_law_item" = some (some (.ref f13)))
    (l13 : K.lookup f13 = some ⟨oc13, od13, .func (PySem.W.fnOf "_law_item" "_law_item" (defArgs sItem) (defBody sItem) (defScope sItem) .none kV13 dc13 pm13 an13 cd13 ct13), sl13⟩)
    (c13 : PySem.W.codeIn K cd13 "_law_item" = true)
    (k13 : PySem.W.keepIn K (.ref f13) = true)
    (a14 : PySem.W.nsIn K mainGlobals "_law_thing" = some (some (.ref f14)))
    (l14 : K.lookup f14 = some ⟨oc14, od14, .func (PySem.W.fnOf "_law_thing" "_law_thing" (defArgs sLTh) (defBody sLTh) (defScope sLTh) .none kV14 dc14 pm14 an14 cd14 ct14), sl14⟩)
    (c14 : PySem.W.codeIn K cd14 "_law_thing" = true)
    (k14 : PySem.W.keepIn K (.ref f14) = true)
    (a15 : PySem.W.nsIn K mainGlobals "_law_heard" = some (some (.ref f15)))
    (l15 : K.lookup f15 = some ⟨oc15, od15, .func (PySem.W.fnOf "_law_heard" "_law_heard" (defArgs sHeard) (defBody sHeard) (defScope sHeard) .none kV15 dc15 pm15 an15 cd15 ct15), sl15⟩)
    (c15 : PySem.W.codeIn K cd15 "_law_heard" = true)
    (k15 : PySem.W.keepIn K (.ref f15) = true)
    (a16 : PySem.W.nsIn K mainGlobals "_law_ends_right" = some (some (.ref f16)))
    (l16 : K.lookup f16 = some ⟨oc16, od16, .func (PySem.W.fnOf "_law_ends_right" "_law_ends_right" (defArgs sER) (defBody sER) (defScope sER) .none kV16 dc16 pm16 an16 cd16 ct16), sl16⟩)
    (c16 : PySem.W.codeIn K cd16 "_law_ends_right" = true)
    (k16 : PySem.W.keepIn K (.ref f16) = true)
    (a17 : PySem.W.nsIn K mainGlobals "_law_deed" = some (some (.ref f17)))
    (l17 : K.lookup f17 = some ⟨oc17, od17, .func (PySem.W.fnOf "_law_deed" "_law_deed" (defArgs sDeed) (defBody sDeed) (defScope sDeed) .none kV17 dc17 pm17 an17 cd17 ct17), sl17⟩)
    (c17 : PySem.W.codeIn K cd17 "_law_deed" = true)
    (k17 : PySem.W.keepIn K (.ref f17) = true)
    (a18 : PySem.W.nsIn K mainGlobals "_law_drained" = some (some (.ref f18)))
    (l18 : K.lookup f18 = some ⟨oc18, od18, .func (PySem.W.fnOf "_law_drained" "_law_drained" (defArgs sDr) (defBody sDr) (defScope sDr) .none kV18 dc18 pm18 an18 cd18 ct18), sl18⟩)
    (c18 : PySem.W.codeIn K cd18 "_law_drained" = true)
    (k18 : PySem.W.keepIn K (.ref f18) = true)
    (a19 : PySem.W.nsIn K mainGlobals "_law_first" = some (some (.ref f19)))
    (l19 : K.lookup f19 = some ⟨oc19, od19, .func (PySem.W.fnOf "_law_first" "_law_first" (defArgs sFst32) (defBody sFst32) (defScope sFst32) .none kV19 dc19 pm19 an19 cd19 ct19), sl19⟩)
    (c19 : PySem.W.codeIn K cd19 "_law_first" = true)
    (k19 : PySem.W.keepIn K (.ref f19) = true)
    (a20 : PySem.W.nsIn K mainGlobals "_law_is_within" = some (some (.ref f20)))
    (l20 : K.lookup f20 = some ⟨oc20, od20, .func (PySem.W.fnOf "_law_is_within" "_law_is_within" (defArgs sLWin) (defBody sLWin) (defScope sLWin) .none kV20 dc20 pm20 an20 cd20 ct20), sl20⟩)
    (c20 : PySem.W.codeIn K cd20 "_law_is_within" = true)
    (k20 : PySem.W.keepIn K (.ref f20) = true)
    (a21 : PySem.W.nsIn K mainGlobals "_law_odd" = some (some (.ref f21)))
    (l21 : K.lookup f21 = some ⟨oc21, od21, .func (PySem.W.fnOf "_law_odd" "_law_odd" (defArgs sOddL) (defBody sOddL) (defScope sOddL) .none kV21 dc21 pm21 an21 cd21 ct21), sl21⟩)
    (c21 : PySem.W.codeIn K cd21 "_law_odd" = true)
    (k21 : PySem.W.keepIn K (.ref f21) = true)
    (a22 : PySem.W.nsIn K mainGlobals "_law_is_thing" = some (some (.ref f22)))
    (l22 : K.lookup f22 = some ⟨oc22, od22, .func (PySem.W.fnOf "_law_is_thing" "_law_is_thing" (defArgs sLIT) (defBody sLIT) (defScope sLIT) .none kV22 dc22 pm22 an22 cd22 ct22), sl22⟩)
    (c22 : PySem.W.codeIn K cd22 "_law_is_thing" = true)
    (k22 : PySem.W.keepIn K (.ref f22) = true)
    (a23 : PySem.W.nsIn K mainGlobals "_law_some_thing" = some (some (.ref f23)))
    (l23 : K.lookup f23 = some ⟨oc23, od23, .func (PySem.W.fnOf "_law_some_thing" "_law_some_thing" (defArgs sST) (defBody sST) (defScope sST) .none kV23 dc23 pm23 an23 cd23 ct23), sl23⟩)
    (c23 : PySem.W.codeIn K cd23 "_law_some_thing" = true)
    (k23 : PySem.W.keepIn K (.ref f23) = true)
    (a24 : PySem.W.nsIn K mainGlobals "_law_out_state" = some (some (.ref f24)))
    (l24 : K.lookup f24 = some ⟨oc24, od24, .func (PySem.W.fnOf "_law_out_state" "_law_out_state" (defArgs sOSt) (defBody sOSt) (defScope sOSt) .none kV24 dc24 pm24 an24 cd24 ct24), sl24⟩)
    (c24 : PySem.W.codeIn K cd24 "_law_out_state" = true)
    (k24 : PySem.W.keepIn K (.ref f24) = true)
    (a25 : PySem.W.nsIn K mainGlobals "_law_in_state" = some (some (.ref f25)))
    (l25 : K.lookup f25 = some ⟨oc25, od25, .func (PySem.W.fnOf "_law_in_state" "_law_in_state" (defArgs sISt) (defBody sISt) (defScope sISt) .none kV25 dc25 pm25 an25 cd25 ct25), sl25⟩)
    (c25 : PySem.W.codeIn K cd25 "_law_in_state" = true)
    (k25 : PySem.W.keepIn K (.ref f25) = true)
    (a26 : PySem.W.nsIn K mainGlobals "_law_spoilt" = some (some (.ref f26)))
    (l26 : K.lookup f26 = some ⟨oc26, od26, .func (PySem.W.fnOf "_law_spoilt" "_law_spoilt" (defArgs sSpo) (defBody sSpo) (defScope sSpo) .none kV26 dc26 pm26 an26 cd26 ct26), sl26⟩)
    (c26 : PySem.W.codeIn K cd26 "_law_spoilt" = true)
    (k26 : PySem.W.keepIn K (.ref f26) = true)
    (a27 : PySem.W.nsIn K mainGlobals "_law_is_out" = some (some (.ref f27)))
    (l27 : K.lookup f27 = some ⟨oc27, od27, .func (PySem.W.fnOf "_law_is_out" "_law_is_out" (defArgs sLIO) (defBody sLIO) (defScope sLIO) .none kV27 dc27 pm27 an27 cd27 ct27), sl27⟩)
    (c27 : PySem.W.codeIn K cd27 "_law_is_out" = true)
    (k27 : PySem.W.keepIn K (.ref f27) = true)
    (a28 : PySem.W.nsIn K mainGlobals "_law_is_in" = some (some (.ref f28)))
    (l28 : K.lookup f28 = some ⟨oc28, od28, .func (PySem.W.fnOf "_law_is_in" "_law_is_in" (defArgs sLII) (defBody sLII) (defScope sLII) .none kV28 dc28 pm28 an28 cd28 ct28), sl28⟩)
    (c28 : PySem.W.codeIn K cd28 "_law_is_in" = true)
    (k28 : PySem.W.keepIn K (.ref f28) = true)
    (a29 : PySem.W.nsIn K mainGlobals "_law_out_told" = some (some (.ref f29)))
    (l29 : K.lookup f29 = some ⟨oc29, od29, .func (PySem.W.fnOf "_law_out_told" "_law_out_told" (defArgs sOT) (defBody sOT) (defScope sOT) .none kV29 dc29 pm29 an29 cd29 ct29), sl29⟩)
    (c29 : PySem.W.codeIn K cd29 "_law_out_told" = true)
    (k29 : PySem.W.keepIn K (.ref f29) = true)
    (a30 : PySem.W.nsIn K mainGlobals "_law_in_told" = some (some (.ref f30)))
    (l30 : K.lookup f30 = some ⟨oc30, od30, .func (PySem.W.fnOf "_law_in_told" "_law_in_told" (defArgs sIT) (defBody sIT) (defScope sIT) .none kV30 dc30 pm30 an30 cd30 ct30), sl30⟩)
    (c30 : PySem.W.codeIn K cd30 "_law_in_told" = true)
    (k30 : PySem.W.keepIn K (.ref f30) = true)
    (a31 : PySem.W.nsIn K mainGlobals "_law_judged" = some (some (.ref f31)))
    (l31 : K.lookup f31 = some ⟨oc31, od31, .func (PySem.W.fnOf "_law_judged" "_law_judged" (defArgs sJd) (defBody sJd) (defScope sJd) .none kV31 dc31 pm31 an31 cd31 ct31), sl31⟩)
    (c31 : PySem.W.codeIn K cd31 "_law_judged" = true)
    (k31 : PySem.W.keepIn K (.ref f31) = true)
    (a32 : PySem.W.nsIn K mainGlobals "_law_goes_on" = some (some (.ref f32)))
    (l32 : K.lookup f32 = some ⟨oc32, od32, .func (PySem.W.fnOf "_law_goes_on" "_law_goes_on" (defArgs sGo) (defBody sGo) (defScope sGo) .none kV32 dc32 pm32 an32 cd32 ct32), sl32⟩)
    (c32 : PySem.W.codeIn K cd32 "_law_goes_on" = true)
    (k32 : PySem.W.keepIn K (.ref f32) = true)
    (a33 : PySem.W.nsIn K mainGlobals "_law_second" = some (some (.ref f33)))
    (l33 : K.lookup f33 = some ⟨oc33, od33, .func (PySem.W.fnOf "_law_second" "_law_second" (defArgs sSnd32) (defBody sSnd32) (defScope sSnd32) .none kV33 dc33 pm33 an33 cd33 ct33), sl33⟩)
    (c33 : PySem.W.codeIn K cd33 "_law_second" = true)
    (k33 : PySem.W.keepIn K (.ref f33) = true)
    (a34 : PySem.W.nsIn K mainGlobals "law" = some (some (.ref f34)))
    (l34 : K.lookup f34 = some ⟨oc34, od34, .func (PySem.W.fnOf "law" "law" (defArgs sLaw) (defBody sLaw) (defScope sLaw) .none kV34 dc34 pm34 an34 cd34 ct34), sl34⟩)
    (c34 : PySem.W.codeIn K cd34 "law" = true)
    (k34 : PySem.W.keepIn K (.ref f34) = true)
    (o_aC : PySem.W.nsIn K mainGlobals "Outgoing" = some (some (.ref CO)))
    (o_pg : PySem.W.plainGet K CO Str.empty = true)
    (o_hd : PySem.W.hasDictIn K CO = true)
    (o_po : PySem.W.plainOver K CO = true)
    (o_sa : PySem.W.findIn K (.ref CO) "__setattr__" = some (some (.builtin "object.__setattr__")))
    (o_mk : PySem.W.makesIn K CO = true)
    (o_kc : PySem.W.keepIn K (.ref CO) = true)
    (o_n0 : PySem.W.findIn K (.ref CO) "_known_taken" = some none)
    (o_n1 : PySem.W.findIn K (.ref CO) "_things" = some none)
    (oIf : PySem.W.findIn K (.ref CO) "__init__" = some (some (.ref foI)))
    (oIi : PySem.W.isFn K (.ref foI) = true)
    (oIl : K.lookup foI = some ⟨ocoI, odoI, .func (PySem.W.fnOf "__init__" "Outgoing.__init__" (defArgs sOI) (defBody sOI) (defScope sOI) .none kVoI dcoI pmoI anoI cdoI ctoI), sloI⟩)
    (oIc : PySem.W.codeIn K cdoI "Outgoing.__init__" = true)
    (oIk : PySem.W.keepIn K (.ref foI) = true)
    (oPf : PySem.W.findIn K (.ref CO) "put" = some (some (.ref foP)))
    (oPi : PySem.W.isFn K (.ref foP) = true)
    (oPl : K.lookup foP = some ⟨ocoP, odoP, .func (PySem.W.fnOf "put" "Outgoing.put" (defArgs sOP) (defBody sOP) (defScope sOP) .none kVoP dcoP pmoP anoP cdoP ctoP), sloP⟩)
    (oPc : PySem.W.codeIn K cdoP "Outgoing.put" = true)
    (oPk : PySem.W.keepIn K (.ref foP) = true)
    (oKf : PySem.W.findIn K (.ref CO) "known" = some (some (.ref foK)))
    (oKi : PySem.W.isFn K (.ref foK) = true)
    (oKl : K.lookup foK = some ⟨ocoK, odoK, .func (PySem.W.fnOf "known" "Outgoing.known" (defArgs sOK) (defBody sOK) (defScope sOK) .none kVoK dcoK pmoK anoK cdoK ctoK), sloK⟩)
    (oKc : PySem.W.codeIn K cdoK "Outgoing.known" = true)
    (oKk : PySem.W.keepIn K (.ref foK) = true)
    (oMf : PySem.W.findIn K (.ref CO) "many_put" = some (some (.ref foM)))
    (oMi : PySem.W.isFn K (.ref foM) = true)
    (oMl : K.lookup foM = some ⟨ocoM, odoM, .func (PySem.W.fnOf "many_put" "Outgoing.many_put" (defArgs sOM) (defBody sOM) (defScope sOM) .none kVoM dcoM pmoM anoM cdoM ctoM), sloM⟩)
    (oMc : PySem.W.codeIn K cdoM "Outgoing.many_put" = true)
    (oMk : PySem.W.keepIn K (.ref foM) = true)
    (oSf : PySem.W.findIn K (.ref CO) "state" = some (some (.ref foS)))
    (oSi : PySem.W.isFn K (.ref foS) = true)
    (oSl : K.lookup foS = some ⟨ocoS, odoS, .func (PySem.W.fnOf "state" "Outgoing.state" (defArgs sOS) (defBody sOS) (defScope sOS) .none kVoS dcoS pmoS anoS cdoS ctoS), sloS⟩)
    (oSc : PySem.W.codeIn K cdoS "Outgoing.state" = true)
    (oSk : PySem.W.keepIn K (.ref foS) = true)
    (oWf : PySem.W.findIn K (.ref CO) "waiting" = some (some (.ref foW)))
    (oWi : PySem.W.isFn K (.ref foW) = true)
    (oWl : K.lookup foW = some ⟨ocoW, odoW, .func (PySem.W.fnOf "waiting" "Outgoing.waiting" (defArgs sOW) (defBody sOW) (defScope sOW) .none kVoW dcoW pmoW anoW cdoW ctoW), sloW⟩)
    (oWc : PySem.W.codeIn K cdoW "Outgoing.waiting" = true)
    (oWk : PySem.W.keepIn K (.ref foW) = true)
    (oCf : PySem.W.findIn K (.ref CO) "copy" = some (some (.ref foC)))
    (oCi : PySem.W.isFn K (.ref foC) = true)
    (oCl : K.lookup foC = some ⟨ocoC, odoC, .func (PySem.W.fnOf "copy" "Outgoing.copy" (defArgs sOC) (defBody sOC) (defScope sOC) .none kVoC dcoC pmoC anoC cdoC ctoC), sloC⟩)
    (oCc : PySem.W.codeIn K cdoC "Outgoing.copy" = true)
    (oCk : PySem.W.keepIn K (.ref foC) = true)
    (n_aC : PySem.W.nsIn K mainGlobals "Incoming" = some (some (.ref CN)))
    (n_pg : PySem.W.plainGet K CN Str.empty = true)
    (n_hd : PySem.W.hasDictIn K CN = true)
    (n_po : PySem.W.plainOver K CN = true)
    (n_sa : PySem.W.findIn K (.ref CN) "__setattr__" = some (some (.builtin "object.__setattr__")))
    (n_mk : PySem.W.makesIn K CN = true)
    (n_kc : PySem.W.keepIn K (.ref CN) = true)
    (n_n0 : PySem.W.findIn K (.ref CN) "_many_taken" = some none)
    (n_n1 : PySem.W.findIn K (.ref CN) "_kept" = some none)
    (nIf : PySem.W.findIn K (.ref CN) "__init__" = some (some (.ref fnI)))
    (nIi : PySem.W.isFn K (.ref fnI) = true)
    (nIl : K.lookup fnI = some ⟨ocnI, odnI, .func (PySem.W.fnOf "__init__" "Incoming.__init__" (defArgs sNI) (defBody sNI) (defScope sNI) .none kVnI dcnI pmnI annI cdnI ctnI), slnI⟩)
    (nIc : PySem.W.codeIn K cdnI "Incoming.__init__" = true)
    (nIk : PySem.W.keepIn K (.ref fnI) = true)
    (nTf : PySem.W.findIn K (.ref CN) "take" = some (some (.ref fnT)))
    (nTi : PySem.W.isFn K (.ref fnT) = true)
    (nTl : K.lookup fnT = some ⟨ocnT, odnT, .func (PySem.W.fnOf "take" "Incoming.take" (defArgs sNT) (defBody sNT) (defScope sNT) .none kVnT dcnT pmnT annT cdnT ctnT), slnT⟩)
    (nTc : PySem.W.codeIn K cdnT "Incoming.take" = true)
    (nTk : PySem.W.keepIn K (.ref fnT) = true)
    (nNf : PySem.W.findIn K (.ref CN) "taken" = some (some (.ref fnN)))
    (nNi : PySem.W.isFn K (.ref fnN) = true)
    (nNl : K.lookup fnN = some ⟨ocnN, odnN, .func (PySem.W.fnOf "taken" "Incoming.taken" (defArgs sNN) (defBody sNN) (defScope sNN) .none kVnN dcnN pmnN annN cdnN ctnN), slnN⟩)
    (nNc : PySem.W.codeIn K cdnN "Incoming.taken" = true)
    (nNk : PySem.W.keepIn K (.ref fnN) = true)
    (nHf : PySem.W.findIn K (.ref CN) "held" = some (some (.ref fnH)))
    (nHi : PySem.W.isFn K (.ref fnH) = true)
    (nHl : K.lookup fnH = some ⟨ocnH, odnH, .func (PySem.W.fnOf "held" "Incoming.held" (defArgs sNH) (defBody sNH) (defScope sNH) .none kVnH dcnH pmnH annH cdnH ctnH), slnH⟩)
    (nHc : PySem.W.codeIn K cdnH "Incoming.held" = true)
    (nHk : PySem.W.keepIn K (.ref fnH) = true)
    (nSf : PySem.W.findIn K (.ref CN) "state" = some (some (.ref fnS)))
    (nSi : PySem.W.isFn K (.ref fnS) = true)
    (nSl : K.lookup fnS = some ⟨ocnS, odnS, .func (PySem.W.fnOf "state" "Incoming.state" (defArgs sNS) (defBody sNS) (defScope sNS) .none kVnS dcnS pmnS annS cdnS ctnS), slnS⟩)
    (nSc : PySem.W.codeIn K cdnS "Incoming.state" = true)
    (nSk : PySem.W.keepIn K (.ref fnS) = true)
    (nCf : PySem.W.findIn K (.ref CN) "copy" = some (some (.ref fnC)))
    (nCi : PySem.W.isFn K (.ref fnC) = true)
    (nCl : K.lookup fnC = some ⟨ocnC, odnC, .func (PySem.W.fnOf "copy" "Incoming.copy" (defArgs sNC) (defBody sNC) (defScope sNC) .none kVnC dcnC pmnC annC cdnC ctnC), slnC⟩)
    (nCc : PySem.W.codeIn K cdnC "Incoming.copy" = true)
    (nCk : PySem.W.keepIn K (.ref fnC) = true)
    (cc_NUMBERS : PySem.W.nsIn K mainGlobals "NUMBERS" = some (some (.int 4294967296 tc_NUMBERS)))
    (cc_HELD_AHEAD : PySem.W.nsIn K mainGlobals "HELD_AHEAD" = some (some (.int 1000 tc_HELD_AHEAD)))
    (xN_n : PySem.W.nsIn K mainGlobals "NoNumber" = some (some (.ref Cn)))
    (xl_n : K.lookup Cn = some (PySem.excClassObj nmn qn Cn Nn bsn bmn true snn subn abn coln ddn k0n k1n k2n k3n k5n "ValueError.__new__"))
    (xi_n : PySem.W.findIn K (.ref Cn) "__init__" = some (some (.ref fn)))
    (xt_n : PySem.W.typeIn K (.ref fn) = some (.type "function"))
    (xk_n : PySem.W.keepIn K (.ref Cn) = true)
    (xb_n : PySem.W.subIn K (.ref Cn) (.type "BaseException") = some true)
    (xv_n : PySem.W.subIn K (.ref Cn) (.type "ValueError") = some true)
    (xy_n : PySem.W.typeIn K (.ref Cn) = some (.type "type"))
    (xm_n : PySem.W.mroIn K Cn (.ref Cn) = some true)
    (xs_n : PySem.W.subIn K (.ref Cn) (.ref Cn) = some true)
    (xz_n : PySem.W.isClsIn K Cn = true)
    (xsu_n : PySem.W.nsIn K mainGlobals "super" = some none)
    (xo_n : PySem.W.nsIn K cStatics "thirdparty.any" = some none)
    (xf_n : K.lookup fn = some ⟨ocn, odn, .func (PySem.W.ksFn "__init__" "NoNumber.__init__" (supAr pn) (supB q1n q2n q3n q4n q5n) supSc .none .none docn pmn ann (.ref cdan) ctn ccn), osln⟩)
    (xc_n : PySem.W.codeIn K (.ref cdan) "NoNumber.__init__" = true)
    (xd_n : K.lookup cdan = some ⟨ccln, cddn, .fields vsn, ccsn⟩)
    (xe_n : K.lookup ccn = some ⟨cln, cldn, .cell (some (.ref Cn)), csln⟩)
    (xu_n : PySem.W.ks_superIn K Cn Cn "__init__" = some (some (.builtin "ValueError.__init__")))
    (yb_n : PySem.HandSPX.refsVE bmn = true)
    (yv_n : vsn[2]? = some (.str filen tfn))
    (yf_n : ((l.prog.main.file : Str) == filen) = true)
    (yt_n : (l.prog.main.scope.names.lookup ("super" : Str)).isSome = false)
    (yl_n : (q3n.endLine == q4n.line) = true)
    (xN_s : PySem.W.nsIn K mainGlobals "NoState" = some (some (.ref Cs)))
    (xl_s : K.lookup Cs = some (PySem.excClassObj nms qs Cs Ns bss bms true sns subs abs cols dds k0s k1s k2s k3s k5s "ValueError.__new__"))
    (xi_s : PySem.W.findIn K (.ref Cs) "__init__" = some (some (.ref fs)))
    (xt_s : PySem.W.typeIn K (.ref fs) = some (.type "function"))
    (xk_s : PySem.W.keepIn K (.ref Cs) = true)
    (xb_s : PySem.W.subIn K (.ref Cs) (.type "BaseException") = some true)
    (xv_s : PySem.W.subIn K (.ref Cs) (.type "ValueError") = some true)
    (xy_s : PySem.W.typeIn K (.ref Cs) = some (.type "type"))
    (xm_s : PySem.W.mroIn K Cs (.ref Cs) = some true)
    (xs_s : PySem.W.subIn K (.ref Cs) (.ref Cs) = some true)
    (xz_s : PySem.W.isClsIn K Cs = true)
    (xsu_s : PySem.W.nsIn K mainGlobals "super" = some none)
    (xo_s : PySem.W.nsIn K cStatics "thirdparty.any" = some none)
    (xf_s : K.lookup fs = some ⟨ocs, ods, .func (PySem.W.ksFn "__init__" "NoState.__init__" (supAr ps) (supB q1s q2s q3s q4s q5s) supSc .none .none docs pms ans (.ref cdas) cts ccs), osls⟩)
    (xc_s : PySem.W.codeIn K (.ref cdas) "NoState.__init__" = true)
    (xd_s : K.lookup cdas = some ⟨ccls, cdds, .fields vss, ccss⟩)
    (xe_s : K.lookup ccs = some ⟨cls, clds, .cell (some (.ref Cs)), csls⟩)
    (xu_s : PySem.W.ks_superIn K Cs Cs "__init__" = some (some (.builtin "ValueError.__init__")))
    (yb_s : PySem.HandSPX.refsVE bms = true)
    (yv_s : vss[2]? = some (.str files tfs))
    (yf_s : ((l.prog.main.file : Str) == files) = true)
    (yt_s : (l.prog.main.scope.names.lookup ("super" : Str)).isSome = false)
    (yl_s : (q3s.endLine == q4s.line) = true)
    (zn_max : PySem.W.nsIn K mainGlobals "max" = some none)
    (zn_sorted : PySem.W.nsIn K mainGlobals "sorted" = some none)
    (zn_enumerate : PySem.W.nsIn K mainGlobals "enumerate" = some none)
    (zn_dict : PySem.W.nsIn K mainGlobals "dict" = some none)
    (z_len : PySem.W.nsIn K mainGlobals "len" = some none)
    (z_int : PySem.W.nsIn K mainGlobals "int" = some none)
    (z_list : PySem.W.nsIn K mainGlobals "list" = some none)
    (z_range : PySem.W.nsIn K mainGlobals "range" = some none)
    (z_min : PySem.W.nsIn K mainGlobals "min" = some none)
    (z_tuple : PySem.W.nsIn K mainGlobals "tuple" = some none)
    (z_isinstance : PySem.W.nsIn K mainGlobals "isinstance" = some none)
    (z_bool : PySem.W.nsIn K mainGlobals "bool" = some none)
    (z_str : PySem.W.nsIn K mainGlobals "str" = some none)
    (z_repr : PySem.W.nsIn K mainGlobals "repr" = some none)
    (z_sum : PySem.W.nsIn K mainGlobals "sum" = some none)
    (z_abs : PySem.W.nsIn K mainGlobals "abs" = some none)
    (z_ord : PySem.W.nsIn K mainGlobals "ord" = some none)
    (z_reversed : PySem.W.nsIn K mainGlobals "reversed" = some none)
    (z_all : PySem.W.nsIn K mainGlobals "all" = some none)
    (z_zip : PySem.W.nsIn K mainGlobals "zip" = some none)
    : ∃ fd : FuncData, (∀ (s : Shared) (v : Value), BindsTo s fd ⟨[v], []⟩ [("script", v)]) ∧ ∀ base : Heap, K.In base → base.Ns mainGlobals mg → FnOk l.prog w K mg base CX0 12 fa fd ["script"] (spLaw K) := by
  have e := hfa.symm.trans (PySem.W.mg_of X G a34)
  cases e
  have B : Bts mg := ⟨PySem.W.mg_none_of X G z_len, PySem.W.mg_none_of X G z_int, PySem.W.mg_none_of X G z_list, PySem.W.mg_none_of X G z_range, PySem.W.mg_none_of X G z_min, PySem.W.mg_none_of X G z_tuple, PySem.W.mg_none_of X G z_isinstance, PySem.W.mg_none_of X G z_bool, PySem.W.mg_none_of X G z_str, PySem.W.mg_none_of X G z_repr, PySem.W.mg_none_of X G z_sum, PySem.W.mg_none_of X G z_abs, PySem.W.mg_none_of X G z_ord, PySem.W.mg_none_of X G z_reversed, PySem.W.mg_none_of X G z_all, PySem.W.mg_none_of X G z_zip⟩
  have SUn : SupC l.prog K mg Cn fn "NoNumber.__init__" := ⟨⟨nmn, qn, Nn, bsn, bmn, snn, subn, abn, coln, ddn, k0n, k1n, k2n, k3n, k5n, xl_n, yb_n⟩, xi_n, xt_n, xk_n, xb_n, xv_n, xy_n, xm_n, PySem.W.mg_none_of X G xsu_n, xo_n, xu_n, yt_n, ⟨ocn, odn, docn, pmn, ann, cdan, ccn, ctn, osln, pn, q1n, q2n, q3n, q4n, q5n, ccln, cln, cddn, cldn, ccsn, csln, vsn, filen, tfn, xf_n, xc_n, xd_n, yv_n, yf_n, xe_n, yl_n⟩⟩
  have SUs : SupC l.prog K mg Cs fs "NoState.__init__" := ⟨⟨nms, qs, Ns, bss, bms, sns, subs, abs, cols, dds, k0s, k1s, k2s, k3s, k5s, xl_s, yb_s⟩, xi_s, xt_s, xk_s, xb_s, xv_s, xy_s, xm_s, PySem.W.mg_none_of X G xsu_s, xo_s, xu_s, yt_s, ⟨ocs, ods, docs, pms, ans, cdas, ccs, cts, osls, ps, q1s, q2s, q3s, q4s, q5s, ccls, cls, cdds, clds, ccss, csls, vss, files, tfs, xf_s, xc_s, xd_s, yv_s, yf_s, xe_s, yl_s⟩⟩
  have F0 := fun_mk (st := sPlain) l0 c0 k0
  have D_is_plain_int : Df K mg "is_plain_int" sPlain ["thing"] f0 _ := ⟨F0, PySem.W.mg_of X G a0, F0.binds (ps := ["thing"]) fun _ _ _ _ _ _ us hl => match us, hl with | [_], _ => rfl⟩
  have F1 := fun_mk (st := sNum) l1 c1 k1
  have D_is_number_below : Df K mg "is_number_below" sNum ["limit", "thing"] f1 _ := ⟨F1, PySem.W.mg_of X G a1, F1.binds (ps := ["limit", "thing"]) fun _ _ _ _ _ _ us hl => match us, hl with | [_, _], _ => rfl⟩
  have F2 := fun_mk (st := sIsT) l2 c2 k2
  have D_is_thing : Df K mg "is_thing" sIsT ["thing"] f2 _ := ⟨F2, PySem.W.mg_of X G a2, F2.binds (ps := ["thing"]) fun _ _ _ _ _ _ us hl => match us, hl with | [_], _ => rfl⟩
  have F3 := fun_mk (st := sIsP) l3 c3 k3
  have D_is_pair : Df K mg "is_pair" sIsP ["thing"] f3 _ := ⟨F3, PySem.W.mg_of X G a3, F3.binds (ps := ["thing"]) fun _ _ _ _ _ _ us hl => match us, hl with | [_], _ => rfl⟩
  have F4 := fun_mk (st := sIsO) l4 c4 k4
  have D_is_outgoing_state : Df K mg "is_outgoing_state" sIsO ["thing"] f4 _ := ⟨F4, PySem.W.mg_of X G a4, F4.binds (ps := ["thing"]) fun _ _ _ _ _ _ us hl => match us, hl with | [_], _ => rfl⟩
  have F5 := fun_mk (st := sIsI) l5 c5 k5
  have D_is_incoming_state : Df K mg "is_incoming_state" sIsI ["thing"] f5 _ := ⟨F5, PySem.W.mg_of X G a5, F5.binds (ps := ["thing"]) fun _ _ _ _ _ _ us hl => match us, hl with | [_], _ => rfl⟩
  have F6 := fun_mk (st := sOof) l6 c6 k6
  have D_outgoing_of : Df K mg "outgoing_of" sOof ["state"] f6 _ := ⟨F6, PySem.W.mg_of X G a6, F6.binds (ps := ["state"]) fun _ _ _ _ _ _ us hl => match us, hl with | [_], _ => rfl⟩
  have F7 := fun_mk (st := sIof) l7 c7 k7
  have D_incoming_of : Df K mg "incoming_of" sIof ["state"] f7 _ := ⟨F7, PySem.W.mg_of X G a7, F7.binds (ps := ["state"]) fun _ _ _ _ _ _ us hl => match us, hl with | [_], _ => rfl⟩
  have F8 := fun_mk (st := sHand) l8 c8 k8
  have D__law_hand : Df K mg "_law_hand" sHand ["script"] f8 _ := ⟨F8, PySem.W.mg_of X G a8, F8.binds (ps := ["script"]) fun _ _ _ _ _ _ us hl => match us, hl with | [_], _ => rfl⟩
  have F9 := fun_mk (st := sTake) l9 c9 k9
  have D__law_take : Df K mg "_law_take" sTake ["hand", "many"] f9 _ := ⟨F9, PySem.W.mg_of X G a9, F9.binds (ps := ["hand", "many"]) fun _ _ _ _ _ _ us hl => match us, hl with | [_, _], _ => rfl⟩
  have F10 := fun_mk (st := sPick) l10 c10 k10
  have D__law_pick : Df K mg "_law_pick" sPick ["hand", "things"] f10 _ := ⟨F10, PySem.W.mg_of X G a10, F10.binds (ps := ["hand", "things"]) fun _ _ _ _ _ _ us hl => match us, hl with | [_, _], _ => rfl⟩
  have F11 := fun_mk (st := sLInt) l11 c11 k11
  have D__law_is_integer : Df K mg "_law_is_integer" sLInt ["thing"] f11 _ := ⟨F11, PySem.W.mg_of X G a11, F11.binds (ps := ["thing"]) fun _ _ _ _ _ _ us hl => match us, hl with | [_], _ => rfl⟩
  have F12 := fun_mk (st := sSameG) l12 c12 k12
  have D__law_same : Df K mg "_law_same" sSameG ["actual", "due"] f12 _ := ⟨F12, PySem.W.mg_of X G a12, F12.binds (ps := ["actual", "due"]) fun _ _ _ _ _ _ us hl => match us, hl with | [_, _], _ => rfl⟩
  have F13 := fun_mk (st := sItem) l13 c13 k13
  have D__law_item : Df K mg "_law_item" sItem ["hand", "deep"] f13 _ := ⟨F13, PySem.W.mg_of X G a13, F13.binds (ps := ["hand", "deep"]) fun _ _ _ _ _ _ us hl => match us, hl with | [_, _], _ => rfl⟩
  have F14 := fun_mk (st := sLTh) l14 c14 k14
  have D__law_thing : Df K mg "_law_thing" sLTh ["hand"] f14 _ := ⟨F14, PySem.W.mg_of X G a14, F14.binds (ps := ["hand"]) fun _ _ _ _ _ _ us hl => match us, hl with | [_], _ => rfl⟩
  have F15 := fun_mk (st := sHeard) l15 c15 k15
  have D__law_heard : Df K mg "_law_heard" sHeard ["mind", "number", "thing"] f15 _ := ⟨F15, PySem.W.mg_of X G a15, F15.binds (ps := ["mind", "number", "thing"]) fun _ _ _ _ _ _ us hl => match us, hl with | [_, _, _], _ => rfl⟩
  have F16 := fun_mk (st := sER) l16 c16 k16
  have D__law_ends_right : Df K mg "_law_ends_right" sER ["out", "end", "things", "gone", "mind"] f16 _ := ⟨F16, PySem.W.mg_of X G a16, F16.binds (ps := ["out", "end", "things", "gone", "mind"]) fun _ _ _ _ _ _ us hl => match us, hl with | [_, _, _, _, _], _ => rfl⟩
  have F17 := fun_mk (st := sDeed) l17 c17 k17
  have D__law_deed : Df K mg "_law_deed" sDeed ["hand", "out", "end", "things", "gone", "mind", "all_taken"] f17 _ := ⟨F17, PySem.W.mg_of X G a17, F17.binds (ps := ["hand", "out", "end", "things", "gone", "mind", "all_taken"]) fun _ _ _ _ _ _ us hl => match us, hl with | [_, _, _, _, _, _, _], _ => rfl⟩
  have F18 := fun_mk (st := sDr) l18 c18 k18
  have D__law_drained : Df K mg "_law_drained" sDr ["out", "end", "many"] f18 _ := ⟨F18, PySem.W.mg_of X G a18, F18.binds (ps := ["out", "end", "many"]) fun _ _ _ _ _ _ us hl => match us, hl with | [_, _, _], _ => rfl⟩
  have F19 := fun_mk (st := sFst32) l19 c19 k19
  have D__law_first : Df K mg "_law_first" sFst32 ["script"] f19 _ := ⟨F19, PySem.W.mg_of X G a19, F19.binds (ps := ["script"]) fun _ _ _ _ _ _ us hl => match us, hl with | [_], _ => rfl⟩
  have F20 := fun_mk (st := sLWin) l20 c20 k20
  have D__law_is_within : Df K mg "_law_is_within" sLWin ["thing", "least", "most"] f20 _ := ⟨F20, PySem.W.mg_of X G a20, F20.binds (ps := ["thing", "least", "most"]) fun _ _ _ _ _ _ us hl => match us, hl with | [_, _, _], _ => rfl⟩
  have F21 := fun_mk (st := sOddL) l21 c21 k21
  have D__law_odd : Df K mg "_law_odd" sOddL ["hand"] f21 _ := ⟨F21, PySem.W.mg_of X G a21, F21.binds (ps := ["hand"]) fun _ _ _ _ _ _ us hl => match us, hl with | [_], _ => rfl⟩
  have F22 := fun_mk (st := sLIT) l22 c22 k22
  have D__law_is_thing : Df K mg "_law_is_thing" sLIT ["thing"] f22 _ := ⟨F22, PySem.W.mg_of X G a22, F22.binds (ps := ["thing"]) fun _ _ _ _ _ _ us hl => match us, hl with | [_], _ => rfl⟩
  have F23 := fun_mk (st := sST) l23 c23 k23
  have D__law_some_thing : Df K mg "_law_some_thing" sST ["hand"] f23 _ := ⟨F23, PySem.W.mg_of X G a23, F23.binds (ps := ["hand"]) fun _ _ _ _ _ _ us hl => match us, hl with | [_], _ => rfl⟩
  have F24 := fun_mk (st := sOSt) l24 c24 k24
  have D__law_out_state : Df K mg "_law_out_state" sOSt ["hand"] f24 _ := ⟨F24, PySem.W.mg_of X G a24, F24.binds (ps := ["hand"]) fun _ _ _ _ _ _ us hl => match us, hl with | [_], _ => rfl⟩
  have F25 := fun_mk (st := sISt) l25 c25 k25
  have D__law_in_state : Df K mg "_law_in_state" sISt ["hand"] f25 _ := ⟨F25, PySem.W.mg_of X G a25, F25.binds (ps := ["hand"]) fun _ _ _ _ _ _ us hl => match us, hl with | [_], _ => rfl⟩
  have F26 := fun_mk (st := sSpo) l26 c26 k26
  have D__law_spoilt : Df K mg "_law_spoilt" sSpo ["hand", "state"] f26 _ := ⟨F26, PySem.W.mg_of X G a26, F26.binds (ps := ["hand", "state"]) fun _ _ _ _ _ _ us hl => match us, hl with | [_, _], _ => rfl⟩
  have F27 := fun_mk (st := sLIO) l27 c27 k27
  have D__law_is_out : Df K mg "_law_is_out" sLIO ["thing"] f27 _ := ⟨F27, PySem.W.mg_of X G a27, F27.binds (ps := ["thing"]) fun _ _ _ _ _ _ us hl => match us, hl with | [_], _ => rfl⟩
  have F28 := fun_mk (st := sLII) l28 c28 k28
  have D__law_is_in : Df K mg "_law_is_in" sLII ["thing"] f28 _ := ⟨F28, PySem.W.mg_of X G a28, F28.binds (ps := ["thing"]) fun _ _ _ _ _ _ us hl => match us, hl with | [_], _ => rfl⟩
  have F29 := fun_mk (st := sOT) l29 c29 k29
  have D__law_out_told : Df K mg "_law_out_told" sOT ["thing"] f29 _ := ⟨F29, PySem.W.mg_of X G a29, F29.binds (ps := ["thing"]) fun _ _ _ _ _ _ us hl => match us, hl with | [_], _ => rfl⟩
  have F30 := fun_mk (st := sIT) l30 c30 k30
  have D__law_in_told : Df K mg "_law_in_told" sIT ["thing"] f30 _ := ⟨F30, PySem.W.mg_of X G a30, F30.binds (ps := ["thing"]) fun _ _ _ _ _ _ us hl => match us, hl with | [_], _ => rfl⟩
  have F31 := fun_mk (st := sJd) l31 c31 k31
  have D__law_judged : Df K mg "_law_judged" sJd ["thing"] f31 _ := ⟨F31, PySem.W.mg_of X G a31, F31.binds (ps := ["thing"]) fun _ _ _ _ _ _ us hl => match us, hl with | [_], _ => rfl⟩
  have F32 := fun_mk (st := sGo) l32 c32 k32
  have D__law_goes_on : Df K mg "_law_goes_on" sGo ["hand", "state", "other"] f32 _ := ⟨F32, PySem.W.mg_of X G a32, F32.binds (ps := ["hand", "state", "other"]) fun _ _ _ _ _ _ us hl => match us, hl with | [_, _, _], _ => rfl⟩
  have F33 := fun_mk (st := sSnd32) l33 c33 k33
  have D__law_second : Df K mg "_law_second" sSnd32 ["script"] f33 _ := ⟨F33, PySem.W.mg_of X G a33, F33.binds (ps := ["script"]) fun _ _ _ _ _ _ us hl => match us, hl with | [_], _ => rfl⟩
  have A : PD32 K mg := ⟨_, _, D_is_plain_int, _, _, D_is_number_below, _, _, D_is_thing, _, _, D_is_pair, _, _, D_is_outgoing_state, _, _, D_is_incoming_state, _, _, D_outgoing_of, _, _, D_incoming_of⟩
  have L : LD32 K mg := ⟨_, _, D__law_hand, _, _, D__law_take, _, _, D__law_pick, _, _, D__law_is_integer, _, _, D__law_same, _, _, D__law_item, _, _, D__law_thing, _, _, D__law_heard, _, _, D__law_ends_right, _, _, D__law_deed, _, _, D__law_drained, _, _, D__law_first, _, _, D__law_is_within, _, _, D__law_odd, _, _, D__law_is_thing, _, _, D__law_some_thing, _, _, D__law_out_state, _, _, D__law_in_state, _, _, D__law_spoilt, _, _, D__law_is_out, _, _, D__law_is_in, _, _, D__law_out_told, _, _, D__law_in_told, _, _, D__law_judged, _, _, D__law_goes_on, _, _, D__law_second⟩
  have TO : OTxt K mg CO := ⟨⟨o_pg, o_hd, o_po, o_sa⟩, o_n0, o_n1, PySem.W.mg_of X G o_aC⟩
  have FoI := fun_mk (st := sOI) oIl oIc oIk
  have boI := FoI.binds (ps := ["self"]) fun _ _ _ _ _ _ us hl => match us, hl with | [_], _ => rfl
  have FoP := fun_mk (st := sOP) oPl oPc oPk
  have boP := FoP.binds (ps := ["self", "thing"]) fun _ _ _ _ _ _ us hl => match us, hl with | [_, _], _ => rfl
  have FoK := fun_mk (st := sOK) oKl oKc oKk
  have boK := FoK.binds (ps := ["self", "number"]) fun _ _ _ _ _ _ us hl => match us, hl with | [_, _], _ => rfl
  have FoM := fun_mk (st := sOM) oMl oMc oMk
  have boM := FoM.binds (ps := ["self"]) fun _ _ _ _ _ _ us hl => match us, hl with | [_], _ => rfl
  have FoS := fun_mk (st := sOS) oSl oSc oSk
  have boS := FoS.binds (ps := ["self"]) fun _ _ _ _ _ _ us hl => match us, hl with | [_], _ => rfl
  have FoW := fun_mk (st := sOW) oWl oWc oWk
  have boW := FoW.binds (ps := ["self"]) fun _ _ _ _ _ _ us hl => match us, hl with | [_], _ => rfl
  have FoC := fun_mk (st := sOC) oCl oCc oCk
  have boC := FoC.binds (ps := ["self"]) fun _ _ _ _ _ _ us hl => match us, hl with | [_], _ => rfl
  have MO : ODefs K CO := ⟨_, _, FoI, boI, ⟨o_mk, oIf, oIi, o_kc⟩, _, _, FoP, boP, ⟨oPf, oPi, oPk⟩, _, _, FoK, boK, ⟨oKf, oKi, oKk⟩, _, _, FoM, boM, ⟨oMf, oMi, oMk⟩, _, _, FoS, boS, ⟨oSf, oSi, oSk⟩⟩
  have MM : OMore K CO := ⟨_, _, FoW, boW, ⟨oWf, oWi, oWk⟩, _, _, FoC, boC, ⟨oCf, oCi, oCk⟩⟩
  have TN : NTxt K mg CN := ⟨⟨n_pg, n_hd, n_po, n_sa⟩, n_n0, n_n1, PySem.W.mg_of X G n_aC⟩
  have FnI := fun_mk (st := sNI) nIl nIc nIk
  have bnI := FnI.binds (ps := ["self"]) fun _ _ _ _ _ _ us hl => match us, hl with | [_], _ => rfl
  have FnT := fun_mk (st := sNT) nTl nTc nTk
  have bnT := FnT.binds (ps := ["self", "number", "thing"]) fun _ _ _ _ _ _ us hl => match us, hl with | [_, _, _], _ => rfl
  have FnN := fun_mk (st := sNN) nNl nNc nNk
  have bnN := FnN.binds (ps := ["self"]) fun _ _ _ _ _ _ us hl => match us, hl with | [_], _ => rfl
  have FnH := fun_mk (st := sNH) nHl nHc nHk
  have bnH := FnH.binds (ps := ["self"]) fun _ _ _ _ _ _ us hl => match us, hl with | [_], _ => rfl
  have FnS := fun_mk (st := sNS) nSl nSc nSk
  have bnS := FnS.binds (ps := ["self"]) fun _ _ _ _ _ _ us hl => match us, hl with | [_], _ => rfl
  have FnC := fun_mk (st := sNC) nCl nCc nCk
  have bnC := FnC.binds (ps := ["self"]) fun _ _ _ _ _ _ us hl => match us, hl with | [_], _ => rfl
  have MN : NDefs K CN := ⟨_, _, FnI, bnI, ⟨n_mk, nIf, nIi, n_kc⟩, _, _, FnT, bnT, ⟨nTf, nTi, nTk⟩, _, _, FnN, bnN, ⟨nNf, nNi, nNk⟩, _, _, FnH, bnH, ⟨nHf, nHi, nHk⟩, _, _, FnS, bnS, ⟨nSf, nSi, nSk⟩⟩
  have NM : NMore K CN := ⟨_, _, FnC, bnC, ⟨nCf, nCi, nCk⟩⟩
  have LC : LCst mg := ⟨⟨_, PySem.W.mg_of X G cc_NUMBERS⟩, ⟨_, PySem.W.mg_of X G cc_HELD_AHEAD⟩, PySem.W.mg_none_of X G zn_max, PySem.W.mg_none_of X G zn_sorted⟩
  have SS : StD l.prog K mg CO CN Cs := ⟨TO, TN, MO, MN, B, LC, PySem.W.mg_none_of X G zn_dict, _, SUs, PySem.W.mg_of X G xN_s, exm_ot xb_s xz_s xy_s xs_s, _, _, D_outgoing_of, _, _, D_incoming_of, _, _, D_is_outgoing_state, _, _, D_is_incoming_state, _, _, D_is_pair, _, _, D_is_number_below, _, _, D_is_plain_int, _, _, D_is_thing⟩
  exact ⟨PySem.W.fnOf "law" "law" (defArgs sLaw) (defBody sLaw) (defScope sLaw) .none kV34 dc34 pm34 an34 cd34 ct34, fun s v => .of_eq rfl, fun base _ _ =>
    ok_law (fun_mk (st := sLaw) l34 c34 k34) SS A L (PySem.W.mg_none_of X G zn_enumerate) MM NM SUn (PySem.W.mg_of X G xN_n)⟩
theorem walk {l : PySem.W.OpenLaw} {q : Program} {loose : List Str} {XP : (Str → Option Value) → Heap → Prop} {YP : World → Heap → Prop} {d : DefRec} {K : Params → PySem.W.Frag} (hn : l.most = some 63) (hdf : d.params.defaults = [])
    (hY : ∀ (w : World) (h : Heap), YP w h → (K w.params).In h)
    (F : ∀ (w : World) (mg : Str → Option Value) (fa : Addr) (h : Heap), (K w.params).In h → h.Ns mainGlobals mg → mg d.name = some (.ref fa) →
      ∃ fd : FuncData, (∀ (s : Shared) (u : Value), BindsTo s fd ⟨[u], []⟩ [("script", u)]) ∧ ∀ base : Heap, (K w.params).In base → base.Ns mainGlobals mg → FnOk l.prog w (K w.params) mg base CX0 12 fa fd ["script"] (spLaw (K w.params))) :
    PySem.W.WalkO q loose XP YP l.row.toRowW d [] (fun f vs => PySem.call f vs) :=
  L2.walk_of (n := 63) (k := 12) (x := "script") (CX := fun _ => CX0) (sp := fun w => spLaw (K w.params)) hn (by decide) hdf ⟨rfl, by decide, by decide⟩ hY F (fun _ _ a ns hl _ hS => ⟨a, ns, rfl, hS, hl, fun _ => rfl⟩) fun _ _ _ _ _ z => z
end Q
open PySem PySem.W PyProof.Rows in
set_option maxRecDepth 100000 in
set_option maxHeartbeats 0 in
theorem PySem.Challenge.cw_sameround_k32_whole_links_and_their_stat_holds : PySem.Challenge.rw_sameround_k32_whole_links_and_their_stat.Holds := by
  w_on; o_law; k_head; (case hw => w_witness2)
  k_fill
  refine Q.walk (l := PySem.Challenge.rw_sameround_k32_whole_links_and_their_stat) rfl rfl (fun w h Y => PySem.W.kIn_of Y) ?F
  case F =>
    intro w mg fa h KX G hmg
    refine' Q.all_mk KX G hmg ?a0 ?l0 ?c0 ?k0 ?a1 ?l1 ?c1 ?k1 ?a2 ?l2 ?c2 ?k2 ?a3 ?l3 ?c3 ?k3 ?a4 ?l4 ?c4 ?k4 ?a5 ?l5 ?c5 ?k5 ?a6 ?l6 ?c6 ?k6 ?a7 ?l7 ?c7 ?k7 ?a8 ?l8 ?c8 ?k8 ?a9 ?l9 ?c9 ?k9 ?a10 ?l10 ?c10 ?k10 ?a11 ?l11 ?c11 ?k11 ?a12 ?l12 ?c12 ?k12 ?a13 ?l13 ?c13 ?k13 ?a14 ?l14 ?c14 ?k14 ?a15 ?l15 ?c15 ?k15 ?a16 ?l16 ?c16 ?k16 ?a17 ?l17 ?c17 ?k17 ?a18 ?l18 ?c18 ?k18 ?a19 ?l19 ?c19 ?k19 ?a20 ?l20 ?c20 ?k20 ?a21 ?l21 ?c21 ?k21 ?a22 ?l22 ?c22 ?k22 ?a23 ?l23 ?c23 ?k23 ?a24 ?l24 ?c24 ?k24 ?a25 ?l25 ?c25 ?k25 ?a26 ?l26 ?c26 ?k26 ?a27 ?l27 ?c27 ?k27 ?a28 ?l28 ?c28 ?k28 ?a29 ?l29 ?c29 ?k29 ?a30 ?l30 ?c30 ?k30 ?a31 ?l31 ?c31 ?k31 ?a32 ?l32 ?c32 ?k32 ?a33 ?l33 ?c33 ?k33 ?a34 ?l34 ?c34 ?k34 ?o_aC ?o_pg ?o_hd ?o_po ?o_sa ?o_mk ?o_kc ?o_n0 ?o_n1 ?oIf ?oIi ?oIl ?oIc ?oIk ?oPf ?oPi ?oPl ?oPc ?oPk ?oKf ?oKi ?oKl ?oKc ?oKk ?oMf ?oMi ?oMl ?oMc ?oMk ?oSf ?oSi ?oSl ?oSc ?oSk ?oWf ?oWi ?oWl ?oWc ?oWk ?oCf ?oCi ?oCl ?oCc ?oCk ?n_aC ?n_pg ?n_hd ?n_po ?n_sa ?n_mk ?n_kc ?n_n0 ?n_n1 ?nIf ?nIi ?nIl ?nIc ?nIk ?nTf ?nTi ?nTl ?nTc ?nTk ?nNf ?nNi ?nNl ?nNc ?nNk ?nHf ?nHi ?nHl ?nHc ?nHk ?nSf ?nSi ?nSl ?nSc ?nSk ?nCf ?nCi ?nCl ?nCc ?nCk ?cc_NUMBERS ?cc_HELD_AHEAD ?xN_n ?xl_n ?xi_n ?xt_n ?xk_n ?xb_n ?xv_n ?xy_n ?xm_n ?xs_n ?xz_n ?xsu_n ?xo_n ?xf_n ?xc_n ?xd_n ?xe_n ?xu_n ?yb_n ?yv_n ?yf_n ?yt_n ?yl_n ?xN_s ?xl_s ?xi_s ?xt_s ?xk_s ?xb_s ?xv_s ?xy_s ?xm_s ?xs_s ?xz_s ?xsu_s ?xo_s ?xf_s ?xc_s ?xd_s ?xe_s ?xu_s ?yb_s ?yv_s ?yf_s ?yt_s ?yl_s ?zn_max ?zn_sorted ?zn_enumerate ?zn_dict ?z_len ?z_int ?z_list ?z_range ?z_min ?z_tuple ?z_isinstance ?z_bool ?z_str ?z_repr ?z_sum ?z_abs ?z_ord ?z_reversed ?z_all ?z_zip
    (case a0 => k_is)
    (case l0 => k_is)
    (case c0 => k_is)
    (case k0 => k_is)
    (case a1 => k_is)
    (case l1 => k_is)
    (case c1 => k_is)
    (case k1 => k_is)
    (case a2 => k_is)
    (case l2 => k_is)
    (case c2 => k_is)
    (case k2 => k_is)
    (case a3 => k_is)
    (case l3 => k_is)
    (case c3 => k_is)
    (case k3 => k_is)
    (case a4 => k_is)
    (case l4 => k_is)
    (case c4 => k_is)
    (case k4 => k_is)
    (case a5 => k_is)
    (case l5 => k_is)
    (case c5 => k_is)
    (case k5 => k_is)
    (case a6 => k_is)
    (case l6 => k_is)
    (case c6 => k_is)
    (case k6 => k_is)
    (case a7 => k_is)
    (case l7 => k_is)
    (case c7 => k_is)
    (case k7 => k_is)
    (case a8 => k_is)
    (case l8 => k_is)
    (case c8 => k_is)
    (case k8 => k_is)
    (case a9 => k_is)
    (case l9 => k_is)
    (case c9 => k_is)
    (case k9 => k_is)
    (case a10 => k_is)
    (case l10 => k_is)
    (case c10 => k_is)
    (case k10 => k_is)
    (case a11 => k_is)
    (case l11 => k_is)
    (case c11 => k_is)
    (case k11 => k_is)
    (case a12 => k_is)
    (case l12 => k_is)
    (case c12 => k_is)
    (case k12 => k_is)
    (case a13 => k_is)
    (case l13 => k_is)
    (case c13 => k_is)
    (case k13 => k_is)
    (case a14 => k_is)
    (case l14 => k_is)
    (case c14 => k_is)
    (case k14 => k_is)
    (case a15 => k_is)
    (case l15 => k_is)
    (case c15 => k_is)
    (case k15 => k_is)
    (case a16 => k_is)
    (case l16 => k_is)
    (case c16 => k_is)
    (case k16 => k_is)
    (case a17 => k_is)
    (case l17 => k_is)
    (case c17 => k_is)
    (case k17 => k_is)
    (case a18 => k_is)
    (case l18 => k_is)
    (case c18 => k_is)
    (case k18 => k_is)
    (case a19 => k_is)
    (case l19 => k_is)
    (case c19 => k_is)
    (case k19 => k_is)
    (case a20 => k_is)
    (case l20 => k_is)
    (case c20 => k_is)
    (case k20 => k_is)
    (case a21 => k_is)
    (case l21 => k_is)
    (case c21 => k_is)
    (case k21 => k_is)
    (case a22 => k_is)
    (case l22 => k_is)
    (case c22 => k_is)
    (case k22 => k_is)
    (case a23 => k_is)
    (case l23 => k_is)
    (case c23 => k_is)
    (case k23 => k_is)
    (case a24 => k_is)
    (case l24 => k_is)
    (case c24 => k_is)
    (case k24 => k_is)
    (case a25 => k_is)
    (case l25 => k_is)
    (case c25 => k_is)
    (case k25 => k_is)
    (case a26 => k_is)
    (case l26 => k_is)
    (case c26 => k_is)
    (case k26 => k_is)
    (case a27 => k_is)
    (case l27 => k_is)
    (case c27 => k_is)
    (case k27 => k_is)
    (case a28 => k_is)
    (case l28 => k_is)
    (case c28 => k_is)
    (case k28 => k_is)
    (case a29 => k_is)
    (case l29 => k_is)
    (case c29 => k_is)
    (case k29 => k_is)
    (case a30 => k_is)
    (case l30 => k_is)
    (case c30 => k_is)
    (case k30 => k_is)
    (case a31 => k_is)
    (case l31 => k_is)
    (case c31 => k_is)
    (case k31 => k_is)
    (case a32 => k_is)
    (case l32 => k_is)
    (case c32 => k_is)
    (case k32 => k_is)
    (case a33 => k_is)
    (case l33 => k_is)
    (case c33 => k_is)
    (case k33 => k_is)
    (case a34 => k_is)
    (case l34 => k_is)
    (case c34 => k_is)
    (case k34 => k_is)
    (case o_aC => k_is)
    (case o_pg => k_is)
    (case o_hd => k_is)
    (case o_po => k_is)
    (case o_sa => k_is)
    (case o_mk => k_is)
    (case o_kc => k_is)
    (case o_n0 => k_is)
    (case o_n1 => k_is)
    (case oIf => k_is)
    (case oIi => k_is)
    (case oIl => k_is)
    (case oIc => k_is)
    (case oIk => k_is)
    (case oPf => k_is)
    (case oPi => k_is)
    (case oPl => k_is)
    (case oPc => k_is)
    (case oPk => k_is)
    (case oKf => k_is)
    (case oKi => k_is)
    (case oKl => k_is)
    (case oKc => k_is)
    (case oKk => k_is)
    (case oMf => k_is)
    (case oMi => k_is)
    (case oMl => k_is)
    (case oMc => k_is)
    (case oMk => k_is)
    (case oSf => k_is)
    (case oSi => k_is)
    (case oSl => k_is)
    (case oSc => k_is)
    (case oSk => k_is)
    (case oWf => k_is)
    (case oWi => k_is)
    (case oWl => k_is)
    (case oWc => k_is)
    (case oWk => k_is)
    (case oCf => k_is)
    (case oCi => k_is)
    (case oCl => k_is)
    (case oCc => k_is)
    (case oCk => k_is)
    (case n_aC => k_is)
    (case n_pg => k_is)
    (case n_hd => k_is)
    (case n_po => k_is)
    (case n_sa => k_is)
    (case n_mk => k_is)
    (case n_kc => k_is)
    (case n_n0 => k_is)
    (case n_n1 => k_is)
    (case nIf => k_is)
    (case nIi => k_is)
    (case nIl => k_is)
    (case nIc => k_is)
    (case nIk => k_is)
    (case nTf => k_is)
    (case nTi => k_is)
    (case nTl => k_is)
    (case nTc => k_is)
    (case nTk => k_is)
    (case nNf => k_is)
    (case nNi => k_is)
    (case nNl => k_is)
    (case nNc => k_is)
    (case nNk => k_is)
    (case nHf => k_is)
    (case nHi => k_is)
    (case nHl => k_is)
    (case nHc => k_is)
    (case nHk => k_is)
    (case nSf => k_is)
    (case nSi => k_is)
    (case nSl => k_is)
    (case nSc => k_is)
    (case nSk => k_is)
    (case nCf => k_is)
    (case nCi => k_is)
    (case nCl => k_is)
    (case nCc => k_is)
    (case nCk => k_is)
    (case cc_NUMBERS => k_is)
    (case cc_HELD_AHEAD => k_is)
    (case xN_n => k_is)
    (case xl_n => k_is)
    (case xi_n => k_is)
    (case xt_n => k_is)
    (case xk_n => k_is)
    (case xb_n => k_is)
    (case xv_n => k_is)
    (case xy_n => k_is)
    (case xm_n => k_is)
    (case xs_n => k_is)
    (case xz_n => k_is)
    (case xsu_n => k_is)
    (case xo_n => k_is)
    (case xf_n => k_is)
    (case xc_n => k_is)
    (case xd_n => k_is)
    (case xe_n => k_is)
    (case xu_n => ks_is)
    (case yb_n => decide +kernel)
    (case yv_n => rfl)
    (case yf_n => decide +kernel)
    (case yt_n => decide +kernel)
    (case yl_n => decide +kernel)
    (case xN_s => k_is)
    (case xl_s => k_is)
    (case xi_s => k_is)
    (case xt_s => k_is)
    (case xk_s => k_is)
    (case xb_s => k_is)
    (case xv_s => k_is)
    (case xy_s => k_is)
    (case xm_s => k_is)
    (case xs_s => k_is)
    (case xz_s => k_is)
    (case xsu_s => k_is)
    (case xo_s => k_is)
    (case xf_s => k_is)
    (case xc_s => k_is)
    (case xd_s => k_is)
    (case xe_s => k_is)
    (case xu_s => ks_is)
    (case yb_s => decide +kernel)
    (case yv_s => rfl)
    (case yf_s => decide +kernel)
    (case yt_s => decide +kernel)
    (case yl_s => decide +kernel)
    (case zn_max => k_is)
    (case zn_sorted => k_is)
    (case zn_enumerate => k_is)
    (case zn_dict => k_is)
    (case z_len => k_is)
    (case z_int => k_is)
    (case z_list => k_is)
    (case z_range => k_is)
    (case z_min => k_is)
    (case z_tuple => k_is)
    (case z_isinstance => k_is)
    (case z_bool => k_is)
    (case z_str => k_is)
    (case z_repr => k_is)
    (case z_sum => k_is)
    (case z_abs => k_is)
    (case z_ord => k_is)
    (case z_reversed => k_is)
    (case z_all => k_is)
    (case z_zip => k_is)

