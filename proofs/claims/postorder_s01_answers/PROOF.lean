import PyProof.Rows.All
import Wide.All
import OpenK.AllK
import Wide.FinOn
import Open.SpecLaws
import KE.OsHead
import KE.OsGo
import HandS.ForSpec
import HandS.ForMost
import HandS.Conv
import HandS.Walk
import HandS.More
import PySem.Challenge.RW_postorder_s01_answers
set_option Elab.async false
set_option maxRecDepth 100000
set_option maxHeartbeats 4200000
namespace Po
open Sv27

/-! ### numbers and their bytes -/
def val (b : Bytes) : Nat := b.foldr (fun c n => c % 256 + 256 * n) 0
theorem word_eq (b : Bytes) (i k : Nat) : word b i k = val ((b.drop i).take k) := rfl
def Small (b : Bytes) : Prop := ∀ c, c ∈ b → c < 256
theorem Small.drop {b : Bytes} (h : Small b) (n : Nat) : Small (b.drop n) := fun c hc => h c (List.mem_of_mem_drop hc)
theorem Small.take {b : Bytes} (h : Small b) (n : Nat) : Small (b.take n) := fun c hc => h c (List.mem_of_mem_take hc)
theorem little_succ (k n : Nat) : little (k + 1) n = n % 256 :: little k (n / 256) := by
  unfold little
  rw [List.range_succ_eq_map]
  rw [List.map_cons, List.map_map]
  congr 1
  · simp
  · apply List.map_congr_left
    intro i _
    simp only [Function.comp, Nat.succ_eq_add_one]
    rw [Nat.pow_succ', Nat.div_div_eq_div_mul]
theorem little_length (k n : Nat) : (little k n).length = k := by simp [little]
theorem little_val : ∀ (b : Bytes), Small b → little b.length (val b) = b
  | [], _ => rfl
  | c :: r, h => by
    have hc : c < 256 := h c (List.mem_cons_self ..)
    have hr : Small r := fun d hd => h d (List.mem_cons_of_mem _ hd)
    rw [List.length_cons, little_succ]
    have e : val (c :: r) = c % 256 + 256 * val r := rfl
    have e1 : val (c :: r) % 256 = c := by rw [e]; omega
    have e2 : val (c :: r) / 256 = val r := by rw [e]; omega
    rw [e1, e2, little_val r hr]
theorem val_lt : ∀ b : Bytes, val b < 256 ^ b.length
  | [] => by decide
  | c :: r => by
    have e : val (c :: r) = c % 256 + 256 * val r := rfl
    have ih := val_lt r
    rw [e, List.length_cons, Nat.pow_succ]
    have : c % 256 < 256 := Nat.mod_lt _ (by decide)
    omega
/-! ### lists in pieces -/
theorem take_flatMap_range {α : Type} (k : Nat) : ∀ (n : Nat) (b : List α), n * k ≤ b.length → (List.range n).flatMap (fun i => (b.drop (k * i)).take k) = b.take (n * k)
  | 0, b, _ => by simp
  | n + 1, b, h => by
    rw [List.range_succ, List.flatMap_append]
    have h' : n * k ≤ b.length := Nat.le_trans (Nat.mul_le_mul_right k (Nat.le_succ n)) h
    rw [take_flatMap_range k n b h']
    have e : (n + 1) * k = n * k + k := Nat.succ_mul n k
    simp only [List.flatMap_cons, List.flatMap_nil, List.append_nil]
    rw [e, Nat.mul_comm k n, List.take_add]
theorem of_map {n : Nat} (f : Nat → Nat) {i : Nat} (hi : i < n) : of ((List.range n).map f) i = f i := by
  unfold of
  rw [List.getD_eq_getElem?_getD, List.getElem?_map, List.getElem?_range hi]
  rfl
theorem of_stampOf (c : Bytes) {i : Nat} (hi : i < 8) : of (stampOf c) i = word c (8 * i) 8 := of_map _ hi
theorem flatMap_congr {α β : Type} {f g : α → List β} : ∀ {l : List α}, (∀ x, x ∈ l → f x = g x) → l.flatMap f = l.flatMap g
  | [], _ => rfl
  | a :: r, h => by
    rw [List.flatMap_cons, List.flatMap_cons, h a (List.mem_cons_self ..), flatMap_congr fun x hx => h x (List.mem_cons_of_mem _ hx)]
/-- the stamp of bytes is written as these bytes -/
theorem stampBytes_of (c : Bytes) (hc : 64 ≤ c.length) (hs : Small c) : stampBytes (stampOf c) = c.take 64 := by
  unfold stampBytes
  rw [← take_flatMap_range 8 8 c hc]
  apply flatMap_congr
  intro i hi
  have hi8 : i < 8 := List.mem_range.mp hi
  rw [of_stampOf c hi8, word_eq]
  have hl : ((c.drop (8 * i)).take 8).length = 8 := by rw [List.length_take, List.length_drop]; omega
  have := little_val ((c.drop (8 * i)).take 8) ((hs.drop _).take _)
  rw [hl] at this
  exact this
theorem stampOf_take (c : Bytes) : stampOf (c.take 64) = stampOf c := by
  unfold stampOf
  apply List.map_congr_left
  intro i hi
  have hi8 : i < 8 := List.mem_range.mp hi
  rw [word_eq, word_eq, List.drop_take, List.take_take]
  congr 2
  omega
theorem stampOf_length (c : Bytes) : (stampOf c).length = 8 := by simp [stampOf]
theorem flatMap_len {α : Type} (k : Nat) : ∀ {l : List α} {f : α → List Nat}, (∀ x, x ∈ l → (f x).length = k) → (l.flatMap f).length = l.length * k
  | [], _, _ => by simp
  | a :: r, f, h => by
    rw [List.flatMap_cons, List.length_append, h a (List.mem_cons_self ..), flatMap_len k fun x hx => h x (List.mem_cons_of_mem _ hx), List.length_cons, Nat.succ_mul]
    omega
theorem stampBytes_length (s : Stamp) : (stampBytes s).length = 64 := by
  unfold stampBytes
  rw [flatMap_len 8 fun x _ => little_length 8 _]
  simp
theorem padded_length {t : Bytes} (h : t.length ≤ 32) : (padded t).length = 32 := by
  unfold padded
  simp only [List.length_append, List.length_replicate]
  omega
theorem postBytes_length {p : Post} (h : p.text.length ≤ 32) : (postBytes p).length = 104 := by
  unfold postBytes
  rw [List.length_append, List.length_append, stampBytes_length, little_length, padded_length h]
theorem rowBytes_length {l : List Post} (hl : l.length ≤ 32) (h : ∀ p, p ∈ l → p.text.length ≤ 32) : (rowBytes l).length = 3336 := by
  unfold rowBytes
  rw [List.length_append, List.length_append, little_length, flatMap_len 104 fun p hp => postBytes_length (h p hp), List.length_replicate]
  show 8 + (l.length * 104 + 104 * (32 - l.length)) = 3336
  omega
/-! ### zeros -/
def zer (b : Bytes) : Bool := b.all (· == 0)
theorem zer_iff (b : Bytes) : zer b = true ↔ b = List.replicate b.length 0 := by
  unfold zer
  rw [List.eq_replicate_iff, List.all_eq_true]
  constructor
  · intro h
    exact ⟨rfl, fun x hx => by simpa using h x hx⟩
  · intro h x hx
    simpa using h.2 x hx
/-! ### a padded text -/
def isPad (L : Nat) (r : Bytes) : Bool := decide (L ≤ 31) && zer (r.drop L)
theorem pad_iff {r : Bytes} (hr : r.length = 32) {L : Nat} : (min 31 L = L ∧ padded (r.take (min 31 L)) = r) ↔ isPad L r = true := by
  unfold isPad
  rw [Bool.and_eq_true, decide_eq_true_iff, zer_iff]
  constructor
  · rintro ⟨h1, h2⟩
    have hL : L ≤ 31 := by omega
    refine ⟨hL, ?_⟩
    rw [h1] at h2
    unfold padded at h2
    have e : r.drop L = List.replicate (32 - (r.take L).length) 0 := by
      have q := congrArg (List.drop L) h2
      rw [List.drop_append] at q
      have l1 : (r.take L).length = L := by rw [List.length_take]; omega
      rw [l1, Nat.sub_self, List.drop_zero] at q
      rw [List.drop_of_length_le (by omega), List.nil_append] at q
      rw [l1]
      exact q.symm
    rw [e, List.length_replicate]
  · rintro ⟨h1, h2⟩
    have e : min 31 L = L := by omega
    refine ⟨e, ?_⟩
    rw [e]
    unfold padded
    have l1 : (r.take L).length = L := by rw [List.length_take]; omega
    have l2 : (r.drop L).length = 32 - L := by rw [List.length_drop]; omega
    rw [l1, ← l2, ← h2, List.take_append_drop]
end Po

namespace Po
open Sv27
set_option linter.all false

theorem val_little : ∀ (k n : Nat), n < 256 ^ k → val (little k n) = n
  | 0, n, h => by
    have : n = 0 := by simpa using h
    subst this
    rfl
  | k + 1, n, h => by
    rw [little_succ]
    have e : val (n % 256 :: little k (n / 256)) = n % 256 % 256 + 256 * val (little k (n / 256)) := rfl
    rw [e, val_little k (n / 256) (by rw [Nat.pow_succ] at h; omega)]
    omega
theorem little_inj {k a b : Nat} (ha : a < 256 ^ k) (hb : b < 256 ^ k) (h : little k a = little k b) : a = b := by
  rw [← val_little k a ha, ← val_little k b hb, h]
theorem app_iff {α : Type} {a b c : List α} : a ++ b = c ↔ a = c.take a.length ∧ b = c.drop a.length := by
  constructor
  · intro h
    subst h
    simp
  · rintro ⟨h1, h2⟩
    have e := List.take_append_drop a.length c
    rw [← h1, ← h2] at e
    exact e
theorem flatMap_inj {α : Type} {k : Nat} {f g : α → List Nat} : ∀ {l : List α}, (∀ x, x ∈ l → (f x).length = k) → (∀ x, x ∈ l → (g x).length = k) → (l.flatMap f = l.flatMap g ↔ ∀ x, x ∈ l → f x = g x)
  | [], _, _ => by simp
  | a :: r, hf, hg => by
    rw [List.flatMap_cons, List.flatMap_cons]
    have ih := flatMap_inj (l := r) (fun x hx => hf x (List.mem_cons_of_mem _ hx)) (fun x hx => hg x (List.mem_cons_of_mem _ hx))
    constructor
    · intro h
      have q := List.append_inj h (by rw [hf a (List.mem_cons_self ..), hg a (List.mem_cons_self ..)])
      intro x hx
      rcases List.mem_cons.mp hx with e | e
      · rw [e]; exact q.1
      · exact ih.mp q.2 x e
    · intro h
      rw [h a (List.mem_cons_self ..), ih.mpr fun x hx => h x (List.mem_cons_of_mem _ hx)]

/-! ### a post of the saved rows -/
/-- what the program reads off 104 bytes -/
def rdPost (n : Nat) (c : Bytes) : Option Post := if (stampOk n (stampOf c) && isPad (word c 64 8) ((c.drop 72).take 32)) = true then some ⟨stampOf c, ((c.drop 72).take 32).take (word c 64 8)⟩ else none
theorem word_bound (c : Bytes) (i : Nat) : word c i 8 < 256 ^ 8 := by
  rw [word_eq]
  have h := val_lt ((c.drop i).take 8)
  have hl : ((c.drop i).take 8).length ≤ 8 := by rw [List.length_take]; omega
  exact Nat.lt_of_lt_of_le h (Nat.pow_le_pow_right (by decide) hl)
theorem little_word (c : Bytes) (i : Nat) (hs : Small c) (h : i + 8 ≤ c.length) : little 8 (word c i 8) = (c.drop i).take 8 := by
  have e := little_val ((c.drop i).take 8) ((hs.drop _).take _)
  have hl : ((c.drop i).take 8).length = 8 := by rw [List.length_take, List.length_drop]; omega
  rw [hl] at e
  exact e
theorem postBytes_iff (c : Bytes) (hc : c.length = 104) (hs : Small c) : postBytes (postAt c 0) = c ↔ isPad (word c 64 8) ((c.drop 72).take 32) = true := by
  have hr : ((c.drop 72).take 32).length = 32 := by rw [List.length_take, List.length_drop]; omega
  have hd : (c.drop 72).take 32 = c.drop 72 := List.take_of_length_le (by rw [List.length_drop]; omega)
  rw [← pad_iff hr]
  have e0 : postAt c 0 = ⟨stampOf c, (c.drop 72).take (min 31 (word c 64 8))⟩ := rfl
  have tl : ((c.drop 72).take (min 31 (word c 64 8))).length = min 31 (word c 64 8) := by rw [List.length_take, List.length_drop]; omega
  rw [e0]
  show stampBytes (stampOf c) ++ (little 8 ((c.drop 72).take (min 31 (word c 64 8))).length ++ padded ((c.drop 72).take (min 31 (word c 64 8)))) = c ↔ _
  rw [tl, app_iff, app_iff, stampBytes_length, little_length, List.drop_drop, stampBytes_of c (by omega) hs]
  have lw := little_word c 64 hs (by omega)
  constructor
  · rintro ⟨_, h2, h3⟩
    have q : min 31 (word c 64 8) = word c 64 8 := little_inj (Nat.lt_of_le_of_lt (Nat.min_le_left _ _) (by decide)) (word_bound c 64) (by rw [h2, lw])
    refine ⟨q, ?_⟩
    rw [hd]
    exact h3
  · rintro ⟨h1, h2⟩
    refine ⟨rfl, ?_, ?_⟩
    · rw [h1, lw]
    · rw [hd] at h2
      exact h2
/-! ### a row -/
def piece (c : Bytes) (k : Nat) : Bytes := (c.drop (8 + 104 * k)).take 104
def rdPosts (n : Nat) (c : Bytes) : Option (List Post) :=
  if 32 < word c 0 8 then none
  else if ((List.range (word c 0 8)).map fun k => rdPost n (piece c k)).any (·.isNone) = true then none
  else if zer ((c.drop (8 + 104 * word c 0 8)).take (104 * (32 - word c 0 8))) = true then some (((List.range (word c 0 8)).map fun k => rdPost n (piece c k)).filterMap id) else none
theorem word_piece (c : Bytes) (k : Nat) : word (piece c k) 64 8 = word c (8 + 104 * k + 64) 8 := by
  rw [word_eq, word_eq]
  unfold piece
  rw [List.drop_take, List.take_take, List.drop_drop]
  congr 2
theorem stampOf_piece (c : Bytes) (k : Nat) : stampOf (piece c k) = stampOf (c.drop (8 + 104 * k)) := by
  rw [← stampOf_take (piece c k)]
  unfold piece
  rw [List.take_take, show min 64 104 = 64 from rfl, stampOf_take]
theorem drop_piece (c : Bytes) (k : Nat) : ((piece c k).drop 72).take 32 = (c.drop (8 + 104 * k + 72)).take 32 := by
  unfold piece
  rw [List.drop_take, List.take_take, List.drop_drop]
  congr 1
theorem postAt_piece (c : Bytes) (k : Nat) (h : 8 + 104 * k + 104 ≤ c.length) : postAt c (8 + 104 * k) = postAt (piece c k) 0 := by
  unfold postAt
  have e1 : stampOf ((piece c k).drop 0) = stampOf (c.drop (8 + 104 * k)) := stampOf_piece c k
  have e2 : word (piece c k) (0 + 64) 8 = word c (8 + 104 * k + 64) 8 := word_piece c k
  rw [e1, e2]
  congr 1
  show _ = ((piece c k).drop 72).take _
  have q : ((piece c k).drop 72) = ((piece c k).drop 72).take 32 := by
    refine (List.take_of_length_le ?_).symm
    unfold piece
    rw [List.length_drop, List.length_take]
    omega
  rw [q, drop_piece, List.take_take]
  congr 1
  omega
theorem rowAt_eq (c : Bytes) : rowAt c 0 = (List.range (min 32 (word c 0 8))).map fun j => postAt c (8 + 104 * j) := by
  unfold rowAt
  apply List.map_congr_left
  intro j _
  rw [show 0 + 8 + 104 * j = 8 + 104 * j by omega]
theorem postAt_text (c : Bytes) (p : Nat) : (postAt c p).text.length ≤ 31 := by
  show ((c.drop (p + 72)).take (min 31 (word c (p + 64) 8))).length ≤ 31
  rw [List.length_take]
  omega
theorem piece_length {c : Bytes} {k : Nat} (h : 8 + 104 * k + 104 ≤ c.length) : (piece c k).length = 104 := by
  unfold piece
  simp only [List.length_take, List.length_drop]
  omega
theorem Small.piece {c : Bytes} (h : Small c) (k : Nat) : Small (Po.piece c k) := (h.drop _).take _
theorem rowBytes_iff (c : Bytes) (hc : c.length = 3336) (hs : Small c) : rowBytes (rowAt c 0) = c ↔
    word c 0 8 ≤ 32 ∧ (∀ k, k < word c 0 8 → isPad (word (piece c k) 64 8) (((piece c k).drop 72).take 32) = true) ∧ zer ((c.drop (8 + 104 * word c 0 8)).take (104 * (32 - word c 0 8))) = true := by
  have lw := little_word c 0 hs (by omega)
  rw [rowAt_eq]
  have hl : ((List.range (min 32 (word c 0 8))).map fun j => postAt c (8 + 104 * j)).length = min 32 (word c 0 8) := by rw [List.length_map, List.length_range]
  unfold rowBytes
  rw [hl, List.flatMap_map, app_iff, app_iff, little_length]
  have hm : min 32 (word c 0 8) ≤ 32 := Nat.min_le_left _ _
  have hf : ∀ x, x ∈ List.range (min 32 (word c 0 8)) → (postBytes (postAt c (8 + 104 * x))).length = 104 := fun x _ => postBytes_length (Nat.le_trans (postAt_text _ _) (by decide))
  have fl : ((List.range (min 32 (word c 0 8))).flatMap fun a => postBytes (postAt c (8 + 104 * a))).length = 104 * min 32 (word c 0 8) := by
    rw [flatMap_len 104 hf, List.length_range, Nat.mul_comm]
  rw [fl, List.drop_drop]
  have tk := take_flatMap_range 104 (min 32 (word c 0 8)) (c.drop 8) (by rw [List.length_drop]; omega)
  have tk' : (c.drop 8).take (104 * min 32 (word c 0 8)) = (List.range (min 32 (word c 0 8))).flatMap fun i => piece c i := by
    rw [Nat.mul_comm 104, ← tk]
    apply flatMap_congr
    intro i _
    rw [List.drop_drop]
    rfl
  rw [tk', flatMap_inj hf (fun x hx => piece_length (by have := List.mem_range.mp hx; omega))]
  have hp : ∀ k, k < min 32 (word c 0 8) → (postBytes (postAt c (8 + 104 * k)) = piece c k ↔ isPad (word (piece c k) 64 8) (((piece c k).drop 72).take 32) = true) := fun k hk => by
    rw [postAt_piece c k (by omega)]
    exact postBytes_iff _ (piece_length (by omega)) (hs.piece k)
  have ez : ∀ m, m ≤ 32 → (c.drop (8 + 104 * m)).length = 104 * (32 - m) := fun m hm => by rw [List.length_drop]; omega
  constructor
  · rintro ⟨h1, h2, h3⟩
    have q : min 32 (word c 0 8) = word c 0 8 := little_inj (Nat.lt_of_le_of_lt hm (by decide)) (word_bound c 0) (by rw [h1, lw]; rfl)
    have q' : word c 0 8 ≤ 32 := by omega
    refine ⟨q', fun k hk => (hp k (by omega)).mp (h2 k (List.mem_range.mpr (by omega))), ?_⟩
    rw [q] at h3
    rw [List.take_of_length_le (by rw [ez _ q']; exact Nat.le_refl _), zer_iff, ez _ q']
    exact h3.symm
  · rintro ⟨h1, h2, h3⟩
    have q : min 32 (word c 0 8) = word c 0 8 := by omega
    rw [q]
    refine ⟨lw, fun k hk => (hp k (by have := List.mem_range.mp hk; omega)).mpr (h2 k (List.mem_range.mp hk)), ?_⟩
    rw [List.take_of_length_le (by rw [ez _ h1]; exact Nat.le_refl _), zer_iff, ez _ h1] at h3
    exact h3.symm
/-- the program's reading of a row and the specification's -/
theorem rdPost_eq (n : Nat) (c : Bytes) (k : Nat) (h : 8 + 104 * k + 104 ≤ c.length) (hp : isPad (word (piece c k) 64 8) (((piece c k).drop 72).take 32) = true) :
    rdPost n (piece c k) = if stampOk n (postAt c (8 + 104 * k)).stamp = true then some (postAt c (8 + 104 * k)) else none := by
  unfold rdPost
  have hL : word (piece c k) 64 8 ≤ 31 := by
    unfold isPad at hp
    rw [Bool.and_eq_true, decide_eq_true_iff] at hp
    exact hp.1
  have e : postAt c (8 + 104 * k) = ⟨stampOf (piece c k), (((piece c k).drop 72).take 32).take (word (piece c k) 64 8)⟩ := by
    rw [postAt_piece c k h]
    show (⟨stampOf (piece c k), ((piece c k).drop 72).take (min 31 (word (piece c k) 64 8))⟩ : Post) = _
    rw [List.take_take, Nat.min_eq_right hL, Nat.min_eq_left (by omega)]
  rw [e, hp, Bool.and_true]
theorem filterMap_some {α β : Type} (f : α → Option β) (g : α → β) : ∀ l : List α, (∀ x, x ∈ l → f x = some (g x)) → (l.map f).filterMap id = l.map g
  | [], _ => rfl
  | a :: r, h => by
    rw [List.map_cons, List.map_cons, h a (List.mem_cons_self ..)]
    show g a :: (r.map f).filterMap id = _
    rw [filterMap_some f g r fun x hx => h x (List.mem_cons_of_mem _ hx)]
theorem rdPosts_iff (n : Nat) (c : Bytes) (hc : c.length = 3336) (hs : Small c) (l : List Post) : rdPosts n c = some l ↔ rowBytes (rowAt c 0) = c ∧ ((rowAt c 0).all fun p => stampOk n p.stamp) = true ∧ l = rowAt c 0 := by
  rw [rowBytes_iff c hc hs]
  unfold rdPosts
  by_cases h1 : 32 < word c 0 8
  · rw [if_pos h1]
    constructor
    · intro q; cases q
    · rintro ⟨⟨q, _⟩, _⟩; omega
  rw [if_neg h1]
  have hm : word c 0 8 ≤ 32 := by omega
  have er : rowAt c 0 = (List.range (word c 0 8)).map fun j => postAt c (8 + 104 * j) := by rw [rowAt_eq, Nat.min_eq_right hm]
  by_cases hp : ∀ k, k < word c 0 8 → isPad (word (piece c k) 64 8) (((piece c k).drop 72).take 32) = true
  · have ek : ∀ k, k < word c 0 8 → rdPost n (piece c k) = if stampOk n (postAt c (8 + 104 * k)).stamp = true then some (postAt c (8 + 104 * k)) else none := fun k hk => rdPost_eq n c k (by omega) (hp k hk)
    by_cases hst : ((rowAt c 0).all fun p => stampOk n p.stamp) = true
    · have hall : ∀ k, k ∈ List.range (word c 0 8) → rdPost n (piece c k) = some (postAt c (8 + 104 * k)) := fun k hk => by
        rw [ek k (List.mem_range.mp hk), if_pos]
        rw [er, List.all_eq_true] at hst
        exact hst _ (List.mem_map.mpr ⟨k, hk, rfl⟩)
      rw [if_neg (by
        intro q
        rw [List.any_eq_true] at q
        obtain ⟨o, ho, hn⟩ := q
        obtain ⟨k, hk, rfl⟩ := List.mem_map.mp ho
        rw [hall k hk] at hn
        cases hn), filterMap_some _ (fun k => postAt c (8 + 104 * k)) _ hall]
      rw [← er]
      by_cases hz : zer ((c.drop (8 + 104 * word c 0 8)).take (104 * (32 - word c 0 8))) = true
      · rw [if_pos hz]
        constructor
        · intro q; cases q; exact ⟨⟨hm, hp, hz⟩, hst, rfl⟩
        · rintro ⟨_, _, q⟩; rw [q]
      · rw [if_neg hz]
        constructor
        · intro q; cases q
        · rintro ⟨⟨_, _, q⟩, _⟩; exact absurd q hz
    · have hex : ((List.range (word c 0 8)).map fun k => rdPost n (piece c k)).any (·.isNone) = true := by
        rw [List.any_eq_true]
        have q : ∃ p, p ∈ rowAt c 0 ∧ ¬ stampOk n p.stamp = true := by
          refine Classical.byContradiction fun q => hst ?_
          rw [List.all_eq_true]
          intro p hp
          exact Classical.byContradiction fun z => q ⟨p, hp, z⟩
        obtain ⟨p, hpm, hps⟩ := q
        rw [er] at hpm
        obtain ⟨k, hk, rfl⟩ := List.mem_map.mp hpm
        exact ⟨_, List.mem_map.mpr ⟨k, hk, rfl⟩, by rw [ek k (List.mem_range.mp hk), if_neg hps]; rfl⟩
      rw [if_pos hex]
      constructor
      · intro q; cases q
      · rintro ⟨_, q, _⟩; exact absurd q hst
  · have hex : ((List.range (word c 0 8)).map fun k => rdPost n (piece c k)).any (·.isNone) = true := by
      rw [List.any_eq_true]
      have q : ∃ k, k < word c 0 8 ∧ ¬ isPad (word (piece c k) 64 8) (((piece c k).drop 72).take 32) = true := by
        refine Classical.byContradiction fun q => hp ?_
        intro k hk
        exact Classical.byContradiction fun z => q ⟨k, hk, z⟩
      obtain ⟨k, hk, hb⟩ := q
      refine ⟨_, List.mem_map.mpr ⟨k, List.mem_range.mpr hk, rfl⟩, ?_⟩
      unfold rdPost
      rw [if_neg (by rw [Bool.and_eq_true]; exact fun z => hb z.2)]
      rfl
    rw [if_pos hex]
    constructor
    · intro q; cases q
    · rintro ⟨⟨_, q, _⟩, _⟩; exact absurd q hp
end Po

namespace Po
open Sv27
set_option linter.all false

/-! ### what the program asks of a node that was read -/
def isOther (x : Node) (j : Nat) : Bool := decide (j < x.n) && decide (j ≠ x.me)
theorem contains_others (x : Node) (j : Nat) : x.others.contains j = isOther x j := by
  unfold isOther Node.others
  rw [Bool.eq_iff_iff, List.contains_iff_mem, List.mem_filter, List.mem_range, Bool.and_eq_true, decide_eq_true_iff, decide_eq_true_iff, bne_iff_ne]
def counts (l : List Post) (a : Nat) : List Nat := l.map fun p => of p.stamp a
def knownSo (x : Node) : Bool := stampOk x.n x.seen && (List.range 8).all fun j => stampOk x.n (x.knows j) && (isOther x j || zer (x.knows j))
def mineSo (x : Node) : Bool := decide (x.own.length ≤ of x.seen x.me) && (counts x.own x.me == (List.range x.own.length).map fun i => of x.seen x.me - x.own.length + 1 + i)
def risesFrom (hi : Nat) : Nat → List Nat → Bool
  | _, [] => true
  | b, c :: r => decide (b < c) && decide (c ≤ hi) && risesFrom hi c r
def waitingSo (x : Node) : Bool := (List.range 8).all fun j => (isOther x j || (x.waiting j).isEmpty) && risesFrom (of x.seen j + 32) (of x.seen j) (counts (x.waiting j) j)
theorem rising_cons {a : Nat} : ∀ {r : List Nat}, rising (a :: r) = true ↔ (∀ c, c ∈ r → a < c) ∧ rising r = true
  | [] => by simp [rising]
  | b :: r => by
    have e : rising (a :: b :: r) = (decide (a < b) && rising (b :: r)) := rfl
    rw [e, Bool.and_eq_true, decide_eq_true_iff]
    constructor
    · rintro ⟨h1, h2⟩
      refine ⟨fun c hc => ?_, h2⟩
      rcases List.mem_cons.mp hc with q | q
      · rw [q]; exact h1
      · exact Nat.lt_trans h1 ((rising_cons.mp h2).1 c q)
    · rintro ⟨h1, h2⟩
      exact ⟨h1 b (List.mem_cons_self ..), h2⟩
theorem rises_iff {hi : Nat} : ∀ {l : List Nat} {b : Nat}, risesFrom hi b l = true ↔ (∀ c, c ∈ l → b < c ∧ c ≤ hi) ∧ rising l = true
  | [], b => by simp [risesFrom, rising]
  | a :: r, b => by
    have e : risesFrom hi b (a :: r) = (decide (b < a) && decide (a ≤ hi) && risesFrom hi a r) := rfl
    rw [e, Bool.and_eq_true, Bool.and_eq_true, decide_eq_true_iff, decide_eq_true_iff, rising_cons, rises_iff]
    constructor
    · rintro ⟨⟨h1, h2⟩, h3, h4⟩
      refine ⟨fun c hc => ?_, fun c hc => (h3 c hc).1, h4⟩
      rcases List.mem_cons.mp hc with q | q
      · rw [q]; exact ⟨h1, h2⟩
      · exact ⟨Nat.lt_trans h1 (h3 c q).1, (h3 c q).2⟩
    · rintro ⟨h1, h2, h3⟩
      exact ⟨h1 a (List.mem_cons_self ..), fun c hc => ⟨h2 c hc, (h1 c (List.mem_cons_of_mem _ hc)).2⟩, h3⟩
/-- a list that rises within its bounds is no longer than these let it be -/
theorem rises_length {hi : Nat} : ∀ {l : List Nat} {b : Nat}, risesFrom hi b l = true → b ≤ hi → l.length + b ≤ hi
  | [], b, _, h => by rw [List.length_nil]; omega
  | a :: r, b, h, _ => by
    have e : risesFrom hi b (a :: r) = (decide (b < a) && decide (a ≤ hi) && risesFrom hi a r) := rfl
    rw [e, Bool.and_eq_true, Bool.and_eq_true, decide_eq_true_iff, decide_eq_true_iff] at h
    have ih := rises_length h.2 h.1.2
    rw [List.length_cons]
    omega
/-! ### all of it -/
def rowOf (b : Bytes) (p : Nat) : Bytes := (b.drop p).take 3336
def rdNode (b : Bytes) : Option Node :=
  if (decide (2 ≤ b.getD 1 0) && decide (b.getD 1 0 ≤ 8) && decide (b.getD 0 0 < b.getD 1 0) && zer ((b.drop 2).take 6)) = true then
    match rdPosts (b.getD 1 0) (rowOf b 584) with
    | none => none
    | some own =>
      if ((List.range 8).map fun j => rdPosts (b.getD 1 0) (rowOf b (3920 + 3336 * j))).any (·.isNone) = true then none
      else
        let x : Node := ⟨b.getD 0 0, b.getD 1 0, stampOf ((b.drop 8).take 64), (List.range 8).map fun j => stampOf ((b.drop (72 + 64 * j)).take 64), own, ((List.range 8).map fun j => rdPosts (b.getD 1 0) (rowOf b (3920 + 3336 * j))).filterMap id⟩
        if (knownSo x && mineSo x && waitingSo x) = true then some x else none
  else none
theorem stampOf_cut (b : Bytes) (p : Nat) : stampOf ((b.drop p).take 64) = stampOf (b.drop p) := stampOf_take _
theorem rowAt_row (b : Bytes) (p : Nat) (h : p + 3336 ≤ b.length) : rowAt b p = rowAt (rowOf b p) 0 := by
  rw [rowAt_eq]
  unfold rowAt
  have e : word (rowOf b p) 0 8 = word b p 8 := by
    rw [word_eq, word_eq]
    unfold rowOf
    rw [List.drop_zero, List.take_take]
    congr 2
  rw [e]
  apply List.map_congr_left
  intro j hj
  have hj' : j < 32 := by have := List.mem_range.mp hj; have : min KEPT (word b p 8) ≤ 32 := Nat.min_le_left _ _; omega
  unfold postAt
  have e1 : stampOf (b.drop (p + 8 + 104 * j)) = stampOf ((rowOf b p).drop (8 + 104 * j)) := by
    rw [← stampOf_take, ← stampOf_take ((rowOf b p).drop (8 + 104 * j))]
    unfold rowOf
    rw [List.drop_take, List.take_take, List.drop_drop, Nat.min_eq_left (by omega), Nat.add_assoc]
  have e2 : word b (p + 8 + 104 * j + 64) 8 = word (rowOf b p) (8 + 104 * j + 64) 8 := by
    rw [word_eq, word_eq]
    unfold rowOf
    rw [List.drop_take, List.take_take, List.drop_drop, Nat.min_eq_left (by omega)]
    congr 3
    omega
  have e3 : ∀ m, m ≤ 31 → (b.drop (p + 8 + 104 * j + 72)).take m = ((rowOf b p).drop (8 + 104 * j + 72)).take m := fun m hm => by
    unfold rowOf
    rw [List.drop_take, List.take_take, List.drop_drop, Nat.min_eq_left (by omega)]
    congr 2
    omega
  rw [e1, e2, e3 _ (Nat.min_le_left _ _)]
theorem rowOf_length {b : Bytes} {p : Nat} (h : p + 3336 ≤ b.length) : (rowOf b p).length = 3336 := by
  unfold rowOf
  simp only [List.length_take, List.length_drop]
  omega
theorem Small.rowOf {b : Bytes} (h : Small b) (p : Nat) : Small (Po.rowOf b p) := (h.drop _).take _
theorem rowAt_len (c : Bytes) (p : Nat) : (rowAt c p).length ≤ 32 := by
  unfold rowAt
  simp only [List.length_range, List.length_map]
  exact Nat.min_le_left _ _
theorem rowAt_text (c : Bytes) (p : Nat) : ∀ q, q ∈ rowAt c p → q.text.length ≤ 31 := by
  intro q hq
  unfold rowAt at hq
  obtain ⟨j, _, rfl⟩ := List.mem_map.mp hq
  exact postAt_text _ _
theorem rowBytes_rowAt_length (c : Bytes) (p : Nat) : (rowBytes (rowAt c p)).length = 3336 := rowBytes_length (rowAt_len c p) fun q hq => Nat.le_trans (rowAt_text c p q hq) (by decide)
theorem said_waiting (b : Bytes) {i : Nat} (hi : i < 8) : (said b).waiting i = rowAt b (3920 + 3336 * i) := by
  unfold said Node.waiting
  rw [List.getD_eq_getElem?_getD, List.getElem?_map, List.getElem?_range hi]
  rfl
theorem said_knows (b : Bytes) {i : Nat} (hi : i < 8) : (said b).knows i = stampOf (b.drop (72 + 64 * i)) := by
  unfold said Node.knows
  rw [List.getD_eq_getElem?_getD, List.getElem?_map, List.getElem?_range hi]
  rfl
theorem two_heads {b : Bytes} (h : 2 ≤ b.length) : ∃ b0 b1 r, b = b0 :: b1 :: r := by
  cases b with
  | nil => simp at h
  | cons a t =>
    cases t with
    | nil => simp at h
    | cons c u => exact ⟨a, c, u, rfl⟩
/-- what's saved is what was read, if the rows are and the zeros -/
theorem save_said (b : Bytes) (hb : b.length = 30608) (hs : Small b) : save (said b) = b ↔ zer ((b.drop 2).take 6) = true ∧ rowBytes (rowAt (rowOf b 584) 0) = rowOf b 584 ∧ ∀ i, i < 8 → rowBytes (rowAt (rowOf b (3920 + 3336 * i)) 0) = rowOf b (3920 + 3336 * i) := by
  unfold save
  have l1 : ([(said b).me, (said b).n, 0, 0, 0, 0, 0, 0] : Bytes).length = 8 := rfl
  have lk : ((List.range 8).flatMap fun i => stampBytes ((said b).knows i)).length = 512 := by
    rw [flatMap_len 64 fun _ _ => stampBytes_length _, List.length_range]
  have lo : (rowBytes (said b).own).length = 3336 := rowBytes_rowAt_length b 584
  rw [app_iff, l1, app_iff, stampBytes_length, app_iff, lk, app_iff, lo, List.drop_drop, List.drop_drop, List.drop_drop]
  have c1 : ([(said b).me, (said b).n, 0, 0, 0, 0, 0, 0] : Bytes) = b.take 8 ↔ zer ((b.drop 2).take 6) = true := by
    obtain ⟨b0, b1, r, rfl⟩ := two_heads (b := b) (by omega)
    rw [zer_iff]
    have hl : ((List.drop 2 (b0 :: b1 :: r)).take 6).length = 6 := by
      simp only [List.length_cons] at hb
      show (r.take 6).length = 6
      rw [List.length_take]
      omega
    rw [hl]
    show [b0, b1, 0, 0, 0, 0, 0, 0] = b0 :: b1 :: r.take 6 ↔ r.take 6 = [0, 0, 0, 0, 0, 0]
    constructor
    · intro h
      exact ((List.cons.inj (List.cons.inj h).2).2).symm
    · intro h
      rw [h]
  have c2 : stampBytes (said b).seen = (b.drop 8).take 64 := stampBytes_of _ (by rw [List.length_drop]; omega) (hs.drop _)
  have c3 : ((List.range 8).flatMap fun i => stampBytes ((said b).knows i)) = (b.drop (8 + 64)).take 512 := by
    have tk := take_flatMap_range 64 8 (b.drop 72) (by rw [List.length_drop]; omega)
    show _ = (b.drop 72).take (8 * 64)
    rw [← tk]
    apply flatMap_congr
    intro i hi
    have hi8 := List.mem_range.mp hi
    rw [said_knows b hi8, stampBytes_of _ (by rw [List.length_drop]; omega) (hs.drop _), List.drop_drop]
  have c4 : rowBytes (said b).own = (b.drop (8 + 64 + 512)).take 3336 ↔ rowBytes (rowAt (rowOf b 584) 0) = rowOf b 584 := by
    have e : (said b).own = rowAt (rowOf b 584) 0 := rowAt_row b 584 (by omega)
    rw [e]
    exact Iff.rfl
  have c5 : ((List.range 8).flatMap fun i => rowBytes ((said b).waiting i)) = b.drop (8 + 64 + 512 + 3336) ↔ ∀ i, i < 8 → rowBytes (rowAt (rowOf b (3920 + 3336 * i)) 0) = rowOf b (3920 + 3336 * i) := by
    have tk := take_flatMap_range 3336 8 (b.drop 3920) (by rw [List.length_drop]; omega)
    rw [List.take_of_length_le (by rw [List.length_drop]; omega)] at tk
    show _ = b.drop 3920 ↔ _
    rw [← tk, flatMap_inj (k := 3336) (fun i hi => by rw [said_waiting b (List.mem_range.mp hi)]; exact rowBytes_rowAt_length _ _) (fun i hi => by
      have hi8 := List.mem_range.mp hi
      rw [List.length_take, List.length_drop, List.length_drop]
      omega)]
    constructor
    · intro h i hi
      have q := h i (List.mem_range.mpr hi)
      rw [said_waiting b hi, rowAt_row b _ (by omega), List.drop_drop] at q
      exact q
    · intro h i hi
      have hi8 := List.mem_range.mp hi
      rw [said_waiting b hi8, rowAt_row b _ (by omega), List.drop_drop]
      exact h i hi8
  rw [c1, c4, c5]
  constructor
  · rintro ⟨h1, _, _, h4, h5⟩
    exact ⟨h1, h4, h5⟩
  · rintro ⟨h1, h4, h5⟩
    exact ⟨h1, c2, c3, h4, h5⟩
theorem eq_of_iff_some {α : Type} {a b : Option α} (h : ∀ x, a = some x ↔ b = some x) : a = b := by
  cases a with
  | some x => exact ((h x).mp rfl).symm
  | none =>
    cases b with
    | none => rfl
    | some y => exact (h y).mpr rfl
theorem nobody_ok (n : Nat) : stampOk n nobody = true := by
  unfold stampOk
  rw [Bool.and_eq_true, List.all_eq_true]
  refine ⟨rfl, fun i hi => ?_⟩
  have hi8 := List.mem_range.mp hi
  rw [decide_eq_true_iff]
  have e : of nobody i = 0 := by
    unfold of nobody
    rw [List.getD_eq_getElem?_getD, List.getElem?_replicate, if_pos hi8]
    rfl
  rw [e]
  exact Nat.zero_le _
theorem zer_nobody {s : Stamp} (h : s.length = 8) : zer s = true ↔ (s == nobody) = true := by
  rw [zer_iff, h, beq_iff_eq]
  exact Iff.rfl
theorem rdNode_said (b : Bytes) (hb : b.length = 30608) {own : List Post} (h1 : own = rowAt (rowOf b 584) 0) {ws : List (List Post)} (h2 : ws = (List.range 8).map fun j => rowAt (rowOf b (3920 + 3336 * j)) 0) :
    (⟨b.getD 0 0, b.getD 1 0, stampOf ((b.drop 8).take 64), (List.range 8).map fun j => stampOf ((b.drop (72 + 64 * j)).take 64), own, ws⟩ : Node) = said b := by
  unfold said
  rw [h1, h2, stampOf_cut, rowAt_row b 584 (by omega)]
  have e3 : ((List.range 8).map fun j => stampOf ((b.drop (72 + 64 * j)).take 64)) = (List.range 8).map fun i => stampOf (b.drop (72 + 64 * i)) := by
    apply List.map_congr_left
    intro i _
    rw [stampOf_cut]
  have e4 : ((List.range 8).map fun j => rowAt (rowOf b (3920 + 3336 * j)) 0) = (List.range 8).map fun i => rowAt b (3920 + 3336 * i) := by
    apply List.map_congr_left
    intro i hi
    have hi8 := List.mem_range.mp hi
    rw [← rowAt_row b _ (by omega)]
  rw [e3, e4]
/-- what's asked of a node behind its rows, as the program asks it and as the specification does -/
theorem so_iff (b : Bytes) (x : Node) (hx : x = said b) : (knownSo x && mineSo x && waitingSo x) = true ∧ (x.own.all fun p => stampOk x.n p.stamp) = true ∧ (∀ i, i < 8 → ((x.waiting i).all fun p => stampOk x.n p.stamp) = true) ↔
    stampOk x.n x.seen = true ∧ (List.range 8).all (fun i => if x.others.contains i = true then stampOk x.n (x.knows i) else x.knows i == nobody) = true ∧
    (x.own.all fun p => stampOk x.n p.stamp) = true ∧ counts x.own x.me = (List.range x.own.length).map (fun i => of x.seen x.me + 1 + i - x.own.length) ∧ x.own.length ≤ of x.seen x.me ∧
    (List.range 8).all (fun i => if x.others.contains i = true then (x.waiting i).all (fun p => stampOk x.n p.stamp && (decide (of x.seen i < of p.stamp i) && decide (of p.stamp i ≤ of x.seen i + KEPT))) && rising (counts (x.waiting i) i) else x.waiting i == []) = true := by
  have kl : ∀ i, i < 8 → (x.knows i).length = 8 := fun i hi => by rw [hx, said_knows b hi]; exact stampOf_length _
  have ek : (knownSo x = true) ↔ stampOk x.n x.seen = true ∧ (List.range 8).all (fun i => if x.others.contains i = true then stampOk x.n (x.knows i) else x.knows i == nobody) = true := by
    unfold knownSo
    rw [Bool.and_eq_true]
    rw [List.all_eq_true, List.all_eq_true]
    refine and_congr_right fun _ => ?_
    constructor
    · intro h i hi
      have q := h i hi
      rw [Bool.and_eq_true, Bool.or_eq_true] at q
      rw [contains_others]
      by_cases o : isOther x i = true
      · rw [if_pos o]; exact q.1
      · rw [if_neg o]; exact (zer_nobody (kl i (List.mem_range.mp hi))).mp (q.2.resolve_left o)
    · intro h i hi
      have q := h i hi
      rw [contains_others] at q
      rw [Bool.and_eq_true, Bool.or_eq_true]
      by_cases o : isOther x i = true
      · rw [if_pos o] at q; exact ⟨q, .inl o⟩
      · rw [if_neg o] at q
        refine ⟨?_, .inr ((zer_nobody (kl i (List.mem_range.mp hi))).mpr q)⟩
        rw [eq_of_beq q]
        exact nobody_ok _
  have em : (mineSo x = true) ↔ counts x.own x.me = (List.range x.own.length).map (fun i => of x.seen x.me + 1 + i - x.own.length) ∧ x.own.length ≤ of x.seen x.me := by
    unfold mineSo
    rw [Bool.and_eq_true, decide_eq_true_iff, beq_iff_eq, and_comm]
    constructor
    · rintro ⟨h1, h2⟩
      refine ⟨?_, h2⟩
      rw [h1]
      apply List.map_congr_left
      intro i _
      omega
    · rintro ⟨h1, h2⟩
      refine ⟨?_, h2⟩
      rw [h1]
      apply List.map_congr_left
      intro i _
      omega
  have ew : (waitingSo x = true ∧ (∀ i, i < 8 → ((x.waiting i).all fun p => stampOk x.n p.stamp) = true)) ↔ (List.range 8).all (fun i => if x.others.contains i = true then (x.waiting i).all (fun p => stampOk x.n p.stamp && (decide (of x.seen i < of p.stamp i) && decide (of p.stamp i ≤ of x.seen i + KEPT))) && rising (counts (x.waiting i) i) else x.waiting i == []) = true := by
    unfold waitingSo
    rw [List.all_eq_true, List.all_eq_true]
    constructor
    · rintro ⟨h, hs⟩ i hi
      have q := h i hi
      rw [Bool.and_eq_true, Bool.or_eq_true, rises_iff] at q
      rw [contains_others]
      by_cases o : isOther x i = true
      · rw [if_pos o, Bool.and_eq_true, List.all_eq_true]
        refine ⟨fun p hp => ?_, q.2.2⟩
        have z := q.2.1 (of p.stamp i) (List.mem_map.mpr ⟨p, hp, rfl⟩)
        have z2 := hs i (List.mem_range.mp hi)
        rw [List.all_eq_true] at z2
        rw [Bool.and_eq_true, Bool.and_eq_true, decide_eq_true_iff, decide_eq_true_iff]
        exact ⟨z2 p hp, z.1, z.2⟩
      · rw [if_neg o]
        have z := q.1.resolve_left o
        rw [List.isEmpty_iff] at z
        rw [z]
        rfl
    · intro h
      have hh : ∀ i, i < 8 → (isOther x i = true ∧ (∀ p, p ∈ x.waiting i → stampOk x.n p.stamp = true ∧ of x.seen i < of p.stamp i ∧ of p.stamp i ≤ of x.seen i + 32) ∧ rising (counts (x.waiting i) i) = true) ∨ (isOther x i = false ∧ x.waiting i = []) := fun i hi => by
        have q := h i (List.mem_range.mpr hi)
        rw [contains_others] at q
        cases o : isOther x i with
        | true =>
          rw [o, if_pos rfl, Bool.and_eq_true, List.all_eq_true] at q
          refine .inl ⟨rfl, fun p hp => ?_, q.2⟩
          have z := q.1 p hp
          rw [Bool.and_eq_true, Bool.and_eq_true, decide_eq_true_iff, decide_eq_true_iff] at z
          exact ⟨z.1, z.2.1, z.2.2⟩
        | false =>
          rw [o, if_neg (by decide)] at q
          exact .inr ⟨rfl, eq_of_beq q⟩
      refine ⟨fun i hi => ?_, fun i hi => ?_⟩
      · rw [Bool.and_eq_true, Bool.or_eq_true, rises_iff]
        rcases hh i (List.mem_range.mp hi) with ⟨o, hp, hr⟩ | ⟨o, hw⟩
        · refine ⟨.inl o, fun c hc => ?_, hr⟩
          obtain ⟨p, hpm, rfl⟩ := List.mem_map.mp hc
          exact ⟨(hp p hpm).2.1, (hp p hpm).2.2⟩
        · rw [hw]
          exact ⟨.inr rfl, fun c hc => by simp [counts] at hc, rfl⟩
      · rcases hh i hi with ⟨o, hp, hr⟩ | ⟨o, hw⟩
        · rw [List.all_eq_true]
          exact fun p hpm => (hp p hpm).1
        · rw [hw]
          rfl
  rw [Bool.and_eq_true, Bool.and_eq_true, ek, em, ← ew]
  constructor
  · rintro ⟨⟨⟨⟨a1, a2⟩, b1, b2⟩, c⟩, d, e⟩
    exact ⟨a1, a2, d, b1, b2, c, e⟩
  · rintro ⟨a1, a2, d, b1, b2, c, e⟩
    exact ⟨⟨⟨⟨a1, a2⟩, b1, b2⟩, c⟩, d, e⟩
/-- **the program's reading is the specification's** -/
theorem rdNode_eq (b : Bytes) (hb : b.length = 30608) (hs : Small b) : rdNode b = load b := by
  apply eq_of_iff_some
  intro x
  have hrow : ∀ i, i < 8 → (rowOf b (3920 + 3336 * i)).length = 3336 := fun i hi => rowOf_length (by omega)
  have hr0 : (rowOf b 584).length = 3336 := rowOf_length (by omega)
  have sw : ∀ i, i < 8 → (said b).waiting i = rowAt (rowOf b (3920 + 3336 * i)) 0 := fun i hi => by rw [said_waiting b hi, rowAt_row b _ (by omega)]
  have so : (said b).own = rowAt (rowOf b 584) 0 := rowAt_row b 584 (by omega)
  have sn : (said b).n = b.getD 1 0 := rfl
  -- the specification's side
  have hL : load b = some x ↔ x = said b ∧ ((2 ≤ (said b).n ∧ (said b).n ≤ 8 ∧ (said b).me < (said b).n) ∧ ((knownSo (said b) && mineSo (said b) && waitingSo (said b)) = true ∧ ((said b).own.all fun p => stampOk (said b).n p.stamp) = true ∧ (∀ i, i < 8 → (((said b).waiting i).all fun p => stampOk (said b).n p.stamp) = true)) ∧ save (said b) = b) := by
    rw [so_iff b (said b) rfl]
    unfold load
    simp only []
    constructor
    · intro h
      split at h
      · rename_i q
        cases h
        obtain ⟨_, q2, q3, q4, q5, q6, q7, q8, q9, q10, q11⟩ := q
        exact ⟨rfl, ⟨q2, q3, q4⟩, ⟨q5, q6, q7, q8, q9, q10⟩, q11⟩
      · cases h
    · rintro ⟨rfl, ⟨q2, q3, q4⟩, ⟨q5, q6, q7, q8, q9, q10⟩, q11⟩
      rw [if_pos ⟨hb, q2, q3, q4, q5, q6, q7, q8, q9, q10, q11⟩]
  rw [hL, save_said b hb hs]
  unfold rdNode
  by_cases hh : (decide (2 ≤ b.getD 1 0) && decide (b.getD 1 0 ≤ 8) && decide (b.getD 0 0 < b.getD 1 0) && zer ((b.drop 2).take 6)) = true
  · rw [if_pos hh]
    rw [Bool.and_eq_true, Bool.and_eq_true, Bool.and_eq_true, decide_eq_true_iff, decide_eq_true_iff, decide_eq_true_iff] at hh
    obtain ⟨⟨⟨h1, h2⟩, h3⟩, h4⟩ := hh
    cases e0 : rdPosts (b.getD 1 0) (rowOf b 584) with
    | none =>
      constructor
      · intro q; cases q
      · rintro ⟨_, _, ⟨_, q1, _⟩, _, q2, _⟩
        have := (rdPosts_iff (b.getD 1 0) (rowOf b 584) hr0 (hs.rowOf _) _).mpr ⟨q2, by rw [so, sn] at q1; exact q1, rfl⟩
        rw [e0] at this
        cases this
    | some own =>
      obtain ⟨o1, o2, o3⟩ := (rdPosts_iff _ _ hr0 (hs.rowOf _) _).mp e0
      simp only []
      by_cases hn : ((List.range 8).map fun j => rdPosts (b.getD 1 0) (rowOf b (3920 + 3336 * j))).any (·.isNone) = true
      · rw [if_pos hn]
        constructor
        · intro q; cases q
        · rintro ⟨_, _, ⟨_, _, q1⟩, _, _, q2⟩
          exfalso
          rw [List.any_eq_true] at hn
          obtain ⟨o, ho, hz⟩ := hn
          obtain ⟨i, hi, rfl⟩ := List.mem_map.mp ho
          have hi8 := List.mem_range.mp hi
          have z := q1 i hi8
          rw [sw i hi8, sn] at z
          have := (rdPosts_iff (b.getD 1 0) (rowOf b (3920 + 3336 * i)) (hrow i hi8) (hs.rowOf _) _).mpr ⟨q2 i hi8, z, rfl⟩
          rw [this] at hz
          cases hz
      · rw [if_neg hn]
        have hall : ∀ i, i < 8 → rdPosts (b.getD 1 0) (rowOf b (3920 + 3336 * i)) = some (rowAt (rowOf b (3920 + 3336 * i)) 0) := fun i hi => by
          cases e : rdPosts (b.getD 1 0) (rowOf b (3920 + 3336 * i)) with
          | none =>
            exfalso
            apply hn
            rw [List.any_eq_true]
            exact ⟨_, List.mem_map.mpr ⟨i, List.mem_range.mpr hi, rfl⟩, by rw [e]; rfl⟩
          | some l =>
            obtain ⟨_, _, q⟩ := (rdPosts_iff _ _ (hrow i hi) (hs.rowOf _) _).mp e
            rw [q]
        have hfm := filterMap_some (fun j => rdPosts (b.getD 1 0) (rowOf b (3920 + 3336 * j))) (fun j => rowAt (rowOf b (3920 + 3336 * j)) 0) (List.range 8) fun i hi => hall i (List.mem_range.mp hi)
        rw [rdNode_said b hb o3 hfm]
        constructor
        · intro q
          by_cases hg : (knownSo (said b) && mineSo (said b) && waitingSo (said b)) = true
          · rw [if_pos hg] at q
            cases q
            refine ⟨rfl, ⟨h1, h2, h3⟩, ⟨hg, ?_, fun i hi => ?_⟩, h4, o1, fun i hi => ?_⟩
            · rw [so, sn]; exact o2
            · obtain ⟨_, z, _⟩ := (rdPosts_iff _ _ (hrow i hi) (hs.rowOf _) _).mp (hall i hi)
              rw [sw i hi, sn]; exact z
            · obtain ⟨z, _, _⟩ := (rdPosts_iff _ _ (hrow i hi) (hs.rowOf _) _).mp (hall i hi)
              exact z
          · rw [if_neg hg] at q
            cases q
        · rintro ⟨rfl, _, ⟨hg, _⟩, _⟩
          rw [if_pos hg]
  · rw [if_neg hh]
    constructor
    · intro q; cases q
    · rintro ⟨_, ⟨q1, q2, q3⟩, _, q4, _⟩
      exfalso
      apply hh
      rw [Bool.and_eq_true, Bool.and_eq_true, Bool.and_eq_true, decide_eq_true_iff, decide_eq_true_iff, decide_eq_true_iff]
      exact ⟨⟨⟨q1, q2⟩, q3⟩, q4⟩
end Po

namespace Po
open Sv27
set_option linter.all false
def fromOther (me n : Nat) (b : Bytes) : Bool := decide (b.getD 0 0 = me) && (decide (b.getD 2 0 < n) && decide (b.getD 2 0 ≠ me))
def rightPost (n : Nat) (b : Bytes) : Bool := isPad (b.getD 3 0) (b.drop 68) && (stampOk n (stampOf (b.drop 4)) && decide (1 ≤ of (stampOf (b.drop 4)) (b.getD 2 0)))
def rightSeen (n : Nat) (b : Bytes) : Bool := decide (b.getD 3 0 = 0) && stampOk n (stampOf (b.drop 4))
def isRight (me n : Nat) (b : Bytes) : Bool :=
  if b.length = 100 ∧ b.getD 1 0 = 1 then fromOther me n b && rightPost n b
  else if b.length = 68 ∧ b.getD 1 0 = 2 then fromOther me n b && rightSeen n b
  else false
theorem take_four : ∀ {b : Bytes}, 4 ≤ b.length → b.take 4 = [b.getD 0 0, b.getD 1 0, b.getD 2 0, b.getD 3 0]
  | [], h => by simp at h
  | [_], h => by simp at h
  | [_, _], h => by simp at h
  | [_, _, _], h => by simp at h
  | _ :: _ :: _ :: _ :: _, _ => rfl
theorem letter_post {b : Bytes} (hs : Small b) (hl : b.length = 100) : letterOf b = if b.getD 1 0 = 1 ∧ isPad (b.getD 3 0) (b.drop 68) = true then some ⟨b.getD 0 0, b.getD 2 0, .post ⟨stampOf (b.drop 4), (b.drop 68).take (b.getD 3 0)⟩⟩ else none := by
  have hr : (b.drop 68).length = 32 := by rw [List.length_drop]; omega
  have e : (⟨b.getD 0 0, b.getD 2 0, if b.length = 100 then .post ⟨stampOf (b.drop 4), (b.drop 68).take (min 31 (b.getD 3 0))⟩ else .seen (stampOf (b.drop 4))⟩ : Letter) = ⟨b.getD 0 0, b.getD 2 0, .post ⟨stampOf (b.drop 4), (b.drop 68).take (min 31 (b.getD 3 0))⟩⟩ := by rw [if_pos hl]
  unfold letterOf
  simp only []
  rw [e]
  have tl : ((b.drop 68).take (min 31 (b.getD 3 0))).length = min 31 (b.getD 3 0) := by rw [List.length_take]; omega
  have hb : (⟨b.getD 0 0, b.getD 2 0, .post ⟨stampOf (b.drop 4), (b.drop 68).take (min 31 (b.getD 3 0))⟩⟩ : Letter).bytes = b ↔ (b.getD 1 0 = 1 ∧ isPad (b.getD 3 0) (b.drop 68) = true) := by
    rw [← pad_iff hr]
    show [b.getD 0 0, 1, b.getD 2 0, ((b.drop 68).take (min 31 (b.getD 3 0))).length] ++ (stampBytes (stampOf (b.drop 4)) ++ padded ((b.drop 68).take (min 31 (b.getD 3 0)))) = b ↔ _
    rw [tl, app_iff, app_iff, stampBytes_length, stampBytes_of _ (by rw [List.length_drop]; omega) (hs.drop _), List.drop_drop]
    show [b.getD 0 0, 1, b.getD 2 0, min 31 (b.getD 3 0)] = b.take 4 ∧ _ ∧ padded ((b.drop 68).take (min 31 (b.getD 3 0))) = b.drop 68 ↔ _
    rw [take_four (by omega)]
    constructor
    · rintro ⟨h1, _, h3⟩
      injection h1 with _ h1
      injection h1 with a h1
      injection h1 with _ h1
      injection h1 with c h1
      exact ⟨a.symm, c, h3⟩
    · rintro ⟨h1, h2, h3⟩
      exact ⟨by rw [h1, h2], rfl, h3⟩
  by_cases q : b.getD 1 0 = 1 ∧ isPad (b.getD 3 0) (b.drop 68) = true
  · rw [if_pos q, if_pos (hb.mpr q)]
    have hL : min 31 (b.getD 3 0) = b.getD 3 0 := ((pad_iff hr).mpr q.2).1
    rw [hL]
  · rw [if_neg q, if_neg (fun z => q (hb.mp z))]
theorem letter_seen {b : Bytes} (hs : Small b) (hl : b.length ≠ 100) : letterOf b = if b.length = 68 ∧ b.getD 1 0 = 2 ∧ b.getD 3 0 = 0 then some ⟨b.getD 0 0, b.getD 2 0, .seen (stampOf (b.drop 4))⟩ else none := by
  have e : (⟨b.getD 0 0, b.getD 2 0, if b.length = 100 then .post ⟨stampOf (b.drop 4), (b.drop 68).take (min 31 (b.getD 3 0))⟩ else .seen (stampOf (b.drop 4))⟩ : Letter) = ⟨b.getD 0 0, b.getD 2 0, .seen (stampOf (b.drop 4))⟩ := by rw [if_neg hl]
  unfold letterOf
  simp only []
  rw [e]
  have hb : (⟨b.getD 0 0, b.getD 2 0, .seen (stampOf (b.drop 4))⟩ : Letter).bytes = b ↔ (b.length = 68 ∧ b.getD 1 0 = 2 ∧ b.getD 3 0 = 0) := by
    show [b.getD 0 0, 2, b.getD 2 0, 0] ++ stampBytes (stampOf (b.drop 4)) = b ↔ _
    constructor
    · intro h
      have hb : b.length = 68 := by
        rw [← h, List.length_append, stampBytes_length]
        rfl
      rw [app_iff] at h
      have h1 : [b.getD 0 0, 2, b.getD 2 0, 0] = b.take 4 := h.1
      rw [take_four (by omega)] at h1
      injection h1 with _ h1
      injection h1 with a h1
      injection h1 with _ h1
      injection h1 with c h1
      exact ⟨hb, a.symm, c.symm⟩
    · rintro ⟨h1, h2, h3⟩
      rw [app_iff]
      refine ⟨?_, ?_⟩
      · show [b.getD 0 0, 2, b.getD 2 0, 0] = b.take 4
        rw [take_four (by omega), h2, h3]
      · rw [stampBytes_of _ (by rw [List.length_drop]; omega) (hs.drop _)]
        exact List.take_of_length_le (by simp only [List.length_drop]; omega)
  by_cases q : b.length = 68 ∧ b.getD 1 0 = 2 ∧ b.getD 3 0 = 0
  · rw [if_pos q, if_pos (hb.mpr q)]
  · rw [if_neg q, if_neg (fun z => q (hb.mp z))]
theorem right_post (x : Node) (to s : Nat) (p : Post) (h : p.text.length ≤ 31) : right x ⟨to, s, .post p⟩ = ((decide (to = x.me) && (decide (s < x.n) && decide (s ≠ x.me))) && (stampOk x.n p.stamp && decide (1 ≤ of p.stamp s))) := by
  unfold right
  simp only []
  rw [decide_eq_true h, Bool.true_and]
  by_cases a : to = x.me <;> by_cases b : s = x.me <;> by_cases c : s < x.n <;> simp [a, b, c]
theorem right_seen (x : Node) (to s : Nat) (st : Stamp) : right x ⟨to, s, .seen st⟩ = ((decide (to = x.me) && (decide (s < x.n) && decide (s ≠ x.me))) && stampOk x.n st) := by
  unfold right
  simp only []
  by_cases a : to = x.me <;> by_cases b : s = x.me <;> by_cases c : s < x.n <;> simp [a, b, c]
/-- **the program's question and the specification's** -/
theorem isRight_eq (x : Node) {b : Bytes} (hs : Small b) : isRight x.me x.n b = (match letterOf b with | none => false | some l => right x l) := by
  unfold isRight
  by_cases hl : b.length = 100
  · rw [letter_post hs hl]
    by_cases h1 : b.getD 1 0 = 1
    · rw [if_pos ⟨hl, h1⟩]
      by_cases hp : isPad (b.getD 3 0) (b.drop 68) = true
      · rw [if_pos ⟨h1, hp⟩]
        simp only []
        rw [right_post]
        · unfold fromOther rightPost
          rw [hp, Bool.true_and]
        · have : b.getD 3 0 ≤ 31 := by
            unfold isPad at hp
            rw [Bool.and_eq_true, decide_eq_true_iff] at hp
            exact hp.1
          show ((b.drop 68).take (b.getD 3 0)).length ≤ 31
          rw [List.length_take]
          omega
      · rw [if_neg (fun q => hp q.2)]
        unfold rightPost
        rw [Bool.eq_false_iff.mpr hp, Bool.false_and, Bool.and_false]
    · rw [if_neg (fun q => h1 q.2), if_neg (fun q => absurd q.1 (by rw [hl]; decide)), if_neg (fun q => h1 q.1)]
  · rw [if_neg (fun q => hl q.1), letter_seen hs hl]
    by_cases h2 : b.length = 68 ∧ b.getD 1 0 = 2
    · rw [if_pos h2]
      by_cases h3 : b.getD 3 0 = 0
      · rw [if_pos ⟨h2.1, h2.2, h3⟩]
        simp only []
        rw [right_seen]
        unfold fromOther rightSeen
        rw [decide_eq_true h3, Bool.true_and]
      · rw [if_neg (fun q => h3 q.2.2)]
        unfold rightSeen
        rw [decide_eq_false h3, Bool.false_and, Bool.and_false]
    · rw [if_neg h2, if_neg (fun q => h2 ⟨q.1, q.2.1⟩)]
end Po

namespace Po
open Sv27
set_option linter.all false
/-! ### what holds of every node that is reached -/
structure PostOk (n : Nat) (p : Post) : Prop where
  st : stampOk n p.stamp = true
  tx : p.text.length ≤ 31
theorem PostOk.len {n : Nat} {p : Post} (h : PostOk n p) : p.stamp.length = 8 := by
  have q := h.st
  unfold stampOk at q
  rw [Bool.and_eq_true, beq_iff_eq] at q
  exact q.1
theorem stampOk_len {n : Nat} {s : Stamp} (q : stampOk n s = true) : s.length = 8 := by
  unfold stampOk at q
  rw [Bool.and_eq_true, beq_iff_eq] at q
  exact q.1
structure WF (x : Node) : Prop where
  n2 : 2 ≤ x.n
  n8 : x.n ≤ 8
  me : x.me < x.n
  seen : x.seen.length = 8
  known : x.known.length = 8
  knownL : ∀ s, s ∈ x.known → s.length = 8
  ownL : x.own.length ≤ 32
  own : ∀ p, p ∈ x.own → p.stamp.length = 8 ∧ p.text.length ≤ 31
  waitsL : x.waits.length = 8
  waits : ∀ ps, ps ∈ x.waits → ∀ p, p ∈ ps → PostOk x.n p
  rise : ∀ i, i < 8 → risesFrom (of x.seen i + 32) (of x.seen i) (counts (x.waiting i) i) = true
  wme : x.waiting x.me = []
theorem waiting_get (x : Node) (h : x.waits.length = 8) {i : Nat} (hi : i < 8) : x.waits[i]? = some (x.waiting i) := by
  unfold Node.waiting
  rw [List.getD_eq_getElem?_getD, List.getElem?_eq_getElem (by omega)]
  rfl
theorem knows_get (x : Node) (h : x.known.length = 8) {i : Nat} (hi : i < 8) : x.known[i]? = some (x.knows i) := by
  unfold Node.knows
  rw [List.getD_eq_getElem?_getD, List.getElem?_eq_getElem (by omega)]
  rfl
theorem WF.waiting_mem {x : Node} (h : WF x) {i : Nat} (hi : i < 8) : x.waiting i ∈ x.waits := List.mem_of_getElem? (waiting_get x h.waitsL hi)
theorem WF.waiting_len {x : Node} (h : WF x) {i : Nat} (hi : i < 8) : (x.waiting i).length ≤ 32 := by
  have q := rises_length (h.rise i hi) (by omega)
  unfold counts at q
  rw [List.length_map] at q
  omega
theorem of_set (s : Stamp) (i j v : Nat) (h : i < s.length) : of (s.set i v) j = if j = i then v else of s j := by
  unfold of
  rw [List.getD_eq_getElem?_getD, List.getD_eq_getElem?_getD, List.getElem?_set]
  by_cases e : i = j
  · subst e
    rw [if_pos rfl, if_pos h, if_pos rfl]
    rfl
  · rw [if_neg e, if_neg (fun q => e q.symm)]
theorem waiting_set (x : Node) (l : List Post) (i j : Nat) (h : i < x.waits.length) : (({ x with waits := x.waits.set i l } : Node)).waiting j = if j = i then l else x.waiting j := by
  unfold Node.waiting
  show (x.waits.set i l).getD j [] = _
  rw [List.getD_eq_getElem?_getD, List.getD_eq_getElem?_getD, List.getElem?_set]
  by_cases e : i = j
  · subst e
    rw [if_pos rfl, if_pos h, if_pos rfl]
    rfl
  · rw [if_neg e, if_neg (fun q => e q.symm)]
theorem rises_mono {hi hi' : Nat} (h : hi ≤ hi') : ∀ {l : List Nat} {b : Nat}, risesFrom hi b l = true → risesFrom hi' b l = true
  | [], b, _ => rfl
  | a :: r, b, q => by
    have e : ∀ hi, risesFrom hi b (a :: r) = (decide (b < a) && decide (a ≤ hi) && risesFrom hi a r) := fun _ => rfl
    rw [e, Bool.and_eq_true, Bool.and_eq_true, decide_eq_true_iff, decide_eq_true_iff] at q ⊢
    exact ⟨⟨q.1.1, by omega⟩, rises_mono h q.2⟩
/-! ### the others -/
theorem filter_ne_length {me : Nat} : ∀ n : Nat, ((List.range n).filter fun i => i != me).length = if me < n then n - 1 else n
  | 0 => by simp
  | n + 1 => by
    rw [List.range_succ, List.filter_append, List.length_append, filter_ne_length n]
    by_cases h : n = me
    · subst h
      rw [if_neg (Nat.lt_irrefl _), if_pos (Nat.lt_succ_self _)]
      simp
    · have e : ([n].filter fun i => i != me).length = 1 := by simp [h]
      rw [e]
      by_cases q : me < n
      · rw [if_pos q, if_pos (by omega)]
        omega
      · rw [if_neg q, if_neg (by omega)]
theorem others_length {x : Node} (h : x.me < x.n) : x.others.length = x.n - 1 := by
  unfold Node.others
  rw [filter_ne_length, if_pos h]
theorem mem_others {x : Node} {i : Nat} : i ∈ x.others ↔ i < x.n ∧ i ≠ x.me := by
  unfold Node.others
  rw [List.mem_filter, List.mem_range, bne_iff_ne]
/-! ### letters' lengths -/
theorem postL_length {to s : Nat} {p : Post} (h : p.text.length ≤ 31) : (Letter.bytes ⟨to, s, .post p⟩).length = 100 := by
  show ([to, 1, s, p.text.length] ++ (stampBytes p.stamp ++ padded p.text)).length = 100
  rw [List.length_append, List.length_append, stampBytes_length, padded_length (by omega)]
  rfl
theorem seenL_length {to s : Nat} {st : Stamp} : (Letter.bytes ⟨to, s, .seen st⟩).length = 68 := by
  show ([to, 2, s, 0] ++ stampBytes st).length = 68
  rw [List.length_append, stampBytes_length]
  rfl
/-! ### post -/
theorem WF.post {x : Node} (h : WF x) (ho : x.open_ = true) {t : Bytes} (ht : t.length ≤ 31) : WF (Sv27.post x t).1 := by
  have hme : x.me < x.seen.length := by rw [h.seen]; have := h.me; have := h.n8; omega
  unfold Node.open_ at ho
  rw [Bool.and_eq_true, decide_eq_true_iff, decide_eq_true_iff] at ho
  refine ⟨h.n2, h.n8, h.me, ?_, h.known, h.knownL, ?_, ?_, h.waitsL, h.waits, ?_, h.wme⟩
  · show (x.seen.set x.me _).length = 8
    rw [List.length_set]
    exact h.seen
  · show (x.own ++ [_]).length ≤ 32
    rw [List.length_append]
    have : x.own.length < 32 := ho.1
    simp only [List.length_nil, List.length_cons]
    omega
  · intro p hp
    rcases (List.mem_append.mp hp) with q | q
    · exact h.own p q
    · rw [List.mem_singleton.mp q]
      refine ⟨?_, ht⟩
      show (x.seen.set x.me _).length = 8
      rw [List.length_set]
      exact h.seen
  · intro i hi
    show risesFrom (of (x.seen.set x.me _) i + 32) (of (x.seen.set x.me _) i) (counts (x.waiting i) i) = true
    rw [of_set _ _ _ _ hme]
    by_cases e : i = x.me
    · rw [if_pos e, e, h.wme]
      rfl
    · rw [if_neg e]
      exact h.rise i hi
/-! ### a post that waits -/
theorem among_eq (a : Nat) (p : Post) : ∀ (l : List Post), rising (counts l a) = true → (∀ c, c ∈ counts l a → c ≠ of p.stamp a) →
    among a p l = l.take ((counts l a).filter fun c => decide (c < of p.stamp a)).length ++ [p] ++ l.drop ((counts l a).filter fun c => decide (c < of p.stamp a)).length
  | [], _, _ => rfl
  | q :: r, hr, hn => by
    have hc : counts (q :: r) a = of q.stamp a :: counts r a := rfl
    rw [hc] at hr hn ⊢
    have hr' := rising_cons.mp hr
    have e : among a p (q :: r) = if of p.stamp a < of q.stamp a then p :: q :: r else q :: among a p r := rfl
    rw [e]
    by_cases c : of p.stamp a < of q.stamp a
    · have ef : (of q.stamp a :: counts r a).filter (fun c => decide (c < of p.stamp a)) = [] := by
        rw [List.filter_eq_nil_iff]
        intro z hz
        rw [decide_eq_true_iff]
        rcases List.mem_cons.mp hz with w | w
        · omega
        · have := hr'.1 z w
          omega
      rw [if_pos c, ef]
      rfl
    · have lt : of q.stamp a < of p.stamp a := by
        have := hn (of q.stamp a) (List.mem_cons_self ..)
        omega
      rw [if_neg c, List.filter_cons, if_pos (decide_eq_true lt), List.length_cons, List.take_succ_cons, List.drop_succ_cons, among_eq a p r hr'.2 fun z hz => hn z (List.mem_cons_of_mem _ hz)]
      rfl
theorem among_mem {a : Nat} {p q : Post} : ∀ {l : List Post}, q ∈ among a p l → q = p ∨ q ∈ l
  | [], h => Or.inl (List.mem_singleton.mp h)
  | x :: r, h => by
    have e : among a p (x :: r) = if of p.stamp a < of x.stamp a then p :: x :: r else x :: among a p r := rfl
    rw [e] at h
    split at h
    · rcases (List.mem_cons.mp h) with z | z
      · exact .inl z
      · exact .inr z
    · rcases (List.mem_cons.mp h) with z | z
      · exact .inr (by rw [z]; exact List.mem_cons_self ..)
      · rcases among_mem z with w | w
        · exact .inl w
        · exact .inr (List.mem_cons_of_mem _ w)
theorem among_rises {a hi : Nat} {p : Post} (h2 : of p.stamp a ≤ hi) : ∀ {l : List Post} {b : Nat}, b < of p.stamp a → risesFrom hi b (counts l a) = true → (∀ c, c ∈ counts l a → c ≠ of p.stamp a) → risesFrom hi b (counts (among a p l) a) = true
  | [], b, h1, _, _ => by
    show (decide (b < of p.stamp a) && decide (of p.stamp a ≤ hi) && true) = true
    rw [decide_eq_true h1, decide_eq_true h2]
    rfl
  | q :: r, b, h1, h3, hn => by
    have e3 : risesFrom hi b (counts (q :: r) a) = (decide (b < of q.stamp a) && decide (of q.stamp a ≤ hi) && risesFrom hi (of q.stamp a) (counts r a)) := rfl
    rw [e3, Bool.and_eq_true, Bool.and_eq_true, decide_eq_true_iff, decide_eq_true_iff] at h3
    have e : among a p (q :: r) = if of p.stamp a < of q.stamp a then p :: q :: r else q :: among a p r := rfl
    rw [e]
    by_cases c : of p.stamp a < of q.stamp a
    · rw [if_pos c]
      show (decide (b < of p.stamp a) && decide (of p.stamp a ≤ hi) && (decide (of p.stamp a < of q.stamp a) && decide (of q.stamp a ≤ hi) && risesFrom hi (of q.stamp a) (counts r a))) = true
      rw [decide_eq_true h1, decide_eq_true h2, decide_eq_true c, decide_eq_true h3.1.2, h3.2]
      rfl
    · rw [if_neg c]
      have lt : of q.stamp a < of p.stamp a := by
        have := hn (of q.stamp a) (List.mem_cons_self ..)
        omega
      show (decide (b < of q.stamp a) && decide (of q.stamp a ≤ hi) && risesFrom hi (of q.stamp a) (counts (among a p r) a)) = true
      rw [decide_eq_true h3.1.1, decide_eq_true h3.1.2, among_rises h2 lt h3.2 fun z hz => hn z (List.mem_cons_of_mem _ hz)]
      rfl
theorem mem_set_cases {α : Type} {l : List α} {i : Nat} {v y : α} (h : y ∈ l.set i v) : y = v ∨ y ∈ l := by
  obtain ⟨j, hj⟩ := List.mem_iff_getElem?.mp h
  rw [List.getElem?_set] at hj
  split at hj
  · split at hj
    · exact .inl (Option.some.inj hj).symm
    · cases hj
  · exact .inr (List.mem_of_getElem? hj)
theorem WF.receive {x : Node} (h : WF x) {l : Letter} (hr : right x l = true) (ht : ∀ p, l.body = .post p → p.text.length ≤ 31) : WF (Sv27.receive x l).1 := by
  obtain ⟨to, s, body⟩ := l
  cases body with
  | post p =>
    rw [right_post x to s p (ht p rfl)] at hr
    rw [Bool.and_eq_true, Bool.and_eq_true, Bool.and_eq_true, Bool.and_eq_true, decide_eq_true_iff, decide_eq_true_iff, decide_eq_true_iff, decide_eq_true_iff] at hr
    obtain ⟨⟨_, h1, h2⟩, h3, h4⟩ := hr
    have hs8 : s < 8 := by have := h.n8; omega
    show WF (if of p.stamp s ≤ of x.seen s then (x, ([⟨s, x.me, .seen x.seen⟩] : List Letter))
      else if of p.stamp s ≤ of x.seen s + KEPT ∧ ((x.waiting s).all fun q => of q.stamp s != of p.stamp s) = true then ({ x with waits := x.waits.set s (among s p (x.waiting s)) }, [])
      else (x, [])).1
    by_cases c1 : of p.stamp s ≤ of x.seen s
    · rw [if_pos c1]
      exact h
    rw [if_neg c1]
    by_cases c2 : of p.stamp s ≤ of x.seen s + KEPT ∧ ((x.waiting s).all fun q => of q.stamp s != of p.stamp s) = true
    · rw [if_pos c2]
      have hl : s < x.waits.length := by rw [h.waitsL]; exact hs8
      have hn : ∀ c, c ∈ counts (x.waiting s) s → c ≠ of p.stamp s := fun c hc => by
        obtain ⟨q, hq, rfl⟩ := List.mem_map.mp hc
        have z := List.all_eq_true.mp c2.2 q hq
        exact bne_iff_ne.mp z
      refine ⟨h.n2, h.n8, h.me, h.seen, h.known, h.knownL, h.ownL, h.own, ?_, ?_, ?_, ?_⟩
      · show (x.waits.set s _).length = 8
        rw [List.length_set]
        exact h.waitsL
      · intro ps hps q hq
        rcases mem_set_cases hps with z | z
        · rw [z] at hq
          rcases among_mem hq with w | w
          · rw [w]; exact ⟨h3, ht p rfl⟩
          · exact h.waits _ (h.waiting_mem hs8) q w
        · exact h.waits ps z q hq
      · intro i hi
        show risesFrom (of x.seen i + 32) (of x.seen i) (counts (({ x with waits := x.waits.set s (among s p (x.waiting s)) } : Node).waiting i) i) = true
        rw [waiting_set x _ s i hl]
        by_cases e : i = s
        · rw [if_pos e, e]
          exact among_rises c2.1 (by omega) (h.rise s hs8) hn
        · rw [if_neg e]
          exact h.rise i hi
      · show ({ x with waits := x.waits.set s (among s p (x.waiting s)) } : Node).waiting x.me = []
        rw [waiting_set x _ s x.me hl, if_neg (fun q => h2 q.symm)]
        exact h.wme
    · rw [if_neg c2]
      exact h
  | seen st =>
    have hs : s < 8 := by
      rw [right_seen] at hr
      rw [Bool.and_eq_true, Bool.and_eq_true, Bool.and_eq_true, decide_eq_true_iff, decide_eq_true_iff, decide_eq_true_iff] at hr
      have := h.n8
      omega
    show WF (Node.drops { x with known := x.known.set s (greater (x.knows s) st) })
    have hdrop : ∀ p, p ∈ x.own.dropWhile (fun p => x.others.all fun i => decide (of p.stamp x.me ≤ of (({ x with known := x.known.set s (greater (x.knows s) st) } : Node).knows i) x.me)) → p ∈ x.own := fun p hp => (List.dropWhile_sublist _).subset hp
    refine ⟨h.n2, h.n8, h.me, h.seen, ?_, ?_, ?_, ?_, h.waitsL, h.waits, h.rise, h.wme⟩
    · show (x.known.set s _).length = 8
      rw [List.length_set]
      exact h.known
    · intro q hq
      rcases mem_set_cases hq with z | z
      · rw [z]
        simp [greater]
      · exact h.knownL q z
    · exact Nat.le_trans (List.dropWhile_sublist _).length_le h.ownL
    · intro p hp
      exact h.own p (hdrop p hp)
theorem next_some {x : Node} {r : Node × Nat × Post} (h : Sv27.next x = some r) : ∃ a p rest, a ∈ x.others ∧ x.waiting a = p :: rest ∧ of p.stamp a = of x.seen a + 1 ∧ r = (Node.more { x with waits := x.waits.set a rest } a, a, p) := by
  unfold Sv27.next at h
  cases e : x.others.find? fun a => (x.showable a).isSome with
  | none => (rw [e] at h; cases h)
  | some a =>
    rw [e] at h
    have ha := List.mem_of_find?_eq_some e
    have h : ((x.showable a).map fun p => (Node.more { x with waits := x.waits.set a ((x.waiting a).drop 1) } a, a, p)) = some r := h
    cases es : x.showable a with
    | none => rw [es] at h; cases h
    | some p =>
      rw [es] at h
      have h : some (Node.more { x with waits := x.waits.set a ((x.waiting a).drop 1) } a, a, p) = some r := h
      unfold Node.showable at es
      cases ew : x.waiting a with
      | nil => rw [ew] at es; cases es
      | cons q rest =>
        rw [ew] at es h
        have es : (if of q.stamp a = of x.seen a + 1 ∧ ((List.range 8).all fun i => i == a || decide (of q.stamp i ≤ of x.seen i)) = true then some q else none) = some p := es
        split at es
        · rename_i c
          cases es
          exact ⟨a, p, rest, ha, ew, c.1, (Option.some.inj h).symm⟩
        · cases es
theorem WF.next {x : Node} (h : WF x) {r : Node × Nat × Post} (hr : Sv27.next x = some r) : WF r.1 := by
  obtain ⟨a, p, rest, ha, hw, hc, rfl⟩ := next_some hr
  have ho := mem_others.mp ha
  have ha8 : a < 8 := by have := h.n8; omega
  have hl : a < x.waits.length := by rw [h.waitsL]; exact ha8
  have hsl : a < x.seen.length := by rw [h.seen]; exact ha8
  have hmem := h.waiting_mem ha8
  refine ⟨h.n2, h.n8, h.me, ?_, h.known, h.knownL, h.ownL, h.own, ?_, ?_, ?_, ?_⟩
  · show (x.seen.set a _).length = 8
    rw [List.length_set]
    exact h.seen
  · show (x.waits.set a _).length = 8
    rw [List.length_set]
    exact h.waitsL
  · intro ps hps q hq
    rcases mem_set_cases hps with z | z
    · rw [z] at hq
      exact h.waits _ hmem q (by rw [hw]; exact List.mem_cons_of_mem _ hq)
    · exact h.waits ps z q hq
  · intro i hi
    show risesFrom (of (x.seen.set a (of x.seen a + 1)) i + 32) (of (x.seen.set a (of x.seen a + 1)) i) (counts (({ x with waits := x.waits.set a rest } : Node).waiting i) i) = true
    rw [waiting_set x _ a i hl, of_set _ _ _ _ hsl]
    by_cases e : i = a
    · rw [if_pos e, if_pos e, e]
      have z := h.rise a ha8
      rw [hw] at z
      have e3 : risesFrom (of x.seen a + 32) (of x.seen a) (counts (p :: rest) a) = (decide (of x.seen a < of p.stamp a) && decide (of p.stamp a ≤ of x.seen a + 32) && risesFrom (of x.seen a + 32) (of p.stamp a) (counts rest a)) := rfl
      rw [e3, Bool.and_eq_true, hc] at z
      exact rises_mono (by omega) z.2
    · rw [if_neg e, if_neg e]
      exact h.rise i hi
  · show ({ x with waits := x.waits.set a rest } : Node).waiting x.me = []
    rw [waiting_set x _ a x.me hl, if_neg (fun q => ho.2 q.symm)]
    exact h.wme
theorem WF.fresh {me n : Nat} (h2 : 2 ≤ n) (h8 : n ≤ 8) (hm : me < n) : WF (Sv27.fresh me n) := by
  have hw : ∀ i, (Sv27.fresh me n).waiting i = [] := fun i => by
    unfold Sv27.fresh Node.waiting
    rw [List.getD_eq_getElem?_getD, List.getElem?_replicate]
    split <;> rfl
  refine ⟨h2, h8, hm, by rfl, by rfl, ?_, Nat.zero_le _, fun p hp => absurd hp (List.not_mem_nil), by rfl, ?_, fun i _ => by rw [hw]; rfl, hw _⟩
  · intro s hs
    rw [List.eq_of_mem_replicate hs]
    rfl
  · intro ps hps p hp
    rw [List.eq_of_mem_replicate hps] at hp
    exact absurd hp (List.not_mem_nil)
theorem WF.load {b : Bytes} {x : Node} (h : Sv27.load b = some x) : WF x := by
  unfold Sv27.load at h
  simp only [] at h
  split at h
  case isFalse => cases h
  case isTrue q =>
    have e : x = said b := (Option.some.inj h).symm
    subst e
    obtain ⟨_, h2, h8, hm, h5, h6, h7, _, _, h10, _⟩ := q
    have wl : (said b).waits.length = 8 := by simp [said]
    have hw : ∀ i, i < 8 → (isOther (said b) i = true ∧ (∀ p, p ∈ (said b).waiting i → stampOk (said b).n p.stamp = true ∧ of (said b).seen i < of p.stamp i ∧ of p.stamp i ≤ of (said b).seen i + 32) ∧ rising (counts ((said b).waiting i) i) = true) ∨ (isOther (said b) i = false ∧ (said b).waiting i = []) := fun i hi => by
      have q := List.all_eq_true.mp h10 i (List.mem_range.mpr hi)
      rw [contains_others] at q
      cases o : isOther (said b) i with
      | true =>
        rw [o, if_pos rfl, Bool.and_eq_true, List.all_eq_true] at q
        refine .inl ⟨rfl, fun p hp => ?_, q.2⟩
        have z := q.1 p hp
        rw [Bool.and_eq_true, Bool.and_eq_true, decide_eq_true_iff, decide_eq_true_iff] at z
        exact ⟨z.1, z.2.1, z.2.2⟩
      | false =>
        rw [o, if_neg (by decide)] at q
        exact .inr ⟨rfl, eq_of_beq q⟩
    refine ⟨h2, h8, hm, stampOf_length _, by simp [said], ?_, rowAt_len _ _, ?_, wl, ?_, ?_, ?_⟩
    · intro s hs
      obtain ⟨i, _, rfl⟩ := List.mem_map.mp hs
      exact stampOf_length _
    · intro p hp
      exact ⟨stampOk_len (List.all_eq_true.mp h7 p hp), rowAt_text _ _ p hp⟩
    · intro ps hps p hp
      obtain ⟨i, hi, rfl⟩ := List.mem_map.mp hps
      have hi8 := List.mem_range.mp hi
      refine ⟨?_, rowAt_text _ _ p hp⟩
      rw [← said_waiting b hi8] at hp
      rcases hw i hi8 with ⟨_, z, _⟩ | ⟨_, z⟩
      · exact (z p hp).1
      · rw [z] at hp
        exact absurd hp (List.not_mem_nil)
    · intro i hi
      rw [rises_iff]
      rcases hw i hi with ⟨_, z, r⟩ | ⟨_, z⟩
      · refine ⟨fun c hc => ?_, r⟩
        obtain ⟨p, hp, rfl⟩ := List.mem_map.mp hc
        exact ⟨(z p hp).2.1, (z p hp).2.2⟩
      · rw [z]
        exact ⟨fun c hc => absurd hc (by simp [counts]), rfl⟩
    · have hm8 : (said b).me < 8 := Nat.lt_of_lt_of_le hm h8
      rcases hw (said b).me hm8 with ⟨o, _⟩ | ⟨_, z⟩
      · unfold isOther at o
        simp at o
      · exact z
end Po

namespace Po
open Sv27
set_option linter.all false
/-! ### the list that is handed in, call by call -/
inductive Req : List Int → List (List Int) → List Int → Prop
  | begin_ (o : Nat) (me n : Int) (r : List Int) : o < 8 → Req (0 :: (o : Int) :: me :: n :: r) [[0, (o : Int), me, n]] r
  | save (o : Nat) (r : List Int) : o < 8 → Req (1 :: (o : Int) :: r) [[1, (o : Int)]] r
  | load (o : Nat) (b : Bytes) (r : List Int) : o < 8 → b.length = 30608 → Small b → Req (2 :: (o : Int) :: (b.length : Int) :: (Sv27Neutral.ints b ++ r)) [[2, (o : Int)], Sv27Neutral.ints b] r
  | post (o : Nat) (most : Int) (b : Bytes) (r : List Int) : o < 8 → b.length ≤ 31 → Small b → Req (3 :: (o : Int) :: most :: (b.length : Int) :: (Sv27Neutral.ints b ++ r)) [[3, (o : Int), most], Sv27Neutral.ints b] r
  | receive (o : Nat) (most : Int) (b : Bytes) (r : List Int) : o < 8 → b.length ≤ 1024 → Small b → Req (4 :: (o : Int) :: most :: (b.length : Int) :: (Sv27Neutral.ints b ++ r)) [[4, (o : Int), most], Sv27Neutral.ints b] r
  | next (o : Nat) (r : List Int) : o < 8 → Req (5 :: (o : Int) :: r) [[5, (o : Int)]] r
  | again (o : Nat) (to most : Int) (r : List Int) : o < 8 → Req (6 :: (o : Int) :: to :: most :: r) [[6, (o : Int), to, most]] r
  | tell (o : Nat) (to most : Int) (r : List Int) : o < 8 → Req (7 :: (o : Int) :: to :: most :: r) [[7, (o : Int), to, most]] r
  | seen (o : Nat) (r : List Int) : o < 8 → Req (8 :: (o : Int) :: r) [[8, (o : Int)]] r
theorem bytes_ints {r : List Int} (h : r.all (PyInside.within 0 255) = true) : Sv27Neutral.ints (r.map Int.toNat) = r ∧ Small (r.map Int.toNat) := by
  rw [List.all_eq_true] at h
  constructor
  · unfold Sv27Neutral.ints
    rw [List.map_map]
    have e : r.map ((fun (x : Nat) => (x : Int)) ∘ Int.toNat) = r.map id := List.map_congr_left fun x hx => by
      have q := h x hx
      unfold PyInside.within at q
      rw [Bool.and_eq_true, decide_eq_true_iff, decide_eq_true_iff] at q
      show ((x.toNat : Nat) : Int) = x
      omega
    rw [e, List.map_id]
  · intro c hc
    obtain ⟨x, hx, rfl⟩ := List.mem_map.mp hc
    have q := h x hx
    unfold PyInside.within at q
    rw [Bool.and_eq_true, decide_eq_true_iff, decide_eq_true_iff] at q
    omega
theorem row_some {l x s : List Int} (h : PyFlat.row l = some (x, s)) : l = (x.length : Int) :: (x ++ s) := by
  cases l with
  | nil => cases h
  | cons n r =>
    have h : (if 0 ≤ n ∧ n.toNat ≤ r.length then some (r.take n.toNat, r.drop n.toNat) else none) = some (x, s) := h
    by_cases c : 0 ≤ n ∧ n.toNat ≤ r.length
    · rw [if_pos c] at h
      have e := Option.some.inj h
      have e1 : r.take n.toNat = x := congrArg Prod.fst e
      have e2 : r.drop n.toNat = s := congrArg Prod.snd e
      rw [← e1, ← e2, List.take_append_drop, List.length_take]
      congr 1
      omega
    · rw [if_neg c] at h
      cases h
theorem rows0 {l : List Int} {xs t} (h : PyFlat.rows 0 l = some (xs, t)) : xs = [] ∧ t = l := by
  have e := Option.some.inj h
  exact ⟨(congrArg Prod.fst e).symm, (congrArg Prod.snd e).symm⟩
theorem rows1 {l : List Int} {xs t} (h : PyFlat.rows 1 l = some (xs, t)) : ∃ x, xs = [x] ∧ l = (x.length : Int) :: (x ++ t) := by
  have h : (match PyFlat.row l with
    | none => none
    | some (x, s) => match PyFlat.rows 0 s with
      | none => none
      | some (xs, t) => some (x :: xs, t)) = some (xs, t) := h
  cases e : PyFlat.row l with
  | none => (rw [e] at h; cases h)
  | some q =>
    obtain ⟨x, s⟩ := q
    rw [e] at h
    have h : some ([x], s) = some (xs, t) := h
    have e2 := Option.some.inj h
    have e3 : [x] = xs := congrArg Prod.fst e2
    have e4 : s = t := congrArg Prod.snd e2
    exact ⟨x, e3.symm, by rw [← e4]; exact row_some e⟩
theorem call_some {p : Int} {r : List Int} {n k : Nat} {c : List (List Int)} {t : List Int} (hs : PySv27.shape p = some (n, k)) (h : PyFlat.call PySv27.shape (p :: r) = some (c, t)) : n ≤ r.length ∧ ∃ xs, PyFlat.rows k (r.drop n) = some (xs, t) ∧ c = (p :: r.take n) :: xs := by
  have h : (match PySv27.shape p with
    | none => none
    | some (n, k) => if r.length < n then none else match PyFlat.rows k (r.drop n) with
      | none => none
      | some (xs, t) => some ((p :: r.take n) :: xs, t)) = some (c, t) := h
  rw [hs] at h
  have h : (if r.length < n then none else match PyFlat.rows k (r.drop n) with
      | none => none
      | some (xs, t) => some ((p :: r.take n) :: xs, t)) = some (c, t) := h
  by_cases q : r.length < n
  · rw [if_pos q] at h; cases h
  · rw [if_neg q] at h
    refine ⟨by omega, ?_⟩
    cases e : PyFlat.rows k (r.drop n) with
    | none => (rw [e] at h; cases h)
    | some q =>
      obtain ⟨xs, t'⟩ := q
      rw [e] at h
      have e2 := Option.some.inj h
      have e3 : (p :: r.take n) :: xs = c := congrArg Prod.fst e2
      have e4 : t' = t := congrArg Prod.snd e2
      exact ⟨xs, by rw [e4], e3.symm⟩
theorem take1 {l : List Int} (h : 1 ≤ l.length) : ∃ a r, l = a :: r := by
  cases l with
  | nil => simp at h
  | cons a r => exact ⟨a, r, rfl⟩
theorem take2 {l : List Int} (h : 2 ≤ l.length) : ∃ a b r, l = a :: b :: r := by
  obtain ⟨a, r, rfl⟩ := take1 (by omega : 1 ≤ l.length)
  obtain ⟨b, r, rfl⟩ := take1 (l := r) (by simpa using h)
  exact ⟨a, b, r, rfl⟩
theorem take3 {l : List Int} (h : 3 ≤ l.length) : ∃ a b c r, l = a :: b :: c :: r := by
  obtain ⟨a, r, rfl⟩ := take1 (by omega : 1 ≤ l.length)
  obtain ⟨b, c, r, rfl⟩ := take2 (l := r) (by simpa using h)
  exact ⟨a, b, c, r, rfl⟩
theorem obj_of {o : Int} (h : PyInside.within 0 7 o = true) : ∃ k : Nat, o = (k : Int) ∧ k < 8 := by
  unfold PyInside.within at h
  rw [Bool.and_eq_true, decide_eq_true_iff, decide_eq_true_iff] at h
  exact ⟨o.toNat, by omega, by omega⟩
theorem lists_one {lo hi : Int} {least most : Nat} {x : List Int} (h : PyInside.lists [(lo, hi, least, most)] [x] = true) : least ≤ x.length ∧ x.length ≤ most ∧ x.all (PyInside.within lo hi) = true := by
  have h : (decide (least ≤ x.length) && decide (x.length ≤ most) && x.all (PyInside.within lo hi) && true) = true := h
  rw [Bool.and_true, Bool.and_eq_true, Bool.and_eq_true, decide_eq_true_iff, decide_eq_true_iff] at h
  exact ⟨h.1.1, h.1.2, h.2⟩
theorem call_req {l : List Int} {c : List (List Int)} {t : List Int} (h : PyFlat.call PySv27.shape l = some (c, t)) (hb : PyInside.call PySv27.bound c = true) : Req l c t := by
  cases l with
  | nil => cases h
  | cons p r =>
    by_cases p0 : p = 0
    · subst p0
      obtain ⟨hl, xs, hr, rfl⟩ := call_some (n := 3) (k := 0) rfl h
      obtain ⟨rfl, rfl⟩ := rows0 hr
      obtain ⟨o, me, n, r, rfl⟩ := take3 hl
      have hb : ((PyInside.within 0 7 o && (PyInside.within (-2147483648) 2147483647 me && (PyInside.within (-2147483648) 2147483647 n && true))) && true) = true := hb
      rw [Bool.and_true, Bool.and_eq_true] at hb
      obtain ⟨k, rfl, hk⟩ := obj_of hb.1
      exact .begin_ k me n r hk
    by_cases p1 : p = 1
    · subst p1
      obtain ⟨hl, xs, hr, rfl⟩ := call_some (n := 1) (k := 0) rfl h
      obtain ⟨rfl, rfl⟩ := rows0 hr
      obtain ⟨o, r, rfl⟩ := take1 hl
      have hb : ((PyInside.within 0 7 o && true) && true) = true := hb
      rw [Bool.and_true, Bool.and_true] at hb
      obtain ⟨k, rfl, hk⟩ := obj_of hb
      exact .save k r hk
    by_cases p2 : p = 2
    · subst p2
      obtain ⟨hl, xs, hr, rfl⟩ := call_some (n := 1) (k := 1) rfl h
      obtain ⟨o, r, rfl⟩ := take1 hl
      obtain ⟨x, rfl, hx⟩ := rows1 hr
      have hx : r = (x.length : Int) :: (x ++ t) := hx
      subst hx
      have hb : ((PyInside.within 0 7 o && true) && PyInside.lists [(0, 255, 30608, 30608)] [x]) = true := hb
      rw [Bool.and_true, Bool.and_eq_true] at hb
      obtain ⟨k, rfl, hk⟩ := obj_of hb.1
      obtain ⟨h1, h2, h3⟩ := lists_one hb.2
      obtain ⟨e1, e2⟩ := bytes_ints h3
      have := Req.load k (x.map Int.toNat) t hk (by rw [List.length_map]; omega) e2
      rw [e1, List.length_map] at this
      exact this
    by_cases p3 : p = 3
    · subst p3
      obtain ⟨hl, xs, hr, rfl⟩ := call_some (n := 2) (k := 1) rfl h
      obtain ⟨o, most, r, rfl⟩ := take2 hl
      obtain ⟨x, rfl, hx⟩ := rows1 hr
      have hx : r = (x.length : Int) :: (x ++ t) := hx
      subst hx
      have hb : ((PyInside.within 0 7 o && (PyInside.within (-2147483648) 2147483647 most && true)) && PyInside.lists [(0, 255, 0, 31)] [x]) = true := hb
      rw [Bool.and_eq_true, Bool.and_eq_true] at hb
      obtain ⟨k, rfl, hk⟩ := obj_of hb.1.1
      obtain ⟨h1, h2, h3⟩ := lists_one hb.2
      obtain ⟨e1, e2⟩ := bytes_ints h3
      have := Req.post k most (x.map Int.toNat) t hk (by rw [List.length_map]; omega) e2
      rw [e1, List.length_map] at this
      exact this
    by_cases p4 : p = 4
    · subst p4
      obtain ⟨hl, xs, hr, rfl⟩ := call_some (n := 2) (k := 1) rfl h
      obtain ⟨o, most, r, rfl⟩ := take2 hl
      obtain ⟨x, rfl, hx⟩ := rows1 hr
      have hx : r = (x.length : Int) :: (x ++ t) := hx
      subst hx
      have hb : ((PyInside.within 0 7 o && (PyInside.within (-2147483648) 2147483647 most && true)) && PyInside.lists [(0, 255, 0, 1024)] [x]) = true := hb
      rw [Bool.and_eq_true, Bool.and_eq_true] at hb
      obtain ⟨k, rfl, hk⟩ := obj_of hb.1.1
      obtain ⟨h1, h2, h3⟩ := lists_one hb.2
      obtain ⟨e1, e2⟩ := bytes_ints h3
      have := Req.receive k most (x.map Int.toNat) t hk (by rw [List.length_map]; omega) e2
      rw [e1, List.length_map] at this
      exact this
    by_cases p5 : p = 5
    · subst p5
      obtain ⟨hl, xs, hr, rfl⟩ := call_some (n := 1) (k := 0) rfl h
      obtain ⟨rfl, rfl⟩ := rows0 hr
      obtain ⟨o, r, rfl⟩ := take1 hl
      have hb : ((PyInside.within 0 7 o && true) && true) = true := hb
      rw [Bool.and_true, Bool.and_true] at hb
      obtain ⟨k, rfl, hk⟩ := obj_of hb
      exact .next k r hk
    by_cases p6 : p = 6
    · subst p6
      obtain ⟨hl, xs, hr, rfl⟩ := call_some (n := 3) (k := 0) rfl h
      obtain ⟨rfl, rfl⟩ := rows0 hr
      obtain ⟨o, to, most, r, rfl⟩ := take3 hl
      have hb : ((PyInside.within 0 7 o && (PyInside.within (-2147483648) 2147483647 to && (PyInside.within (-2147483648) 2147483647 most && true))) && true) = true := hb
      rw [Bool.and_true, Bool.and_eq_true] at hb
      obtain ⟨k, rfl, hk⟩ := obj_of hb.1
      exact .again k to most r hk
    by_cases p7 : p = 7
    · subst p7
      obtain ⟨hl, xs, hr, rfl⟩ := call_some (n := 3) (k := 0) rfl h
      obtain ⟨rfl, rfl⟩ := rows0 hr
      obtain ⟨o, to, most, r, rfl⟩ := take3 hl
      have hb : ((PyInside.within 0 7 o && (PyInside.within (-2147483648) 2147483647 to && (PyInside.within (-2147483648) 2147483647 most && true))) && true) = true := hb
      rw [Bool.and_true, Bool.and_eq_true] at hb
      obtain ⟨k, rfl, hk⟩ := obj_of hb.1
      exact .tell k to most r hk
    by_cases p8 : p = 8
    · subst p8
      obtain ⟨hl, xs, hr, rfl⟩ := call_some (n := 1) (k := 0) rfl h
      obtain ⟨rfl, rfl⟩ := rows0 hr
      obtain ⟨o, r, rfl⟩ := take1 hl
      have hb : ((PyInside.within 0 7 o && true) && true) = true := hb
      rw [Bool.and_true, Bool.and_true] at hb
      obtain ⟨k, rfl, hk⟩ := obj_of hb
      exact .seen k r hk
    · exfalso
      have hs : PySv27.shape p = none := by
        unfold PySv27.shape
        rw [if_neg p0, if_neg p1, if_neg p2, if_neg p3, if_neg p4, if_neg p5, if_neg p6, if_neg p7, if_neg p8]
      have h : (match PySv27.shape p with
        | none => none
        | some (n, k) => if r.length < n then none else match PyFlat.rows k (r.drop n) with
          | none => none
          | some (xs, t) => some ((p :: r.take n) :: xs, t)) = some (c, t) := h
      rw [hs] at h
      cases h
/-- the calls of a list, one behind another -/
theorem calls_cons {f : Nat} {p : Int} {r : List Int} {raw : List (List (List Int))} (h : PyFlat.calls PySv27.shape f (p :: r) = some raw) : ∃ f' c t cs, f = f' + 1 ∧ PyFlat.call PySv27.shape (p :: r) = some (c, t) ∧ PyFlat.calls PySv27.shape f' t = some cs ∧ raw = c :: cs := by
  cases f with
  | zero => cases h
  | succ f =>
    have h : (match PyFlat.call PySv27.shape (p :: r) with
      | none => none
      | some (c, t) => match PyFlat.calls PySv27.shape f t with
        | none => none
        | some cs => some (c :: cs)) = some raw := h
    cases e : PyFlat.call PySv27.shape (p :: r) with
    | none => (rw [e] at h; cases h)
    | some q =>
      obtain ⟨c, t⟩ := q
      rw [e] at h
      have h : (match PyFlat.calls PySv27.shape f t with
        | none => none
        | some cs => some (c :: cs)) = some raw := h
      cases e2 : PyFlat.calls PySv27.shape f t with
      | none => rw [e2] at h; cases h
      | some cs =>
        rw [e2] at h
        exact ⟨f, c, t, cs, rfl, rfl, e2, (Option.some.inj h).symm⟩
theorem calls_nil {f : Nat} {raw : List (List (List Int))} (h : PyFlat.calls PySv27.shape f [] = some raw) : raw = [] := by
  cases f with
  | zero => exact (Option.some.inj h).symm
  | succ f => exact (Option.some.inj h).symm
/-- whether an object that a call asks of has been begun -/
def fit1 (S : Sv27Neutral.S) (c : List (List Int)) : Bool := match c with
  | (k :: o :: _) :: _ => (k.toNat == 0 || k.toNat == 2) || (S.getD (o.toNat) none).isSome
  | _ => false
theorem fits_cons {S : Sv27Neutral.S} {c : List (List Int)} {r : List (List (List Int))} (h : Sv27Neutral.fits S (c :: r) = true) : fit1 S c = true ∧ Sv27Neutral.fits (Sv27Neutral.step S c).1 r = true := by
  have h : (fit1 S c && Sv27Neutral.fits (Sv27Neutral.step S c).1 r) = true := h
  rw [Bool.and_eq_true] at h
  exact h
theorem set_self {S : Sv27Neutral.S} {k : Nat} : S.set k (S.getD k none) = S := by
  apply List.ext_getElem?
  intro i
  rw [List.getElem?_set]
  by_cases e : k = i
  · subst e
    rw [if_pos rfl]
    by_cases h : k < S.length
    · rw [if_pos h, List.getD_eq_getElem?_getD, List.getElem?_eq_getElem h]
      rfl
    · rw [if_neg h, List.getElem?_eq_none (by omega)]
  · rw [if_neg e]
end Po

namespace Po
open PySem PySem.Spec PyProof.Rows L2
set_option linter.all false
/-! ### lists of whole numbers as values -/
abbrev nints : List Nat → List Int := Sv27Neutral.ints
def zi (l : List Int) : List V := l.map V.int
def ni (l : List Nat) : List V := l.map fun (x : Nat) => V.int (x : Int)
theorem ni_zi (l : List Nat) : ni l = (nints l).map V.int := by
  unfold ni nints Sv27Neutral.ints
  rw [List.map_map]
  rfl
theorem ni_length (l : List Nat) : (ni l).length = l.length := List.length_map _
theorem ni_get {l : List Nat} {i : Nat} {x : Nat} (h : l[i]? = some x) : (ni l)[i]? = some (V.int (x : Int)) := by
  unfold ni
  rw [List.getElem?_map, h]
  rfl
theorem ni_get_inv {l : List Nat} {i : Nat} {y : V} (h : (ni l)[i]? = some y) : ∃ x, l[i]? = some x ∧ y = V.int (x : Int) := by
  unfold ni at h
  rw [List.getElem?_map] at h
  cases e : l[i]? with
  | none => (rw [e] at h; cases h)
  | some x => rw [e] at h; exact ⟨x, rfl, (Option.some.inj h).symm⟩
theorem ni_append (a b : List Nat) : ni (a ++ b) = ni a ++ ni b := List.map_append ..
theorem ni_drop (l : List Nat) (n : Nat) : ni (l.drop n) = (ni l).drop n := List.map_drop ..
theorem ni_take (l : List Nat) (n : Nat) : ni (l.take n) = (ni l).take n := List.map_take ..
theorem ni_inj {a b : List Nat} (h : ni a = ni b) : a = b := by
  have e := (List.map_inj_right (f := fun (x : Nat) => V.int (x : Int)) (by
    intro x y q
    have := V.int.inj q
    omega)).mp h
  exact e
/-! ### what the layer lacks: any(..) of whole numbers, o[i] += e of a list, list(range(..)) up to 2 ** 62 + 1 -/
theorem truth_ints {prog : Program} {w : World} {A : Around} {ns : List Int} {its : List Value} (e : IntsAre its ns) :
    TruthOf prog w A (fun i v => its.toArray[i]? = some v) (fun i => ns.getD i 0 != 0) := by
  intro i v s Q E there want
  have key : ∀ {us : List Value} {ks : List Int} {j : Nat}, IntsAre us ks → us[j]? = some v → ∃ k t, ks[j]? = some k ∧ v = .int k t := by
    intro us ks j h
    induction h generalizing j with
    | nil => intro q; simp at q
    | cons n t r ih =>
      intro q
      cases j with
      | zero => exact ⟨n, t, rfl, Eq.symm (Option.some.inj q)⟩
      | succ j => exact ih (by simpa using q)
  obtain ⟨k, t, hk, rfl⟩ := key (j := i) e (by simpa using there)
  have number : ns.getD i 0 = k := by
    rw [List.getD_eq_getElem?_getD, hk]
    rfl
  refine PyProof.Rows.truthy_int ?_
  rw [← number]
  exact want
theorem any_rangeI : ∀ ns : List Int, (List.range ns.length).any (fun i => ns.getD i 0 != 0) = ns.any (· != 0)
  | [] => rfl
  | b :: bs => by
    rw [List.length_cons, List.range_succ_eq_map, List.any_cons, List.any_map, List.any_cons, ← any_rangeI bs]
    all_goals rfl
section
variable {X : Cx}
def rAnyI (K : PySem.W.Frag) : List V → Hp → VK → Prop := fun vs H Q => ∃ (a : Addr) (ns : List Int), vs = [V.ref a] ∧ SqL K H a (ns.map V.int) ∧ Q (.bl (ns.any (· != 0))) H
theorem cr_anyI (hc : X.calm = true) : CallR X (.builtin "any") (rAnyI X.K) := by
  rintro pins s σ H vs us Q I rel ⟨a, ns, rfl, lies, want⟩
  obtain ⟨items, vals, plain, _⟩ := I.list lies
  rw [Vals.ref1 rel]
  have count := vals.length
  refine call_any_walk (iter_any plain.isList fun s2 now start apart => ?_)
  subst now
  refine ⟨_, _, _, _, _, _, _, rfl, Walks.list (A := X.A.in1) (I.ok.hd hc) _ a apart items.toArray, start, truth_ints vals.ints, fun heap tk stays => ?_⟩
  have kept : ∀ (b : Addr) (o : Obj), s.heap.get? b = some o → heap.get? b = some o := by
    intro b o stood
    refine stays b o (fun among => ?_) (Heap.get?_push_of_some _ stood)
    have e : b = s.heap.objs.size := by simpa using among
    have l := Heap.lt_size stood
    rw [e] at l
    exact absurd l (Nat.lt_irrefl _)
  refine ⟨.bl (ns.any (· != 0)), H, I.kept kept, ?_, want⟩
  rw [← any_rangeI, List.size_toArray, ← count, List.length_map]
  rfl
/-- o[j], o a list, j not below 0 -/
def rIxN (K : PySem.W.Frag) : R2 := fun x y H Q => ∃ (p : Addr) (xs : List V) (j : Nat) (v : V), x = .ref p ∧ y = .int (j : Int) ∧ SqL K H p xs ∧ xs[j]? = some v ∧ Q v H
theorem ix_nat : IxR X (rIxN X.K) := by
  rintro value slice pins s σ H x y v u Q I rx ry ⟨p, xs, j, z, rfl, rfl, hq, he, q⟩ hs
  exact ix_list value slice pins s σ H _ _ v u Q I rx ry ⟨p, xs, _, z, rfl, rfl, hq, atI_nat he, q⟩ hs
theorem get_nat : PGet X (rIxN X.K) := by
  rintro pins s σ H o i ov iv Q I ro ri ⟨p, xs, j, z, rfl, rfl, hq, he, q⟩
  cases ro
  obtain ⟨t, rfl⟩ := ri
  obtain ⟨items, vals, plain, fits⟩ := I.list hq
  obtain ⟨w, ew, rw'⟩ := vals.get he
  have hl := vals.length
  have hn := line63
  have hj : j < xs.length := (List.getElem?_eq_some_iff.mp he).1
  exact wpAny_getItem_list plain.isList (by omega) (by omega) (by rw [show ((j : Int)).toNat = j from Int.toNat_natCast j]; simpa using ew) ⟨z, H, I, rw', q⟩
/-- o[j] = v, by values -/
def rSetN : TSet := fun o i v H Q => ∃ (p : Addr) (xs : List V) (j : Nat), o = .ref p ∧ i = .int (j : Int) ∧ H p = some (.lst xs) ∧ j < xs.length ∧ Q (upd H p (.lst (xs.set j v)))
theorem set_nat : PSet X rSetN := by
  rintro pins s σ H o i v ov iv u Q I ro ri rv ⟨p, xs, j, rfl, rfl, hH, hj, q⟩
  refine set_list pins s σ H _ _ v ov iv u Q I ro ri rv ⟨p, xs, _, j, rfl, rfl, hH, ?_, q⟩
  unfold ixN
  rw [if_pos (Int.natCast_nonneg j), if_pos (by omega)]
  rfl
/-- the ends of a range up to 2 ** 62 + 1 -/
def RgOk2 (a b : Int) : Prop := 0 ≤ a ∧ a ≤ 2 ^ 62 + 1 ∧ 0 ≤ b ∧ b ≤ 2 ^ 62 + 1 ∧ (b - a).toNat ≤ 2 ^ 24
theorem small_two {a b : Int} (h : RgOk2 a b) : Builtin.Range.small a b 1 = true := by
  obtain ⟨h1, h2, h3, h4, h5⟩ := h
  unfold Builtin.Range.small
  rw [rangeSize_one]
  simp only [show (1 : Int) > 0 by decide, if_true, Builtin.Range.rangeFitsLong, decide_eq_true_eq, Bool.and_eq_true, Bool.or_eq_true, beq_iff_eq]
  split <;> omega
def tLstRg2 (te : L2.St → Hp → (Int → Int → Hp → Prop) → Prop) : TE := fun σ H Q => te σ H fun a b H1 => RgOk2 a b ∧ ∀ q, H1 q = none → Q (.ref q) (upd H1 q (.lst (rgV a b)))
theorem pe_listRg2 {e : Expr} {te : L2.St → Hp → (Int → Int → Hp → Prop) → Prop} {p pos : Pos} (hc : X.calm = true) (hg : Gl X "list") (hm : X.mg "list" = none) (he : PRg X e te) (na : starEach [e] X.env = (false, eval e X.env) :: starEach [] X.env := by rfl) : PE X (.Call (.Name "list" p) [e] [] pos) (tLstRg2 te) := by
  constructor
  intro pins s σ H Q I whole
  refine Call_ (ld_blt I hg hm boot_list (PyProof.Rows.callWith_type1 (args_cons (thn (he pins s σ H _ I whole) fun x s1 ⟨rg, lo, hi, t, u, v, H1, ex, isr, I1, ok, want⟩ => args_nil ?_) na) na))
  subst ex
  refine call_list_range (n := (hi - lo).toNat) (I1.ok.hd hc) isr (small_two ok) (rangeSize_nat lo hi) ok.2.2.2.2 fun heap tk acc cap stays lies each => ?_
  have laid : ObjOk X.prog X.w (upd H1 s1.heap.objs.size (.lst (rgV lo hi))) heap s1.heap.objs.size (.lst (rgV lo hi)) := by
    refine ⟨?_, acc.toList, cap, vals_rg each, ?_⟩
    · rw [rgV_length, sizeLine_eq]
      exact ok.2.2.2.2
    · rw [Array.toArray_toList]
      exact lies
  exact ⟨.ref s1.heap.objs.size, _, I1.laid stays (Nat.le_refl _) laid, rfl, want _ (I1.hok.fresh (Nat.le_refl _))⟩

/-! ### built-ins by their names -/
/-- what the module's names of built-ins are: none of the program's own -/
structure Blt (mg : Str → Option Value) : Prop where
  len : mg "len" = none
  any : mg "any" = none
  all : mg "all" = none
  max : mg "max" = none
  min : mg "min" = none
  list : mg "list" = none
  range : mg "range" = none
  enumerate : mg "enumerate" = none
  reversed : mg "reversed" = none
/-- len(xs) of a list -/
def rLenN (K : PySem.W.Frag) : List V → Hp → VK → Prop := fun vs H Q => ∃ (p : Addr) (ys : List V), vs = [.ref p] ∧ SqL K H p ys ∧ Q (.int (ys.length : Nat)) H
theorem cr_lenN : CallR X (.builtin "len") (rLenN X.K) := by
  rintro pins s σ H vs us Q I r ⟨p, ys, e, hs, q⟩
  exact call_len_seq pins s σ H vs us Q I r ⟨p, ys, e, .inl hs, q⟩
/-- list(xs) of a list -/
def rListN (K : PySem.W.Frag) : List V → Hp → VK → Prop := fun vs H Q => ∃ (p : Addr) (ys : List V), vs = [.ref p] ∧ SqL K H p ys ∧ ∀ l, H l = none → Q (.ref l) (upd H l (.lst ys))
theorem cr_listN : CallR X (.type "list") (rListN X.K) := by
  rintro pins s σ H vs us Q I r ⟨p, ys, e, hs, q⟩
  exact call_list_of pins s σ H vs us Q I r ⟨p, ys, e, .inl hs, q⟩
/-- max(xs), min(xs) of a list of numbers from 0 on -/
def maxN : List Nat → Nat
  | [] => 0
  | a :: r => Nat.max a (maxN r)
theorem maxN_ge : ∀ (l : List Nat) (x : Nat), x ∈ l → x ≤ maxN l
  | a :: r, x, h => by
    rcases (List.mem_cons.mp h) with e | e
    · rw [e]; exact Nat.le_max_left ..
    · exact Nat.le_trans (maxN_ge r x e) (Nat.le_max_right ..)
end
/-! ### the program's own defs -/
section
variable {P : Program} {w : World} {K : PySem.W.Frag} {mg : Str → Option Value} {base : Heap}
/-- a def x of the program that keeps the promise sp -/
structure Cal (P : Program) (w : World) (K : PySem.W.Frag) (mg : Str → Option Value) (base : Heap) (k : Nat) (x : Str) (ps : List Str) (sp : Sp) : Prop where
  ex : ∃ (f : Addr) (fd : FuncData), mg x = some (.ref f) ∧ PySem.W.keepIn K (.ref f) = true ∧ Binds K fd ps [] ∧ FnOk P w K mg base CX0 k f fd ps sp
theorem Cal.mono {j k : Nat} {x : Str} {ps : List Str} {sp : Sp} (c : Cal P w K mg base j x ps sp) (h : j ≤ k) : Cal P w K mg base k x ps sp := by
  obtain ⟨f, fd, a, b, d, e⟩ := c.ex
  exact ⟨f, fd, a, b, d, e.mono h⟩
/-- where a def of the text stands -/
structure Def (K : PySem.W.Frag) (mg : Str → Option Value) (x : Str) (st : Stmt) : Prop where
  ex : ∃ (f : Addr) (fd : FuncData), mg x = some (.ref f) ∧ Fun K x x st f fd
theorem Def.cal {x : Str} {st : Stmt} {k : Nat} {ps : List Str} {sp : Sp} (D : Def K mg x st)
    (hb : ∀ (kV doc pm : Value) (an : Option Addr) (cdv ct : Value) (us : List Value), us.length = ps.length → bindArgs (PySem.W.fnOf x x (defArgs st) (defBody st) (defScope st) .none kV doc pm an cdv ct) ⟨us, []⟩ = pure (ps.zip us))
    (h : ∀ (f : Addr) (fd : FuncData), Fun K x x st f fd → FnOk P w K mg base CX0 k f fd ps sp) : Cal P w K mg base k x ps sp := by
  obtain ⟨f, fd, hm, F⟩ := D.ex
  exact ⟨f, fd, hm, F.kp, F.binds hb, h f fd F⟩
end
section
variable {X : Cx} {k : Nat} {ps : List Str} {sp : Sp} {x : Str} {p pos : Pos} {e o : Expr} {es : List Expr} {ta : TE} {t : TA}
theorem pe_cal (C : Cal X.prog X.w X.K X.mg X.base k x ps sp) (hr : Room k X.A) (ha : PA X (e :: es) t) (hg : Gl X x := by rfl) (hdb : (x == ("__debug__" : Str)) = false := by decide)
    (he : starEach (e :: es) X.env = (false, eval e X.env) :: starEach es X.env := by rfl) (hpl : (backTo pos (starEach es X.env)).any (·.1) = false := by rfl) : PE X (.Call (.Name x p) (e :: es) [] pos) (tCall sp [] E0 t) := by
  obtain ⟨f, fd, hm, hk, hb, F⟩ := C.ex
  exact pe_call F hr hg hm hk hb .nil pass0 ha hdb he hpl
theorem pe_cal0 (C : Cal X.prog X.w X.K X.mg X.base k x ps sp) (hr : Room k X.A) (hg : Gl X x := by rfl) (hdb : (x == ("__debug__" : Str)) = false := by decide) : PE X (.Call (.Name x p) [] [] pos) (tCall sp [] E0 tNil) := by
  obtain ⟨f, fd, hm, hk, hb, F⟩ := C.ex
  exact pe_call0 F hr hg hm hk hb .nil pass0 hdb
/-- a whole number that the module's top names -/
theorem pe_cst {i : Int} (h : ∃ t, X.mg x = some (.int i t)) (hg : Gl X x := by rfl) (hd : (x == ("__debug__" : Str)) = false := by decide) : PE X (.Name x pos) (tC (.int i)) := by
  obtain ⟨t, h⟩ := h
  exact pe_glob hg h ⟨t, rfl⟩ hd
end
section
variable {P : Program} {w : World} {K : PySem.W.Frag} {mg : Str → Option Value} {base : Heap}
/-- a method m of the class at C that keeps the promise sp -/
structure MCal (P : Program) (w : World) (K : PySem.W.Frag) (mg : Str → Option Value) (base : Heap) (k : Nat) (C : Addr) (m : Str) (ps : List Str) (sp : Sp) : Prop where
  ex : ∃ (f : Addr) (fd : FuncData), Meth K C m f ∧ Binds K fd ps [] ∧ FnOk P w K mg base CX0 k f fd ps sp
/-- where a method of the text stands -/
structure MDef (K : PySem.W.Frag) (C : Addr) (m qual : Str) (st : Stmt) : Prop where
  ex : ∃ (f : Addr) (fd : FuncData), Meth K C m f ∧ Fun K m qual st f fd
theorem MDef.cal {C : Addr} {m qual : Str} {st : Stmt} {k : Nat} {ps : List Str} {sp : Sp} (D : MDef K C m qual st)
    (hb : ∀ (kV doc pm : Value) (an : Option Addr) (cdv ct : Value) (us : List Value), us.length = ps.length → bindArgs (PySem.W.fnOf m qual (defArgs st) (defBody st) (defScope st) .none kV doc pm an cdv ct) ⟨us, []⟩ = pure (ps.zip us))
    (h : ∀ (f : Addr) (fd : FuncData), Fun K m qual st f fd → FnOk P w K mg base CX0 k f fd ps sp) : MCal P w K mg base k C m ps sp := by
  obtain ⟨f, fd, hm, F⟩ := D.ex
  exact ⟨f, fd, hm, F.binds hb, h f fd F⟩
/-- a class x at C whose __init__ keeps the promise sp -/
structure ICal (P : Program) (w : World) (K : PySem.W.Frag) (mg : Str → Option Value) (base : Heap) (k : Nat) (C : Addr) (x : Str) (ps : List Str) (sp : Sp) : Prop where
  ex : ∃ (f : Addr) (fd : FuncData), mg x = some (.ref C) ∧ Mk K C f ∧ Binds K fd ps [] ∧ FnOk P w K mg base CX0 k f fd ps sp
structure IDef (K : PySem.W.Frag) (mg : Str → Option Value) (C : Addr) (x qual : Str) (st : Stmt) : Prop where
  ex : ∃ (f : Addr) (fd : FuncData), mg x = some (.ref C) ∧ Mk K C f ∧ Fun K "__init__" qual st f fd
theorem IDef.cal {C : Addr} {x qual : Str} {st : Stmt} {k : Nat} {ps : List Str} {sp : Sp} (D : IDef K mg C x qual st)
    (hb : ∀ (kV doc pm : Value) (an : Option Addr) (cdv ct : Value) (us : List Value), us.length = ps.length → bindArgs (PySem.W.fnOf "__init__" qual (defArgs st) (defBody st) (defScope st) .none kV doc pm an cdv ct) ⟨us, []⟩ = pure (ps.zip us))
    (h : ∀ (f : Addr) (fd : FuncData), Fun K "__init__" qual st f fd → FnOk P w K mg base CX0 k f fd ps sp) : ICal P w K mg base k C x ps sp := by
  obtain ⟨f, fd, hm, M, F⟩ := D.ex
  exact ⟨f, fd, hm, M, F.binds hb, h f fd F⟩
end
section
variable {X : Cx} {k : Nat} {ps : List Str} {sp : Sp} {C : Addr} {x m : Str} {p pos apos : Pos} {e o : Expr} {es : List Expr} {ta : TE} {t : TA}
theorem pe_ical (I : ICal X.prog X.w X.K X.mg X.base k C x ps sp) (hr : Room (k + 1) X.A) (ha : PA X (e :: es) t) (hg : Gl X x := by rfl) (hdb : (x == ("__debug__" : Str)) = false := by decide)
    (he : starEach (e :: es) X.env = (false, eval e X.env) :: starEach es X.env := by rfl) (hpl : (backTo pos (starEach es X.env)).any (·.1) = false := by rfl) : PE X (.Call (.Name x p) (e :: es) [] pos) (tMake C sp [] E0 t) := by
  obtain ⟨f, fd, hm, M, hb, F⟩ := I.ex
  exact pe_make M F hr hg hm hb .nil pass0 ha hdb he hpl
end
/-! ### heaps -/
/-- all that was tracked is as it was, but for what M names -/
def Keep (M : Addr → Prop) (H H' : Hp) : Prop := ∀ b o, H b = some o → ¬ M b → H' b = some o
theorem _root_.L2.Same.keep {M : Addr → Prop} {H H' : Hp} (s : Same H H') : Keep M H H' := fun b o e _ => s b o e
theorem Keep.trans {M : Addr → Prop} {H H1 H2 : Hp} (a : Keep M H H1) (b : Keep M H1 H2) : Keep M H H2 := fun c o h n => b c o (a c o h n) n
theorem Keep.mono {M N : Addr → Prop} {H H' : Hp} (a : Keep M H H') (h : ∀ b, M b → N b) : Keep N H H' := fun c o e n => a c o e fun z => n (h c z)
theorem _root_.L2.Same.new {H : Hp} {p : Addr} {o : HO} (h : H p = none) : Same H (upd H p o) := fun b u e => by
  rw [upd_ne (ne_of_none e h)]
  exact e
theorem _root_.L2.Same.free_upd {H H' : Hp} {p : Addr} {o : HO} (s : Same H H') (h : H p = none) : Same H (upd H' p o) := fun b u e => by
  rw [upd_ne (ne_of_none e h)]
  exact s b u e
theorem _root_.L2.Same.none {H H' : Hp} (s : Same H H') {p : Addr} (h : H' p = Option.none) : H p = Option.none := Same.free s h
/-- a list that is new: tracked nowhere before -/
def RetL (H : Hp) (Q : VK) (l : List V) : Prop := ∀ (H' : Hp) (p : Addr), Same H H' → H p = none → H' p = some (.lst l) → Q (.ref p) H'
theorem RetL.now {H : Hp} {Q : VK} {l : List V} (k : RetL H Q l) {H1 : Hp} (s : Same H H1) {p : Addr} (h : H1 p = none) : Q (.ref p) (upd H1 p (.lst l)) := k _ p (s.free_upd (s.free h)) (s.free h) upd_same
theorem RetL.pass {H : Hp} {Q : VK} {l : List V} (k : RetL H Q l) {H1 : Hp} (s : Same H H1) : RetL H1 Q l := fun H' p s' h e => k H' p (Same.trans s s') (s.free h) e
/-! ### comprehensions whose parts change nothing -/
section
variable {K : PySem.W.Frag}
theorem filterMap_snoc {α β : Type} (f : α → Option β) : ∀ {l : List α} {i : Nat} {x : α}, l[i]? = some x → (l.take (i + 1)).filterMap f = (l.take i).filterMap f ++ (f x).toList
  | [], i, x, h => by simp at h
  | a :: l, 0, x, h => by
    have e : a = x := Option.some.inj h
    subst e
    show ([a] : List α).filterMap f = _
    cases e : f a <;> simp [e]
  | a :: l, i + 1, x, h => by
    have ih := filterMap_snoc f (l := l) (i := i) (x := x) h
    show (a :: l.take (i + 1)).filterMap f = (a :: l.take i).filterMap f ++ _
    cases e : f a with
    | none => simp only [List.filterMap_cons, e]; exact ih
    | some y => simp only [List.filterMap_cons, e]; rw [ih]; rfl
theorem filterMap_le {α β : Type} (f : α → Option β) (l : List α) (n : Nat) : ((l.take n).filterMap f).length ≤ n := Nat.le_trans (List.length_filterMap_le ..) (by rw [List.length_take]; exact Nat.min_le_left ..)
/-- over a list; f: what the i-th item gives -/
theorem lc_pure {a : Addr} {xs : List V} {g : TG} {tt : TT} {te : TE} {vs : List Nat} {σ : L2.St} {H1 : Hp} {D : Addr} {Qd : Hp → Prop} (f : Nat → Option V) (hx : SqL K H1 a xs) (hn : xs.length < 65536) (hD : H1 D = none)
    (hs : ∀ i x H', xs[i]? = some x → Same H1 H' → ∀ (R : V → Hp → Prop) (C : Hp → Prop), (∀ y, f i = some y → R y H') → (f i = none → C H') →
      g x (wipe σ vs) H' fun σ2 H2 => wipe σ2 vs = wipe σ vs ∧ tt σ2 H2 fun b H3 => if b = true then te σ2 H3 R else C H3)
    (hd : ∀ H', Same H1 H' → H' D = some (.lst ((List.range xs.length).filterMap f)) → Qd H') :
    ∃ Wq : Nat → Nat → Hp → Prop, (∃ q0, Wq 0 q0 (upd H1 D (.lst []))) ∧ ∀ i q Hi, Wq i q Hi →
      ((Itl K a).stop i Hi ∧ Qd Hi) ∨ ((Itl K a).go i Hi ∧ ∃ Nq : Hp → Prop, (∀ Hj, Nq Hj → ∃ q', q' < q ∧ Wq (i + 1) q' Hj) ∧
        ∀ x Hj, (Itl K a).yld i Hi x Hj → g x (wipe σ vs) Hj fun σ2 H2 => wipe σ2 vs = wipe σ vs ∧ tt σ2 H2 fun b H3 =>
          if b = true then te σ2 H3 (fun y H4 => ∃ acc, H4 D = some (.lst acc) ∧ acc.length < sizeLine ∧ Nq (upd H4 D (.lst (acc ++ [y])))) else Nq H3) := by
  have hr : ∀ i, i < xs.length → (List.range xs.length)[i]? = some i := fun i hi => List.getElem?_range hi
  refine lc_list (K := K) (a := a) (xs := xs) (fun i H => Same H1 H ∧ H D = some (.lst (((List.range xs.length).take i).filterMap f))) ⟨Same.new hD, upd_same⟩ (fun i H _ h => h.1.seq hx) ?_ ?_
  · rintro i x H hi ⟨s, hH⟩
    have h2 := (List.getElem?_eq_some_iff.mp hi).1
    have hl : (((List.range xs.length).take i).filterMap f).length < sizeLine := by
      have h1 := filterMap_le f (List.range xs.length) i
      have h3 : sizeLine = 2 ^ 24 := rfl
      omega
    refine hs i x H hi s _ _ (fun y hy => ⟨_, hH, hl, s.free_upd hD, ?_⟩) (fun hn => ⟨s, ?_⟩)
    · rw [upd_same, filterMap_snoc f (hr i h2), hy]
      rfl
    · rw [hH, filterMap_snoc f (hr i h2), hn]
      exact congrArg (fun q => some (HO.lst q)) (List.append_nil _).symm
  · rintro H ⟨s, hH⟩
    rw [List.take_of_length_le (by rw [List.length_range]; exact Nat.le_refl _)] at hH
    exact hd H s hH
theorem range_filterMap {α β : Type} (g : α → Option β) : ∀ l : List α, (List.range l.length).filterMap (fun i => l[i]?.bind g) = l.filterMap g
  | [] => rfl
  | a :: r => by
    rw [List.length_cons, List.range_succ_eq_map, List.filterMap_cons, List.filterMap_map]
    have ih := range_filterMap g r
    have e : ((fun i => (a :: r)[i]?.bind g) ∘ Nat.succ) = fun i => r[i]?.bind g := by
      funext i
      simp
    rw [e, ih]
    rfl
theorem range_map {α β : Type} (g : α → β) (l : List α) : (List.range l.length).filterMap (fun i => l[i]?.map g) = l.map g := by
  have h := range_filterMap (fun x => some (g x)) l
  rw [List.filterMap_eq_map'] at h
  rw [← h]
  congr 1
  funext i
  cases l[i]? <;> rfl
/-- over range(n) -/
theorem lc_pureR {n : Nat} {g : TG} {tt : TT} {te : TE} {vs : List Nat} {σ : L2.St} {H1 : Hp} {D : Addr} {Qd : Hp → Prop} (f : Nat → Option V) (hn : n < 65536) (hD : H1 D = none)
    (hs : ∀ i H', i < n → Same H1 H' → ∀ (R : V → Hp → Prop) (C : Hp → Prop), (∀ y, f i = some y → R y H') → (f i = none → C H') →
      g (.int (i : Int)) (wipe σ vs) H' fun σ2 H2 => wipe σ2 vs = wipe σ vs ∧ tt σ2 H2 fun b H3 => if b = true then te σ2 H3 R else C H3)
    (hd : ∀ H', Same H1 H' → H' D = some (.lst ((List.range n).filterMap f)) → Qd H') :
    ∃ Wq : Nat → Nat → Hp → Prop, (∃ q0, Wq 0 q0 (upd H1 D (.lst []))) ∧ ∀ i q Hi, Wq i q Hi →
      ((Itr 0 n).stop i Hi ∧ Qd Hi) ∨ ((Itr 0 n).go i Hi ∧ ∃ Nq : Hp → Prop, (∀ Hj, Nq Hj → ∃ q', q' < q ∧ Wq (i + 1) q' Hj) ∧
        ∀ x Hj, (Itr 0 n).yld i Hi x Hj → g x (wipe σ vs) Hj fun σ2 H2 => wipe σ2 vs = wipe σ vs ∧ tt σ2 H2 fun b H3 =>
          if b = true then te σ2 H3 (fun y H4 => ∃ acc, H4 D = some (.lst acc) ∧ acc.length < sizeLine ∧ Nq (upd H4 D (.lst (acc ++ [y])))) else Nq H3) := by
  have hr : ∀ i, i < n → (List.range n)[i]? = some i := fun i hi => List.getElem?_range hi
  refine lc_range (lo := 0) (n := n) (fun i H => Same H1 H ∧ H D = some (.lst (((List.range n).take i).filterMap f))) ⟨Same.new hD, upd_same⟩ ?_ ?_
  · rintro i H hi ⟨s, hH⟩
    have hl : (((List.range n).take i).filterMap f).length < sizeLine := by
      have h1 := filterMap_le f (List.range n) i
      have h3 : sizeLine = 2 ^ 24 := rfl
      omega
    rw [show ((0 : Int) + (i : Int)) = (i : Int) by omega]
    refine hs i H hi s _ _ (fun y hy => ⟨_, hH, hl, s.free_upd hD, ?_⟩) (fun hn => ⟨s, ?_⟩)
    · rw [upd_same, filterMap_snoc f (hr i hi), hy]
      rfl
    · rw [hH, filterMap_snoc f (hr i hi), hn]
      exact congrArg (fun q => some (HO.lst q)) (List.append_nil _).symm
  · rintro H ⟨s, hH⟩
    rw [List.take_of_length_le (by rw [List.length_range]; exact Nat.le_refl _)] at hH
    exact hd H s hH
end
/-! ### parts of lists; fields -/
theorem cutV_nat (xs : List V) (a c : Nat) : cutV xs (some (a : Int)) (some (c : Int)) = (xs.drop a).take (c - a) := by
  unfold cutV
  rw [HT.sIx_nat, HT.sIx_nat]
  by_cases h : a ≤ xs.length
  · rw [Nat.min_eq_left h]
    by_cases h2 : c ≤ xs.length
    · rw [Nat.min_eq_left h2]
    · rw [Nat.min_eq_right (by omega), List.take_of_length_le (by rw [List.length_drop]; omega), List.take_of_length_le (by rw [List.length_drop]; omega)]
  · have e : min a xs.length = xs.length := by omega
    rw [e, List.drop_length, List.drop_of_length_le (by omega), List.take_nil, List.take_nil]
theorem cutV_from (xs : List V) (a : Nat) : cutV xs (some (a : Int)) none = xs.drop a := by
  unfold cutV
  rw [HT.sIx_nat, HT.sIx_none]
  by_cases h : a ≤ xs.length
  · rw [Nat.min_eq_left h, List.take_of_length_le (by rw [List.length_drop]; omega)]
  · rw [Nat.min_eq_right (by omega), List.drop_length, List.drop_of_length_le (by omega), List.take_nil]
theorem cutV_to (xs : List V) (c : Nat) : cutV xs none (some (c : Int)) = xs.take c := by
  unfold cutV
  rw [HT.sIx_none, HT.sIx_nat]
  show (xs.drop 0).take (min c xs.length - 0) = _
  rw [List.drop_zero, Nat.sub_zero]
  by_cases h : c ≤ xs.length
  · rw [Nat.min_eq_left h]
  · rw [Nat.min_eq_right (by omega), List.take_length, List.take_of_length_le (by omega)]
theorem lk_here {k : Str} {v : V} {r : List (Str × V)} : List.lookup k ((k, v) :: r) = some v := by
  have e : (k == k) = true := beq_self_eq_true k
  simp only [List.lookup, e]
theorem lk_past {k g : Str} {v : V} {r : List (Str × V)} (h : (k == g) = false) : List.lookup k ((g, v) :: r) = List.lookup k r := by
  simp only [List.lookup, h]
theorem put_here {f : Str} {v x : V} {r : List (Str × V)} : putF f v ((f, x) :: r) = (f, v) :: r := if_pos rfl
theorem put_past {f g : Str} {v x : V} {r : List (Str × V)} (h : ¬ g = f) : putF f v ((g, x) :: r) = (g, x) :: putF f v r := if_neg h
end Po

namespace Po
open PySem PySem.Spec PyProof.Rows L2
set_option linter.all false
/-! ### the text by places -/
def top (i : Nat) : Stmt := PySem.Challenge.pw_postorder_s01_answers.main.body.getD i (.Pass ⟨0, 0, 0, 0⟩)
abbrev s_new_Post : Stmt := inClass (top 3) 0
abbrev N_new_Post : List Str := ["self", "stamp", "text"]
theorem sc_new_Post : FnScope N_new_Post ["self", "stamp", "text"] (defScope s_new_Post) := ⟨rfl, rfl, rfl, by decide +kernel, rfl, by decide +kernel, by decide +kernel⟩
theorem b_new_Post : ∀ (kV doc pm : Value) (an : Option Addr) (cdv ct : Value) (us : List Value), us.length = (["self", "stamp", "text"] : List Str).length → bindArgs (PySem.W.fnOf "__init__" "Post.__init__" (defArgs s_new_Post) (defBody s_new_Post) (defScope s_new_Post) .none kV doc pm an cdv ct) ⟨us, []⟩ = pure ((["self", "stamp", "text"] : List Str).zip us) := fun _ _ _ _ _ _ us hl => match us, hl with | [_, _, _], _ => rfl
abbrev s_padded_text : Stmt := top 4
abbrev N_padded_text : List Str := ["text"]
theorem sc_padded_text : FnScope N_padded_text ["text"] (defScope s_padded_text) := ⟨rfl, rfl, rfl, by decide +kernel, rfl, by decide +kernel, by decide +kernel⟩
theorem b_padded_text : ∀ (kV doc pm : Value) (an : Option Addr) (cdv ct : Value) (us : List Value), us.length = (["text"] : List Str).length → bindArgs (PySem.W.fnOf "padded_text" "padded_text" (defArgs s_padded_text) (defBody s_padded_text) (defScope s_padded_text) .none kV doc pm an cdv ct) ⟨us, []⟩ = pure ((["text"] : List Str).zip us) := fun _ _ _ _ _ _ us hl => match us, hl with | [_], _ => rfl
abbrev s_is_padded_text : Stmt := top 5
abbrev N_is_padded_text : List Str := ["length", "row"]
theorem sc_is_padded_text : FnScope N_is_padded_text ["length", "row"] (defScope s_is_padded_text) := ⟨rfl, rfl, rfl, by decide +kernel, rfl, by decide +kernel, by decide +kernel⟩
theorem b_is_padded_text : ∀ (kV doc pm : Value) (an : Option Addr) (cdv ct : Value) (us : List Value), us.length = (["length", "row"] : List Str).length → bindArgs (PySem.W.fnOf "is_padded_text" "is_padded_text" (defArgs s_is_padded_text) (defBody s_is_padded_text) (defScope s_is_padded_text) .none kV doc pm an cdv ct) ⟨us, []⟩ = pure ((["length", "row"] : List Str).zip us) := fun _ _ _ _ _ _ us hl => match us, hl with | [_, _], _ => rfl
abbrev s_counts_of : Stmt := top 6
abbrev N_counts_of : List Str := ["posts", "author", "post"]
theorem sc_counts_of : FnScope N_counts_of ["posts", "author"] (defScope s_counts_of) := ⟨rfl, rfl, rfl, by decide +kernel, rfl, by decide +kernel, by decide +kernel⟩
theorem b_counts_of : ∀ (kV doc pm : Value) (an : Option Addr) (cdv ct : Value) (us : List Value), us.length = (["posts", "author"] : List Str).length → bindArgs (PySem.W.fnOf "counts_of" "counts_of" (defArgs s_counts_of) (defBody s_counts_of) (defScope s_counts_of) .none kV doc pm an cdv ct) ⟨us, []⟩ = pure ((["posts", "author"] : List Str).zip us) := fun _ _ _ _ _ _ us hl => match us, hl with | [_, _], _ => rfl
abbrev s_empty_stamp : Stmt := top 12
abbrev N_empty_stamp : List Str := []
theorem sc_empty_stamp : FnScope N_empty_stamp [] (defScope s_empty_stamp) := ⟨rfl, rfl, rfl, by decide +kernel, rfl, by decide +kernel, by decide +kernel⟩
theorem b_empty_stamp : ∀ (kV doc pm : Value) (an : Option Addr) (cdv ct : Value) (us : List Value), us.length = ([] : List Str).length → bindArgs (PySem.W.fnOf "empty_stamp" "empty_stamp" (defArgs s_empty_stamp) (defBody s_empty_stamp) (defScope s_empty_stamp) .none kV doc pm an cdv ct) ⟨us, []⟩ = pure (([] : List Str).zip us) := fun _ _ _ _ _ _ us hl => match us, hl with | [], _ => rfl
abbrev s_bytes_of_number : Stmt := top 13
abbrev N_bytes_of_number : List Str := ["number", "row", "rest", "k"]
theorem sc_bytes_of_number : FnScope N_bytes_of_number ["number"] (defScope s_bytes_of_number) := ⟨rfl, rfl, rfl, by decide +kernel, rfl, by decide +kernel, by decide +kernel⟩
theorem b_bytes_of_number : ∀ (kV doc pm : Value) (an : Option Addr) (cdv ct : Value) (us : List Value), us.length = (["number"] : List Str).length → bindArgs (PySem.W.fnOf "bytes_of_number" "bytes_of_number" (defArgs s_bytes_of_number) (defBody s_bytes_of_number) (defScope s_bytes_of_number) .none kV doc pm an cdv ct) ⟨us, []⟩ = pure ((["number"] : List Str).zip us) := fun _ _ _ _ _ _ us hl => match us, hl with | [_], _ => rfl
abbrev s_number_of_bytes : Stmt := top 14
abbrev N_number_of_bytes : List Str := ["row", "number", "part"]
theorem sc_number_of_bytes : FnScope N_number_of_bytes ["row"] (defScope s_number_of_bytes) := ⟨rfl, rfl, rfl, by decide +kernel, rfl, by decide +kernel, by decide +kernel⟩
theorem b_number_of_bytes : ∀ (kV doc pm : Value) (an : Option Addr) (cdv ct : Value) (us : List Value), us.length = (["row"] : List Str).length → bindArgs (PySem.W.fnOf "number_of_bytes" "number_of_bytes" (defArgs s_number_of_bytes) (defBody s_number_of_bytes) (defScope s_number_of_bytes) .none kV doc pm an cdv ct) ⟨us, []⟩ = pure ((["row"] : List Str).zip us) := fun _ _ _ _ _ _ us hl => match us, hl with | [_], _ => rfl
abbrev s_bytes_of_stamp : Stmt := top 15
abbrev N_bytes_of_stamp : List Str := ["stamp", "row", "number"]
theorem sc_bytes_of_stamp : FnScope N_bytes_of_stamp ["stamp"] (defScope s_bytes_of_stamp) := ⟨rfl, rfl, rfl, by decide +kernel, rfl, by decide +kernel, by decide +kernel⟩
theorem b_bytes_of_stamp : ∀ (kV doc pm : Value) (an : Option Addr) (cdv ct : Value) (us : List Value), us.length = (["stamp"] : List Str).length → bindArgs (PySem.W.fnOf "bytes_of_stamp" "bytes_of_stamp" (defArgs s_bytes_of_stamp) (defBody s_bytes_of_stamp) (defScope s_bytes_of_stamp) .none kV doc pm an cdv ct) ⟨us, []⟩ = pure ((["stamp"] : List Str).zip us) := fun _ _ _ _ _ _ us hl => match us, hl with | [_], _ => rfl
abbrev s_stamp_of_bytes : Stmt := top 16
abbrev N_stamp_of_bytes : List Str := ["row", "stamp", "j", "start"]
theorem sc_stamp_of_bytes : FnScope N_stamp_of_bytes ["row"] (defScope s_stamp_of_bytes) := ⟨rfl, rfl, rfl, by decide +kernel, rfl, by decide +kernel, by decide +kernel⟩
theorem b_stamp_of_bytes : ∀ (kV doc pm : Value) (an : Option Addr) (cdv ct : Value) (us : List Value), us.length = (["row"] : List Str).length → bindArgs (PySem.W.fnOf "stamp_of_bytes" "stamp_of_bytes" (defArgs s_stamp_of_bytes) (defBody s_stamp_of_bytes) (defScope s_stamp_of_bytes) .none kV doc pm an cdv ct) ⟨us, []⟩ = pure ((["row"] : List Str).zip us) := fun _ _ _ _ _ _ us hl => match us, hl with | [_], _ => rfl
abbrev s_is_stamp : Stmt := top 17
abbrev N_is_stamp : List Str := ["stamp", "n"]
theorem sc_is_stamp : FnScope N_is_stamp ["stamp", "n"] (defScope s_is_stamp) := ⟨rfl, rfl, rfl, by decide +kernel, rfl, by decide +kernel, by decide +kernel⟩
theorem b_is_stamp : ∀ (kV doc pm : Value) (an : Option Addr) (cdv ct : Value) (us : List Value), us.length = (["stamp", "n"] : List Str).length → bindArgs (PySem.W.fnOf "is_stamp" "is_stamp" (defArgs s_is_stamp) (defBody s_is_stamp) (defScope s_is_stamp) .none kV doc pm an cdv ct) ⟨us, []⟩ = pure ((["stamp", "n"] : List Str).zip us) := fun _ _ _ _ _ _ us hl => match us, hl with | [_, _], _ => rfl
abbrev s_new_Node : Stmt := inClass (top 20) 0
abbrev N_new_Node : List Str := ["self", "me", "n", "j"]
theorem sc_new_Node : FnScope N_new_Node ["self", "me", "n"] (defScope s_new_Node) := ⟨rfl, rfl, rfl, by decide +kernel, rfl, by decide +kernel, by decide +kernel⟩
theorem b_new_Node : ∀ (kV doc pm : Value) (an : Option Addr) (cdv ct : Value) (us : List Value), us.length = (["self", "me", "n"] : List Str).length → bindArgs (PySem.W.fnOf "__init__" "Node.__init__" (defArgs s_new_Node) (defBody s_new_Node) (defScope s_new_Node) .none kV doc pm an cdv ct) ⟨us, []⟩ = pure ((["self", "me", "n"] : List Str).zip us) := fun _ _ _ _ _ _ us hl => match us, hl with | [_, _, _], _ => rfl
abbrev s_may_be_node : Stmt := top 21
abbrev N_may_be_node : List Str := ["me", "n"]
theorem sc_may_be_node : FnScope N_may_be_node ["me", "n"] (defScope s_may_be_node) := ⟨rfl, rfl, rfl, by decide +kernel, rfl, by decide +kernel, by decide +kernel⟩
theorem b_may_be_node : ∀ (kV doc pm : Value) (an : Option Addr) (cdv ct : Value) (us : List Value), us.length = (["me", "n"] : List Str).length → bindArgs (PySem.W.fnOf "may_be_node" "may_be_node" (defArgs s_may_be_node) (defBody s_may_be_node) (defScope s_may_be_node) .none kV doc pm an cdv ct) ⟨us, []⟩ = pure ((["me", "n"] : List Str).zip us) := fun _ _ _ _ _ _ us hl => match us, hl with | [_, _], _ => rfl
abbrev s_is_other : Stmt := top 22
abbrev N_is_other : List Str := ["node", "j"]
theorem sc_is_other : FnScope N_is_other ["node", "j"] (defScope s_is_other) := ⟨rfl, rfl, rfl, by decide +kernel, rfl, by decide +kernel, by decide +kernel⟩
theorem b_is_other : ∀ (kV doc pm : Value) (an : Option Addr) (cdv ct : Value) (us : List Value), us.length = (["node", "j"] : List Str).length → bindArgs (PySem.W.fnOf "is_other" "is_other" (defArgs s_is_other) (defBody s_is_other) (defScope s_is_other) .none kV doc pm an cdv ct) ⟨us, []⟩ = pure ((["node", "j"] : List Str).zip us) := fun _ _ _ _ _ _ us hl => match us, hl with | [_, _], _ => rfl
abbrev s_others_of : Stmt := top 23
abbrev N_others_of : List Str := ["node", "j"]
theorem sc_others_of : FnScope N_others_of ["node"] (defScope s_others_of) := ⟨rfl, rfl, rfl, by decide +kernel, rfl, by decide +kernel, by decide +kernel⟩
theorem b_others_of : ∀ (kV doc pm : Value) (an : Option Addr) (cdv ct : Value) (us : List Value), us.length = (["node"] : List Str).length → bindArgs (PySem.W.fnOf "others_of" "others_of" (defArgs s_others_of) (defBody s_others_of) (defScope s_others_of) .none kV doc pm an cdv ct) ⟨us, []⟩ = pure ((["node"] : List Str).zip us) := fun _ _ _ _ _ _ us hl => match us, hl with | [_], _ => rfl
abbrev s_post_letter : Stmt := top 30
abbrev N_post_letter : List Str := ["to", "author", "post", "head"]
theorem sc_post_letter : FnScope N_post_letter ["to", "author", "post"] (defScope s_post_letter) := ⟨rfl, rfl, rfl, by decide +kernel, rfl, by decide +kernel, by decide +kernel⟩
theorem b_post_letter : ∀ (kV doc pm : Value) (an : Option Addr) (cdv ct : Value) (us : List Value), us.length = (["to", "author", "post"] : List Str).length → bindArgs (PySem.W.fnOf "post_letter" "post_letter" (defArgs s_post_letter) (defBody s_post_letter) (defScope s_post_letter) .none kV doc pm an cdv ct) ⟨us, []⟩ = pure ((["to", "author", "post"] : List Str).zip us) := fun _ _ _ _ _ _ us hl => match us, hl with | [_, _, _], _ => rfl
abbrev s_seen_letter : Stmt := top 31
abbrev N_seen_letter : List Str := ["to", "sender", "seen"]
theorem sc_seen_letter : FnScope N_seen_letter ["to", "sender", "seen"] (defScope s_seen_letter) := ⟨rfl, rfl, rfl, by decide +kernel, rfl, by decide +kernel, by decide +kernel⟩
theorem b_seen_letter : ∀ (kV doc pm : Value) (an : Option Addr) (cdv ct : Value) (us : List Value), us.length = (["to", "sender", "seen"] : List Str).length → bindArgs (PySem.W.fnOf "seen_letter" "seen_letter" (defArgs s_seen_letter) (defBody s_seen_letter) (defScope s_seen_letter) .none kV doc pm an cdv ct) ⟨us, []⟩ = pure ((["to", "sender", "seen"] : List Str).zip us) := fun _ _ _ _ _ _ us hl => match us, hl with | [_, _, _], _ => rfl
abbrev s_is_seen : Stmt := top 32
abbrev N_is_seen : List Str := ["letter"]
theorem sc_is_seen : FnScope N_is_seen ["letter"] (defScope s_is_seen) := ⟨rfl, rfl, rfl, by decide +kernel, rfl, by decide +kernel, by decide +kernel⟩
theorem b_is_seen : ∀ (kV doc pm : Value) (an : Option Addr) (cdv ct : Value) (us : List Value), us.length = (["letter"] : List Str).length → bindArgs (PySem.W.fnOf "is_seen" "is_seen" (defArgs s_is_seen) (defBody s_is_seen) (defScope s_is_seen) .none kV doc pm an cdv ct) ⟨us, []⟩ = pure ((["letter"] : List Str).zip us) := fun _ _ _ _ _ _ us hl => match us, hl with | [_], _ => rfl
abbrev s_sender_of : Stmt := top 33
abbrev N_sender_of : List Str := ["letter"]
theorem sc_sender_of : FnScope N_sender_of ["letter"] (defScope s_sender_of) := ⟨rfl, rfl, rfl, by decide +kernel, rfl, by decide +kernel, by decide +kernel⟩
theorem b_sender_of : ∀ (kV doc pm : Value) (an : Option Addr) (cdv ct : Value) (us : List Value), us.length = (["letter"] : List Str).length → bindArgs (PySem.W.fnOf "sender_of" "sender_of" (defArgs s_sender_of) (defBody s_sender_of) (defScope s_sender_of) .none kV doc pm an cdv ct) ⟨us, []⟩ = pure ((["letter"] : List Str).zip us) := fun _ _ _ _ _ _ us hl => match us, hl with | [_], _ => rfl
abbrev s_stamp_in : Stmt := top 34
abbrev N_stamp_in : List Str := ["letter"]
theorem sc_stamp_in : FnScope N_stamp_in ["letter"] (defScope s_stamp_in) := ⟨rfl, rfl, rfl, by decide +kernel, rfl, by decide +kernel, by decide +kernel⟩
theorem b_stamp_in : ∀ (kV doc pm : Value) (an : Option Addr) (cdv ct : Value) (us : List Value), us.length = (["letter"] : List Str).length → bindArgs (PySem.W.fnOf "stamp_in" "stamp_in" (defArgs s_stamp_in) (defBody s_stamp_in) (defScope s_stamp_in) .none kV doc pm an cdv ct) ⟨us, []⟩ = pure ((["letter"] : List Str).zip us) := fun _ _ _ _ _ _ us hl => match us, hl with | [_], _ => rfl
abbrev s_padded_text_in : Stmt := top 35
abbrev N_padded_text_in : List Str := ["letter"]
theorem sc_padded_text_in : FnScope N_padded_text_in ["letter"] (defScope s_padded_text_in) := ⟨rfl, rfl, rfl, by decide +kernel, rfl, by decide +kernel, by decide +kernel⟩
theorem b_padded_text_in : ∀ (kV doc pm : Value) (an : Option Addr) (cdv ct : Value) (us : List Value), us.length = (["letter"] : List Str).length → bindArgs (PySem.W.fnOf "padded_text_in" "padded_text_in" (defArgs s_padded_text_in) (defBody s_padded_text_in) (defScope s_padded_text_in) .none kV doc pm an cdv ct) ⟨us, []⟩ = pure ((["letter"] : List Str).zip us) := fun _ _ _ _ _ _ us hl => match us, hl with | [_], _ => rfl
abbrev s_post_in : Stmt := top 36
abbrev N_post_in : List Str := ["letter", "length"]
theorem sc_post_in : FnScope N_post_in ["letter"] (defScope s_post_in) := ⟨rfl, rfl, rfl, by decide +kernel, rfl, by decide +kernel, by decide +kernel⟩
theorem b_post_in : ∀ (kV doc pm : Value) (an : Option Addr) (cdv ct : Value) (us : List Value), us.length = (["letter"] : List Str).length → bindArgs (PySem.W.fnOf "post_in" "post_in" (defArgs s_post_in) (defBody s_post_in) (defScope s_post_in) .none kV doc pm an cdv ct) ⟨us, []⟩ = pure ((["letter"] : List Str).zip us) := fun _ _ _ _ _ _ us hl => match us, hl with | [_], _ => rfl
abbrev s_is_right : Stmt := top 37
abbrev N_is_right : List Str := ["node", "letter"]
theorem sc_is_right : FnScope N_is_right ["node", "letter"] (defScope s_is_right) := ⟨rfl, rfl, rfl, by decide +kernel, rfl, by decide +kernel, by decide +kernel⟩
theorem b_is_right : ∀ (kV doc pm : Value) (an : Option Addr) (cdv ct : Value) (us : List Value), us.length = (["node", "letter"] : List Str).length → bindArgs (PySem.W.fnOf "is_right" "is_right" (defArgs s_is_right) (defBody s_is_right) (defScope s_is_right) .none kV doc pm an cdv ct) ⟨us, []⟩ = pure ((["node", "letter"] : List Str).zip us) := fun _ _ _ _ _ _ us hl => match us, hl with | [_, _], _ => rfl
abbrev s_is_from_another : Stmt := top 38
abbrev N_is_from_another : List Str := ["node", "letter"]
theorem sc_is_from_another : FnScope N_is_from_another ["node", "letter"] (defScope s_is_from_another) := ⟨rfl, rfl, rfl, by decide +kernel, rfl, by decide +kernel, by decide +kernel⟩
theorem b_is_from_another : ∀ (kV doc pm : Value) (an : Option Addr) (cdv ct : Value) (us : List Value), us.length = (["node", "letter"] : List Str).length → bindArgs (PySem.W.fnOf "is_from_another" "is_from_another" (defArgs s_is_from_another) (defBody s_is_from_another) (defScope s_is_from_another) .none kV doc pm an cdv ct) ⟨us, []⟩ = pure ((["node", "letter"] : List Str).zip us) := fun _ _ _ _ _ _ us hl => match us, hl with | [_, _], _ => rfl
abbrev s_is_right_post : Stmt := top 39
abbrev N_is_right_post : List Str := ["node", "letter", "stamp"]
theorem sc_is_right_post : FnScope N_is_right_post ["node", "letter"] (defScope s_is_right_post) := ⟨rfl, rfl, rfl, by decide +kernel, rfl, by decide +kernel, by decide +kernel⟩
theorem b_is_right_post : ∀ (kV doc pm : Value) (an : Option Addr) (cdv ct : Value) (us : List Value), us.length = (["node", "letter"] : List Str).length → bindArgs (PySem.W.fnOf "is_right_post" "is_right_post" (defArgs s_is_right_post) (defBody s_is_right_post) (defScope s_is_right_post) .none kV doc pm an cdv ct) ⟨us, []⟩ = pure ((["node", "letter"] : List Str).zip us) := fun _ _ _ _ _ _ us hl => match us, hl with | [_, _], _ => rfl
abbrev s_is_right_seen : Stmt := top 40
abbrev N_is_right_seen : List Str := ["node", "letter"]
theorem sc_is_right_seen : FnScope N_is_right_seen ["node", "letter"] (defScope s_is_right_seen) := ⟨rfl, rfl, rfl, by decide +kernel, rfl, by decide +kernel, by decide +kernel⟩
theorem b_is_right_seen : ∀ (kV doc pm : Value) (an : Option Addr) (cdv ct : Value) (us : List Value), us.length = (["node", "letter"] : List Str).length → bindArgs (PySem.W.fnOf "is_right_seen" "is_right_seen" (defArgs s_is_right_seen) (defBody s_is_right_seen) (defScope s_is_right_seen) .none kV doc pm an cdv ct) ⟨us, []⟩ = pure ((["node", "letter"] : List Str).zip us) := fun _ _ _ _ _ _ us hl => match us, hl with | [_, _], _ => rfl
abbrev s_write_post : Stmt := top 48
abbrev N_write_post : List Str := ["node", "most", "text", "post", "sent", "to"]
theorem sc_write_post : FnScope N_write_post ["node", "most", "text"] (defScope s_write_post) := ⟨rfl, rfl, rfl, by decide +kernel, rfl, by decide +kernel, by decide +kernel⟩
theorem b_write_post : ∀ (kV doc pm : Value) (an : Option Addr) (cdv ct : Value) (us : List Value), us.length = (["node", "most", "text"] : List Str).length → bindArgs (PySem.W.fnOf "write_post" "write_post" (defArgs s_write_post) (defBody s_write_post) (defScope s_write_post) .none kV doc pm an cdv ct) ⟨us, []⟩ = pure ((["node", "most", "text"] : List Str).zip us) := fun _ _ _ _ _ _ us hl => match us, hl with | [_, _, _], _ => rfl
abbrev s_take_letter : Stmt := top 49
abbrev N_take_letter : List Str := ["node", "most", "letter"]
theorem sc_take_letter : FnScope N_take_letter ["node", "most", "letter"] (defScope s_take_letter) := ⟨rfl, rfl, rfl, by decide +kernel, rfl, by decide +kernel, by decide +kernel⟩
theorem b_take_letter : ∀ (kV doc pm : Value) (an : Option Addr) (cdv ct : Value) (us : List Value), us.length = (["node", "most", "letter"] : List Str).length → bindArgs (PySem.W.fnOf "take_letter" "take_letter" (defArgs s_take_letter) (defBody s_take_letter) (defScope s_take_letter) .none kV doc pm an cdv ct) ⟨us, []⟩ = pure ((["node", "most", "letter"] : List Str).zip us) := fun _ _ _ _ _ _ us hl => match us, hl with | [_, _, _], _ => rfl
abbrev s_take_post : Stmt := top 50
abbrev N_take_post : List Str := ["node", "most", "author", "post", "count", "seen"]
theorem sc_take_post : FnScope N_take_post ["node", "most", "author", "post"] (defScope s_take_post) := ⟨rfl, rfl, rfl, by decide +kernel, rfl, by decide +kernel, by decide +kernel⟩
theorem b_take_post : ∀ (kV doc pm : Value) (an : Option Addr) (cdv ct : Value) (us : List Value), us.length = (["node", "most", "author", "post"] : List Str).length → bindArgs (PySem.W.fnOf "take_post" "take_post" (defArgs s_take_post) (defBody s_take_post) (defScope s_take_post) .none kV doc pm an cdv ct) ⟨us, []⟩ = pure ((["node", "most", "author", "post"] : List Str).zip us) := fun _ _ _ _ _ _ us hl => match us, hl with | [_, _, _, _], _ => rfl
abbrev s_tell_seen : Stmt := top 51
abbrev N_tell_seen : List Str := ["node", "to", "most"]
theorem sc_tell_seen : FnScope N_tell_seen ["node", "to", "most"] (defScope s_tell_seen) := ⟨rfl, rfl, rfl, by decide +kernel, rfl, by decide +kernel, by decide +kernel⟩
theorem b_tell_seen : ∀ (kV doc pm : Value) (an : Option Addr) (cdv ct : Value) (us : List Value), us.length = (["node", "to", "most"] : List Str).length → bindArgs (PySem.W.fnOf "tell_seen" "tell_seen" (defArgs s_tell_seen) (defBody s_tell_seen) (defScope s_tell_seen) .none kV doc pm an cdv ct) ⟨us, []⟩ = pure ((["node", "to", "most"] : List Str).zip us) := fun _ _ _ _ _ _ us hl => match us, hl with | [_, _, _], _ => rfl
abbrev s_let_wait : Stmt := top 52
abbrev N_let_wait : List Str := ["waiting", "author", "post", "count", "counts", "other"]
theorem sc_let_wait : FnScope N_let_wait ["waiting", "author", "post"] (defScope s_let_wait) := ⟨rfl, rfl, rfl, by decide +kernel, rfl, by decide +kernel, by decide +kernel⟩
theorem b_let_wait : ∀ (kV doc pm : Value) (an : Option Addr) (cdv ct : Value) (us : List Value), us.length = (["waiting", "author", "post"] : List Str).length → bindArgs (PySem.W.fnOf "let_wait" "let_wait" (defArgs s_let_wait) (defBody s_let_wait) (defScope s_let_wait) .none kV doc pm an cdv ct) ⟨us, []⟩ = pure ((["waiting", "author", "post"] : List Str).zip us) := fun _ _ _ _ _ _ us hl => match us, hl with | [_, _, _], _ => rfl
abbrev s_learn : Stmt := top 53
abbrev N_learn : List Str := ["node", "sender", "seen", "known", "known_to_all", "j", "number"]
theorem sc_learn : FnScope N_learn ["node", "sender", "seen"] (defScope s_learn) := ⟨rfl, rfl, rfl, by decide +kernel, rfl, by decide +kernel, by decide +kernel⟩
theorem b_learn : ∀ (kV doc pm : Value) (an : Option Addr) (cdv ct : Value) (us : List Value), us.length = (["node", "sender", "seen"] : List Str).length → bindArgs (PySem.W.fnOf "learn" "learn" (defArgs s_learn) (defBody s_learn) (defScope s_learn) .none kV doc pm an cdv ct) ⟨us, []⟩ = pure ((["node", "sender", "seen"] : List Str).zip us) := fun _ _ _ _ _ _ us hl => match us, hl with | [_, _, _], _ => rfl
abbrev s_show_next : Stmt := top 54
abbrev N_show_next : List Str := ["node", "author", "post"]
theorem sc_show_next : FnScope N_show_next ["node"] (defScope s_show_next) := ⟨rfl, rfl, rfl, by decide +kernel, rfl, by decide +kernel, by decide +kernel⟩
theorem b_show_next : ∀ (kV doc pm : Value) (an : Option Addr) (cdv ct : Value) (us : List Value), us.length = (["node"] : List Str).length → bindArgs (PySem.W.fnOf "show_next" "show_next" (defArgs s_show_next) (defBody s_show_next) (defScope s_show_next) .none kV doc pm an cdv ct) ⟨us, []⟩ = pure ((["node"] : List Str).zip us) := fun _ _ _ _ _ _ us hl => match us, hl with | [_], _ => rfl
abbrev s_next_author : Stmt := top 55
abbrev N_next_author : List Str := ["node", "author", "waiting"]
theorem sc_next_author : FnScope N_next_author ["node"] (defScope s_next_author) := ⟨rfl, rfl, rfl, by decide +kernel, rfl, by decide +kernel, by decide +kernel⟩
theorem b_next_author : ∀ (kV doc pm : Value) (an : Option Addr) (cdv ct : Value) (us : List Value), us.length = (["node"] : List Str).length → bindArgs (PySem.W.fnOf "next_author" "next_author" (defArgs s_next_author) (defBody s_next_author) (defScope s_next_author) .none kV doc pm an cdv ct) ⟨us, []⟩ = pure ((["node"] : List Str).zip us) := fun _ _ _ _ _ _ us hl => match us, hl with | [_], _ => rfl
abbrev s_may_be_shown : Stmt := top 56
abbrev N_may_be_shown : List Str := ["node", "author", "post", "j"]
theorem sc_may_be_shown : FnScope N_may_be_shown ["node", "author", "post"] (defScope s_may_be_shown) := ⟨rfl, rfl, rfl, by decide +kernel, rfl, by decide +kernel, by decide +kernel⟩
theorem b_may_be_shown : ∀ (kV doc pm : Value) (an : Option Addr) (cdv ct : Value) (us : List Value), us.length = (["node", "author", "post"] : List Str).length → bindArgs (PySem.W.fnOf "may_be_shown" "may_be_shown" (defArgs s_may_be_shown) (defBody s_may_be_shown) (defScope s_may_be_shown) .none kV doc pm an cdv ct) ⟨us, []⟩ = pure ((["node", "author", "post"] : List Str).zip us) := fun _ _ _ _ _ _ us hl => match us, hl with | [_, _, _], _ => rfl
abbrev s_send_again : Stmt := top 57
abbrev N_send_again : List Str := ["node", "to", "most", "sent", "post"]
theorem sc_send_again : FnScope N_send_again ["node", "to", "most"] (defScope s_send_again) := ⟨rfl, rfl, rfl, by decide +kernel, rfl, by decide +kernel, by decide +kernel⟩
theorem b_send_again : ∀ (kV doc pm : Value) (an : Option Addr) (cdv ct : Value) (us : List Value), us.length = (["node", "to", "most"] : List Str).length → bindArgs (PySem.W.fnOf "send_again" "send_again" (defArgs s_send_again) (defBody s_send_again) (defScope s_send_again) .none kV doc pm an cdv ct) ⟨us, []⟩ = pure ((["node", "to", "most"] : List Str).zip us) := fun _ _ _ _ _ _ us hl => match us, hl with | [_, _, _], _ => rfl
abbrev s_tell : Stmt := top 58
abbrev N_tell : List Str := ["node", "to", "most"]
theorem sc_tell : FnScope N_tell ["node", "to", "most"] (defScope s_tell) := ⟨rfl, rfl, rfl, by decide +kernel, rfl, by decide +kernel, by decide +kernel⟩
theorem b_tell : ∀ (kV doc pm : Value) (an : Option Addr) (cdv ct : Value) (us : List Value), us.length = (["node", "to", "most"] : List Str).length → bindArgs (PySem.W.fnOf "tell" "tell" (defArgs s_tell) (defBody s_tell) (defScope s_tell) .none kV doc pm an cdv ct) ⟨us, []⟩ = pure ((["node", "to", "most"] : List Str).zip us) := fun _ _ _ _ _ _ us hl => match us, hl with | [_, _, _], _ => rfl
abbrev s_new_Reader : Stmt := inClass (top 60) 0
abbrev N_new_Reader : List Str := ["self", "numbers"]
theorem sc_new_Reader : FnScope N_new_Reader ["self", "numbers"] (defScope s_new_Reader) := ⟨rfl, rfl, rfl, by decide +kernel, rfl, by decide +kernel, by decide +kernel⟩
theorem b_new_Reader : ∀ (kV doc pm : Value) (an : Option Addr) (cdv ct : Value) (us : List Value), us.length = (["self", "numbers"] : List Str).length → bindArgs (PySem.W.fnOf "__init__" "Reader.__init__" (defArgs s_new_Reader) (defBody s_new_Reader) (defScope s_new_Reader) .none kV doc pm an cdv ct) ⟨us, []⟩ = pure ((["self", "numbers"] : List Str).zip us) := fun _ _ _ _ _ _ us hl => match us, hl with | [_, _], _ => rfl
abbrev s_m_is_done : Stmt := inClass (top 60) 1
abbrev N_m_is_done : List Str := ["self"]
theorem sc_m_is_done : FnScope N_m_is_done ["self"] (defScope s_m_is_done) := ⟨rfl, rfl, rfl, by decide +kernel, rfl, by decide +kernel, by decide +kernel⟩
theorem b_m_is_done : ∀ (kV doc pm : Value) (an : Option Addr) (cdv ct : Value) (us : List Value), us.length = (["self"] : List Str).length → bindArgs (PySem.W.fnOf "is_done" "Reader.is_done" (defArgs s_m_is_done) (defBody s_m_is_done) (defScope s_m_is_done) .none kV doc pm an cdv ct) ⟨us, []⟩ = pure ((["self"] : List Str).zip us) := fun _ _ _ _ _ _ us hl => match us, hl with | [_], _ => rfl
abbrev s_m_take_one : Stmt := inClass (top 60) 2
abbrev N_m_take_one : List Str := ["self", "taken"]
theorem sc_m_take_one : FnScope N_m_take_one ["self"] (defScope s_m_take_one) := ⟨rfl, rfl, rfl, by decide +kernel, rfl, by decide +kernel, by decide +kernel⟩
theorem b_m_take_one : ∀ (kV doc pm : Value) (an : Option Addr) (cdv ct : Value) (us : List Value), us.length = (["self"] : List Str).length → bindArgs (PySem.W.fnOf "take_one" "Reader.take_one" (defArgs s_m_take_one) (defBody s_m_take_one) (defScope s_m_take_one) .none kV doc pm an cdv ct) ⟨us, []⟩ = pure ((["self"] : List Str).zip us) := fun _ _ _ _ _ _ us hl => match us, hl with | [_], _ => rfl
abbrev s_m_take_some : Stmt := inClass (top 60) 3
abbrev N_m_take_some : List Str := ["self", "length", "taken"]
theorem sc_m_take_some : FnScope N_m_take_some ["self", "length"] (defScope s_m_take_some) := ⟨rfl, rfl, rfl, by decide +kernel, rfl, by decide +kernel, by decide +kernel⟩
theorem b_m_take_some : ∀ (kV doc pm : Value) (an : Option Addr) (cdv ct : Value) (us : List Value), us.length = (["self", "length"] : List Str).length → bindArgs (PySem.W.fnOf "take_some" "Reader.take_some" (defArgs s_m_take_some) (defBody s_m_take_some) (defScope s_m_take_some) .none kV doc pm an cdv ct) ⟨us, []⟩ = pure ((["self", "length"] : List Str).zip us) := fun _ _ _ _ _ _ us hl => match us, hl with | [_, _], _ => rfl
abbrev s_m_take_row : Stmt := inClass (top 60) 4
abbrev N_m_take_row : List Str := ["self", "length"]
theorem sc_m_take_row : FnScope N_m_take_row ["self"] (defScope s_m_take_row) := ⟨rfl, rfl, rfl, by decide +kernel, rfl, by decide +kernel, by decide +kernel⟩
theorem b_m_take_row : ∀ (kV doc pm : Value) (an : Option Addr) (cdv ct : Value) (us : List Value), us.length = (["self"] : List Str).length → bindArgs (PySem.W.fnOf "take_row" "Reader.take_row" (defArgs s_m_take_row) (defBody s_m_take_row) (defScope s_m_take_row) .none kV doc pm an cdv ct) ⟨us, []⟩ = pure ((["self"] : List Str).zip us) := fun _ _ _ _ _ _ us hl => match us, hl with | [_], _ => rfl
abbrev s_bytes_of_node : Stmt := top 64
abbrev N_bytes_of_node : List Str := ["node", "row", "stamp", "posts"]
theorem sc_bytes_of_node : FnScope N_bytes_of_node ["node"] (defScope s_bytes_of_node) := ⟨rfl, rfl, rfl, by decide +kernel, rfl, by decide +kernel, by decide +kernel⟩
theorem b_bytes_of_node : ∀ (kV doc pm : Value) (an : Option Addr) (cdv ct : Value) (us : List Value), us.length = (["node"] : List Str).length → bindArgs (PySem.W.fnOf "bytes_of_node" "bytes_of_node" (defArgs s_bytes_of_node) (defBody s_bytes_of_node) (defScope s_bytes_of_node) .none kV doc pm an cdv ct) ⟨us, []⟩ = pure ((["node"] : List Str).zip us) := fun _ _ _ _ _ _ us hl => match us, hl with | [_], _ => rfl
abbrev s_bytes_of_posts : Stmt := top 65
abbrev N_bytes_of_posts : List Str := ["posts", "row", "post"]
theorem sc_bytes_of_posts : FnScope N_bytes_of_posts ["posts"] (defScope s_bytes_of_posts) := ⟨rfl, rfl, rfl, by decide +kernel, rfl, by decide +kernel, by decide +kernel⟩
theorem b_bytes_of_posts : ∀ (kV doc pm : Value) (an : Option Addr) (cdv ct : Value) (us : List Value), us.length = (["posts"] : List Str).length → bindArgs (PySem.W.fnOf "bytes_of_posts" "bytes_of_posts" (defArgs s_bytes_of_posts) (defBody s_bytes_of_posts) (defScope s_bytes_of_posts) .none kV doc pm an cdv ct) ⟨us, []⟩ = pure ((["posts"] : List Str).zip us) := fun _ _ _ _ _ _ us hl => match us, hl with | [_], _ => rfl
abbrev s_node_of_bytes : Stmt := top 66
abbrev N_node_of_bytes : List Str := ["saved", "reader", "me", "n", "node", "j", "posts"]
theorem sc_node_of_bytes : FnScope N_node_of_bytes ["saved"] (defScope s_node_of_bytes) := ⟨rfl, rfl, rfl, by decide +kernel, rfl, by decide +kernel, by decide +kernel⟩
theorem b_node_of_bytes : ∀ (kV doc pm : Value) (an : Option Addr) (cdv ct : Value) (us : List Value), us.length = (["saved"] : List Str).length → bindArgs (PySem.W.fnOf "node_of_bytes" "node_of_bytes" (defArgs s_node_of_bytes) (defBody s_node_of_bytes) (defScope s_node_of_bytes) .none kV doc pm an cdv ct) ⟨us, []⟩ = pure ((["saved"] : List Str).zip us) := fun _ _ _ _ _ _ us hl => match us, hl with | [_], _ => rfl
abbrev s_read_posts : Stmt := top 67
abbrev N_read_posts : List Str := ["reader", "n", "how_many", "room", "posts", "k", "post"]
theorem sc_read_posts : FnScope N_read_posts ["reader", "n"] (defScope s_read_posts) := ⟨rfl, rfl, rfl, by decide +kernel, rfl, by decide +kernel, by decide +kernel⟩
theorem b_read_posts : ∀ (kV doc pm : Value) (an : Option Addr) (cdv ct : Value) (us : List Value), us.length = (["reader", "n"] : List Str).length → bindArgs (PySem.W.fnOf "read_posts" "read_posts" (defArgs s_read_posts) (defBody s_read_posts) (defScope s_read_posts) .none kV doc pm an cdv ct) ⟨us, []⟩ = pure ((["reader", "n"] : List Str).zip us) := fun _ _ _ _ _ _ us hl => match us, hl with | [_, _], _ => rfl
abbrev s_read_post : Stmt := top 68
abbrev N_read_post : List Str := ["reader", "n", "stamp", "length", "padded"]
theorem sc_read_post : FnScope N_read_post ["reader", "n"] (defScope s_read_post) := ⟨rfl, rfl, rfl, by decide +kernel, rfl, by decide +kernel, by decide +kernel⟩
theorem b_read_post : ∀ (kV doc pm : Value) (an : Option Addr) (cdv ct : Value) (us : List Value), us.length = (["reader", "n"] : List Str).length → bindArgs (PySem.W.fnOf "read_post" "read_post" (defArgs s_read_post) (defBody s_read_post) (defScope s_read_post) .none kV doc pm an cdv ct) ⟨us, []⟩ = pure ((["reader", "n"] : List Str).zip us) := fun _ _ _ _ _ _ us hl => match us, hl with | [_, _], _ => rfl
abbrev s_is_known_so : Stmt := top 69
abbrev N_is_known_so : List Str := ["node", "j", "stamp"]
theorem sc_is_known_so : FnScope N_is_known_so ["node"] (defScope s_is_known_so) := ⟨rfl, rfl, rfl, by decide +kernel, rfl, by decide +kernel, by decide +kernel⟩
theorem b_is_known_so : ∀ (kV doc pm : Value) (an : Option Addr) (cdv ct : Value) (us : List Value), us.length = (["node"] : List Str).length → bindArgs (PySem.W.fnOf "is_known_so" "is_known_so" (defArgs s_is_known_so) (defBody s_is_known_so) (defScope s_is_known_so) .none kV doc pm an cdv ct) ⟨us, []⟩ = pure ((["node"] : List Str).zip us) := fun _ _ _ _ _ _ us hl => match us, hl with | [_], _ => rfl
abbrev s_is_mine_so : Stmt := top 70
abbrev N_is_mine_so : List Str := ["node", "last", "first"]
theorem sc_is_mine_so : FnScope N_is_mine_so ["node"] (defScope s_is_mine_so) := ⟨rfl, rfl, rfl, by decide +kernel, rfl, by decide +kernel, by decide +kernel⟩
theorem b_is_mine_so : ∀ (kV doc pm : Value) (an : Option Addr) (cdv ct : Value) (us : List Value), us.length = (["node"] : List Str).length → bindArgs (PySem.W.fnOf "is_mine_so" "is_mine_so" (defArgs s_is_mine_so) (defBody s_is_mine_so) (defScope s_is_mine_so) .none kV doc pm an cdv ct) ⟨us, []⟩ = pure ((["node"] : List Str).zip us) := fun _ _ _ _ _ _ us hl => match us, hl with | [_], _ => rfl
abbrev s_is_waiting_so : Stmt := top 71
abbrev N_is_waiting_so : List Str := ["node", "j", "posts", "below", "count"]
theorem sc_is_waiting_so : FnScope N_is_waiting_so ["node"] (defScope s_is_waiting_so) := ⟨rfl, rfl, rfl, by decide +kernel, rfl, by decide +kernel, by decide +kernel⟩
theorem b_is_waiting_so : ∀ (kV doc pm : Value) (an : Option Addr) (cdv ct : Value) (us : List Value), us.length = (["node"] : List Str).length → bindArgs (PySem.W.fnOf "is_waiting_so" "is_waiting_so" (defArgs s_is_waiting_so) (defBody s_is_waiting_so) (defScope s_is_waiting_so) .none kV doc pm an cdv ct) ⟨us, []⟩ = pure ((["node"] : List Str).zip us) := fun _ _ _ _ _ _ us hl => match us, hl with | [_], _ => rfl
abbrev s_answers : Stmt := top 83
abbrev N_answers : List Str := ["calls", "reader", "nodes", "answered", "answer"]
theorem sc_answers : FnScope N_answers ["calls"] (defScope s_answers) := ⟨rfl, rfl, rfl, by decide +kernel, rfl, by decide +kernel, by decide +kernel⟩
theorem b_answers : ∀ (kV doc pm : Value) (an : Option Addr) (cdv ct : Value) (us : List Value), us.length = (["calls"] : List Str).length → bindArgs (PySem.W.fnOf "answers" "answers" (defArgs s_answers) (defBody s_answers) (defScope s_answers) .none kV doc pm an cdv ct) ⟨us, []⟩ = pure ((["calls"] : List Str).zip us) := fun _ _ _ _ _ _ us hl => match us, hl with | [_], _ => rfl
abbrev s_next_answer : Stmt := top 84
abbrev N_next_answer : List Str := ["nodes", "reader", "call", "place", "most", "to"]
theorem sc_next_answer : FnScope N_next_answer ["nodes", "reader"] (defScope s_next_answer) := ⟨rfl, rfl, rfl, by decide +kernel, rfl, by decide +kernel, by decide +kernel⟩
theorem b_next_answer : ∀ (kV doc pm : Value) (an : Option Addr) (cdv ct : Value) (us : List Value), us.length = (["nodes", "reader"] : List Str).length → bindArgs (PySem.W.fnOf "next_answer" "next_answer" (defArgs s_next_answer) (defBody s_next_answer) (defScope s_next_answer) .none kV doc pm an cdv ct) ⟨us, []⟩ = pure ((["nodes", "reader"] : List Str).zip us) := fun _ _ _ _ _ _ us hl => match us, hl with | [_, _], _ => rfl
abbrev s_begin : Stmt := top 85
abbrev N_begin : List Str := ["nodes", "place", "reader", "me", "n"]
theorem sc_begin : FnScope N_begin ["nodes", "place", "reader"] (defScope s_begin) := ⟨rfl, rfl, rfl, by decide +kernel, rfl, by decide +kernel, by decide +kernel⟩
theorem b_begin : ∀ (kV doc pm : Value) (an : Option Addr) (cdv ct : Value) (us : List Value), us.length = (["nodes", "place", "reader"] : List Str).length → bindArgs (PySem.W.fnOf "begin" "begin" (defArgs s_begin) (defBody s_begin) (defScope s_begin) .none kV doc pm an cdv ct) ⟨us, []⟩ = pure ((["nodes", "place", "reader"] : List Str).zip us) := fun _ _ _ _ _ _ us hl => match us, hl with | [_, _, _], _ => rfl
abbrev s_load : Stmt := top 86
abbrev N_load : List Str := ["nodes", "place", "reader", "node"]
theorem sc_load : FnScope N_load ["nodes", "place", "reader"] (defScope s_load) := ⟨rfl, rfl, rfl, by decide +kernel, rfl, by decide +kernel, by decide +kernel⟩
theorem b_load : ∀ (kV doc pm : Value) (an : Option Addr) (cdv ct : Value) (us : List Value), us.length = (["nodes", "place", "reader"] : List Str).length → bindArgs (PySem.W.fnOf "load" "load" (defArgs s_load) (defBody s_load) (defScope s_load) .none kV doc pm an cdv ct) ⟨us, []⟩ = pure ((["nodes", "place", "reader"] : List Str).zip us) := fun _ _ _ _ _ _ us hl => match us, hl with | [_, _, _], _ => rfl
/-- what the module's top names -/
structure Txt (K : PySem.W.Frag) (mg : Str → Option Value) (CN CP CR : Addr) : Prop where
  b : Blt mg
  cN : Cls K CN
  cP : Cls K CP
  cR : Cls K CR
  a_me : NoAttr K CN "me"
  a_n : NoAttr K CN "n"
  a_seen : NoAttr K CN "seen"
  a_known : NoAttr K CN "known"
  a_mine : NoAttr K CN "mine"
  a_waits : NoAttr K CN "waits"
  a_stamp : NoAttr K CP "stamp"
  a_text : NoAttr K CP "text"
  a_numbers : NoAttr K CR "numbers"
  a_place : NoAttr K CR "place"
  c_LONGEST_TEXT : ∃ t, mg "LONGEST_TEXT" = some (.int 31 t)
  c_TEXT_BYTES : ∃ t, mg "TEXT_BYTES" = some (.int 32 t)
  c_NODES : ∃ t, mg "NODES" = some (.int 8 t)
  c_NUMBER_BYTES : ∃ t, mg "NUMBER_BYTES" = some (.int 8 t)
  c_STAMP_BYTES : ∃ t, mg "STAMP_BYTES" = some (.int 64 t)
  c_HIGHEST : ∃ t, mg "HIGHEST" = some (.int 4611686018427387904 t)
  c_ROOM : ∃ t, mg "ROOM" = some (.int 32 t)
  c_POST : ∃ t, mg "POST" = some (.int 1 t)
  c_SEEN : ∃ t, mg "SEEN" = some (.int 2 t)
  c_HEAD_BYTES : ∃ t, mg "HEAD_BYTES" = some (.int 4 t)
  c_SEEN_LETTER_BYTES : ∃ t, mg "SEEN_LETTER_BYTES" = some (.int 68 t)
  c_POST_LETTER_BYTES : ∃ t, mg "POST_LETTER_BYTES" = some (.int 100 t)
  c_BAD_ARGUMENTS : ∃ t, mg "BAD_ARGUMENTS" = some (.int (-2) t)
  c_BAD_BYTES : ∃ t, mg "BAD_BYTES" = some (.int (-3) t)
  c_NOTHING_TO_SHOW : ∃ t, mg "NOTHING_TO_SHOW" = some (.int (-4) t)
  c_NO_MORE : ∃ t, mg "NO_MORE" = some (.int (-6) t)
  c_TOO_LONG : ∃ t, mg "TOO_LONG" = some (.int (-7) t)
  c_LONGEST_LETTER : ∃ t, mg "LONGEST_LETTER" = some (.int 1024 t)
  c_HEAD_ZEROS : ∃ t, mg "HEAD_ZEROS" = some (.int 6 t)
  c_SAVED_POST_BYTES : ∃ t, mg "SAVED_POST_BYTES" = some (.int 104 t)
  c_OBJECTS : ∃ t, mg "OBJECTS" = some (.int 8 t)
  c_PO_BEGIN : ∃ t, mg "PO_BEGIN" = some (.int 0 t)
  c_PO_SAVE : ∃ t, mg "PO_SAVE" = some (.int 1 t)
  c_PO_LOAD : ∃ t, mg "PO_LOAD" = some (.int 2 t)
  c_PO_POST : ∃ t, mg "PO_POST" = some (.int 3 t)
  c_PO_RECEIVE : ∃ t, mg "PO_RECEIVE" = some (.int 4 t)
  c_PO_NEXT : ∃ t, mg "PO_NEXT" = some (.int 5 t)
  c_PO_AGAIN : ∃ t, mg "PO_AGAIN" = some (.int 6 t)
  c_PO_TELL : ∃ t, mg "PO_TELL" = some (.int 7 t)
  c_PO_SEEN : ∃ t, mg "PO_SEEN" = some (.int 8 t)
end Po

namespace Po
open PySem PySem.Spec PyProof.Rows L2
open Sv27 (little stampBytes stampOf stampOk nobody padded Bytes Stamp of word)
set_option linter.all false
theorem small_sz {n : Nat} (h : n ≤ 16000000) : n ≤ sizeLine := by
  have e : sizeLine = 2 ^ 24 := rfl
  omega
theorem small_lt {n : Nat} (h : n ≤ 16000000) : n < sizeLine := by
  have e : sizeLine = 2 ^ 24 := rfl
  omega
theorem at_new {H : Hp} {l p : Addr} {o u : HO} (h : H l = some o) (hp : H p = none) : upd H p u l = some o := by
  rw [upd_ne (ne_of_none h hp)]
  exact h
theorem little_snoc (k n : Nat) : little (k + 1) n = little k n ++ [n / 256 ^ k % 256] := by
  unfold little
  rw [List.range_succ, List.map_append]
  rfl
theorem take_more {α : Type} {l : List α} {i : Nat} {x : α} (h : l[i]? = some x) : l.take (i + 1) = l.take i ++ [x] := by
  rw [List.take_add_one, h]
  rfl
theorem flatMap_little {st : Stamp} (h : st.length = 8) : st.flatMap (little 8) = stampBytes st := by
  unfold stampBytes
  have e : st = (List.range 8).map (of st) := by
    apply List.ext_getElem?
    intro i
    rw [List.getElem?_map]
    by_cases hi : i < 8
    · rw [List.getElem?_range hi]
      show st[i]? = some (of st i)
      unfold of
      rw [List.getD_eq_getElem?_getD, List.getElem?_eq_getElem (by omega)]
      rfl
    · rw [List.getElem?_eq_none (by omega), List.getElem?_eq_none (by rw [List.length_range]; omega)]
      rfl
  have e2 : st.flatMap (little 8) = ((List.range 8).map (of st)).flatMap (little 8) := by rw [← e]
  rw [e2, List.flatMap_map]
theorem flatMap_take_more {st : List Nat} {i x : Nat} (h : st[i]? = some x) : (st.take (i + 1)).flatMap (little 8) = (st.take i).flatMap (little 8) ++ little 8 x := by
  rw [take_more h, List.flatMap_append]
  simp
theorem flatMap_take_len (st : List Nat) (i : Nat) : ((st.take i).flatMap (little 8)).length ≤ 8 * i := by
  rw [flatMap_len 8 fun _ _ => little_length 8 _, List.length_take]
  omega
theorem stampOf_at (b : Bytes) (i : Nat) : ((List.range i).map fun j => word b (8 * j) 8) ++ [val ((b.drop (8 * i)).take 8)] = (List.range (i + 1)).map fun j => word b (8 * j) 8 := by
  rw [List.range_succ, List.map_append]
  rfl
theorem val_drop {b : Bytes} {k : Nat} {x : Nat} (h : b[k]? = some x) : val (b.drop k) = x % 256 + 256 * val (b.drop (k + 1)) := by
  rw [List.drop_eq_getElem_cons (List.getElem?_eq_some_iff.mp h).1]
  have e : b[k]'(List.getElem?_eq_some_iff.mp h).1 = x := (List.getElem?_eq_some_iff.mp h).2
  rw [e]
  rfl
/-- of a stamp of eight numbers: what the program asks is what the specification asks -/
theorem stampOk_iff {st : Stamp} (hl : st.length = 8) {n : Nat} (hn : n ≤ 8) {m : Nat} (hm : m ∈ st) (hx : ∀ y, y ∈ st → y ≤ m) : stampOk n st = (!((st.drop n).any (· != 0)) && decide (m ≤ 4611686018427387904)) := by
  rw [Bool.eq_iff_iff]
  unfold stampOk
  rw [Bool.and_eq_true, Bool.and_eq_true, List.all_eq_true, decide_eq_true_iff, Bool.not_eq_true', beq_iff_eq]
  have og : ∀ i, i < 8 → st[i]? = some (of st i) := fun i hi => by
    unfold of
    rw [List.getD_eq_getElem?_getD, List.getElem?_eq_getElem (by omega)]
    rfl
  constructor
  · rintro ⟨_, h⟩
    refine ⟨?_, ?_⟩
    · rw [Bool.eq_false_iff]
      intro q
      rw [List.any_eq_true] at q
      obtain ⟨x, hx1, hx2⟩ := q
      obtain ⟨i, hi⟩ := List.mem_iff_getElem?.mp hx1
      rw [List.getElem?_drop] at hi
      have hlt := (List.getElem?_eq_some_iff.mp hi).1
      have z := h (n + i) (List.mem_range.mpr (by omega))
      rw [decide_eq_true_iff, if_neg (by omega)] at z
      have e := og (n + i) (by omega)
      rw [hi] at e
      have e2 : x = of st (n + i) := Option.some.inj e
      have e3 : x = 0 := by omega
      rw [e3] at hx2
      exact absurd hx2 (by decide)
    · obtain ⟨i, hi⟩ := List.mem_iff_getElem?.mp hm
      have hlt := (List.getElem?_eq_some_iff.mp hi).1
      have z := h i (List.mem_range.mpr (by omega))
      rw [decide_eq_true_iff] at z
      have e := og i (by omega)
      rw [hi] at e
      have e2 : m = of st i := Option.some.inj e
      rw [e2]
      have hM : Sv27.MOST = 4611686018427387904 := rfl
      split at z <;> omega
  · rintro ⟨h1, h2⟩
    refine ⟨hl, fun i hi => ?_⟩
    have hi8 := List.mem_range.mp hi
    rw [decide_eq_true_iff]
    have e := og i hi8
    by_cases q : i < n
    · rw [if_pos q]
      have := hx _ (List.mem_of_getElem? e)
      have hM : Sv27.MOST = 4611686018427387904 := rfl
      omega
    · rw [if_neg q]
      rw [Bool.eq_false_iff] at h1
      refine Classical.byContradiction fun z => h1 ?_
      rw [List.any_eq_true]
      refine ⟨of st i, ?_, by rw [bne_iff_ne]; omega⟩
      refine List.mem_iff_getElem?.mpr ⟨i - n, ?_⟩
      rw [List.getElem?_drop, show n + (i - n) = i by omega]
      exact e
theorem any_ni (l : List Nat) : (nints l).any (· != 0) = l.any (· != 0) := by
  unfold nints Sv27Neutral.ints
  rw [List.any_map]
  congr 1
  funext x
  show ((x : Int) != 0) = (x != 0)
  rw [Bool.eq_iff_iff, bne_iff_ne, bne_iff_ne]
  omega
section
variable {P : Program} {w : World} {K : PySem.W.Frag} {mg : Str → Option Value} {base : Heap} {CN CP CR : Addr}
/-! ### stamps -/
def spEmpty : Sp := fun vs H Q _ => vs = [] ∧ RetL H Q (ni nobody)
theorem ok_empty_stamp (T : Txt K mg CN CP CR) (D : Def K mg "empty_stamp" s_empty_stamp) : Cal P w K mg base 1 "empty_stamp" [] spEmpty := by
  refine D.cal b_empty_stamp fun f fd F => F.ok sc_empty_stamp (fun vs H Q E h => ?_) (fun cdv A outer s H vs Q E hroom h => ?_)
  · obtain ⟨rfl, k⟩ := h
    rfl
  · obtain ⟨rfl, k⟩ := h
    refine ⟨_, (pss_one (ps_ret (pe_op op_rep (pe_lst (pa_cons pe_int pa_nil)) (pe_cst T.c_NODES)))), ?_⟩
    refine ⟨(by show 1 ≤ sizeLine; decide), fun l hl => ⟨l, 8, [.int 0], rfl, rfl, upd_same, by decide, by decide, (by show 1 * 8 ≤ sizeLine; decide), fun p hp => ?_⟩⟩
    exact k.now (Same.new hl) hp
def spNumB : Sp := fun vs H Q _ => ∃ n : Nat, vs = [.int (n : Int)] ∧ RetL H Q (ni (little 8 n))
theorem ok_bytes_of_number (T : Txt K mg CN CP CR) (D : Def K mg "bytes_of_number" s_bytes_of_number) : Cal P w K mg base 1 "bytes_of_number" ["number"] spNumB := by
  refine D.cal b_bytes_of_number fun f fd F => F.ok sc_bytes_of_number (fun vs H Q E h => ?_) (fun cdv A outer s H vs Q E hroom h => ?_)
  · obtain ⟨n, rfl, k⟩ := h
    rfl
  · obtain ⟨n, rfl, k⟩ := h
    refine ⟨_, (pss_cons (ps_set (i := 1) sc_bytes_of_number.nd rfl (by first | exact Or.inl rfl | exact Or.inr rfl) (pe_lst pa_nil))
      (pss_cons (ps_set (i := 2) sc_bytes_of_number.nd rfl (by first | exact Or.inl rfl | exact Or.inr rfl) (pv 0))
      (pss_cons (ps_for PassesOwn.never rfl (pi_range1 (by rfl) T.b.range (pa_cons (pe_cst T.c_NUMBER_BYTES) pa_nil)) (pg_name (i := 3) sc_bytes_of_number.nd rfl (by first | exact Or.inl rfl | exact Or.inr rfl)) (pss_cons (ps_expr (pe_bm PySem.F.plainAttrs_list PySem.F.slot_list_append PySem.F.type_list_append mt_append (pv 1) (pa_cons (pe_op op_mod (pv 2) pe_int) pa_nil)))
      (pss_one (ps_set (i := 2) sc_bytes_of_number.nd rfl (by first | exact Or.inl rfl | exact Or.inr rfl) (pe_op op_fdiv (pv 2) pe_int)))))
      (pss_one (ps_ret (pv 1)))))), ?_⟩
    refine ⟨(by show 0 ≤ sizeLine; decide), fun l hl => ⟨_, rfl, ?_⟩⟩
    refine ⟨8, rfl, by decide, by decide, for_range (lo := 0) (n := 8) (fun i σ H' => ∃ kv, σ = [some (.int (n : Int)), some (.ref l), some (.int ((n / 256 ^ i : Nat) : Int)), kv] ∧ Same H H' ∧ H' l = some (.lst (ni (little i n)))) ⟨none, ?_, Same.new hl, upd_same⟩ ?_ ?_⟩
    · rw [Nat.pow_zero, Nat.div_one]
      rfl
    · rintro i σ H' hi ⟨kv, rfl, s, hl'⟩
      refine ⟨_, rfl, .inl ⟨rfl, _, SqL.of hl'⟩, _, rfl, _, _, rfl, rfl, (by show (0 : Int) < 256; decide), l, _, _, rfl, rfl, hl', ?_, ?_⟩
      · rw [ni_length, little_length]
        exact small_lt (by omega)
      refine ⟨_, rfl, _, _, rfl, rfl, ⟨by decide, by decide⟩, ⟨some (.int (0 + (i : Int))), ?_, s.free_upd hl, ?_⟩⟩
      · have e : ((n / 256 ^ i : Nat) : Int) / 256 = ((n / 256 ^ (i + 1) : Nat) : Int) := by
          rw [Nat.pow_succ, ← Nat.div_div_eq_div_mul, Int.natCast_ediv]
          rfl
        rw [← e]
        rfl
      · rw [upd_same, little_snoc, ni_append]
        rfl
    · rintro σ H' ⟨kv, rfl, s, hl'⟩
      exact ⟨_, rfl, k _ _ s hl hl'⟩
def spNumOf (K : PySem.W.Frag) : Sp := fun vs H Q _ => ∃ (r : Addr) (b : Bytes), vs = [.ref r] ∧ SqL K H r (ni b) ∧ Small b ∧ b.length ≤ 8 ∧ Q (.int (val b : Nat)) H
theorem ok_number_of_bytes (T : Txt K mg CN CP CR) (D : Def K mg "number_of_bytes" s_number_of_bytes) : Cal P w K mg base 1 "number_of_bytes" ["row"] (spNumOf K) := by
  refine D.cal b_number_of_bytes fun f fd F => F.ok sc_number_of_bytes (fun vs H Q E h => ?_) (fun cdv A outer s H vs Q E hroom h => ?_)
  · obtain ⟨r, b, rfl, hS, hs, hl, k⟩ := h
    rfl
  · obtain ⟨r, b, rfl, hS, hs, hl, k⟩ := h
    refine ⟨_, (pss_cons (ps_set (i := 1) sc_number_of_bytes.nd rfl (by first | exact Or.inl rfl | exact Or.inr rfl) pe_int)
      (pss_cons (ps_for PassesOwn.never rfl (pi_reversed (by rfl) T.b.reversed (pa_cons (pv 0) pa_nil)) (pg_name (i := 2) sc_number_of_bytes.nd rfl (by first | exact Or.inl rfl | exact Or.inr rfl)) (pss_one (ps_set (i := 1) sc_number_of_bytes.nd rfl (by first | exact Or.inl rfl | exact Or.inr rfl) (pe_op op_add (pe_op op_mul (pv 1) pe_int) (pv 2)))))
      (pss_one (ps_ret (pv 1))))), ?_⟩
    refine ⟨_, rfl, r, ni b, rfl, hS, for_it walk_rev (fun i σ H' => ∃ pv, σ = [some (.ref r), some (.int (val (b.drop (b.length - i)) : Nat)), pv] ∧ H' = H) ⟨none, ?_, rfl⟩ (fun i σ H' _ h => by rw [h.choose_spec.2]; exact hS) ?_ ?_⟩
    · rw [Nat.sub_zero, List.drop_length]
      rfl
    · rintro i x σ H' H'' hi ⟨pv, rfl, rfl⟩ ⟨rfl, hx⟩
      rw [ni_length] at hi hx
      obtain ⟨c, hc, rfl⟩ := ni_get_inv hx
      have hc8 : c < 256 := hs c (List.mem_of_getElem? hc)
      have vl := val_lt (b.drop (b.length - i))
      have vd := val_drop hc
      have e1 : b.length - 1 - i + 1 = b.length - i := by omega
      have e2 : b.length - (i + 1) = b.length - 1 - i := by omega
      rw [List.length_drop] at vl
      have vl8 : val (b.drop (b.length - i)) < 256 ^ 8 := Nat.lt_of_lt_of_le vl (Nat.pow_le_pow_right (by decide) (by omega))
      refine ⟨_, rfl, _, _, rfl, rfl, .inl ⟨by omega, by omega⟩, _, rfl, _, _, rfl, rfl, ⟨some (.int (c : Int)), ?_, rfl⟩⟩
      rw [e2, vd, e1, Nat.mod_eq_of_lt hc8]
      have e3 : ((c + 256 * val (b.drop (b.length - i)) : Nat) : Int) = (val (b.drop (b.length - i)) : Nat) * 256 + (c : Int) := by omega
      rw [e3]
      rfl
    · rintro σ H' ⟨pv, rfl, rfl⟩
      refine ⟨_, rfl, ?_⟩
      rw [ni_length, Nat.sub_self, List.drop_zero]
      exact k
def spStB (K : PySem.W.Frag) : Sp := fun vs H Q _ => ∃ (a : Addr) (st : Stamp), vs = [.ref a] ∧ SqL K H a (ni st) ∧ st.length = 8 ∧ RetL H Q (ni (stampBytes st))
theorem ok_bytes_of_stamp (T : Txt K mg CN CP CR) (D : Def K mg "bytes_of_stamp" s_bytes_of_stamp) (c_bytes_of_number : Cal P w K mg base 1 "bytes_of_number" ["number"] spNumB) : Cal P w K mg base 2 "bytes_of_stamp" ["stamp"] (spStB K) := by
  refine D.cal b_bytes_of_stamp fun f fd F => F.ok sc_bytes_of_stamp (fun vs H Q E h => ?_) (fun cdv A outer s H vs Q E hroom h => ?_)
  · obtain ⟨a, st, rfl, hS, h8, k⟩ := h
    rfl
  · obtain ⟨a, st, rfl, hS, h8, k⟩ := h
    refine ⟨_, (pss_cons (ps_set (i := 1) sc_bytes_of_stamp.nd rfl (by first | exact Or.inl rfl | exact Or.inr rfl) (pe_lst pa_nil))
      (pss_cons (ps_for PassesOwn.never rfl (pi_list (pv 0)) (pg_name (i := 2) sc_bytes_of_stamp.nd rfl (by first | exact Or.inl rfl | exact Or.inr rfl)) (pss_one (ps_expr (pe_bm PySem.F.plainAttrs_list PySem.F.slot_list_extend PySem.F.type_list_extend mt_extend (pv 1) (pa_cons (pe_cal c_bytes_of_number hroom (pa_cons (pv 2) pa_nil)) pa_nil)))))
      (pss_one (ps_ret (pv 1))))), ?_⟩
    refine ⟨(by show 0 ≤ sizeLine; decide), fun l hl => ⟨_, rfl, a, rfl, ⟨_, (Same.new hl).seq hS⟩, for_list (K := K) (a := a) (xs := ni st) (fun i σ H' => ∃ nv, σ = [some (.ref a), some (.ref l), nv] ∧ Same H H' ∧ H' l = some (.lst (ni ((st.take i).flatMap (little 8))))) ⟨none, rfl, Same.new hl, upd_same⟩ (fun i σ H' _ ⟨_, _, s, _⟩ => s.seq hS) ?_ ?_⟩⟩
    · rintro i x σ H' hi ⟨nv, rfl, s, hl'⟩
      obtain ⟨c, hc, rfl⟩ := ni_get_inv hi
      have hi8 := (List.getElem?_eq_some_iff.mp hc).1
      refine ⟨_, rfl, .inl ⟨rfl, _, SqL.of hl'⟩, _, rfl, _, rfl, fun H2 p s2 hp e2 => ⟨l, p, _, _, rfl, rfl, s2 _ _ hl', e2, ?_, ?_⟩⟩
      · rw [ni_length, ni_length, little_length]
        have := flatMap_take_len st i
        exact small_sz (by omega)
      · refine ⟨_, rfl, (s.trans s2).free_upd hl, ?_⟩
        rw [upd_same, flatMap_take_more hc, ni_append]
    · rintro σ H' ⟨nv, rfl, s, hl'⟩
      rw [ni_length, List.take_length, flatMap_little h8] at hl'
      exact ⟨_, rfl, k _ _ s hl hl'⟩
def spStOf (K : PySem.W.Frag) : Sp := fun vs H Q _ => ∃ (a : Addr) (b : Bytes), vs = [.ref a] ∧ SqL K H a (ni b) ∧ b.length = 64 ∧ Small b ∧ RetL H Q (ni (stampOf b))
theorem ok_stamp_of_bytes (T : Txt K mg CN CP CR) (D : Def K mg "stamp_of_bytes" s_stamp_of_bytes) (c_number_of_bytes : Cal P w K mg base 1 "number_of_bytes" ["row"] (spNumOf K)) : Cal P w K mg base 2 "stamp_of_bytes" ["row"] (spStOf K) := by
  refine D.cal b_stamp_of_bytes fun f fd F => F.ok sc_stamp_of_bytes (fun vs H Q E h => ?_) (fun cdv A outer s H vs Q E hroom h => ?_)
  · obtain ⟨a, b, rfl, hS, h64, hs, k⟩ := h
    rfl
  · obtain ⟨a, b, rfl, hS, h64, hs, k⟩ := h
    refine ⟨_, (pss_cons (ps_set (i := 1) sc_stamp_of_bytes.nd rfl (by first | exact Or.inl rfl | exact Or.inr rfl) (pe_lst pa_nil))
      (pss_cons (ps_for PassesOwn.never rfl (pi_range1 (by rfl) T.b.range (pa_cons (pe_cst T.c_NODES) pa_nil)) (pg_name (i := 2) sc_stamp_of_bytes.nd rfl (by first | exact Or.inl rfl | exact Or.inr rfl)) (pss_cons (ps_set (i := 3) sc_stamp_of_bytes.nd rfl (by first | exact Or.inl rfl | exact Or.inr rfl) (pe_op op_mul (pe_cst T.c_NUMBER_BYTES) (pv 2)))
      (pss_one (ps_expr (pe_bm PySem.F.plainAttrs_list PySem.F.slot_list_append PySem.F.type_list_append mt_append (pv 1) (pa_cons (pe_cal c_number_of_bytes hroom (pa_cons (pe_slice sl_list (pv 0) (po_some (pv 3)) (po_some (pe_op op_add (pv 3) (pe_cst T.c_NUMBER_BYTES)))) pa_nil)) pa_nil))))))
      (pss_one (ps_ret (pv 1))))), ?_⟩
    refine ⟨(by show 0 ≤ sizeLine; decide), fun l hl => ⟨8, rfl, by decide, by decide, for_range (lo := 0) (n := 8) (fun i σ H' => ∃ jv sv, σ = [some (.ref a), some (.ref l), jv, sv] ∧ Same H H' ∧ H' l = some (.lst (ni ((List.range i).map fun j => word b (8 * j) 8)))) ⟨none, none, rfl, Same.new hl, upd_same⟩ ?_ ?_⟩⟩
    · rintro i σ H' hi ⟨jv, sv, rfl, s, hl'⟩
      rw [show ((0 : Int) + (i : Int)) = (i : Int) by omega]
      refine ⟨_, rfl, _, _, rfl, rfl, .inl ⟨by decide, by decide⟩, ?_⟩
      refine ⟨_, rfl, .inl ⟨rfl, _, SqL.of hl'⟩, _, rfl, _, rfl, _, rfl, _, rfl, _, _, rfl, rfl, _, rfl, a, _, rfl, s.seq hS, fun p hp => ?_⟩
      have ec : cutV (ni b) (some ((8 : Int) * (i : Int))) (some ((8 : Int) * (i : Int) + 8)) = ni ((b.drop (8 * i)).take 8) := by
        have e1 : (8 : Int) * (i : Int) = ((8 * i : Nat) : Int) := by omega
        have e2 : (8 : Int) * (i : Int) + 8 = ((8 * i + 8 : Nat) : Int) := by omega
        rw [e2, e1, cutV_nat, ni_take, ni_drop, Nat.add_sub_cancel_left]
      rw [ec]
      refine ⟨p, _, rfl, SqL.of upd_same, (hs.drop _).take _, (by rw [List.length_take]; omega), l, _, _, rfl, rfl, at_new hl' hp, ?_, ⟨_, _, rfl, (s.free_upd (s.none hp)).free_upd hl, ?_⟩⟩
      · rw [ni_length, List.length_map, List.length_range]
        exact small_lt (by omega)
      · rw [upd_same, ← stampOf_at, ni_append]
        rfl
    · rintro σ H' ⟨jv, sv, rfl, s, hl'⟩
      exact ⟨_, rfl, k _ _ s hl hl'⟩
def spIsSt (K : PySem.W.Frag) : Sp := fun vs H Q _ => ∃ (a : Addr) (st : Stamp) (n : Nat), vs = [.ref a, .int (n : Int)] ∧ SqL K H a (ni st) ∧ st.length = 8 ∧ n ≤ 8 ∧ ∀ H', Same H H' → Q (.bl (stampOk n st)) H'
theorem ok_is_stamp (T : Txt K mg CN CP CR) (D : Def K mg "is_stamp" s_is_stamp) : Cal P w K mg base 1 "is_stamp" ["stamp", "n"] (spIsSt K) := by
  refine D.cal b_is_stamp fun f fd F => F.ok sc_is_stamp (fun vs H Q E h => ?_) (fun cdv A outer s H vs Q E hroom h => ?_)
  · obtain ⟨a, st, n, rfl, hS, h8, hn, k⟩ := h
    rfl
  · obtain ⟨a, st, n, rfl, hS, h8, hn, k⟩ := h
    refine ⟨_, (pss_cons (ps_if (pt_val (pe_callB (cr_anyI rfl) (by rfl) T.b.any (by decide +kernel) (pa_cons (pe_slice sl_list (pv 0) (po_some (pv 1)) po_none) pa_nil))) (pss_one (ps_ret pe_bl)) pss_nil)
      (pss_one (ps_ret (pe_cmpR op_le (pe_callB (cr_max rfl) (by rfl) T.b.max (by decide +kernel) (pa_cons (pv 0) pa_nil)) (pe_cst T.c_HIGHEST) (nomark _))))), ?_⟩
    refine ⟨_, rfl, _, rfl, _, rfl, a, _, rfl, hS, fun p hp => ?_⟩
    rw [cutV_from, ← ni_drop]
    refine ⟨p, nints (st.drop n), rfl, (by rw [← ni_zi]; exact SqL.of upd_same), _, rfl, ?_⟩
    rw [any_ni]
    have s1 : Same H (upd H p (.lst (ni (st.drop n)))) := Same.new hp
    obtain ⟨c0, hc0⟩ : ∃ c, c ∈ st := ⟨st[0]'(by omega), List.getElem_mem _⟩
    have mx : maxN st ∈ st := by
      have key : ∀ l : List Nat, l ≠ [] → maxN l ∈ l := by
        intro l
        induction l with
        | nil => intro q; exact absurd rfl q
        | cons x r ih =>
          intro _
          show Nat.max x (maxN r) ∈ x :: r
          by_cases hr : r = []
          · subst hr
            have : Nat.max x (maxN []) = x := by show max x 0 = x; omega
            rw [this]
            exact List.mem_cons_self ..
          · have i := ih hr
            by_cases q : maxN r ≤ x
            · have : Nat.max x (maxN r) = x := Nat.max_eq_left q
              rw [this]
              exact List.mem_cons_self ..
            · have : Nat.max x (maxN r) = maxN r := Nat.max_eq_right (by omega)
              rw [this]
              exact List.mem_cons_of_mem _ i
      exact key st (by intro q; rw [q] at h8; cases h8)
    have sk := stampOk_iff h8 hn mx (maxN_ge st)
    cases e : (st.drop n).any (· != 0) with
    | true =>
      rw [e] at sk
      exact iteT (by rw [show stampOk n st = false from sk] at k; exact k _ s1)
    | false =>
      rw [e] at sk
      refine iteF ?_
      refine ⟨_, rfl, a, nints st, rfl, (by rw [← ni_zi]; exact s1.seq hS), ?_, fun m hm hy => ?_⟩
      · show 0 < (List.map _ st).length
        rw [List.length_map]
        omega
      · obtain ⟨x, hx, rfl⟩ := List.mem_map.mp hm
        have sk2 := stampOk_iff h8 hn hx (fun y hy' => by
          have := hy (y : Int) (List.mem_map.mpr ⟨y, hy', rfl⟩)
          omega)
        rw [e] at sk2
        refine ⟨_, _, rfl, rfl, ?_⟩
        have ed : decide ((x : Int) ≤ 4611686018427387904) = stampOk n st := by
          rw [sk2, Bool.eq_iff_iff]
          show decide ((x : Int) ≤ 4611686018427387904) = true ↔ (true && decide (x ≤ 4611686018427387904)) = true
          rw [Bool.true_and, decide_eq_true_iff, decide_eq_true_iff]
          omega
        have z := k _ s1
        rw [← ed] at z
        exact z
end
end Po

namespace Po
open PySem PySem.Spec PyProof.Rows L2
open Sv27 (little stampBytes stampOf stampOk nobody padded Bytes Stamp of word)
set_option linter.all false
theorem getD_get {l : List Nat} {i : Nat} (h : i < l.length) : l[i]? = some (l.getD i 0) := by
  rw [List.getD_eq_getElem?_getD, List.getElem?_eq_getElem h]
  rfl
theorem of_get {st : Stamp} {i : Nat} (h : i < st.length) : st[i]? = some (of st i) := getD_get h
theorem zer_any (b : Bytes) : zer b = !(b.any (· != 0)) := by
  unfold zer
  rw [Bool.eq_iff_iff, List.all_eq_true, Bool.not_eq_true', Bool.eq_false_iff]
  constructor
  · intro h q
    rw [List.any_eq_true] at q
    obtain ⟨x, hx, hn⟩ := q
    have := h x hx
    simp at this hn
    exact hn this
  · intro h x hx
    refine Classical.byContradiction fun z => h ?_
    rw [List.any_eq_true]
    exact ⟨x, hx, by simpa using z⟩
/-! ### posts, as they lie in the heap -/
def pF (s t : Addr) : List (Str × V) := [("stamp", .ref s), ("text", .ref t)]
theorem pF_stamp (s t : Addr) : (pF s t).lookup ("stamp" : Str) = some (.ref s) := lk_here
theorem pF_text (s t : Addr) : (pF s t).lookup ("text" : Str) = some (.ref t) := (lk_past (by decide +kernel)).trans lk_here
theorem pF_new (s t : Addr) : putF "text" (.ref t) (putF "stamp" (.ref s) []) = pF s t := (put_past (by decide +kernel)).trans rfl
/-- a post p at a; B names what may yet be changed: none of its parts -/
def PostAt (CP : Addr) (B : Addr → Prop) (H : Hp) (a : Addr) (p : Sv27.Post) : Prop :=
  ∃ dx s t, H a = some (.ins CP dx (pF s t)) ∧ H s = some (.lst (ni p.stamp)) ∧ H t = some (.lst (ni p.text)) ∧ ¬ B a ∧ ¬ B s ∧ ¬ B t
def PostsAt (CP : Addr) (B : Addr → Prop) (H : Hp) (l : Addr) (ps : List Sv27.Post) : Prop :=
  ∃ pas : List Addr, H l = some (.lst (pas.map V.ref)) ∧ Paired (PostAt CP B H) pas ps
theorem PostAt.keep {CP : Addr} {B : Addr → Prop} {H H' : Hp} {a : Addr} {p : Sv27.Post} (h : PostAt CP B H a p) (k : Keep B H H') : PostAt CP B H' a p := by
  obtain ⟨dx, s, t, h1, h2, h3, n1, n2, n3⟩ := h
  exact ⟨dx, s, t, k _ _ h1 n1, k _ _ h2 n2, k _ _ h3 n3, n1, n2, n3⟩
theorem PostAt.grow {CP : Addr} {B B' : Addr → Prop} {H : Hp} {a : Addr} {p : Sv27.Post} (h : PostAt CP B H a p) (k : ∀ b, B' b → B b ∨ H b = none) : PostAt CP B' H a p := by
  obtain ⟨dx, s, t, h1, h2, h3, n1, n2, n3⟩ := h
  have z : ∀ {b : Addr} {o : HO}, H b = some o → ¬ B b → ¬ B' b := fun e n q => (k _ q).elim n fun w => by rw [w] at e; cases e
  exact ⟨dx, s, t, h1, h2, h3, z h1 n1, z h2 n2, z h3 n3⟩
theorem paired_imp {α β : Type} {F G : α → β → Prop} (h : ∀ a b, F a b → G a b) : ∀ {l₁ : List α} {l₂ : List β}, Paired F l₁ l₂ → Paired G l₁ l₂
  | [], [], .nil => .nil
  | _ :: _, _ :: _, .cons a r => .cons (h _ _ a) (paired_imp h r)
theorem paired_len {α β : Type} {F : α → β → Prop} : ∀ {l₁ : List α} {l₂ : List β}, Paired F l₁ l₂ → l₁.length = l₂.length
  | [], [], .nil => rfl
  | _ :: _, _ :: _, .cons a r => congrArg Nat.succ (paired_len r)
theorem paired_get {α β : Type} {F : α → β → Prop} : ∀ {l₁ : List α} {l₂ : List β} {i : Nat} {x : α}, Paired F l₁ l₂ → l₁[i]? = some x → ∃ y, l₂[i]? = some y ∧ F x y
  | _ :: _, _ :: _, 0, x, .cons a r, h => ⟨_, rfl, by cases (Option.some.inj h); exact a⟩
  | _ :: _, _ :: _, i + 1, x, .cons a r, h => by
    obtain ⟨y, h1, h2⟩ := paired_get (i := i) r (by simpa using h)
    exact ⟨y, by simpa using h1, h2⟩
theorem refs_get {l : List Addr} {i : Nat} {x : V} (h : (l.map V.ref)[i]? = some x) : ∃ a, l[i]? = some a ∧ x = V.ref a := by
  rw [List.getElem?_map] at h
  cases e : l[i]? with
  | none => (rw [e] at h; cases h)
  | some a => rw [e] at h; exact ⟨a, rfl, (Option.some.inj h).symm⟩
/-- a node at a, by its first two fields -/
def HdAt (CN : Addr) (H : Hp) (a : Addr) (me n : Nat) : Prop := ∃ dx fs, H a = some (.ins CN dx fs) ∧ fs.lookup ("me" : Str) = some (.int (me : Int)) ∧ fs.lookup ("n" : Str) = some (.int (n : Int))
theorem HdAt.same {CN : Addr} {H H' : Hp} {a : Addr} {me n : Nat} (h : HdAt CN H a me n) (s : Same H H') : HdAt CN H' a me n := by
  obtain ⟨dx, fs, h1, h2, h3⟩ := h
  exact ⟨dx, fs, s _ _ h1, h2, h3⟩
section
variable {P : Program} {w : World} {K : PySem.W.Frag} {mg : Str → Option Value} {base : Heap} {CN CP CR : Addr}
def spPostI (CP : Addr) : Sp := fun vs H Q _ => ∃ p dx s t, vs = [.ref p, .ref s, .ref t] ∧ H p = some (.ins CP dx []) ∧
  ∀ H', H' p = some (.ins CP dx (pF s t)) → (∀ b o, H b = some o → b ≠ p → H' b = some o) → Q .non H'
theorem ok_new_Post (T : Txt K mg CN CP CR) (D : IDef K mg CP "Post" "Post.__init__" s_new_Post) : ICal P w K mg base 1 CP "Post" ["self", "stamp", "text"] (spPostI CP) := by
  refine D.cal b_new_Post fun f fd F => F.ok sc_new_Post (fun vs H Q E h => ?_) (fun cdv A outer s H vs Q E hroom h => ?_)
  · obtain ⟨p, dx, s, t, rfl, hp, k⟩ := h
    rfl
  · obtain ⟨p, dx, s, t, rfl, hp, k⟩ := h
    refine ⟨_, (pss_cons (ps_fld (pv 0) (pv 1) rfl)
      (pss_one (ps_fld (pv 0) (pv 2) rfl))), ?_⟩
    refine ⟨_, rfl, _, rfl, p, CP, dx, [], rfl, hp, T.cP, T.a_stamp, (by show 0 < 1000; decide), ?_⟩
    refine ⟨_, rfl, _, rfl, p, CP, dx, _, rfl, upd_same, T.cP, T.a_text, (by show 1 < 1000; decide), ?_⟩
    exact k _ (Eq.trans upd_same (congrArg (fun q => some (HO.ins CP dx q)) (pF_new s t))) fun b o e hb => by
      rw [upd_ne hb, upd_ne hb]
      exact e
def spPad : Sp := fun vs H Q _ => ∃ (a : Addr) (t : Bytes), vs = [.ref a] ∧ H a = some (.lst (ni t)) ∧ t.length ≤ 1000 ∧ RetL H Q (ni (padded t))
theorem ok_padded_text (T : Txt K mg CN CP CR) (D : Def K mg "padded_text" s_padded_text) : Cal P w K mg base 1 "padded_text" ["text"] spPad := by
  refine D.cal b_padded_text fun f fd F => F.ok sc_padded_text (fun vs H Q E h => ?_) (fun cdv A outer s H vs Q E hroom h => ?_)
  · obtain ⟨a, t, rfl, hA, hz, k⟩ := h
    rfl
  · obtain ⟨a, t, rfl, hA, hz, k⟩ := h
    refine ⟨_, (pss_one (ps_ret (pe_op op_cat (pv 0) (pe_op op_rep (pe_lst (pa_cons pe_int pa_nil)) (pe_op op_sub (pe_cst T.c_TEXT_BYTES) (pe_callB cr_lenN (by rfl) T.b.len PySem.boot_len (pa_cons (pv 0) pa_nil))))))), ?_⟩
    refine ⟨_, rfl, (by show 1 ≤ sizeLine; decide), fun l hl => ⟨_, rfl, a, _, rfl, SqL.of (at_new hA hl), ?_⟩⟩
    rw [ni_length]
    refine ⟨_, _, rfl, rfl, l, _, [.int 0], rfl, rfl, upd_same, by omega, by omega, small_sz (by rw [List.length_singleton]; omega), fun p hp => ?_⟩
    refine ⟨a, p, _, _, rfl, rfl, at_new (at_new hA hl) hp, upd_same, ?_, fun q hq => ?_⟩
    · rw [ni_length, List.length_flatten, List.map_replicate, List.sum_replicate_nat, List.length_singleton]
      exact small_sz (by omega)
    · have e : ni t ++ (List.replicate ((32 : Int) - (t.length : Int)).toNat [V.int 0]).flatten = ni (padded t) := by
        unfold padded
        rw [ni_append]
        congr 1
        have e1 : ((32 : Int) - (t.length : Int)).toNat = 32 - t.length := by omega
        rw [e1]
        unfold ni
        rw [List.map_replicate]
        generalize 32 - t.length = m
        induction m with
        | zero => rfl
        | succ m ih => rw [List.replicate_succ, List.flatten_cons, ih, List.replicate_succ]; rfl
      rw [e]
      exact k.now ((Same.new hl).trans (Same.new hp)) hq
def spIsPad (K : PySem.W.Frag) : Sp := fun vs H Q _ => ∃ (L : Nat) (a : Addr) (b : Bytes), vs = [.int (L : Int), .ref a] ∧ SqL K H a (ni b) ∧ ∀ H', Same H H' → Q (.bl (isPad L b)) H'
theorem ok_is_padded_text (T : Txt K mg CN CP CR) (D : Def K mg "is_padded_text" s_is_padded_text) : Cal P w K mg base 1 "is_padded_text" ["length", "row"] (spIsPad K) := by
  refine D.cal b_is_padded_text fun f fd F => F.ok sc_is_padded_text (fun vs H Q E h => ?_) (fun cdv A outer s H vs Q E hroom h => ?_)
  · obtain ⟨L, a, b, rfl, hS, k⟩ := h
    rfl
  · obtain ⟨L, a, b, rfl, hS, k⟩ := h
    refine ⟨_, (pss_one (ps_ret (pe_and (pe_cmpR op_le (pv 0) (pe_cst T.c_LONGEST_TEXT) (nomark _)) (pe_one (pe_not (pe_callB (cr_anyI rfl) (by rfl) T.b.any (by decide +kernel) (pa_cons (pe_slice sl_list (pv 1) (po_some (pv 0)) po_none) pa_nil))))))), ?_⟩
    refine ⟨_, rfl, _, _, rfl, rfl, _, rfl, ite2 (fun h => ?_) (fun h => ?_)⟩
    · refine ⟨_, rfl, _, rfl, _, rfl, a, _, rfl, hS, fun p hp => ?_⟩
      rw [cutV_from, ← ni_drop]
      refine ⟨p, nints (b.drop L), rfl, (by rw [← ni_zi]; exact SqL.of upd_same), _, rfl, ?_⟩
      have z := k _ (Same.new (o := HO.lst (ni (b.drop L))) hp)
      have e : isPad L b = !((nints (b.drop L)).any (· != 0)) := by
        unfold isPad
        rw [any_ni, zer_any, decide_eq_true (by have := of_decide_eq_true h; omega), Bool.true_and]
      rw [e] at z
      exact z
    · have z := k _ (Same.refl H)
      have e : isPad L b = false := by
        unfold isPad
        rw [decide_eq_false (by intro q; exact h (decide_eq_true (by omega))), Bool.false_and]
      rw [e] at z
      exact z
def spCounts (CP : Addr) : Sp := fun vs H Q _ => ∃ (l : Addr) (i : Nat) (ps : List Sv27.Post) (B : Addr → Prop), vs = [.ref l, .int (i : Int)] ∧ PostsAt CP B H l ps ∧ (∀ p, p ∈ ps → p.stamp.length = 8) ∧ i < 8 ∧ ps.length ≤ 60000 ∧ RetL H Q (ni (counts ps i))
theorem ok_counts_of (T : Txt K mg CN CP CR) (D : Def K mg "counts_of" s_counts_of) : Cal P w K mg base 1 "counts_of" ["posts", "author"] (spCounts CP) := by
  refine D.cal b_counts_of fun f fd F => F.ok sc_counts_of (fun vs H Q E h => ?_) (fun cdv A outer s H vs Q E hroom h => ?_)
  · obtain ⟨l, i, ps, B, rfl, ⟨pas, hl, hp⟩, h8, hi, hz, k⟩ := h
    rfl
  · obtain ⟨l, i, ps, B, rfl, ⟨pas, hl, hp⟩, h8, hi, hz, k⟩ := h
    refine ⟨_, (pss_one (ps_ret (pe_lc (own := [("post", 2)]) (g := (gName 2)) (tt := tYes) (te := (tOp (rIxN K) (tFld K (tVar 2) "stamp") (tVar 1))) rfl sc_counts_of.nd (pi_list (pv 0)) (blkOk_by (N := N_counts_of) (sc := defScope s_counts_of) (by decide +kernel)) (fun _ _ _ _ _ => (pg_name (i := 2) sc_counts_of.nd rfl (by first | exact Or.inl rfl | exact Or.inr rfl))) (fun _ _ _ _ _ => pts_nil) (fun _ _ _ _ _ => (pe_ix ix_nat (pe_fld (pv 2) rfl) (pv 1) (fun _ _ => rfl)))))), ?_⟩
    have hlen := paired_len hp
    refine ⟨_, rfl, l, rfl, ⟨_, SqL.of hl⟩, fun D hD => lc_pure (K := K) (fun j => ps[j]?.map fun p => V.int (of p.stamp i : Nat)) (SqL.of hl) (by rw [List.length_map]; omega) hD ?_ ?_⟩
    · intro j x H' hj s R C hR hC
      obtain ⟨pa, hpa, rfl⟩ := refs_get hj
      obtain ⟨p, hpj, dx, sa, ta, q1, q2, q3, _⟩ := paired_get hp hpa
      refine ⟨rfl, ?_⟩
      refine iteT (B := C H') ?_
      refine ⟨_, rfl, pa, _, _, _, _, rfl, s _ _ q1, T.cP, T.a_stamp, pF_stamp sa ta, _, rfl, sa, _, i, _, rfl, rfl, SqL.of (s _ _ q2), ni_get (of_get (by rw [h8 p (List.mem_of_getElem? hpj)]; exact hi)), ?_⟩
      exact hR _ (by rw [hpj]; rfl)
    · intro H' s e
      rw [List.length_map, hlen, range_map (fun p : Sv27.Post => V.int (of p.stamp i : Nat)) ps] at e
      refine k _ _ s hD ?_
      rw [e]
      unfold counts ni
      rw [List.map_map]
      rfl
/-! ### nodes by their numbers -/
def spMay : Sp := fun vs H Q _ => ∃ me n : Int, vs = [.int me, .int n] ∧ Q (.bl (decide (2 ≤ n ∧ n ≤ 8 ∧ 0 ≤ me ∧ me < n))) H
theorem ok_may_be_node (T : Txt K mg CN CP CR) (D : Def K mg "may_be_node" s_may_be_node) : Cal P w K mg base 1 "may_be_node" ["me", "n"] spMay := by
  refine D.cal b_may_be_node fun f fd F => F.ok sc_may_be_node (fun vs H Q E h => ?_) (fun cdv A outer s H vs Q E hroom h => ?_)
  · obtain ⟨me, n, rfl, k⟩ := h
    rfl
  · obtain ⟨me, n, rfl, k⟩ := h
    refine ⟨_, (pss_one (ps_ret (pe_and (pe_chain op_le op_le pe_int (pv 1) (pe_cst T.c_NODES)) (pe_one (pe_chain op_le op_lt pe_int (pv 0) (pv 1)))))), ?_⟩
    by_cases h1 : 2 ≤ n
    · by_cases h2 : n ≤ 8
      · refine ⟨_, rfl, _, _, rfl, rfl, _, rfl, ite2 (fun _ => ?_) (fun q => absurd (decide_eq_true h1) q)⟩
        refine ⟨_, _, rfl, rfl, _, rfl, ite2 (fun _ => ?_) (fun q => absurd (decide_eq_true h2) q)⟩
        by_cases h3 : 0 ≤ me
        · refine ⟨_, rfl, _, _, rfl, rfl, _, rfl, ite2 (fun _ => ?_) (fun q => absurd (decide_eq_true h3) q)⟩
          refine ⟨_, rfl, _, _, rfl, rfl, ?_⟩
          have e : decide (2 ≤ n ∧ n ≤ 8 ∧ 0 ≤ me ∧ me < n) = decide (me < n) := by
            rw [Bool.eq_iff_iff, decide_eq_true_iff, decide_eq_true_iff]
            exact ⟨fun q => q.2.2.2, fun q => ⟨h1, h2, h3, q⟩⟩
          rw [e] at k
          exact k
        · refine ⟨_, rfl, _, _, rfl, rfl, _, rfl, ite2 (fun q => absurd (of_decide_eq_true q) h3) (fun _ => ?_)⟩
          rw [decide_eq_false (fun q => h3 q.2.2.1)] at k
          exact k
      · refine ⟨_, rfl, _, _, rfl, rfl, _, rfl, ite2 (fun _ => ?_) (fun q => absurd (decide_eq_true h1) q)⟩
        refine ⟨_, _, rfl, rfl, _, rfl, ite2 (fun q => absurd (of_decide_eq_true q) h2) (fun _ => ?_)⟩
        rw [decide_eq_false (fun q => h2 q.2.1)] at k
        exact k
    · refine ⟨_, rfl, _, _, rfl, rfl, _, rfl, ite2 (fun q => absurd (of_decide_eq_true q) h1) (fun _ => ?_)⟩
      refine ⟨_, rfl, ?_⟩
      rw [decide_eq_false (fun q => h1 q.1)] at k
      exact k
def otherZ (me n : Nat) (j : Int) : Bool := decide (0 ≤ j ∧ j < n) && decide (j ≠ me)
def spIsOther (CN : Addr) : Sp := fun vs H Q _ => ∃ (a : Addr) (me n : Nat) (j : Int), vs = [.ref a, .int j] ∧ HdAt CN H a me n ∧ Q (.bl (otherZ me n j)) H
theorem ok_is_other (T : Txt K mg CN CP CR) (D : Def K mg "is_other" s_is_other) : Cal P w K mg base 1 "is_other" ["node", "j"] (spIsOther CN) := by
  refine D.cal b_is_other fun f fd F => F.ok sc_is_other (fun vs H Q E h => ?_) (fun cdv A outer s H vs Q E hroom h => ?_)
  · obtain ⟨a, me, n, j, rfl, ⟨dx, fs, hA, hm, hn⟩, k⟩ := h
    rfl
  · obtain ⟨a, me, n, j, rfl, ⟨dx, fs, hA, hm, hn⟩, k⟩ := h
    refine ⟨_, (pss_one (ps_ret (pe_and (pe_chain op_le op_lt pe_int (pv 1) (pe_fld (pv 0) rfl)) (pe_one (pe_cmpR op_ne (pv 1) (pe_fld (pv 0) rfl) (nomark _)))))), ?_⟩
    unfold otherZ at k
    by_cases h1 : 0 ≤ j
    · refine ⟨_, rfl, _, _, rfl, rfl, _, rfl, ite2 (fun _ => ?_) (fun q => absurd (decide_eq_true h1) q)⟩
      refine ⟨_, rfl, a, _, _, _, _, rfl, hA, T.cN, T.a_n, hn, _, _, rfl, rfl, _, rfl, ite2 (fun h2 => ?_) (fun h2 => ?_)⟩
      · refine ⟨_, rfl, _, rfl, a, _, _, _, _, rfl, hA, T.cN, T.a_me, hm, rfl, ?_⟩
        rw [decide_eq_true ⟨h1, of_decide_eq_true h2⟩, Bool.true_and] at k
        have e : (!decide (V.int j = V.int (me : Int))) = decide (j ≠ me) := by
          rw [dec_int, Bool.eq_iff_iff, decide_eq_true_iff, Bool.not_eq_true', beq_eq_false_iff_ne]
        rw [← e] at k
        exact k
      · rw [decide_eq_false (fun q => h2 (decide_eq_true q.2)), Bool.false_and] at k
        exact k
    · refine ⟨_, rfl, _, _, rfl, rfl, _, rfl, ite2 (fun q => absurd (of_decide_eq_true q) h1) (fun _ => ?_)⟩
      refine ⟨_, rfl, ?_⟩
      rw [decide_eq_false (fun q => h1 q.1), Bool.false_and] at k
      exact k
def othersL (me n : Nat) : List Nat := (List.range n).filter fun i => i != me
def spOthers (CN : Addr) : Sp := fun vs H Q _ => ∃ (a : Addr) (me n : Nat), vs = [.ref a] ∧ HdAt CN H a me n ∧ n ≤ 8 ∧ RetL H Q (ni (othersL me n))
theorem ok_others_of (T : Txt K mg CN CP CR) (D : Def K mg "others_of" s_others_of) : Cal P w K mg base 1 "others_of" ["node"] (spOthers CN) := by
  refine D.cal b_others_of fun f fd F => F.ok sc_others_of (fun vs H Q E h => ?_) (fun cdv A outer s H vs Q E hroom h => ?_)
  · obtain ⟨a, me, n, rfl, hd, h8, k⟩ := h
    rfl
  · obtain ⟨a, me, n, rfl, hd, h8, k⟩ := h
    refine ⟨_, (pss_one (ps_ret (pe_lc (own := [("j", 1)]) (g := (gName 1)) (tt := (tTest (tOp rNe (tVar 1) (tFld K (tVar 0) "me")))) (te := (tVar 1)) rfl sc_others_of.nd (pi_range1 (by rfl) T.b.range (pa_cons (pe_fld (pv 0) rfl) pa_nil)) (blkOk_by (N := N_others_of) (sc := defScope s_others_of) (by decide +kernel)) (fun _ _ _ _ _ => (pg_name (i := 1) sc_others_of.nd rfl (by first | exact Or.inl rfl | exact Or.inr rfl))) (fun _ _ _ _ _ => pts_one (pt_cmpR op_ne (pv 1) (pe_fld (pv 0) rfl) (nomark _))) (fun _ _ _ _ _ => (pv 1))))), ?_⟩
    obtain ⟨dx, fs, hA, hm, hn⟩ := id hd
    refine ⟨_, rfl, a, _, _, _, _, rfl, hA, T.cN, T.a_n, hn, _, rfl, by omega, by omega, fun D hD => lc_pureR (n := n) (fun j => if j = me then none else some (V.int (j : Int))) (by omega) hD ?_ ?_⟩
    · intro j H' hj s R C hR hC
      obtain ⟨dx, fs, hA, hm, hn⟩ := hd.same s
      refine ⟨rfl, _, rfl, _, rfl, a, _, _, _, _, rfl, hA, T.cN, T.a_me, hm, rfl, _, rfl, ?_⟩
      rw [dec_int]
      by_cases e : j = me
      · subst e
        rw [beq_self_eq_true]
        exact iteF (hC (if_pos rfl))
      · rw [beq_eq_false_iff_ne.mpr (by intro q; exact e (by omega))]
        exact iteT ⟨_, rfl, hR _ (if_neg e)⟩
    · intro H' s e
      refine k _ _ s hD ?_
      rw [e]
      congr 2
      unfold othersL ni
      generalize List.range n = l
      induction l with
      | nil => rfl
      | cons x r ih =>
        rw [List.filterMap_cons, List.filter_cons]
        by_cases q : x = me
        · rw [if_pos q, if_neg (by simp [q])]
          exact ih
        · rw [if_neg q, if_pos (by simp [q])]
          exact congrArg _ ih
end
end Po

namespace Po
open PySem PySem.Spec PyProof.Rows L2
open Sv27 (little stampBytes stampOf stampOk nobody padded Bytes Stamp of word)
set_option linter.all false
theorem cat_ni {A B : List V} {a b : List Nat} (h1 : A = ni a) (h2 : B = ni b) : A ++ B = ni (a ++ b) := by rw [h1, h2, ni_append]
section
variable {P : Program} {w : World} {K : PySem.W.Frag} {mg : Str → Option Value} {base : Heap} {CN CP CR : Addr}
/-! ### letters -/
def spPostL (CP : Addr) : Sp := fun vs H Q _ => ∃ (to au : Nat) (a : Addr) (B : Addr → Prop) (p : Sv27.Post), vs = [.int (to : Int), .int (au : Int), .ref a] ∧ PostAt CP B H a p ∧ p.stamp.length = 8 ∧ p.text.length ≤ 31 ∧ RetL H Q (ni (Sv27.Letter.bytes ⟨to, au, .post p⟩))
theorem ok_post_letter (T : Txt K mg CN CP CR) (D : Def K mg "post_letter" s_post_letter) (c_padded_text : Cal P w K mg base 1 "padded_text" ["text"] spPad) (c_bytes_of_stamp : Cal P w K mg base 2 "bytes_of_stamp" ["stamp"] (spStB K)) : Cal P w K mg base 3 "post_letter" ["to", "author", "post"] (spPostL CP) := by
  refine D.cal b_post_letter fun f fd F => F.ok sc_post_letter (fun vs H Q E h => ?_) (fun cdv A outer s H vs Q E hroom h => ?_)
  · obtain ⟨to, au, a, B, p, rfl, ⟨dx, s, t, h1, h2, h3, _⟩, h8, h31, k⟩ := h
    rfl
  · obtain ⟨to, au, a, B, p, rfl, ⟨dx, s, t, h1, h2, h3, _⟩, h8, h31, k⟩ := h
    refine ⟨_, (pss_cons (ps_set (i := 3) sc_post_letter.nd rfl (by first | exact Or.inl rfl | exact Or.inr rfl) (pe_lst (pa_cons (pv 0) (pa_cons (pe_cst T.c_POST) (pa_cons (pv 1) (pa_cons (pe_callB cr_lenN (by rfl) T.b.len PySem.boot_len (pa_cons (pe_fld (pv 2) rfl) pa_nil)) pa_nil))))))
      (pss_one (ps_ret (pe_op op_cat (pe_op op_cat (pv 3) (pe_cal c_bytes_of_stamp hroom (pa_cons (pe_fld (pv 2) rfl) pa_nil))) (pe_cal c_padded_text (hroom.mono (by decide)) (pa_cons (pe_fld (pv 2) rfl) pa_nil)))))), ?_⟩
    refine ⟨_, rfl, _, rfl, _, rfl, a, _, _, _, _, rfl, h1, T.cP, T.a_text, pF_text s t, t, _, rfl, SqL.of h3, (by show 4 ≤ sizeLine; decide), fun l hl => ?_⟩
    rw [ni_length]
    have s1 : Same H (upd H l (.lst (ni [to, 1, au, p.text.length]))) := Same.new hl
    refine ⟨_, rfl, _, rfl, a, _, _, _, _, rfl, s1 _ _ h1, T.cP, T.a_stamp, pF_stamp s t, s, p.stamp, rfl, SqL.of (s1 _ _ h2), h8, fun H2 q s2 hq e2 => ?_⟩
    refine ⟨l, q, _, _, rfl, rfl, s2 _ _ upd_same, e2, ?_, fun r hr => ?_⟩
    · rw [ni_length, stampBytes_length]
      exact small_sz (by simp only [List.length_cons, List.length_nil]; omega)
    have s3 : Same H (upd H2 r (.lst (ni [to, 1, au, p.text.length] ++ ni (stampBytes p.stamp)))) := (s1.trans s2).trans (Same.new hr)
    have ek : ni (Sv27.Letter.bytes ⟨to, au, .post p⟩) = (ni [to, 1, au, p.text.length] ++ ni (stampBytes p.stamp)) ++ ni (padded p.text) := by
      rw [List.append_assoc, ← ni_append, ← ni_append]
      rfl
    rw [ek] at k
    refine ⟨_, rfl, a, _, _, _, _, rfl, s3 _ _ h1, T.cP, T.a_text, pF_text s t, t, p.text, rfl, s3 _ _ h3, by omega, fun H4 u s4 hu e4 => ?_⟩
    refine ⟨r, u, _, _, rfl, rfl, s4 _ _ upd_same, e4, ?_, fun v hv => ?_⟩
    · rw [List.length_append, ni_length, ni_length, stampBytes_length, padded_length (by omega)]
      exact small_sz (by simp only [List.length_cons, List.length_nil]; omega)
    exact k.now (s3.trans s4) hv
def spSeenL (K : PySem.W.Frag) : Sp := fun vs H Q _ => ∃ (to au : Nat) (a : Addr) (st : Stamp), vs = [.int (to : Int), .int (au : Int), .ref a] ∧ SqL K H a (ni st) ∧ st.length = 8 ∧ RetL H Q (ni (Sv27.Letter.bytes ⟨to, au, .seen st⟩))
theorem ok_seen_letter (T : Txt K mg CN CP CR) (D : Def K mg "seen_letter" s_seen_letter) (c_bytes_of_stamp : Cal P w K mg base 2 "bytes_of_stamp" ["stamp"] (spStB K)) : Cal P w K mg base 3 "seen_letter" ["to", "sender", "seen"] (spSeenL K) := by
  refine D.cal b_seen_letter fun f fd F => F.ok sc_seen_letter (fun vs H Q E h => ?_) (fun cdv A outer s H vs Q E hroom h => ?_)
  · obtain ⟨to, au, a, st, rfl, hS, h8, k⟩ := h
    rfl
  · obtain ⟨to, au, a, st, rfl, hS, h8, k⟩ := h
    refine ⟨_, (pss_one (ps_ret (pe_op op_cat (pe_lst (pa_cons (pv 0) (pa_cons (pe_cst T.c_SEEN) (pa_cons (pv 1) (pa_cons pe_int pa_nil))))) (pe_cal c_bytes_of_stamp hroom (pa_cons (pv 2) pa_nil))))), ?_⟩
    refine ⟨_, rfl, _, rfl, (by show 4 ≤ sizeLine; decide), fun l hl => ?_⟩
    have s1 : Same H (upd H l (.lst (ni [to, 2, au, 0]))) := Same.new hl
    refine ⟨_, rfl, a, st, rfl, s1.seq hS, h8, fun H2 q s2 hq e2 => ?_⟩
    refine ⟨l, q, _, _, rfl, rfl, s2 _ _ upd_same, e2, ?_, fun r hr => ?_⟩
    · rw [ni_length, stampBytes_length]
      exact small_sz (by simp only [List.length_cons, List.length_nil]; omega)
    have z := k.now (s1.trans s2) hr
    rw [show ni (Sv27.Letter.bytes ⟨to, au, .seen st⟩) = ni [to, 2, au, 0] ++ ni (stampBytes st) from ni_append _ _] at z
    exact z
def spIsSeen (K : PySem.W.Frag) : Sp := fun vs H Q _ => ∃ (a : Addr) (b : Bytes), vs = [.ref a] ∧ SqL K H a (ni b) ∧ 4 ≤ b.length ∧ Q (.bl (decide (b.getD 1 0 = 2))) H
theorem ok_is_seen (T : Txt K mg CN CP CR) (D : Def K mg "is_seen" s_is_seen) : Cal P w K mg base 1 "is_seen" ["letter"] (spIsSeen K) := by
  refine D.cal b_is_seen fun f fd F => F.ok sc_is_seen (fun vs H Q E h => ?_) (fun cdv A outer s H vs Q E hroom h => ?_)
  · obtain ⟨a, b, rfl, hS, hl, k⟩ := h
    rfl
  · obtain ⟨a, b, rfl, hS, hl, k⟩ := h
    refine ⟨_, (pss_one (ps_ret (pe_cmpR op_eq (pe_ix ix_nat (pv 0) pe_int (fun _ _ => rfl)) (pe_cst T.c_SEEN) (nomark _)))), ?_⟩
    refine ⟨_, rfl, a, _, 1, _, rfl, rfl, hS, ni_get (getD_get (by omega)), rfl, ?_⟩
    have e : decide (b.getD 1 0 = 2) = decide (V.int (b.getD 1 0 : Nat) = V.int 2) := by
      rw [dec_int, Bool.eq_iff_iff, decide_eq_true_iff, beq_iff_eq]
      omega
    rw [e] at k
    exact k
def spSender (K : PySem.W.Frag) : Sp := fun vs H Q _ => ∃ (a : Addr) (b : Bytes), vs = [.ref a] ∧ SqL K H a (ni b) ∧ 4 ≤ b.length ∧ Q (.int (b.getD 2 0 : Nat)) H
theorem ok_sender_of (T : Txt K mg CN CP CR) (D : Def K mg "sender_of" s_sender_of) : Cal P w K mg base 1 "sender_of" ["letter"] (spSender K) := by
  refine D.cal b_sender_of fun f fd F => F.ok sc_sender_of (fun vs H Q E h => ?_) (fun cdv A outer s H vs Q E hroom h => ?_)
  · obtain ⟨a, b, rfl, hS, hl, k⟩ := h
    rfl
  · obtain ⟨a, b, rfl, hS, hl, k⟩ := h
    refine ⟨_, (pss_one (ps_ret (pe_ix ix_nat (pv 0) pe_int (fun _ _ => rfl)))), ?_⟩
    exact ⟨_, rfl, a, _, 2, _, rfl, rfl, hS, ni_get (getD_get (by omega)), k⟩
def spStampIn (K : PySem.W.Frag) : Sp := fun vs H Q _ => ∃ (a : Addr) (b : Bytes), vs = [.ref a] ∧ SqL K H a (ni b) ∧ 68 ≤ b.length ∧ Small b ∧ RetL H Q (ni (stampOf (b.drop 4)))
theorem ok_stamp_in (T : Txt K mg CN CP CR) (D : Def K mg "stamp_in" s_stamp_in) (c_stamp_of_bytes : Cal P w K mg base 2 "stamp_of_bytes" ["row"] (spStOf K)) : Cal P w K mg base 3 "stamp_in" ["letter"] (spStampIn K) := by
  refine D.cal b_stamp_in fun f fd F => F.ok sc_stamp_in (fun vs H Q E h => ?_) (fun cdv A outer s H vs Q E hroom h => ?_)
  · obtain ⟨a, b, rfl, hS, hl, hs, k⟩ := h
    rfl
  · obtain ⟨a, b, rfl, hS, hl, hs, k⟩ := h
    refine ⟨_, (pss_one (ps_ret (pe_cal c_stamp_of_bytes hroom (pa_cons (pe_slice sl_list (pv 0) (po_some (pe_cst T.c_HEAD_BYTES)) (po_some (pe_op op_add (pe_cst T.c_HEAD_BYTES) (pe_cst T.c_STAMP_BYTES)))) pa_nil)))), ?_⟩
    refine ⟨_, rfl, _, rfl, _, _, rfl, rfl, _, rfl, a, _, rfl, hS, fun p hp => ?_⟩
    have ec : cutV (ni b) (some 4) (some ((4 : Int) + 64)) = ni ((b.drop 4).take 64) := by
      rw [ni_take, ni_drop]
      exact cutV_nat (ni b) 4 68
    rw [ec]
    have s1 : Same H (upd H p (.lst (ni ((b.drop 4).take 64)))) := Same.new hp
    refine ⟨p, _, rfl, SqL.of upd_same, (by rw [List.length_take, List.length_drop]; omega), (hs.drop _).take _, ?_⟩
    rw [stampOf_take]
    exact k.pass s1
def spPadIn (K : PySem.W.Frag) : Sp := fun vs H Q _ => ∃ (a : Addr) (b : Bytes), vs = [.ref a] ∧ SqL K H a (ni b) ∧ RetL H Q (ni (b.drop 68))
theorem ok_padded_text_in (T : Txt K mg CN CP CR) (D : Def K mg "padded_text_in" s_padded_text_in) : Cal P w K mg base 1 "padded_text_in" ["letter"] (spPadIn K) := by
  refine D.cal b_padded_text_in fun f fd F => F.ok sc_padded_text_in (fun vs H Q E h => ?_) (fun cdv A outer s H vs Q E hroom h => ?_)
  · obtain ⟨a, b, rfl, hS, k⟩ := h
    rfl
  · obtain ⟨a, b, rfl, hS, k⟩ := h
    refine ⟨_, (pss_one (ps_ret (pe_slice sl_list (pv 0) (po_some (pe_op op_add (pe_cst T.c_HEAD_BYTES) (pe_cst T.c_STAMP_BYTES))) po_none))), ?_⟩
    refine ⟨_, rfl, _, _, rfl, rfl, _, rfl, a, _, rfl, hS, fun p hp => ?_⟩
    have ec : cutV (ni b) (some ((4 : Int) + 64)) none = ni (b.drop 68) := by
      rw [ni_drop]
      exact cutV_from (ni b) 68
    rw [ec]
    exact k.now (Same.refl H) hp
/-- a post that is new in all its parts -/
def RetP (CP : Addr) (H : Hp) (Q : VK) (p : Sv27.Post) : Prop := ∀ (H' : Hp) (a dx s t : Addr), Same H H' → H a = none → H s = none → H t = none → H' a = some (.ins CP dx (pF s t)) → H' s = some (.lst (ni p.stamp)) → H' t = some (.lst (ni p.text)) → Q (.ref a) H'
def spPostIn (K : PySem.W.Frag) (CP : Addr) : Sp := fun vs H Q _ => ∃ (a : Addr) (b : Bytes), vs = [.ref a] ∧ SqL K H a (ni b) ∧ 68 ≤ b.length ∧ Small b ∧ RetP CP H Q ⟨stampOf (b.drop 4), (b.drop 68).take (b.getD 3 0)⟩
theorem ok_post_in (T : Txt K mg CN CP CR) (D : Def K mg "post_in" s_post_in) (i_Post : ICal P w K mg base 1 CP "Post" ["self", "stamp", "text"] (spPostI CP)) (c_stamp_in : Cal P w K mg base 3 "stamp_in" ["letter"] (spStampIn K)) (c_padded_text_in : Cal P w K mg base 1 "padded_text_in" ["letter"] (spPadIn K)) : Cal P w K mg base 4 "post_in" ["letter"] (spPostIn K CP) := by
  refine D.cal b_post_in fun f fd F => F.ok sc_post_in (fun vs H Q E h => ?_) (fun cdv A outer s H vs Q E hroom h => ?_)
  · obtain ⟨a, b, rfl, hS, hl, hs, k⟩ := h
    rfl
  · obtain ⟨a, b, rfl, hS, hl, hs, k⟩ := h
    refine ⟨_, (pss_cons (ps_set (i := 1) sc_post_in.nd rfl (by first | exact Or.inl rfl | exact Or.inr rfl) (pe_ix ix_nat (pv 0) pe_int (fun _ _ => rfl)))
      (pss_one (ps_ret (pe_ical i_Post (hroom.mono (by decide)) (pa_cons (pe_cal c_stamp_in hroom (pa_cons (pv 0) pa_nil)) (pa_cons (pe_slice sl_list (pe_cal c_padded_text_in (hroom.mono (by decide)) (pa_cons (pv 0) pa_nil)) po_none (po_some (pv 1))) pa_nil)))))), ?_⟩
    refine ⟨_, rfl, a, _, 3, _, rfl, rfl, hS, ni_get (getD_get (by omega)), ?_⟩
    refine ⟨_, rfl, a, b, rfl, hS, hl, hs, fun H1 p s1 hp e1 => ?_⟩
    refine ⟨_, rfl, a, b, rfl, s1.seq hS, fun H2 q s2 hq e2 => ?_⟩
    refine ⟨_, rfl, _, rfl, q, _, rfl, SqL.of e2, fun r hr => ?_⟩
    rw [cutV_to, ← ni_take]
    intro x dx nx nd ne
    have s3 : Same H (upd H2 r (.lst (ni ((b.drop 68).take (b.getD 3 0))))) := (s1.trans s2).trans (Same.new hr)
    have s4 := Same.new (o := HO.lst (ni ((b.drop 68).take (b.getD 3 0)))) hr
    refine ⟨x, dx, p, r, rfl, upd_same, fun H' hx kp => ⟨rfl, ?_⟩⟩
    have s5 : Same _ H' := Same.made nx nd kp
    exact k H' x dx p r (s3.trans s5) (s3.none nx) hp (s1.none (s2.none hr)) hx (s5 _ _ (s4 _ _ (s2 _ _ e1))) (s5 _ _ upd_same)
def spFromO (K : PySem.W.Frag) (CN : Addr) : Sp := fun vs H Q _ => ∃ (d a : Addr) (b : Bytes) (me n : Nat), vs = [.ref d, .ref a] ∧ HdAt CN H d me n ∧ SqL K H a (ni b) ∧ 4 ≤ b.length ∧ Q (.bl (fromOther me n b)) H
theorem ok_is_from_another (T : Txt K mg CN CP CR) (D : Def K mg "is_from_another" s_is_from_another) (c_is_other : Cal P w K mg base 1 "is_other" ["node", "j"] (spIsOther CN)) (c_sender_of : Cal P w K mg base 1 "sender_of" ["letter"] (spSender K)) : Cal P w K mg base 2 "is_from_another" ["node", "letter"] (spFromO K CN) := by
  refine D.cal b_is_from_another fun f fd F => F.ok sc_is_from_another (fun vs H Q E h => ?_) (fun cdv A outer s H vs Q E hroom h => ?_)
  · obtain ⟨d, a, b, me, n, rfl, hd, hS, hl, k⟩ := h
    rfl
  · obtain ⟨d, a, b, me, n, rfl, hd, hS, hl, k⟩ := h
    refine ⟨_, (pss_one (ps_ret (pe_and (pe_cmpR op_eq (pe_ix ix_nat (pv 1) pe_int (fun _ _ => rfl)) (pe_fld (pv 0) rfl) (nomark _)) (pe_one (pe_cal c_is_other hroom (pa_cons (pv 0) (pa_cons (pe_cal c_sender_of hroom (pa_cons (pv 1) pa_nil)) pa_nil))))))), ?_⟩
    obtain ⟨dx, fs, hA, hm, hn⟩ := id hd
    refine ⟨_, rfl, a, _, 0, _, rfl, rfl, hS, ni_get (getD_get (by omega)), _, rfl, d, _, _, _, _, rfl, hA, T.cN, T.a_me, hm, rfl, _, rfl, ?_⟩
    unfold fromOther at k
    have e1 : decide (V.int (b.getD 0 0 : Nat) = V.int (me : Int)) = decide (b.getD 0 0 = me) := by
      rw [dec_int, Bool.eq_iff_iff, decide_eq_true_iff, beq_iff_eq]
      omega
    rw [e1]
    have e2 : otherZ me n (b.getD 2 0 : Nat) = (decide (b.getD 2 0 < n) && decide (b.getD 2 0 ≠ me)) := by
      unfold otherZ
      rw [Bool.eq_iff_iff, Bool.and_eq_true, Bool.and_eq_true, decide_eq_true_iff, decide_eq_true_iff, decide_eq_true_iff, decide_eq_true_iff]
      omega
    rw [← e2] at k
    refine ite2 (fun h => ?_) (fun h => ?_)
    · rw [h, Bool.true_and] at k
      exact ⟨_, rfl, _, rfl, a, b, rfl, hS, hl, d, me, n, _, rfl, hd, k⟩
    · rw [Bool.eq_false_iff.mpr h, Bool.false_and] at k
      exact k
def spRightP (K : PySem.W.Frag) (CN : Addr) : Sp := fun vs H Q _ => ∃ (d a : Addr) (b : Bytes) (me n : Nat), vs = [.ref d, .ref a] ∧ HdAt CN H d me n ∧ SqL K H a (ni b) ∧ b.length = 100 ∧ Small b ∧ n ≤ 8 ∧ b.getD 2 0 < n ∧ ∀ H', Same H H' → Q (.bl (rightPost n b)) H'
theorem ok_is_right_post (T : Txt K mg CN CP CR) (D : Def K mg "is_right_post" s_is_right_post) (c_stamp_in : Cal P w K mg base 3 "stamp_in" ["letter"] (spStampIn K)) (c_is_padded_text : Cal P w K mg base 1 "is_padded_text" ["length", "row"] (spIsPad K)) (c_is_stamp : Cal P w K mg base 1 "is_stamp" ["stamp", "n"] (spIsSt K)) (c_padded_text_in : Cal P w K mg base 1 "padded_text_in" ["letter"] (spPadIn K)) (c_sender_of : Cal P w K mg base 1 "sender_of" ["letter"] (spSender K)) : Cal P w K mg base 4 "is_right_post" ["node", "letter"] (spRightP K CN) := by
  refine D.cal b_is_right_post fun f fd F => F.ok sc_is_right_post (fun vs H Q E h => ?_) (fun cdv A outer s H vs Q E hroom h => ?_)
  · obtain ⟨d, a, b, me, n, rfl, hd, hS, hl, hs, h8, h2, k⟩ := h
    rfl
  · obtain ⟨d, a, b, me, n, rfl, hd, hS, hl, hs, h8, h2, k⟩ := h
    refine ⟨_, (pss_cons (ps_if (pt_not (pt_val (pe_cal c_is_padded_text (hroom.mono (by decide)) (pa_cons (pe_ix ix_nat (pv 1) pe_int (fun _ _ => rfl)) (pa_cons (pe_cal c_padded_text_in (hroom.mono (by decide)) (pa_cons (pv 1) pa_nil)) pa_nil))))) (pss_one (ps_ret pe_bl)) pss_nil)
      (pss_cons (ps_set (i := 2) sc_is_right_post.nd rfl (by first | exact Or.inl rfl | exact Or.inr rfl) (pe_cal c_stamp_in hroom (pa_cons (pv 1) pa_nil)))
      (pss_one (ps_ret (pe_and (pe_cal c_is_stamp (hroom.mono (by decide)) (pa_cons (pv 2) (pa_cons (pe_fld (pv 0) rfl) pa_nil))) (pe_one (pe_cmpR op_ge (pe_ix ix_nat (pv 2) (pe_cal c_sender_of (hroom.mono (by decide)) (pa_cons (pv 1) pa_nil)) (fun _ _ => rfl)) pe_int (nomark _)))))))), ?_⟩
    refine ⟨_, rfl, a, _, 3, _, rfl, rfl, hS, ni_get (getD_get (by omega)), _, rfl, a, b, rfl, hS, fun H1 p s1 hp e1 => ?_⟩
    refine ⟨_, p, _, rfl, SqL.of e1, fun H2 s2 => ⟨_, rfl, ?_⟩⟩
    unfold rightPost at k
    refine ite2 (fun h => ?_) (fun h => ?_)
    · rw [Bool.not_eq_true'] at h
      rw [h] at k
      exact k _ (s1.trans s2)
    have h : isPad (b.getD 3 0) (b.drop 68) = true := by simpa using h
    rw [h] at k
    refine ⟨_, rfl, a, b, rfl, (s1.trans s2).seq hS, by omega, hs, fun H3 q s3 hq e3 => ?_⟩
    obtain ⟨dx, fs, hA, hm, hn⟩ := hd.same ((s1.trans s2).trans s3)
    refine ⟨_, rfl, _, rfl, d, _, _, _, _, rfl, hA, T.cN, T.a_n, hn, q, _, n, rfl, SqL.of e3, stampOf_length _, h8, fun H4 s4 => ⟨_, rfl, ite2 (fun h5 => ?_) (fun h5 => ?_)⟩⟩
    · have s5 := ((s1.trans s2).trans s3).trans s4
      refine ⟨_, rfl, _, rfl, a, b, rfl, s5.seq hS, by omega, q, _, _, _, rfl, rfl, SqL.of (s4 _ _ e3), ni_get (of_get (by rw [stampOf_length]; omega)), _, _, rfl, rfl, ?_⟩
      have z := k _ s5
      rw [h5, Bool.true_and, Bool.true_and] at z
      have e : decide (1 ≤ of (stampOf (b.drop 4)) (b.getD 2 0)) = decide ((1 : Int) ≤ (of (stampOf (b.drop 4)) (b.getD 2 0) : Nat)) := by
        rw [Bool.eq_iff_iff, decide_eq_true_iff, decide_eq_true_iff]
        omega
      rw [e] at z
      exact z
    · have z := k _ (((s1.trans s2).trans s3).trans s4)
      rw [Bool.eq_false_iff.mpr h5, Bool.false_and, Bool.and_false] at z
      exact z
def spRightS (K : PySem.W.Frag) (CN : Addr) : Sp := fun vs H Q _ => ∃ (d a : Addr) (b : Bytes) (me n : Nat), vs = [.ref d, .ref a] ∧ HdAt CN H d me n ∧ SqL K H a (ni b) ∧ b.length = 68 ∧ Small b ∧ n ≤ 8 ∧ ∀ H', Same H H' → Q (.bl (rightSeen n b)) H'
theorem ok_is_right_seen (T : Txt K mg CN CP CR) (D : Def K mg "is_right_seen" s_is_right_seen) (c_is_stamp : Cal P w K mg base 1 "is_stamp" ["stamp", "n"] (spIsSt K)) (c_stamp_in : Cal P w K mg base 3 "stamp_in" ["letter"] (spStampIn K)) : Cal P w K mg base 4 "is_right_seen" ["node", "letter"] (spRightS K CN) := by
  refine D.cal b_is_right_seen fun f fd F => F.ok sc_is_right_seen (fun vs H Q E h => ?_) (fun cdv A outer s H vs Q E hroom h => ?_)
  · obtain ⟨d, a, b, me, n, rfl, hd, hS, hl, hs, h8, k⟩ := h
    rfl
  · obtain ⟨d, a, b, me, n, rfl, hd, hS, hl, hs, h8, k⟩ := h
    refine ⟨_, (pss_one (ps_ret (pe_and (pe_cmpR op_eq (pe_ix ix_nat (pv 1) pe_int (fun _ _ => rfl)) pe_int (nomark _)) (pe_one (pe_cal c_is_stamp (hroom.mono (by decide)) (pa_cons (pe_cal c_stamp_in hroom (pa_cons (pv 1) pa_nil)) (pa_cons (pe_fld (pv 0) rfl) pa_nil))))))), ?_⟩
    unfold rightSeen at k
    have e1 : decide (V.int (b.getD 3 0 : Nat) = V.int 0) = decide (b.getD 3 0 = 0) := by
      rw [dec_int, Bool.eq_iff_iff, decide_eq_true_iff, beq_iff_eq]
      omega
    refine ⟨_, rfl, a, _, 3, _, rfl, rfl, hS, ni_get (getD_get (by omega)), rfl, _, rfl, ?_⟩
    rw [e1]
    refine ite2 (fun h => ?_) (fun h => ?_)
    · refine ⟨_, rfl, a, b, rfl, hS, by omega, hs, fun H3 q s3 hq e3 => ?_⟩
      obtain ⟨dx, fs, hA, hm, hn⟩ := hd.same s3
      refine ⟨_, rfl, d, _, _, _, _, rfl, hA, T.cN, T.a_n, hn, q, _, n, rfl, SqL.of e3, stampOf_length _, h8, fun H4 s4 => ?_⟩
      have z := k _ (s3.trans s4)
      rw [h, Bool.true_and] at z
      exact z
    · have z := k _ (Same.refl H)
      rw [Bool.eq_false_iff.mpr h, Bool.false_and] at z
      exact z
def spRight (K : PySem.W.Frag) (CN : Addr) : Sp := fun vs H Q _ => ∃ (d a : Addr) (b : Bytes) (me n : Nat), vs = [.ref d, .ref a] ∧ HdAt CN H d me n ∧ SqL K H a (ni b) ∧ Small b ∧ n ≤ 8 ∧ ∀ H', Same H H' → Q (.bl (isRight me n b)) H'
theorem fromOther_lt {me n : Nat} {b : Bytes} (h : fromOther me n b = true) : b.getD 2 0 < n := by
  unfold fromOther at h
  rw [Bool.and_eq_true, Bool.and_eq_true, decide_eq_true_iff, decide_eq_true_iff, decide_eq_true_iff] at h
  exact h.2.1
theorem ok_is_right (T : Txt K mg CN CP CR) (D : Def K mg "is_right" s_is_right) (c_is_from_another : Cal P w K mg base 2 "is_from_another" ["node", "letter"] (spFromO K CN)) (c_is_right_post : Cal P w K mg base 4 "is_right_post" ["node", "letter"] (spRightP K CN)) (c_is_right_seen : Cal P w K mg base 4 "is_right_seen" ["node", "letter"] (spRightS K CN)) : Cal P w K mg base 5 "is_right" ["node", "letter"] (spRight K CN) := by
  refine D.cal b_is_right fun f fd F => F.ok sc_is_right (fun vs H Q E h => ?_) (fun cdv A outer s H vs Q E hroom h => ?_)
  · obtain ⟨d, a, b, me, n, rfl, hd, hS, hs, h8, k⟩ := h
    rfl
  · obtain ⟨d, a, b, me, n, rfl, hd, hS, hs, h8, k⟩ := h
    refine ⟨_, (pss_cons (ps_if (PW.pt (pw_and (pt_cmpR op_eq (pe_callB cr_lenN (by rfl) T.b.len PySem.boot_len (pa_cons (pv 1) pa_nil)) (pe_cst T.c_POST_LETTER_BYTES) (nomark _)) (pw_and1 (pt_cmpR op_eq (pe_ix ix_nat (pv 1) pe_int (fun _ _ => rfl)) (pe_cst T.c_POST) (nomark _))))) (pss_one (ps_ret (pe_and (pe_cal c_is_from_another (hroom.mono (by decide)) (pa_cons (pv 0) (pa_cons (pv 1) pa_nil))) (pe_one (pe_cal c_is_right_post hroom (pa_cons (pv 0) (pa_cons (pv 1) pa_nil))))))) pss_nil)
      (pss_cons (ps_if (PW.pt (pw_and (pt_cmpR op_eq (pe_callB cr_lenN (by rfl) T.b.len PySem.boot_len (pa_cons (pv 1) pa_nil)) (pe_cst T.c_SEEN_LETTER_BYTES) (nomark _)) (pw_and1 (pt_cmpR op_eq (pe_ix ix_nat (pv 1) pe_int (fun _ _ => rfl)) (pe_cst T.c_SEEN) (nomark _))))) (pss_one (ps_ret (pe_and (pe_cal c_is_from_another (hroom.mono (by decide)) (pa_cons (pv 0) (pa_cons (pv 1) pa_nil))) (pe_one (pe_cal c_is_right_seen hroom (pa_cons (pv 0) (pa_cons (pv 1) pa_nil))))))) pss_nil)
      (pss_one (ps_ret pe_bl)))), ?_⟩
    have el : ∀ m : Nat, decide (V.int ((ni b).length : Nat) = V.int (m : Int)) = decide (b.length = m) := fun m => by
      rw [ni_length, dec_int, Bool.eq_iff_iff, decide_eq_true_iff, beq_iff_eq]
      omega
    have e1 : ∀ m : Nat, decide (V.int (b.getD 1 0 : Nat) = V.int (m : Int)) = decide (b.getD 1 0 = m) := fun m => by
      rw [dec_int, Bool.eq_iff_iff, decide_eq_true_iff, beq_iff_eq]
      omega
    unfold isRight at k
    -- the second question, where the first was answered no
    have second : ¬ (b.length = 100 ∧ b.getD 1 0 = 1) → ∀ {G : Prop}, (b.length = 68 ∧ b.getD 1 0 = 2 → G) → (¬ (b.length = 68 ∧ b.getD 1 0 = 2) → G) → G := fun _ _ g1 g2 => if h : b.length = 68 ∧ b.getD 1 0 = 2 then g1 h else g2 h
    by_cases h100 : b.length = 100
    · refine ⟨_, rfl, a, _, rfl, hS, rfl, _, rfl, ?_⟩
      rw [show (100 : Int) = ((100 : Nat) : Int) from rfl, el 100, decide_eq_true h100]
      refine iteT ⟨_, rfl, a, _, 1, _, rfl, rfl, hS, ni_get (getD_get (by omega)), rfl, _, rfl, ?_⟩
      rw [show (1 : Int) = ((1 : Nat) : Int) from rfl, e1 1]
      by_cases h1 : b.getD 1 0 = 1
      · rw [decide_eq_true h1]
        rw [if_pos ⟨h100, h1⟩] at k
        refine iteT ⟨_, rfl, _, rfl, d, a, b, me, n, rfl, hd, hS, by omega, _, rfl, ite2 (fun h => ?_) (fun h => ?_)⟩
        · refine ⟨_, rfl, _, rfl, d, a, b, me, n, rfl, hd, hS, h100, hs, h8, fromOther_lt h, fun H' s => ?_⟩
          have z := k _ s
          rw [h, Bool.true_and] at z
          exact z
        · have z := k _ (Same.refl H)
          rw [Bool.eq_false_iff.mpr h, Bool.false_and] at z
          exact z
      · rw [decide_eq_false h1]
        rw [if_neg (fun q => h1 q.2), if_neg (fun q => absurd q.1 (by omega))] at k
        refine iteF ⟨_, rfl, a, _, rfl, hS, rfl, _, rfl, ?_⟩
        rw [show (68 : Int) = ((68 : Nat) : Int) from rfl, el 68, decide_eq_false (by omega)]
        exact iteF (k _ (Same.refl H))
    · refine ⟨_, rfl, a, _, rfl, hS, rfl, _, rfl, ?_⟩
      rw [show (100 : Int) = ((100 : Nat) : Int) from rfl, el 100, decide_eq_false h100]
      refine iteF ⟨_, rfl, a, _, rfl, hS, rfl, _, rfl, ?_⟩
      rw [show (68 : Int) = ((68 : Nat) : Int) from rfl, el 68]
      rw [if_neg (fun q => h100 q.1)] at k
      by_cases h68 : b.length = 68
      · rw [decide_eq_true h68]
        refine iteT ⟨_, rfl, a, _, 1, _, rfl, rfl, hS, ni_get (getD_get (by omega)), rfl, _, rfl, ?_⟩
        rw [show (2 : Int) = ((2 : Nat) : Int) from rfl, e1 2]
        by_cases h1 : b.getD 1 0 = 2
        · rw [decide_eq_true h1]
          rw [if_pos ⟨h68, h1⟩] at k
          refine iteT ⟨_, rfl, _, rfl, d, a, b, me, n, rfl, hd, hS, by omega, _, rfl, ite2 (fun h => ?_) (fun h => ?_)⟩
          · refine ⟨_, rfl, _, rfl, d, a, b, me, n, rfl, hd, hS, h68, hs, h8, fun H' s => ?_⟩
            have z := k _ s
            rw [h, Bool.true_and] at z
            exact z
          · have z := k _ (Same.refl H)
            rw [Bool.eq_false_iff.mpr h, Bool.false_and] at z
            exact z
        · rw [decide_eq_false h1]
          rw [if_neg (fun q => h1 q.2)] at k
          exact iteF (k _ (Same.refl H))
      · rw [decide_eq_false h68]
        rw [if_neg (fun q => h68 q.1)] at k
        exact iteF (k _ (Same.refl H))
end
end Po

namespace Po
open PySem PySem.Spec PyProof.Rows L2
open Sv27 (little stampBytes stampOf stampOk nobody padded Bytes Stamp of word)
set_option linter.all false
/-! ### a reader -/
def rF (l : Addr) (i : Nat) : List (Str × V) := [("numbers", .ref l), ("place", .int (i : Int))]
theorem rF_numbers (l : Addr) (i : Nat) : (rF l i).lookup ("numbers" : Str) = some (.ref l) := lk_here
theorem rF_place (l : Addr) (i : Nat) : (rF l i).lookup ("place" : Str) = some (.int (i : Int)) := (lk_past (by decide +kernel)).trans lk_here
theorem rF_none (l : Addr) (i : Nat) {m : Str} (h1 : (m == ("numbers" : Str)) = false) (h2 : (m == ("place" : Str)) = false) : (rF l i).lookup m = none := (lk_past h1).trans ((lk_past h2).trans rfl)
theorem rF_put (l : Addr) (i j : Nat) : putF "place" (.int (j : Int)) (rF l i) = rF l j := (put_past (by decide +kernel)).trans (congrArg _ put_here)
theorem rF_new (l : Addr) : putF "place" (.int 0) (putF "numbers" (.ref l) []) = rF l 0 := (put_past (by decide +kernel)).trans rfl
def RdAt (CR : Addr) (H : Hp) (r l : Addr) (i : Nat) : Prop := ∃ dx, H r = some (.ins CR dx (rF l i))
/-- all that was tracked is as it was, but for the object at r -/
def But (r : Addr) (H H' : Hp) : Prop := ∀ b o, H b = some o → b ≠ r → H' b = some o
theorem But.trans {r : Addr} {H H1 H2 : Hp} (a : But r H H1) (b : But r H1 H2) : But r H H2 := fun c o h n => b c o (a c o h n) n
theorem But.of_same {r : Addr} {H H' : Hp} (s : Same H H') : But r H H' := fun c o h _ => s c o h
theorem But.upd (r : Addr) (H : Hp) (o : HO) : But r H (L2.upd H r o) := fun b u e n => by
  rw [upd_ne n]
  exact e
/-- of what was tracked, the same is free -/
theorem But.none {r : Addr} {H H' : Hp} (s : But r H H') {p : Addr} (h : H' p = Option.none) (hr : H' r ≠ Option.none) : H p = Option.none := by
  cases e : H p with
  | none => rfl
  | some o =>
    by_cases q : p = r
    · rw [q] at h; exact absurd h hr
    · rw [s p o e q] at h; cases h
theorem But.seq {K : PySem.W.Frag} {r l C dx : Addr} {fs : List (Str × V)} {H H' : Hp} {xs : List V} (s : But r H H') (hr : H r = some (.ins C dx fs)) (h : SqL K H l xs) : SqL K H' l xs := by
  rcases h with ((h | ⟨o, h⟩) | h)
  · exact .inl (.inl (s _ _ h (ne_of h hr (by intro z; cases z))))
  · exact .inl (.inr ⟨o, s _ _ h (ne_of h hr (by intro z; cases z))⟩)
  · exact .inr h
theorem But.keep {r : Addr} {H H' : Hp} {M : Addr → Prop} (s : But r H H') (h : M r) : Keep M H H' := fun b o e n => s b o e fun z => n (by rw [z]; exact h)
section
variable {P : Program} {w : World} {K : PySem.W.Frag} {mg : Str → Option Value} {base : Heap} {CN CP CR : Addr}
def spRdI (CR : Addr) : Sp := fun vs H Q _ => ∃ p dx l, vs = [.ref p, .ref l] ∧ H p = some (.ins CR dx []) ∧
  ∀ H', H' p = some (.ins CR dx (rF l 0)) → But p H H' → Q .non H'
theorem ok_new_Reader (T : Txt K mg CN CP CR) (D : IDef K mg CR "Reader" "Reader.__init__" s_new_Reader) : ICal P w K mg base 1 CR "Reader" ["self", "numbers"] (spRdI CR) := by
  refine D.cal b_new_Reader fun f fd F => F.ok sc_new_Reader (fun vs H Q E h => ?_) (fun cdv A outer s H vs Q E hroom h => ?_)
  · obtain ⟨p, dx, l, rfl, hp, k⟩ := h
    rfl
  · obtain ⟨p, dx, l, rfl, hp, k⟩ := h
    refine ⟨_, (pss_cons (ps_fld (pv 0) (pv 1) rfl)
      (pss_one (ps_fld (pv 0) pe_int rfl))), ?_⟩
    refine ⟨_, rfl, _, rfl, p, CR, dx, [], rfl, hp, T.cR, T.a_numbers, (by show 0 < 1000; decide), ?_⟩
    refine ⟨_, rfl, p, CR, dx, _, rfl, upd_same, T.cR, T.a_place, (by show 1 < 1000; decide), ?_⟩
    exact k _ (Eq.trans upd_same (congrArg (fun q => some (HO.ins CR dx q)) (rF_new l))) fun b o e hb => by
      rw [upd_ne hb, upd_ne hb]
      exact e
def spDone (K : PySem.W.Frag) (CR : Addr) : Sp := fun vs H Q _ => ∃ (r l : Addr) (i : Nat) (xs : List V), vs = [.ref r] ∧ RdAt CR H r l i ∧ SqL K H l xs ∧ Q (.bl (decide (xs.length ≤ i))) H
theorem ok_m_is_done (T : Txt K mg CN CP CR) (D : MDef K CR "is_done" "Reader.is_done" s_m_is_done) : MCal P w K mg base 1 CR "is_done" ["self"] (spDone K CR) := by
  refine D.cal b_m_is_done fun f fd F => F.ok sc_m_is_done (fun vs H Q E h => ?_) (fun cdv A outer s H vs Q E hroom h => ?_)
  · obtain ⟨r, l, i, xs, rfl, ⟨dx, hr⟩, hS, k⟩ := h
    rfl
  · obtain ⟨r, l, i, xs, rfl, ⟨dx, hr⟩, hS, k⟩ := h
    refine ⟨_, (pss_one (ps_ret (pe_cmpR op_ge (pe_fld (pv 0) rfl) (pe_callB cr_lenN (by rfl) T.b.len PySem.boot_len (pa_cons (pe_fld (pv 0) rfl) pa_nil)) (nomark _)))), ?_⟩
    refine ⟨_, rfl, r, _, _, _, _, rfl, hr, T.cR, T.a_place, rF_place l i, _, rfl, r, _, _, _, _, rfl, hr, T.cR, T.a_numbers, rF_numbers l i, l, _, rfl, hS, _, _, rfl, rfl, ?_⟩
    have e : decide ((xs.length : Int) ≤ (i : Int)) = decide (xs.length ≤ i) := by
      rw [Bool.eq_iff_iff, decide_eq_true_iff, decide_eq_true_iff]
      omega
    rw [← e] at k
    exact k
def spOne (K : PySem.W.Frag) (CR : Addr) : Sp := fun vs H Q _ => ∃ (r l : Addr) (i : Nat) (xs : List V) (v : V), vs = [.ref r] ∧ RdAt CR H r l i ∧ SqL K H l xs ∧ xs[i]? = some v ∧ ∀ H', RdAt CR H' r l (i + 1) → But r H H' → Q v H'
theorem ok_m_take_one (T : Txt K mg CN CP CR) (D : MDef K CR "take_one" "Reader.take_one" s_m_take_one) : MCal P w K mg base 1 CR "take_one" ["self"] (spOne K CR) := by
  refine D.cal b_m_take_one fun f fd F => F.ok sc_m_take_one (fun vs H Q E h => ?_) (fun cdv A outer s H vs Q E hroom h => ?_)
  · obtain ⟨r, l, i, xs, v, rfl, ⟨dx, hr⟩, hS, hv, k⟩ := h
    rfl
  · obtain ⟨r, l, i, xs, v, rfl, ⟨dx, hr⟩, hS, hv, k⟩ := h
    refine ⟨_, (pss_cons (ps_set (i := 1) sc_m_take_one.nd rfl (by first | exact Or.inl rfl | exact Or.inr rfl) (pe_ix ix_nat (pe_fld (pv 0) rfl) (pe_fld (pv 0) rfl) (fun _ _ => rfl)))
      (pss_cons (ps_fldaug (pv 0) pe_int in_add)
      (pss_one (ps_ret (pv 1))))), ?_⟩
    refine ⟨_, rfl, r, _, _, _, _, rfl, hr, T.cR, T.a_numbers, rF_numbers l i, _, rfl, r, _, _, _, _, rfl, hr, T.cR, T.a_place, rF_place l i, l, _, i, _, rfl, rfl, hS, hv, ?_⟩
    refine ⟨_, rfl, r, _, _, _, _, rfl, hr, T.cR, T.a_place, rF_place l i, _, _, rfl, rfl, _, _, hr, (by show 2 < 1000; decide), ?_⟩
    refine ⟨_, rfl, ?_⟩
    have e : putF "place" (.int ((i : Int) + 1)) (rF l i) = rF l (i + 1) := rF_put l i (i + 1)
    exact k _ ⟨dx, Eq.trans upd_same (congrArg (fun q => some (HO.ins CR dx q)) e)⟩ (But.upd _ _ _)
def spSome (K : PySem.W.Frag) (CR : Addr) : Sp := fun vs H Q _ => ∃ (r l : Addr) (i L : Nat) (xs : List V), vs = [.ref r, .int (L : Int)] ∧ RdAt CR H r l i ∧ SqL K H l xs ∧ ∀ H' p, RdAt CR H' r l (i + L) → But r H H' → H p = none → H' p = some (.lst ((xs.drop i).take L)) → Q (.ref p) H'
theorem ok_m_take_some (T : Txt K mg CN CP CR) (D : MDef K CR "take_some" "Reader.take_some" s_m_take_some) : MCal P w K mg base 1 CR "take_some" ["self", "length"] (spSome K CR) := by
  refine D.cal b_m_take_some fun f fd F => F.ok sc_m_take_some (fun vs H Q E h => ?_) (fun cdv A outer s H vs Q E hroom h => ?_)
  · obtain ⟨r, l, i, L, xs, rfl, ⟨dx, hr⟩, hS, k⟩ := h
    rfl
  · obtain ⟨r, l, i, L, xs, rfl, ⟨dx, hr⟩, hS, k⟩ := h
    refine ⟨_, (pss_cons (ps_set (i := 2) sc_m_take_some.nd rfl (by first | exact Or.inl rfl | exact Or.inr rfl) (pe_slice sl_list (pe_fld (pv 0) rfl) (po_some (pe_fld (pv 0) rfl)) (po_some (pe_op op_add (pe_fld (pv 0) rfl) (pv 1)))))
      (pss_cons (ps_fldaug (pv 0) (pv 1) in_add)
      (pss_one (ps_ret (pv 2))))), ?_⟩
    refine ⟨_, rfl, r, _, _, _, _, rfl, hr, T.cR, T.a_numbers, rF_numbers l i, _, rfl, r, _, _, _, _, rfl, hr, T.cR, T.a_place, rF_place l i, _, rfl, _, rfl, r, _, _, _, _, rfl, hr, T.cR, T.a_place, rF_place l i, _, rfl, _, _, rfl, rfl, _, rfl, l, _, rfl, hS, fun p hp => ?_⟩
    have ec : cutV xs (some (i : Int)) (some ((i : Int) + (L : Int))) = (xs.drop i).take L := by
      have e1 : (i : Int) + (L : Int) = ((i + L : Nat) : Int) := by omega
      rw [e1, cutV_nat, Nat.add_sub_cancel_left]
    rw [ec]
    have hr1 := at_new (u := HO.lst ((xs.drop i).take L)) hr hp
    refine ⟨_, rfl, r, _, _, _, _, rfl, hr1, T.cR, T.a_place, rF_place l i, _, rfl, _, _, rfl, rfl, _, _, hr1, (by show 2 < 1000; decide), ?_⟩
    refine ⟨_, rfl, ?_⟩
    have e : putF "place" (.int ((i : Int) + (L : Int))) (rF l i) = rF l (i + L) := rF_put l i (i + L)
    refine k _ p ⟨dx, Eq.trans upd_same (congrArg (fun q => some (HO.ins CR dx q)) e)⟩ ((But.of_same (Same.new hp)).trans (But.upd _ _ _)) hp ?_
    rw [upd_ne (fun z => by rw [z, hr] at hp; cases hp)]
    exact upd_same
def spRow (K : PySem.W.Frag) (CR : Addr) : Sp := fun vs H Q _ => ∃ (r l : Addr) (i L : Nat) (xs : List V), vs = [.ref r] ∧ RdAt CR H r l i ∧ SqL K H l xs ∧ xs[i]? = some (.int (L : Int)) ∧ ∀ H' p, RdAt CR H' r l (i + 1 + L) → But r H H' → H p = none → H' p = some (.lst ((xs.drop (i + 1)).take L)) → Q (.ref p) H'
theorem ok_m_take_row (T : Txt K mg CN CP CR) (D : MDef K CR "take_row" "Reader.take_row" s_m_take_row) (m_take_one : MCal P w K mg base 1 CR "take_one" ["self"] (spOne K CR)) (m_take_some : MCal P w K mg base 1 CR "take_some" ["self", "length"] (spSome K CR)) : MCal P w K mg base 2 CR "take_row" ["self"] (spRow K CR) := by
  obtain ⟨mf_take_one, mfd_take_one, mt_take_one, mb_take_one, mF_take_one⟩ := m_take_one.ex
  obtain ⟨mf_take_some, mfd_take_some, mt_take_some, mb_take_some, mF_take_some⟩ := m_take_some.ex
  refine D.cal b_m_take_row fun f fd F => F.ok sc_m_take_row (fun vs H Q E h => ?_) (fun cdv A outer s H vs Q E hroom h => ?_)
  · obtain ⟨r, l, i, L, xs, rfl, ⟨dx, hr⟩, hS, hL, k⟩ := h
    rfl
  · obtain ⟨r, l, i, L, xs, rfl, ⟨dx, hr⟩, hS, hL, k⟩ := h
    refine ⟨_, (pss_cons (ps_set (i := 1) sc_m_take_row.nd rfl (by first | exact Or.inl rfl | exact Or.inr rfl) (pe_meth0 (pv 0) T.cR mt_take_one mF_take_one hroom mb_take_one .nil pass0))
      (pss_one (ps_ret (pe_meth (pv 0) T.cR mt_take_some mF_take_some hroom mb_take_some .nil pass0 (pa_cons (pv 1) pa_nil))))), ?_⟩
    refine ⟨_, rfl, r, _, _, rfl, hr, rF_none l i (by decide +kernel) (by decide +kernel), r, l, i, xs, _, rfl, ⟨dx, hr⟩, hS, hL, fun H1 ⟨dx1, hr1⟩ b1 => ?_⟩
    refine ⟨_, rfl, r, _, _, rfl, hr1, rF_none l (i + 1) (by decide +kernel) (by decide +kernel), _, rfl, r, l, i + 1, L, xs, rfl, ⟨dx1, hr1⟩, b1.seq hr hS, fun H2 p hr2 b2 hp e2 => ?_⟩
    exact k H2 p hr2 (b1.trans b2) (b1.none hp (by rw [hr1]; exact fun q => nomatch q)) e2
end
end Po

namespace Po
open PySem PySem.Spec PyProof.Rows L2
open Sv27 (little stampBytes stampOf stampOk nobody padded Bytes Stamp of word)
set_option linter.all false
/-! ### a node, as it lies in the heap -/
structure Lay where
  s : Addr
  k : Addr
  m : Addr
  w : Addr
  ws : List Addr
def Lay.muts (L : Lay) : List Addr := L.s :: L.k :: L.m :: L.ws
def nF (me n : Nat) (L : Lay) : List (Str × V) := [("me", .int (me : Int)), ("n", .int (n : Int)), ("seen", .ref L.s), ("known", .ref L.k), ("mine", .ref L.m), ("waits", .ref L.w)]
theorem nF_me (me n : Nat) (L : Lay) : (nF me n L).lookup ("me" : Str) = some (.int (me : Int)) := lk_here
theorem nF_n (me n : Nat) (L : Lay) : (nF me n L).lookup ("n" : Str) = some (.int (n : Int)) := (lk_past (by decide +kernel)).trans lk_here
theorem nF_seen (me n : Nat) (L : Lay) : (nF me n L).lookup ("seen" : Str) = some (.ref L.s) := (lk_past (by decide +kernel)).trans ((lk_past (by decide +kernel)).trans lk_here)
theorem nF_known (me n : Nat) (L : Lay) : (nF me n L).lookup ("known" : Str) = some (.ref L.k) := (lk_past (by decide +kernel)).trans ((lk_past (by decide +kernel)).trans ((lk_past (by decide +kernel)).trans lk_here))
theorem nF_mine (me n : Nat) (L : Lay) : (nF me n L).lookup ("mine" : Str) = some (.ref L.m) := (lk_past (by decide +kernel)).trans ((lk_past (by decide +kernel)).trans ((lk_past (by decide +kernel)).trans ((lk_past (by decide +kernel)).trans lk_here)))
theorem nF_waits (me n : Nat) (L : Lay) : (nF me n L).lookup ("waits" : Str) = some (.ref L.w) := (lk_past (by decide +kernel)).trans ((lk_past (by decide +kernel)).trans ((lk_past (by decide +kernel)).trans ((lk_past (by decide +kernel)).trans ((lk_past (by decide +kernel)).trans lk_here))))
/-- a list of numbers that is never changed -/
def StAt (B : Addr → Prop) (H : Hp) (a : Addr) (st : Stamp) : Prop := H a = some (.lst (ni st)) ∧ ¬ B a
theorem StAt.keep {B : Addr → Prop} {H H' : Hp} {a : Addr} {st : Stamp} (h : StAt B H a st) (k : Keep B H H') : StAt B H' a st := ⟨k _ _ h.1 h.2, h.2⟩
/-- a node x at a, its parts at L; B: what may be changed, of this and of others -/
structure NodeAt (CN CP : Addr) (B : Addr → Prop) (H : Hp) (a : Addr) (L : Lay) (x : Sv27.Node) : Prop where
  ins : ∃ dx, H a = some (.ins CN dx (nF x.me x.n L))
  na : ¬ B a
  seen : H L.s = some (.lst (ni x.seen))
  known : ∃ kas : List Addr, H L.k = some (.lst (kas.map V.ref)) ∧ Paired (StAt B H) kas x.known
  mine : PostsAt CP B H L.m x.own
  wl : H L.w = some (.lst (L.ws.map V.ref))
  nw : ¬ B L.w
  waits : Paired (PostsAt CP B H) L.ws x.waits
  bar : ∀ m, m ∈ L.muts → B m
  nd : L.muts.Nodup
theorem PostsAt.keep {CP : Addr} {B : Addr → Prop} {H H' : Hp} {l : Addr} {ps : List Sv27.Post} (h : PostsAt CP B H l ps) (k : Keep B H H') (kl : ∀ o, H l = some o → H' l = some o) : PostsAt CP B H' l ps := by
  obtain ⟨pas, h1, h2⟩ := h
  exact ⟨pas, kl _ h1, paired_imp (fun _ _ q => PostAt.keep q k) h2⟩
theorem paired_imp_mem {α β : Type} {F G : α → β → Prop} : ∀ {l₁ : List α} {l₂ : List β}, (∀ a b, a ∈ l₁ → F a b → G a b) → Paired F l₁ l₂ → Paired G l₁ l₂
  | [], [], _, .nil => .nil
  | _ :: _, _ :: _, h, .cons a r => .cons (h _ _ (List.mem_cons_self ..) a) (paired_imp_mem (fun a b m q => h a b (List.mem_cons_of_mem _ m) q) r)
/-- what isn't changed of it -/
theorem NodeAt.keep {CN CP : Addr} {B : Addr → Prop} {H H' : Hp} {a : Addr} {L : Lay} {x : Sv27.Node} (h : NodeAt CN CP B H a L x) (k : Keep B H H') (km : ∀ m o, m ∈ L.muts → H m = some o → H' m = some o) : NodeAt CN CP B H' a L x := by
  obtain ⟨dx, hi⟩ := h.ins
  obtain ⟨kas, k1, k2⟩ := h.known
  have ms : L.s ∈ L.muts := List.mem_cons_self ..
  have mk : L.k ∈ L.muts := List.mem_cons_of_mem _ (List.mem_cons_self ..)
  have mm : L.m ∈ L.muts := List.mem_cons_of_mem _ (List.mem_cons_of_mem _ (List.mem_cons_self ..))
  have mw : ∀ m, m ∈ L.ws → m ∈ L.muts := fun m q => List.mem_cons_of_mem _ (List.mem_cons_of_mem _ (List.mem_cons_of_mem _ q))
  exact ⟨⟨dx, k _ _ hi h.na⟩, h.na, km _ _ ms h.seen, ⟨kas, km _ _ mk k1, paired_imp (fun _ _ q => StAt.keep q k) k2⟩, h.mine.keep k (fun o q => km _ _ mm q),
    k _ _ h.wl h.nw, h.nw, paired_imp_mem (fun m ps hm q => PostsAt.keep q k fun o e => km _ _ (mw m hm) e) h.waits, h.bar, h.nd⟩
theorem NodeAt.same {CN CP : Addr} {B : Addr → Prop} {H H' : Hp} {a : Addr} {L : Lay} {x : Sv27.Node} (h : NodeAt CN CP B H a L x) (s : Same H H') : NodeAt CN CP B H' a L x :=
  h.keep s.keep fun m o _ e => s m o e
theorem NodeAt.hd {CN CP : Addr} {B : Addr → Prop} {H : Hp} {a : Addr} {L : Lay} {x : Sv27.Node} (h : NodeAt CN CP B H a L x) : HdAt CN H a x.me x.n := by
  obtain ⟨dx, hi⟩ := h.ins
  exact ⟨dx, _, hi, nF_me _ _ _, nF_n _ _ _⟩
theorem Lay.mem_s (L : Lay) : L.s ∈ L.muts := List.mem_cons_self ..
theorem Lay.mem_k (L : Lay) : L.k ∈ L.muts := List.mem_cons_of_mem _ (List.mem_cons_self ..)
theorem Lay.mem_m (L : Lay) : L.m ∈ L.muts := List.mem_cons_of_mem _ (List.mem_cons_of_mem _ (List.mem_cons_self ..))
theorem Lay.mem_w (L : Lay) {m : Addr} (h : m ∈ L.ws) : m ∈ L.muts := List.mem_cons_of_mem _ (List.mem_cons_of_mem _ (List.mem_cons_of_mem _ h))
theorem Lay.ne (L : Lay) (h : L.muts.Nodup) : L.s ≠ L.k ∧ L.s ≠ L.m ∧ L.k ≠ L.m ∧ (∀ w, w ∈ L.ws → L.s ≠ w ∧ L.k ≠ w ∧ L.m ≠ w) ∧ L.ws.Nodup := by
  unfold Lay.muts at h
  rw [List.nodup_cons, List.nodup_cons, List.nodup_cons] at h
  obtain ⟨h1, h2, h3, h4⟩ := h
  simp only [List.mem_cons, not_or] at h1 h2
  exact ⟨h1.1, h1.2.1, h2.1, fun w hw => ⟨fun e => h1.2.2 (e ▸ hw), fun e => h2.2 (e ▸ hw), fun e => h3 (e ▸ hw)⟩, h4⟩
/-- what is answered: a number, then the numbers that are written -/
def ansL (r : Sv27.Ans) : List V := .int r.v :: ni r.l
/-- the answer of a call that changes the node to x' -/
def MutRet (CN CP : Addr) (B : Addr → Prop) (H : Hp) (Q : VK) (a : Addr) (L : Lay) (x' : Sv27.Node) (r : Sv27.Ans) : Prop :=
  ∀ H' p, NodeAt CN CP B H' a L x' → Keep (fun b => b ∈ L.muts) H H' → H p = none → H' p = some (.lst (ansL r)) → Q (.ref p) H'
theorem MutRet.pure {CN CP : Addr} {B : Addr → Prop} {H : Hp} {Q : VK} {a : Addr} {L : Lay} {x : Sv27.Node} {r : Sv27.Ans} (k : MutRet CN CP B H Q a L x r) (h : NodeAt CN CP B H a L x) : RetL H Q (ansL r) := fun H' p s hp e => k H' p (h.same s) s.keep hp e
theorem paired_append {α β : Type} {F : α → β → Prop} : ∀ {a b : List α} {c d : List β}, Paired F a c → Paired F b d → Paired F (a ++ b) (c ++ d)
  | [], _, [], _, .nil, h => h
  | _ :: _, _, _ :: _, _, .cons x r, h => .cons x (paired_append r h)
theorem paired_take {α β : Type} {F : α → β → Prop} : ∀ {a : List α} {c : List β} (n : Nat), Paired F a c → Paired F (a.take n) (c.take n)
  | _, _, 0, _ => .nil
  | [], [], _ + 1, .nil => .nil
  | _ :: _, _ :: _, n + 1, .cons x r => .cons x (paired_take n r)
theorem paired_drop {α β : Type} {F : α → β → Prop} : ∀ {a : List α} {c : List β} (n : Nat), Paired F a c → Paired F (a.drop n) (c.drop n)
  | _, _, 0, h => h
  | [], [], _ + 1, .nil => .nil
  | _ :: _, _ :: _, n + 1, .cons x r => paired_drop n r
theorem paired_set {α β : Type} {F : α → β → Prop} : ∀ {a : List α} {c : List β} {i : Nat} {x : α} {y : β}, Paired F a c → a[i]? = some x → F x y → Paired F a (c.set i y)
  | _ :: _, _ :: _, 0, x, y, .cons _ r, h, f => by cases (Option.some.inj h); exact .cons f r
  | _ :: _, _ :: _, i + 1, x, y, .cons q r, h, f => .cons q (paired_set (i := i) r (by simpa using h) f)
theorem paired_setBoth {α β : Type} {F : α → β → Prop} : ∀ {a : List α} {c : List β} (i : Nat) {x : α} {y : β}, Paired F a c → F x y → Paired F (a.set i x) (c.set i y)
  | [], [], _, _, _, .nil, _ => .nil
  | _ :: _, _ :: _, 0, x, y, .cons _ r, f => .cons f r
  | _ :: _, _ :: _, i + 1, x, y, .cons q r, f => .cons q (paired_setBoth i r f)
/-- one of the waiting lists is changed, at w -/
theorem NodeAt.setWait {CN CP : Addr} {B : Addr → Prop} {H H' : Hp} {a : Addr} {L : Lay} {x : Sv27.Node} {i : Nat} {wl : Addr} {ps : List Sv27.Post} (h : NodeAt CN CP B H a L x) (hi : L.ws[i]? = some wl) (b : But wl H H') (hp : PostsAt CP B H' wl ps) :
    NodeAt CN CP B H' a L { x with waits := x.waits.set i ps } := by
  have hm : wl ∈ L.ws := List.mem_of_getElem? hi
  have hB : B wl := h.bar _ (L.mem_w hm)
  have k : Keep B H H' := b.keep hB
  obtain ⟨_, _, _, ne, nd⟩ := L.ne h.nd
  obtain ⟨n1, n2, n3⟩ := ne wl hm
  obtain ⟨dx, hin⟩ := h.ins
  obtain ⟨kas, k1, k2⟩ := h.known
  refine ⟨⟨dx, k _ _ hin h.na⟩, h.na, b _ _ h.seen n1, ⟨kas, b _ _ k1 n2, paired_imp (fun _ _ q => StAt.keep q k) k2⟩, h.mine.keep k (fun o q => b _ _ q n3), k _ _ h.wl h.nw, h.nw, ?_, h.bar, h.nd⟩
  -- the lists but the i-th stand
  have key : ∀ {ws : List Addr} {xs : List (List Sv27.Post)} {j : Nat}, Paired (PostsAt CP B H) ws xs → ws[j]? = some wl → ws.Nodup → Paired (PostsAt CP B H') ws (xs.set j ps) := by
    intro ws xs j hw
    induction hw generalizing j with
    | nil => intro q; simp at q
    | @cons c d l₁ l₂ f r ih =>
      intro hj hnd
      rw [List.nodup_cons] at hnd
      cases j with
      | zero =>
        have e : c = wl := Option.some.inj hj
        subst e
        exact .cons hp (paired_imp_mem (fun m qs hmm q => PostsAt.keep q k fun o e => b _ _ e fun z => hnd.1 (z ▸ hmm)) r)
      | succ j =>
        have hj' : l₁[j]? = some wl := by simpa using hj
        exact .cons (PostsAt.keep f k fun o e => b _ _ e fun z => hnd.1 (z ▸ List.mem_of_getElem? hj')) (ih hj' hnd.2)
  exact key h.waits hi nd
theorem eqV_int (a b : Int) : eqV (.int a) (.int b) = (a == b) := rfl
theorem inV_ni (c : Nat) (l : List Nat) : inV (.int (c : Int)) (ni l) = l.contains c := by
  unfold inV ni
  rw [List.any_map, Bool.eq_iff_iff, List.contains_iff_mem, List.any_eq_true]
  constructor
  · rintro ⟨x, hx, e⟩
    have e : ((x : Int) == (c : Int)) = true := e
    rw [beq_iff_eq] at e
    have : x = c := by omega
    rw [← this]
    exact hx
  · intro h
    exact ⟨c, h, by show ((c : Int) == (c : Int)) = true; exact beq_self_eq_true _⟩
theorem flat_ni (l : List Nat) : (ni l).all flatV = true := by
  unfold ni
  rw [List.all_map, List.all_eq_true]
  intro x _
  rfl
section
variable {P : Program} {w : World} {K : PySem.W.Frag} {mg : Str → Option Value} {base : Heap} {CN CP CR : Addr}
def tellAns (x : Sv27.Node) (to : Nat) (most : Int) : Sv27.Ans := if most < 68 then Sv27.ok (-7) else ⟨68, Sv27.Letter.bytes ⟨to, x.me, .seen x.seen⟩⟩
def spTellSeen (CN CP : Addr) : Sp := fun vs H Q _ => ∃ (a : Addr) (to : Nat) (most : Int) (L : Lay) (B : Addr → Prop) (x : Sv27.Node), vs = [.ref a, .int (to : Int), .int most] ∧ NodeAt CN CP B H a L x ∧ x.seen.length = 8 ∧ RetL H Q (ansL (tellAns x to most))
theorem ok_tell_seen (T : Txt K mg CN CP CR) (D : Def K mg "tell_seen" s_tell_seen) (c_seen_letter : Cal P w K mg base 3 "seen_letter" ["to", "sender", "seen"] (spSeenL K)) : Cal P w K mg base 4 "tell_seen" ["node", "to", "most"] (spTellSeen CN CP) := by
  refine D.cal b_tell_seen fun f fd F => F.ok sc_tell_seen (fun vs H Q E h => ?_) (fun cdv A outer s H vs Q E hroom h => ?_)
  · obtain ⟨a, to, most, L, B, x, rfl, N, h8, k⟩ := h
    rfl
  · obtain ⟨a, to, most, L, B, x, rfl, N, h8, k⟩ := h
    refine ⟨_, (pss_cons (ps_if (pt_cmpR op_gt (pe_cst T.c_SEEN_LETTER_BYTES) (pv 2) (nomark _)) (pss_one (ps_ret (pe_lst (pa_cons (pe_cst T.c_TOO_LONG) pa_nil)))) pss_nil)
      (pss_one (ps_ret (pe_op op_cat (pe_lst (pa_cons (pe_cst T.c_SEEN_LETTER_BYTES) pa_nil)) (pe_cal c_seen_letter hroom (pa_cons (pv 1) (pa_cons (pe_fld (pv 0) rfl) (pa_cons (pe_fld (pv 0) rfl) pa_nil)))))))), ?_⟩
    unfold tellAns at k
    obtain ⟨dx, hA⟩ := N.ins
    refine ⟨_, rfl, _, _, rfl, rfl, _, rfl, ite2 (fun h => ?_) (fun h => ?_)⟩
    · rw [if_pos (of_decide_eq_true h)] at k
      exact ⟨(by show 1 ≤ sizeLine; decide), fun p hp => k.now (Same.refl H) hp⟩
    · rw [if_neg (fun q => h (decide_eq_true q))] at k
      refine ⟨(by show 1 ≤ sizeLine; decide), fun l hl => ?_⟩
      have s1 : Same H (upd H l (.lst [V.int 68])) := Same.new hl
      refine ⟨_, rfl, _, rfl, a, _, _, _, _, rfl, s1 _ _ hA, T.cN, T.a_me, nF_me _ _ _, _, rfl, a, _, _, _, _, rfl, s1 _ _ hA, T.cN, T.a_seen, nF_seen _ _ _, to, x.me, L.s, x.seen, rfl, SqL.of (s1 _ _ N.seen), h8, fun H2 q s2 hq e2 => ?_⟩
      refine ⟨l, q, _, _, rfl, rfl, s2 _ _ upd_same, e2, ?_, fun r hr => ?_⟩
      · rw [ni_length, seenL_length]
        exact small_sz (by simp only [List.length_cons, List.length_nil]; omega)
      exact k.now (s1.trans s2) hr
def waitL (p : Sv27.Post) (au : Nat) (ps : List Sv27.Post) : List Sv27.Post :=
  if (counts ps au).contains (of p.stamp au) = true then ps
  else ps.take ((counts ps au).filter fun c => decide (c < of p.stamp au)).length ++ [p] ++ ps.drop ((counts ps au).filter fun c => decide (c < of p.stamp au)).length
def spLetWait (CP : Addr) : Sp := fun vs H Q _ => ∃ (l : Addr) (au : Nat) (pa : Addr) (B : Addr → Prop) (ps : List Sv27.Post) (p : Sv27.Post), vs = [.ref l, .int (au : Int), .ref pa] ∧ PostsAt CP B H l ps ∧ PostAt CP B H pa p ∧ B l ∧ p.stamp.length = 8 ∧ (∀ q, q ∈ ps → q.stamp.length = 8) ∧ au < 8 ∧ ps.length ≤ 1000 ∧
  ∀ H', PostsAt CP B H' l (waitL p au ps) → But l H H' → Q .non H'
theorem ok_let_wait (T : Txt K mg CN CP CR) (D : Def K mg "let_wait" s_let_wait) (c_counts_of : Cal P w K mg base 1 "counts_of" ["posts", "author"] (spCounts CP)) : Cal P w K mg base 2 "let_wait" ["waiting", "author", "post"] (spLetWait CP) := by
  refine D.cal b_let_wait fun f fd F => F.ok sc_let_wait (fun vs H Q E h => ?_) (fun cdv A outer s H vs Q E hroom h => ?_)
  · obtain ⟨l, au, pa, B, ps, p, rfl, hps, hp, hB, h8, hq8, hau, hz, k⟩ := h
    rfl
  · obtain ⟨l, au, pa, B, ps, p, rfl, hps, hp, hB, h8, hq8, hau, hz, k⟩ := h
    refine ⟨_, (pss_cons (ps_set (i := 3) sc_let_wait.nd rfl (by first | exact Or.inl rfl | exact Or.inr rfl) (pe_ix ix_nat (pe_fld (pv 2) rfl) (pv 1) (fun _ _ => rfl)))
      (pss_cons (ps_set (i := 4) sc_let_wait.nd rfl (by first | exact Or.inl rfl | exact Or.inr rfl) (pe_cal c_counts_of hroom (pa_cons (pv 0) (pa_cons (pv 1) pa_nil))))
      (pss_one (ps_if (pt_cmpR op_notIn_seq (pv 3) (pv 4) rfl) (pss_one (ps_expr (pe_bm PySem.F.plainAttrs_list PySem.F.slot_list_insert PySem.F.type_list_insert mt_insert (pv 0) (pa_cons (pe_callB cr_lenN (by rfl) T.b.len PySem.boot_len (pa_cons (pe_lc (own := [("other", 5)]) (g := (gName 5)) (tt := (tTest (tOp (rI0 fun i j => .bl (decide (i < j))) (tVar 5) (tVar 3)))) (te := (tVar 5)) rfl sc_let_wait.nd (pi_list (pv 4)) (blkOk_by (N := N_let_wait) (sc := defScope s_let_wait) (by decide +kernel)) (fun _ _ _ _ _ => (pg_name (i := 5) sc_let_wait.nd rfl (by first | exact Or.inl rfl | exact Or.inr rfl))) (fun _ _ _ _ _ => pts_one (pt_cmpR op_lt (pv 5) (pv 3) (nomark _))) (fun _ _ _ _ _ => (pv 5))) pa_nil)) (pa_cons (pv 2) pa_nil))))) pss_nil)))), ?_⟩
    obtain ⟨pas, hl, hpas⟩ := id hps
    obtain ⟨dx, s, t, hA, hS, hT, nA, nS, nT⟩ := id hp
    refine ⟨_, rfl, pa, _, _, _, _, rfl, hA, T.cP, T.a_stamp, pF_stamp s t, _, rfl, s, _, au, _, rfl, rfl, SqL.of hS, ni_get (of_get (by omega)), ?_⟩
    refine ⟨_, rfl, _, rfl, l, au, ps, B, rfl, hps, hq8, hau, by omega, fun H1 c s1 hc e1 => ?_⟩
    refine ⟨_, rfl, _, rfl, c, _, rfl, .inl (SqL.of e1), rfl, flat_ni _, _, rfl, ?_⟩
    rw [inV_ni]
    unfold waitL at k
    cases hcon : (counts ps au).contains (of p.stamp au) with
    | true =>
      rw [hcon, if_pos rfl] at k
      refine iteF (k H1 (hps.keep s1.keep fun o e => s1 _ _ e) (But.of_same s1))
    | false =>
      rw [hcon, if_neg (by decide)] at k
      refine iteT ⟨_, rfl, .inl ⟨rfl, _, SqL.of (s1 _ _ hl)⟩, _, rfl, c, rfl, ⟨_, SqL.of e1⟩, fun D hD => lc_pure (K := K) (fun j => (counts ps au)[j]?.bind fun z => if z < of p.stamp au then some (V.int (z : Int)) else none) (SqL.of e1) (by rw [ni_length]; unfold counts; rw [List.length_map]; omega) hD ?_ ?_⟩
      · intro j y H2 hj s2 R C hR hC
        obtain ⟨z, hz', rfl⟩ := ni_get_inv hj
        refine ⟨rfl, _, rfl, _, rfl, _, _, rfl, rfl, _, rfl, ?_⟩
        by_cases q : z < of p.stamp au
        · rw [decide_eq_true (by omega : (z : Int) < (of p.stamp au : Nat))]
          refine iteT ⟨_, rfl, hR _ ?_⟩
          rw [hz']
          exact if_pos q
        · rw [decide_eq_false (by omega : ¬ (z : Int) < (of p.stamp au : Nat))]
          refine iteF (hC ?_)
          rw [hz']
          exact if_neg q
      · intro H2 s2 e2
        have ef : (List.range (ni (counts ps au)).length).filterMap (fun j => (counts ps au)[j]?.bind fun z => if z < of p.stamp au then some (V.int (z : Int)) else none) = ni ((counts ps au).filter fun c => decide (c < of p.stamp au)) := by
          rw [ni_length, range_filterMap]
          unfold ni
          generalize counts ps au = cs
          induction cs with
          | nil => rfl
          | cons x r ih =>
            rw [List.filterMap_cons, List.filter_cons]
            by_cases q : x < of p.stamp au
            · rw [if_pos q, if_pos (decide_eq_true q)]
              exact congrArg _ ih
            · rw [if_neg q, if_neg (by simp [q])]
              exact ih
        rw [ef] at e2
        have s3 := s1.trans s2
        refine ⟨D, _, rfl, SqL.of e2, ?_⟩
        refine ⟨_, rfl, ?_⟩
        rw [ni_length]
        refine ⟨l, _, _, _, rfl, rfl, s3 _ _ hl, ?_, by omega, ?_, ?_⟩
        · rw [List.length_map, paired_len hpas]
          exact small_lt (by omega)
        · have := List.length_filter_le (fun c => decide (c < of p.stamp au)) (counts ps au)
          unfold counts at this ⊢
          rw [List.length_map] at this
          omega
        · refine k _ ⟨pas.take ((counts ps au).filter fun c => decide (c < of p.stamp au)).length ++ [pa] ++ pas.drop ((counts ps au).filter fun c => decide (c < of p.stamp au)).length, ?_, ?_⟩ ((But.of_same s3).trans (But.upd _ _ _))
          · rw [upd_same, Int.toNat_natCast, List.map_append, List.map_append, List.map_take, List.map_drop]
            rfl
          · have kk : Keep B H (upd H2 l (.lst ((pas.map V.ref).take (((counts ps au).filter fun c => decide (c < of p.stamp au)).length : Int).toNat ++ [V.ref pa] ++ (pas.map V.ref).drop (((counts ps au).filter fun c => decide (c < of p.stamp au)).length : Int).toNat))) := fun b o e n => by
              rw [upd_ne (fun z => n (by rw [z]; exact hB))]
              exact s3 _ _ e
            exact paired_append (paired_append (paired_take _ (paired_imp (fun _ _ q => PostAt.keep q kk) hpas)) (.cons (hp.keep kk) .nil)) (paired_drop _ (paired_imp (fun _ _ q => PostAt.keep q kk) hpas))
end
end Po

namespace Po
open PySem PySem.Spec PyProof.Rows L2
open Sv27 (little stampBytes stampOf stampOk nobody padded Bytes Stamp of word)
set_option linter.all false
/-! ### changes of a node -/
theorem NodeAt.setMine {CN CP : Addr} {B : Addr → Prop} {H H' : Hp} {a : Addr} {L : Lay} {x : Sv27.Node} {ps : List Sv27.Post} (h : NodeAt CN CP B H a L x) (b : But L.m H H') (hp : PostsAt CP B H' L.m ps) : NodeAt CN CP B H' a L { x with own := ps } := by
  have k : Keep B H H' := b.keep (h.bar _ L.mem_m)
  obtain ⟨n1, n2, n3, ne, nd⟩ := L.ne h.nd
  obtain ⟨dx, hin⟩ := h.ins
  obtain ⟨kas, k1, k2⟩ := h.known
  exact ⟨⟨dx, k _ _ hin h.na⟩, h.na, b _ _ h.seen n2, ⟨kas, b _ _ k1 n3, paired_imp (fun _ _ q => StAt.keep q k) k2⟩, hp, k _ _ h.wl h.nw, h.nw,
    paired_imp_mem (fun m qs hm q => PostsAt.keep q k fun o e => b _ _ e fun z => (ne m hm).2.2 z.symm) h.waits, h.bar, h.nd⟩
theorem NodeAt.setSeen {CN CP : Addr} {B : Addr → Prop} {H H' : Hp} {a : Addr} {L : Lay} {x : Sv27.Node} {st : Stamp} (h : NodeAt CN CP B H a L x) (b : But L.s H H') (hp : H' L.s = some (.lst (ni st))) : NodeAt CN CP B H' a L { x with seen := st } := by
  have k : Keep B H H' := b.keep (h.bar _ L.mem_s)
  obtain ⟨n1, n2, n3, ne, nd⟩ := L.ne h.nd
  obtain ⟨dx, hin⟩ := h.ins
  obtain ⟨kas, k1, k2⟩ := h.known
  exact ⟨⟨dx, k _ _ hin h.na⟩, h.na, hp, ⟨kas, b _ _ k1 (fun z => n1 z.symm), paired_imp (fun _ _ q => StAt.keep q k) k2⟩, h.mine.keep k (fun o e => b _ _ e fun z => n2 z.symm), k _ _ h.wl h.nw, h.nw,
    paired_imp_mem (fun m qs hm q => PostsAt.keep q k fun o e => b _ _ e fun z => (ne m hm).1 z.symm) h.waits, h.bar, h.nd⟩
theorem NodeAt.setKnown {CN CP : Addr} {B : Addr → Prop} {H H' : Hp} {a : Addr} {L : Lay} {x : Sv27.Node} {ks : List Stamp} (h : NodeAt CN CP B H a L x) (b : But L.k H H') (hp : ∃ kas : List Addr, H' L.k = some (.lst (kas.map V.ref)) ∧ Paired (StAt B H') kas ks) : NodeAt CN CP B H' a L { x with known := ks } := by
  have k : Keep B H H' := b.keep (h.bar _ L.mem_k)
  obtain ⟨n1, n2, n3, ne, nd⟩ := L.ne h.nd
  obtain ⟨dx, hin⟩ := h.ins
  exact ⟨⟨dx, k _ _ hin h.na⟩, h.na, b _ _ h.seen n1, hp, h.mine.keep k (fun o e => b _ _ e fun z => n3 z.symm), k _ _ h.wl h.nw, h.nw,
    paired_imp_mem (fun m qs hm q => PostsAt.keep q k fun o e => b _ _ e fun z => (ne m hm).2.1 z.symm) h.waits, h.bar, h.nd⟩
theorem But.keepM {r : Addr} {H H' : Hp} (s : But r H H') {L : Lay} (h : r ∈ L.muts) : Keep (fun b => b ∈ L.muts) H H' := fun b o e n => s b o e fun z => n (by rw [z]; exact h)
/-! ### a Post, as the program takes it -/
def takeX (x : Sv27.Node) (au : Nat) (p : Sv27.Post) : Sv27.Node := (Sv27.receive x ⟨0, au, .post p⟩).1
def takeA (x : Sv27.Node) (most : Int) (au : Nat) (p : Sv27.Post) : Sv27.Ans := if of p.stamp au ≤ of x.seen au then tellAns x au most else Sv27.ok 0
theorem receive_post (x : Sv27.Node) (to au : Nat) (p : Sv27.Post) : Sv27.receive x ⟨to, au, .post p⟩ = (if of p.stamp au ≤ of x.seen au then (x, ([⟨au, x.me, .seen x.seen⟩] : List Sv27.Letter))
      else if of p.stamp au ≤ of x.seen au + Sv27.KEPT ∧ ((x.waiting au).all fun q => of q.stamp au != of p.stamp au) = true then ({ x with waits := x.waits.set au (Sv27.among au p (x.waiting au)) }, [])
      else (x, [])) := rfl
theorem sent_seen (x : Sv27.Node) (to : Nat) (most : Int) : Sv27.sent x most (x, [⟨to, x.me, .seen x.seen⟩]) = (some x, tellAns x to most) := by
  unfold Sv27.sent tellAns
  simp only [List.flatMap_cons, List.flatMap_nil, List.append_nil]
  rw [seenL_length]
  by_cases h : most < 68
  · rw [if_pos (by omega), if_pos h]
  · rw [if_neg (by omega), if_neg h]
    rfl
theorem sent_none (x y : Sv27.Node) {most : Int} (h : 0 ≤ most) : Sv27.sent x most (y, []) = (some y, Sv27.ok 0) := by
  unfold Sv27.sent
  simp only [List.flatMap_nil, List.length_nil]
  rw [if_neg (by omega)]
  rfl
theorem sent_post (x : Sv27.Node) (to au : Nat) (p : Sv27.Post) {most : Int} (h : 0 ≤ most) : Sv27.sent x most (Sv27.receive x ⟨to, au, .post p⟩) = (some (takeX x au p), takeA x most au p) := by
  unfold takeX takeA
  rw [receive_post, receive_post]
  by_cases c : of p.stamp au ≤ of x.seen au
  · rw [if_pos c, if_pos c, sent_seen]
  · rw [if_neg c, if_neg c]
    split
    · exact sent_none x _ h
    · exact sent_none x _ h
theorem counts_contains (au : Nat) (p : Sv27.Post) (l : List Sv27.Post) : (counts l au).contains (of p.stamp au) = !(l.all fun q => of q.stamp au != of p.stamp au) := by
  unfold counts
  rw [Bool.eq_iff_iff, List.contains_iff_mem, List.mem_map, Bool.not_eq_true', Bool.eq_false_iff, Ne, List.all_eq_true]
  constructor
  · rintro ⟨q, hq, e⟩ h
    have := h q hq
    rw [e] at this
    simp at this
  · intro h
    refine Classical.byContradiction fun z => h fun q hq => ?_
    rw [bne_iff_ne]
    exact fun e => z ⟨q, hq, e⟩
theorem takeX_wait {x : Sv27.Node} (h : WF x) {au : Nat} (ha : au < 8) {p : Sv27.Post} (c1 : ¬ of p.stamp au ≤ of x.seen au) (c2 : of p.stamp au ≤ of x.seen au + 32) : ({ x with waits := x.waits.set au (waitL p au (x.waiting au)) } : Sv27.Node) = takeX x au p := by
  unfold takeX waitL
  rw [receive_post, if_neg c1, counts_contains]
  cases e : (x.waiting au).all fun q => of q.stamp au != of p.stamp au with
  | true =>
    rw [if_neg (by decide : ¬ (!true) = true), if_pos ⟨c2, rfl⟩]
    have hn : ∀ c, c ∈ counts (x.waiting au) au → c ≠ of p.stamp au := fun c hc => by
      obtain ⟨q, hq, rfl⟩ := List.mem_map.mp hc
      exact bne_iff_ne.mp (List.all_eq_true.mp e q hq)
    rw [among_eq au p _ (rises_iff.mp (h.rise au ha)).2 hn]
  | false =>
    rw [if_pos (by decide : (!false) = true), if_neg (fun q => by cases q.2)]
    have es : x.waits.set au (x.waiting au) = x.waits := by
      have g := waiting_get x h.waitsL ha
      obtain ⟨hl, e1⟩ := List.getElem?_eq_some_iff.mp g
      rw [← e1]
      exact List.set_getElem_self hl
    rw [es]
theorem takeX_none {x : Sv27.Node} {au : Nat} {p : Sv27.Post} (c : of p.stamp au ≤ of x.seen au ∨ ¬ of p.stamp au ≤ of x.seen au + 32) : takeX x au p = x := by
  unfold takeX
  rw [receive_post]
  by_cases c1 : of p.stamp au ≤ of x.seen au
  · rw [if_pos c1]
  · rw [if_neg c1, if_neg (fun q => (c.resolve_left c1) q.1)]
theorem other_eq (x : Sv27.Node) (to : Int) : x.other to = otherZ x.me x.n to := by
  unfold Sv27.Node.other otherZ
  rw [contains_others]
  unfold isOther
  rw [Bool.eq_iff_iff, Bool.and_eq_true, Bool.and_eq_true, Bool.and_eq_true, decide_eq_true_iff, decide_eq_true_iff, decide_eq_true_iff, decide_eq_true_iff, decide_eq_true_iff]
  omega
section
variable {P : Program} {w : World} {K : PySem.W.Frag} {mg : Str → Option Value} {base : Heap} {CN CP CR : Addr}
def spTakePost (CN CP : Addr) : Sp := fun vs H Q _ => ∃ (a : Addr) (most : Int) (au : Nat) (pa : Addr) (L : Lay) (B : Addr → Prop) (x : Sv27.Node) (p : Sv27.Post), vs = [.ref a, .int most, .int (au : Int), .ref pa] ∧ NodeAt CN CP B H a L x ∧ WF x ∧ PostAt CP B H pa p ∧ p.stamp.length = 8 ∧ au < 8 ∧
  MutRet CN CP B H Q a L (takeX x au p) (takeA x most au p)
theorem ok_take_post (T : Txt K mg CN CP CR) (D : Def K mg "take_post" s_take_post) (c_tell_seen : Cal P w K mg base 4 "tell_seen" ["node", "to", "most"] (spTellSeen CN CP)) (c_let_wait : Cal P w K mg base 2 "let_wait" ["waiting", "author", "post"] (spLetWait CP)) : Cal P w K mg base 5 "take_post" ["node", "most", "author", "post"] (spTakePost CN CP) := by
  refine D.cal b_take_post fun f fd F => F.ok sc_take_post (fun vs H Q E h => ?_) (fun cdv A outer s H vs Q E hroom h => ?_)
  · obtain ⟨a, most, au, pa, L, B, x, p, rfl, N, hw, hp, h8, hau, k⟩ := h
    rfl
  · obtain ⟨a, most, au, pa, L, B, x, p, rfl, N, hw, hp, h8, hau, k⟩ := h
    refine ⟨_, (pss_cons (ps_set (i := 4) sc_take_post.nd rfl (by first | exact Or.inl rfl | exact Or.inr rfl) (pe_ix ix_nat (pe_fld (pv 3) rfl) (pv 2) (fun _ _ => rfl)))
      (pss_cons (ps_set (i := 5) sc_take_post.nd rfl (by first | exact Or.inl rfl | exact Or.inr rfl) (pe_ix ix_nat (pe_fld (pv 0) rfl) (pv 2) (fun _ _ => rfl)))
      (pss_cons (ps_if (pt_cmpR op_le (pv 4) (pv 5) (nomark _)) (pss_one (ps_ret (pe_cal c_tell_seen hroom (pa_cons (pv 0) (pa_cons (pv 2) (pa_cons (pv 1) pa_nil)))))) pss_nil)
      (pss_cons (ps_if (pt_cmpR op_le (pv 4) (pe_op op_add (pv 5) (pe_cst T.c_ROOM)) (nomark _)) (pss_one (ps_expr (pe_cal c_let_wait (hroom.mono (by decide)) (pa_cons (pe_ix ix_nat (pe_fld (pv 0) rfl) (pv 2) (fun _ _ => rfl)) (pa_cons (pv 2) (pa_cons (pv 3) pa_nil)))))) pss_nil)
      (pss_one (ps_ret (pe_lst (pa_cons pe_int pa_nil)))))))), ?_⟩
    obtain ⟨dx, hA⟩ := N.ins
    obtain ⟨dp, s, t, pA, pS, pT, _⟩ := id hp
    refine ⟨_, rfl, pa, _, _, _, _, rfl, pA, T.cP, T.a_stamp, pF_stamp s t, _, rfl, s, _, au, _, rfl, rfl, SqL.of pS, ni_get (of_get (by omega)), ?_⟩
    refine ⟨_, rfl, a, _, _, _, _, rfl, hA, T.cN, T.a_seen, nF_seen _ _ _, _, rfl, L.s, _, au, _, rfl, rfl, SqL.of N.seen, ni_get (of_get (by rw [hw.seen]; exact hau)), ?_⟩
    refine ⟨_, rfl, _, rfl, _, _, rfl, rfl, _, rfl, ite2 (fun h => ?_) (fun h => ?_)⟩
    · have h : of p.stamp au ≤ of x.seen au := by have := of_decide_eq_true h; omega
      refine ⟨_, rfl, _, rfl, _, rfl, a, au, most, L, B, x, rfl, N, hw.seen, ?_⟩
      unfold takeA at k
      rw [takeX_none (.inl h), if_pos h] at k
      exact k.pure N
    · have h : ¬ of p.stamp au ≤ of x.seen au := fun q => h (decide_eq_true (by omega))
      unfold takeA at k
      rw [if_neg h] at k
      refine ⟨_, rfl, _, rfl, _, _, rfl, rfl, _, _, rfl, rfl, _, rfl, ite2 (fun h2 => ?_) (fun h2 => ?_)⟩
      · have h2 : of p.stamp au ≤ of x.seen au + 32 := by have := of_decide_eq_true h2; omega
        have hwl := paired_len N.waits
        have hlt : au < L.ws.length := by rw [hwl, hw.waitsL]; exact hau
        obtain ⟨wl, hwl2⟩ : ∃ wl, L.ws[au]? = some wl := ⟨_, List.getElem?_eq_getElem hlt⟩
        obtain ⟨ps, hps, hpo⟩ := paired_get N.waits hwl2
        have eps : ps = x.waiting au := by
          rw [waiting_get x hw.waitsL hau] at hps
          exact (Option.some.inj hps).symm
        subst eps
        have hB : B wl := N.bar _ (L.mem_w (List.mem_of_getElem? hwl2))
        refine ⟨_, rfl, a, _, _, _, _, rfl, hA, T.cN, T.a_waits, nF_waits _ _ _, _, rfl, L.w, _, au, _, rfl, rfl, SqL.of N.wl, (by rw [List.getElem?_map, hwl2]; all_goals rfl), _, rfl, _, rfl, ?_⟩
        refine ⟨wl, au, pa, B, x.waiting au, p, rfl, hpo, hp, hB, h8, fun q hq => (hw.waits _ (hw.waiting_mem hau) q hq).len, hau, by have := hw.waiting_len hau; omega, fun H' hpo' b => ?_⟩
        have N' := N.setWait hwl2 b hpo'
        rw [takeX_wait hw hau h h2] at N'
        refine ⟨(by show 1 ≤ sizeLine; decide), fun r hr => ?_⟩
        refine k _ r (N'.same (Same.new hr)) ((b.keepM (L.mem_w (List.mem_of_getElem? hwl2))).trans (Same.new hr).keep) ?_ upd_same
        refine b.none hr ?_
        obtain ⟨pas', e', _⟩ := hpo'
        rw [e']
        exact fun q => nomatch q
      · have h2 : ¬ of p.stamp au ≤ of x.seen au + 32 := fun q => h2 (decide_eq_true (by omega))
        rw [takeX_none (.inr h2)] at k
        exact ⟨(by show 1 ≤ sizeLine; decide), fun r hr => (k.pure N).now (Same.refl H) hr⟩
def spTell (CN CP : Addr) : Sp := fun vs H Q _ => ∃ (a : Addr) (to most : Int) (L : Lay) (B : Addr → Prop) (x : Sv27.Node), vs = [.ref a, .int to, .int most] ∧ NodeAt CN CP B H a L x ∧ WF x ∧ RetL H Q (ansL (Sv27.on x (.tell to most)).2)
theorem ok_tell (T : Txt K mg CN CP CR) (D : Def K mg "tell" s_tell) (c_tell_seen : Cal P w K mg base 4 "tell_seen" ["node", "to", "most"] (spTellSeen CN CP)) (c_is_other : Cal P w K mg base 1 "is_other" ["node", "j"] (spIsOther CN)) : Cal P w K mg base 5 "tell" ["node", "to", "most"] (spTell CN CP) := by
  refine D.cal b_tell fun f fd F => F.ok sc_tell (fun vs H Q E h => ?_) (fun cdv A outer s H vs Q E hroom h => ?_)
  · obtain ⟨a, to, most, L, B, x, rfl, N, hw, k⟩ := h
    rfl
  · obtain ⟨a, to, most, L, B, x, rfl, N, hw, k⟩ := h
    refine ⟨_, (pss_cons (ps_if (PW.pt (pw_or (pt_not (pt_val (pe_cal c_is_other (hroom.mono (by decide)) (pa_cons (pv 0) (pa_cons (pv 1) pa_nil))))) (pw_or1 (pt_cmpR op_lt (pv 2) pe_int (nomark _))))) (pss_one (ps_ret (pe_lst (pa_cons (pe_cst T.c_BAD_ARGUMENTS) pa_nil)))) pss_nil)
      (pss_one (ps_ret (pe_cal c_tell_seen hroom (pa_cons (pv 0) (pa_cons (pv 1) (pa_cons (pv 2) pa_nil))))))), ?_⟩
    have e : Sv27.on x (.tell to most) = if x.other to = false ∨ most < 0 then (some x, Sv27.ok (-2)) else Sv27.sent x most (x, Sv27.tell x to.toNat) := rfl
    rw [e, other_eq] at k
    refine ⟨_, rfl, _, rfl, a, _, _, _, rfl, N.hd, _, rfl, ?_⟩
    cases ho : otherZ x.me x.n to with
    | false =>
      rw [ho, if_pos (.inl rfl)] at k
      exact ⟨(by show 1 ≤ sizeLine; decide), fun p hp => k.now (Same.refl H) hp⟩
    | true =>
      refine ⟨_, rfl, _, _, rfl, rfl, _, rfl, ite2 (fun h => ?_) (fun h => ?_)⟩
      · rw [ho, if_pos (.inr (of_decide_eq_true h))] at k
        exact ⟨(by show 1 ≤ sizeLine; decide), fun p hp => k.now (Same.refl H) hp⟩
      · rw [ho, if_neg (fun q => q.elim (fun z => by cases z) fun z => h (decide_eq_true z))] at k
        have h0 : 0 ≤ to := by
          unfold otherZ at ho
          rw [Bool.and_eq_true, decide_eq_true_iff] at ho
          exact ho.1.1
        refine ⟨_, rfl, _, rfl, _, rfl, a, to.toNat, most, L, B, x, (by rw [Int.toNat_of_nonneg h0]; rfl), N, hw.seen, ?_⟩
        have e2 : Sv27.sent x most (x, Sv27.tell x to.toNat) = (some x, tellAns x to.toNat most) := sent_seen x to.toNat most
        rw [e2] at k
        exact k
def againB (x : Sv27.Node) (to : Nat) (ps : List Sv27.Post) : Bytes := ((ps.filter fun p => decide (of (x.knows to) x.me < of p.stamp x.me)).map fun p => (⟨to, x.me, .post p⟩ : Sv27.Letter)).flatMap Sv27.Letter.bytes
theorem againB_snoc (x : Sv27.Node) (to : Nat) {ps : List Sv27.Post} {i : Nat} {p : Sv27.Post} (h : ps[i]? = some p) : againB x to (ps.take (i + 1)) = againB x to (ps.take i) ++ (if of (x.knows to) x.me < of p.stamp x.me then Sv27.Letter.bytes ⟨to, x.me, .post p⟩ else []) := by
  unfold againB
  rw [take_more h, List.filter_append, List.map_append, List.flatMap_append]
  congr 1
  by_cases c : of (x.knows to) x.me < of p.stamp x.me
  · rw [if_pos c, List.filter_cons, if_pos (decide_eq_true c)]
    simp
  · rw [if_neg c, List.filter_cons, if_neg (by simp [c])]
    rfl
theorem againB_len (x : Sv27.Node) (to : Nat) {ps : List Sv27.Post} (h : ∀ p, p ∈ ps → p.text.length ≤ 31) : (againB x to ps).length ≤ 100 * ps.length := by
  unfold againB
  rw [flatMap_len 100, List.length_map]
  · have := List.length_filter_le (fun p => decide (of (x.knows to) x.me < of p.stamp x.me)) ps
    omega
  · intro l hl
    obtain ⟨p, hp, rfl⟩ := (List.mem_map.mp hl)
    exact postL_length (h p ((List.mem_filter.mp hp).1))
def spAgain (CN CP : Addr) : Sp := fun vs H Q _ => ∃ (a : Addr) (to most : Int) (L : Lay) (B : Addr → Prop) (x : Sv27.Node), vs = [.ref a, .int to, .int most] ∧ NodeAt CN CP B H a L x ∧ WF x ∧ RetL H Q (ansL (Sv27.on x (.again to most)).2)
theorem ok_send_again (T : Txt K mg CN CP CR) (D : Def K mg "send_again" s_send_again) (c_is_other : Cal P w K mg base 1 "is_other" ["node", "j"] (spIsOther CN)) (c_post_letter : Cal P w K mg base 3 "post_letter" ["to", "author", "post"] (spPostL CP)) : Cal P w K mg base 4 "send_again" ["node", "to", "most"] (spAgain CN CP) := by
  refine D.cal b_send_again fun f fd F => F.ok sc_send_again (fun vs H Q E h => ?_) (fun cdv A outer s H vs Q E hroom h => ?_)
  · obtain ⟨a, to, most, L, B, x, rfl, N, hw, k⟩ := h
    rfl
  · obtain ⟨a, to, most, L, B, x, rfl, N, hw, k⟩ := h
    refine ⟨_, (pss_cons (ps_if (PW.pt (pw_or (pt_not (pt_val (pe_cal c_is_other (hroom.mono (by decide)) (pa_cons (pv 0) (pa_cons (pv 1) pa_nil))))) (pw_or1 (pt_cmpR op_lt (pv 2) pe_int (nomark _))))) (pss_one (ps_ret (pe_lst (pa_cons (pe_cst T.c_BAD_ARGUMENTS) pa_nil)))) pss_nil)
      (pss_cons (ps_set (i := 3) sc_send_again.nd rfl (by first | exact Or.inl rfl | exact Or.inr rfl) (pe_lst pa_nil))
      (pss_cons (ps_for PassesOwn.never rfl (pi_list (pe_fld (pv 0) rfl)) (pg_name (i := 4) sc_send_again.nd rfl (by first | exact Or.inl rfl | exact Or.inr rfl)) (pss_one (ps_if (pt_cmpR op_gt (pe_ix ix_nat (pe_fld (pv 4) rfl) (pe_fld (pv 0) rfl) (fun _ _ => rfl)) (pe_ix ix_nat (pe_ix ix_nat (pe_fld (pv 0) rfl) (pv 1) (fun _ _ => rfl)) (pe_fld (pv 0) rfl) (fun _ _ => rfl)) (nomark _)) (pss_one (ps_expr (pe_bm PySem.F.plainAttrs_list PySem.F.slot_list_extend PySem.F.type_list_extend mt_extend (pv 3) (pa_cons (pe_cal c_post_letter hroom (pa_cons (pv 1) (pa_cons (pe_fld (pv 0) rfl) (pa_cons (pv 4) pa_nil)))) pa_nil)))) pss_nil)))
      (pss_cons (ps_if (pt_cmpR op_gt (pe_callB cr_lenN (by rfl) T.b.len PySem.boot_len (pa_cons (pv 3) pa_nil)) (pv 2) (nomark _)) (pss_one (ps_ret (pe_lst (pa_cons (pe_cst T.c_TOO_LONG) pa_nil)))) pss_nil)
      (pss_one (ps_ret (pe_op op_cat (pe_lst (pa_cons (pe_callB cr_lenN (by rfl) T.b.len PySem.boot_len (pa_cons (pv 3) pa_nil)) pa_nil)) (pv 3)))))))), ?_⟩
    have e : Sv27.on x (.again to most) = if x.other to = false ∨ most < 0 then (some x, Sv27.ok (-2)) else Sv27.sent x most (x, Sv27.again x to.toNat) := rfl
    rw [e, other_eq] at k
    refine ⟨_, rfl, _, rfl, a, _, _, _, rfl, N.hd, _, rfl, ?_⟩
    cases ho : otherZ x.me x.n to with
    | false =>
      rw [ho, if_pos (.inl rfl)] at k
      exact ⟨(by show 1 ≤ sizeLine; decide), fun p hp => k.now (Same.refl H) hp⟩
    | true =>
      refine ⟨_, rfl, _, _, rfl, rfl, _, rfl, ite2 (fun h => ?_) (fun h => ?_)⟩
      · rw [ho, if_pos (.inr (of_decide_eq_true h))] at k
        exact ⟨(by show 1 ≤ sizeLine; decide), fun p hp => k.now (Same.refl H) hp⟩
      · rw [ho, if_neg (fun q => q.elim (fun z => by cases z) fun z => h (decide_eq_true z))] at k
        have ho' := ho
        unfold otherZ at ho'
        rw [Bool.and_eq_true, decide_eq_true_iff] at ho'
        have h0 : 0 ≤ to := ho'.1.1
        obtain ⟨tn, rfl⟩ : ∃ tn : Nat, to = (tn : Int) := ⟨to.toNat, (Int.toNat_of_nonneg h0).symm⟩
        have tn8 : tn < 8 := by have := hw.n8; omega
        have me8 : x.me < 8 := by have := hw.n8; have := hw.me; omega
        have e2 : Sv27.sent x most (x, Sv27.again x (tn : Int).toNat) = if most < ((againB x tn x.own).length : Int) then (some x, Sv27.ok (-7)) else (some x, ⟨((againB x tn x.own).length : Int), againB x tn x.own⟩) := rfl
        rw [e2] at k
        obtain ⟨dx, hA⟩ := N.ins
        obtain ⟨pas, hm, hpas⟩ := N.mine
        obtain ⟨kas, hk, hkas⟩ := N.known
        have plen := paired_len hpas
        have klen := paired_len hkas
        obtain ⟨ka, hka⟩ : ∃ ka, kas[tn]? = some ka := ⟨_, List.getElem?_eq_getElem (by rw [klen, hw.known]; exact tn8)⟩
        obtain ⟨st, hst, hkst, _⟩ := paired_get hkas hka
        rw [knows_get x hw.known tn8] at hst
        have est : x.knows tn = st := Option.some.inj hst
        subst est
        have kl8 : (x.knows tn).length = 8 := hw.knownL _ (List.mem_of_getElem? (knows_get x hw.known tn8))
        refine ⟨(by show 0 ≤ sizeLine; decide), fun l hl => ?_⟩
        have s0 : Same H (upd H l (.lst [])) := Same.new hl
        refine ⟨_, rfl, a, _, _, _, _, rfl, s0 _ _ hA, T.cN, T.a_mine, nF_mine _ _ _, L.m, rfl, ⟨_, SqL.of (s0 _ _ hm)⟩, for_list (K := K) (a := L.m) (xs := pas.map V.ref) (fun i σ H' => ∃ pv, σ = [some (.ref a), some (.int (tn : Int)), some (.int most), some (.ref l), pv] ∧ Same H H' ∧ H' l = some (.lst (ni (againB x tn (x.own.take i))))) ⟨none, rfl, s0, upd_same⟩ (fun i σ H' _ ⟨_, _, s, _⟩ => SqL.of (s _ _ hm)) ?_ ?_⟩
        · rintro i y σ H' hi ⟨pv, rfl, s, hl'⟩
          obtain ⟨pa, hpa, rfl⟩ := refs_get hi
          obtain ⟨p, hpi, hpp⟩ := paired_get hpas hpa
          obtain ⟨dp, ps, pt, pA, pS, pT, pn⟩ := id hpp
          obtain ⟨q8, q31⟩ := hw.own p (List.mem_of_getElem? hpi)
          have hi32 : i < 32 := by
            have := (List.getElem?_eq_some_iff.mp hpi).1
            have := hw.ownL
            omega
          refine ⟨_, rfl, pa, _, _, _, _, rfl, s _ _ pA, T.cP, T.a_stamp, pF_stamp ps pt, _, rfl, a, _, _, _, _, rfl, s _ _ hA, T.cN, T.a_me, nF_me _ _ _, ps, _, x.me, _, rfl, rfl, SqL.of (s _ _ pS), ni_get (of_get (by omega)), ?_⟩
          refine ⟨_, rfl, a, _, _, _, _, rfl, s _ _ hA, T.cN, T.a_known, nF_known _ _ _, _, rfl, L.k, _, tn, _, rfl, rfl, SqL.of (s _ _ hk), (by rw [List.getElem?_map, hka]; all_goals rfl), _, rfl, a, _, _, _, _, rfl, s _ _ hA, T.cN, T.a_me, nF_me _ _ _, ka, _, x.me, _, rfl, rfl, SqL.of (s _ _ hkst), ni_get (of_get (by omega)), ?_⟩
          refine ⟨_, _, rfl, rfl, _, rfl, ite2 (fun c => ?_) (fun c => ?_)⟩
          · have c : of (x.knows tn) x.me < of p.stamp x.me := by have := of_decide_eq_true c; omega
            refine ⟨_, rfl, .inl ⟨rfl, _, SqL.of hl'⟩, _, rfl, _, rfl, a, _, _, _, _, rfl, s _ _ hA, T.cN, T.a_me, nF_me _ _ _, _, rfl, tn, x.me, pa, B, p, rfl, hpp.keep s.keep, q8, q31, fun H2 r s2 hr e2 => ?_⟩
            refine ⟨l, r, _, _, rfl, rfl, s2 _ _ hl', e2, ?_, ⟨_, rfl, (s.trans s2).free_upd hl, ?_⟩⟩
            · rw [ni_length, ni_length, postL_length q31]
              have := againB_len x tn (ps := x.own.take i) fun p hp => (hw.own p (List.mem_of_mem_take hp)).2
              rw [List.length_take] at this
              exact small_sz (by omega)
            · rw [upd_same, againB_snoc x tn hpi, if_pos c, ni_append]
          · have c : ¬ of (x.knows tn) x.me < of p.stamp x.me := fun q => c (decide_eq_true (by omega))
            refine ⟨_, rfl, s, ?_⟩
            rw [hl', againB_snoc x tn hpi, if_neg c, List.append_nil]
        · rintro σ H' ⟨pv, rfl, s, hl'⟩
          rw [List.length_map, plen, List.take_length] at hl'
          refine ⟨_, rfl, l, _, rfl, SqL.of hl', _, rfl, _, _, rfl, rfl, _, rfl, ?_⟩
          rw [ni_length]
          refine ite2 (fun c => ?_) (fun c => ?_)
          · rw [if_pos (of_decide_eq_true c)] at k
            exact ⟨(by show 1 ≤ sizeLine; decide), fun p hp => k.now s hp⟩
          · rw [if_neg (fun q => c (decide_eq_true q))] at k
            refine ⟨_, rfl, l, _, rfl, SqL.of hl', (by show 1 ≤ sizeLine; decide), fun p hp => ?_⟩
            rw [ni_length]
            refine ⟨_, rfl, p, l, _, _, rfl, rfl, upd_same, at_new hl' hp, ?_, fun r hr => ?_⟩
            · rw [ni_length]
              have := againB_len x tn fun p hp => (hw.own p hp).2
              have := hw.ownL
              exact small_sz (by simp only [List.length_cons, List.length_nil]; omega)
            · exact k.now (s.trans (Same.new hp)) hr
end
end Po

namespace Po
open PySem PySem.Spec PyProof.Rows L2
open Sv27 (little stampBytes stampOf stampOk nobody padded Bytes Stamp of word)
set_option linter.all false
/-! ### what a Seen does -/
def learnX (x : Sv27.Node) (s : Nat) (st : Stamp) : Sv27.Node := { x with known := x.known.set s (Sv27.greater (x.knows s) st) }
theorem receive_seen (x : Sv27.Node) (to s : Nat) (st : Stamp) : Sv27.receive x ⟨to, s, .seen st⟩ = (Sv27.Node.drops (learnX x s st), []) := rfl
theorem learn_knows (x : Sv27.Node) (s : Nat) (st : Stamp) {o : Nat} (hs : s < x.known.length) : (learnX x s st).knows o = if o = s then Sv27.greater (x.knows s) st else x.knows o := by
  unfold learnX Sv27.Node.knows
  show (x.known.set s _).getD o nobody = _
  rw [List.getD_eq_getElem?_getD, List.getD_eq_getElem?_getD, List.getElem?_set]
  by_cases e : s = o
  · subst e
    rw [if_pos rfl, if_pos hs, if_pos rfl]
    rfl
  · rw [if_neg e, if_neg (fun q => e q.symm), List.getD_eq_getElem?_getD]
theorem greater_len (s t : Stamp) : (Sv27.greater s t).length = 8 := by simp [Sv27.greater]
theorem learn_len {x : Sv27.Node} (h : WF x) {s : Nat} (hs : s < 8) (st : Stamp) {o : Nat} (ho : o < 8) : ((learnX x s st).knows o).length = 8 := by
  rw [learn_knows x s st (by rw [h.known]; exact hs)]
  split
  · exact greater_len _ _
  · exact h.knownL _ (List.mem_of_getElem? (knows_get x h.known ho))
theorem map_range_snoc (f : Nat → Nat) (i : Nat) : ((List.range (i + 1)).map f) = (List.range i).map f ++ [f i] := by
  rw [List.range_succ, List.map_append]
  rfl
def dropP (x : Sv27.Node) (p : Sv27.Post) : Bool := x.others.all fun i => decide (of p.stamp x.me ≤ of (x.knows i) x.me)
theorem drops_eq (x : Sv27.Node) : Sv27.Node.drops x = { x with own := x.own.dropWhile (dropP x) } := rfl
section
variable {P : Program} {w : World} {K : PySem.W.Frag} {mg : Str → Option Value} {base : Heap} {CN CP CR : Addr}
def spLearn (CN CP : Addr) : Sp := fun vs H Q _ => ∃ (a : Addr) (s : Nat) (sa : Addr) (L : Lay) (B : Addr → Prop) (x : Sv27.Node) (st : Stamp), vs = [.ref a, .int (s : Int), .ref sa] ∧ NodeAt CN CP B H a L x ∧ WF x ∧ s < 8 ∧ H sa = some (.lst (ni st)) ∧ st.length = 8 ∧ (∀ b, B b → H b ≠ none) ∧
  ∀ H', NodeAt CN CP B H' a L (Sv27.Node.drops (learnX x s st)) → Keep (fun b => b ∈ L.muts) H H' → Q .non H'
theorem ok_learn (T : Txt K mg CN CP CR) (D : Def K mg "learn" s_learn) (c_others_of : Cal P w K mg base 1 "others_of" ["node"] (spOthers CN)) : Cal P w K mg base 2 "learn" ["node", "sender", "seen"] (spLearn CN CP) := by
  refine D.cal b_learn fun f fd F => F.ok sc_learn (fun vs H Q E h => ?_) (fun cdv A outer s H vs Q E hroom h => ?_)
  · obtain ⟨a, s, sa, L, B, x, st, rfl, N, hw, hs, hsa, h8, tr, k⟩ := h
    rfl
  · obtain ⟨a, s, sa, L, B, x, st, rfl, N, hw, hs, hsa, h8, tr, k⟩ := h
    refine ⟨_, (pss_cons (ps_set (i := 3) sc_learn.nd rfl (by first | exact Or.inl rfl | exact Or.inr rfl) (pe_ix ix_nat (pe_fld (pv 0) rfl) (pv 1) (fun _ _ => rfl)))
      (pss_cons (ps_asg (pe_lc (own := [("j", 5), ("number", 6)]) (g := (gTup K 2 (gCons (gName 5) (gCons (gName 6) gNil)))) (tt := tYes) (te := (tCB (fun xs H Q => ∃ i j, xs = [.int i, .int j] ∧ Q (.int (if j > i then j else i)) H) (tCons (tOp (rIxN K) (tVar 3) (tVar 5)) (tCons (tVar 6) tNil)))) rfl sc_learn.nd (pi_enum (by rfl) T.b.enumerate (pa_cons (pv 2) pa_nil)) (blkOk_by (N := N_learn) (sc := defScope s_learn) (by decide +kernel)) (fun _ _ _ _ _ => (pg_tup rfl (pgs_cons (pg_name (i := 5) sc_learn.nd rfl (by first | exact Or.inl rfl | exact Or.inr rfl)) (pgs_cons (pg_name (i := 6) sc_learn.nd rfl (by first | exact Or.inl rfl | exact Or.inr rfl)) pgs_nil)))) (fun _ _ _ _ _ => pts_nil) (fun _ _ _ _ _ => (pe_callB (call_max2 rfl) (by rfl) T.b.max (by decide +kernel) (pa_cons (pe_ix ix_nat (pv 3) (pv 5) (fun _ _ => rfl)) (pa_cons (pv 6) pa_nil))))) (pg_sub (pe_fld (pv 0) rfl) (pv 1) set_nat))
      (pss_cons (ps_set (i := 4) sc_learn.nd rfl (by first | exact Or.inl rfl | exact Or.inr rfl) (pe_callB (cr_min rfl) (by rfl) T.b.min (by decide +kernel) (pa_cons (pe_lc (own := [("j", 5)]) (g := (gName 5)) (tt := tYes) (te := (tOp (rIxN K) (tOp (rIxN K) (tFld K (tVar 0) "known") (tVar 5)) (tFld K (tVar 0) "me"))) rfl sc_learn.nd (pi_list (pe_cal c_others_of hroom (pa_cons (pv 0) pa_nil))) (blkOk_by (N := N_learn) (sc := defScope s_learn) (by decide +kernel)) (fun _ _ _ _ _ => (pg_name (i := 5) sc_learn.nd rfl (by first | exact Or.inl rfl | exact Or.inr rfl))) (fun _ _ _ _ _ => pts_nil) (fun _ _ _ _ _ => (pe_ix ix_nat (pe_ix ix_nat (pe_fld (pv 0) rfl) (pv 5) (fun _ _ => rfl)) (pe_fld (pv 0) rfl) (fun _ _ => rfl)))) pa_nil)))
      (pss_one (ps_while PassesOwn.never (PW.pt (pw_and (pt_cmpR op_gt (pe_callB cr_lenN (by rfl) T.b.len PySem.boot_len (pa_cons (pe_fld (pv 0) rfl) pa_nil)) pe_int (nomark _)) (pw_and1 (pt_cmpR op_le (pe_ix ix_nat (pe_fld (pe_ix ix_nat (pe_fld (pv 0) rfl) pe_int (fun _ _ => rfl)) rfl) (pe_fld (pv 0) rfl) (fun _ _ => rfl)) (pv 4) (nomark _))))) (pss_one (ps_expr (pe_bm PySem.F.plainAttrs_list PySem.F.slot_list_pop PySem.F.type_list_pop mt_popAt (pe_fld (pv 0) rfl) (pa_cons pe_int pa_nil))))))))), ?_⟩
    obtain ⟨dx, hA⟩ := N.ins
    obtain ⟨kas, hk, hkas⟩ := N.known
    have klen := paired_len hkas
    have me8 : x.me < 8 := by have := hw.n8; have := hw.me; omega
    obtain ⟨ka, hka⟩ : ∃ ka, kas[s]? = some ka := ⟨_, List.getElem?_eq_getElem (by rw [klen, hw.known]; exact hs)⟩
    obtain ⟨kst, hkst0, hkst, hkn⟩ := paired_get hkas hka
    rw [knows_get x hw.known hs] at hkst0
    have est : x.knows s = kst := Option.some.inj hkst0
    subst est
    have kl8 : (x.knows s).length = 8 := hw.knownL _ (List.mem_of_getElem? (knows_get x hw.known hs))
    -- known = node.known[sender]
    refine ⟨_, rfl, a, _, _, _, _, rfl, hA, T.cN, T.a_known, nF_known _ _ _, _, rfl, L.k, _, s, _, rfl, rfl, SqL.of hk, (by rw [List.getElem?_map, hka]; all_goals rfl), ?_⟩
    -- node.known[sender] = [max(known[j], number) for j, number in enumerate(seen)]
    refine ⟨_, rfl, sa, _, rfl, SqL.of hsa, fun D hD => lc_it walk_enum (fun i H' => Same H H' ∧ H' D = some (.lst (ni ((List.range i).map fun j => max (of (x.knows s) j) (of st j))))) ⟨Same.new hD, upd_same⟩ (fun i H' _ q => SqL.of (q.1 _ _ hsa)) ?_ ?_⟩
    · rintro i y H2 H3 hi ⟨s1, e1⟩ ⟨T0, y1, y2, rfl, hT0, rfl, e2, e3⟩
      rw [ni_length] at hi
      have e2 : y1 = .int (i : Nat) := (Option.some.inj e2).symm
      subst e2
      obtain ⟨z, hz, rfl⟩ := ni_get_inv e3
      have ez : of st i = z := by
        have q := of_get (st := st) (i := i) (by omega)
        rw [hz] at q
        exact Eq.symm (Option.some.inj q)
      have s2 : Same H2 (upd H2 T0 (.tup [V.int (i : Nat), V.int (z : Nat)])) := Same.new hT0
      refine ⟨T0, _, rfl, SqT.of upd_same, rfl, _, _, rfl, _, _, rfl, rfl, rfl, ?_⟩
      refine iteT (B := Same H (upd H2 T0 (HO.tup [V.int (i : Nat), V.int (z : Nat)])) ∧ upd H2 T0 (HO.tup [V.int (i : Nat), V.int (z : Nat)]) D = some (HO.lst (ni (List.map (fun j => max (of (x.knows s) j) (of st j)) (List.range (i + 1)))))) ?_
      refine ⟨_, rfl, _, rfl, ka, _, i, _, rfl, rfl, SqL.of (s2 _ _ (s1 _ _ hkst)), ni_get (of_get (by omega)), _, rfl, _, _, rfl, ?_⟩
      refine ⟨_, s2 _ _ e1, ?_, (s1.trans s2).free_upd hD, ?_⟩
      · rw [ni_length, List.length_map, List.length_range]
        exact small_lt (by omega)
      · rw [upd_same, map_range_snoc, ni_append, ez]
        have em : (if ((z : Nat) : Int) > (of (x.knows s) i : Nat) then ((z : Nat) : Int) else ((of (x.knows s) i : Nat) : Int)) = ((max (of (x.knows s) i) z : Nat) : Int) := by
          split <;> omega
        rw [em]
        rfl
    rintro H2 ⟨s1, e1⟩
    rw [ni_length, h8] at e1
    have e1 : H2 D = some (.lst (ni (Sv27.greater (x.knows s) st))) := e1
    refine ⟨_, rfl, a, _, _, _, _, rfl, s1 _ _ hA, T.cN, T.a_known, nF_known _ _ _, _, rfl, L.k, _, s, rfl, rfl, s1 _ _ hk, (by rw [List.length_map, klen, hw.known]; exact hs), ?_⟩
    have hDB : ¬ B D := fun q => tr D q hD
    -- the node now
    have N1 := N.same s1
    have b1 : But L.k H2 (upd H2 L.k (.lst ((kas.map V.ref).set s (.ref D)))) := But.upd _ _ _
    have kB : Keep B H2 (upd H2 L.k (.lst ((kas.map V.ref).set s (.ref D)))) := b1.keep (N.bar _ L.mem_k)
    have N2 : NodeAt CN CP B (upd H2 L.k (.lst ((kas.map V.ref).set s (.ref D)))) a L (learnX x s st) := N1.setKnown b1 ⟨kas.set s D, by rw [upd_same, List.map_set], by
      refine paired_setBoth s (paired_imp (fun _ _ q => StAt.keep (StAt.keep q s1.keep) kB) hkas) ⟨kB _ _ e1 hDB, hDB⟩⟩
    have K2 : Keep (fun b => b ∈ L.muts) H (upd H2 L.k (.lst ((kas.map V.ref).set s (.ref D)))) := (Same.keep s1).trans (b1.keepM L.mem_k)
    generalize hH3 : upd H2 L.k (.lst ((kas.map V.ref).set s (.ref D))) = H3 at N2 K2
    clear kB b1 hH3
    obtain ⟨dx3, hA3⟩ := N2.ins
    obtain ⟨kas3, hk3, hkas3⟩ := N2.known
    have klen3 := paired_len hkas3
    have kl3 : (learnX x s st).known.length = 8 := by
      show (x.known.set s _).length = 8
      rw [List.length_set]
      exact hw.known
    -- known_to_all = min([node.known[j][node.me] for j in others_of(node)])
    refine ⟨_, rfl, a, x.me, x.n, rfl, N2.hd, hw.n8, fun H4 o s4 ho e4 => ?_⟩
    have hol : (othersL x.me x.n).length = x.n - 1 := others_length hw.me
    have N4 := N2.same s4
    refine ⟨o, rfl, ⟨_, SqL.of e4⟩, fun D2 hD2 => lc_pure (K := K) (fun j => (othersL x.me x.n)[j]?.map fun o => V.int (of ((learnX x s st).knows o) x.me : Nat)) (SqL.of e4) (by rw [ni_length, hol]; have := hw.n8; omega) hD2 ?_ ?_⟩
    · intro j y H5 hj s5 R C hR hC
      obtain ⟨oz, hoz, rfl⟩ := ni_get_inv hj
      have hom := List.mem_of_getElem? hoz
      have ho8 : oz < 8 := by
        have q := (mem_others (x := x)).mp hom
        have := hw.n8
        omega
      obtain ⟨k5, hk5⟩ : ∃ k5, kas3[oz]? = some k5 := ⟨_, List.getElem?_eq_getElem (by rw [klen3, kl3]; exact ho8)⟩
      obtain ⟨st5, hst5, hst5', _⟩ := paired_get hkas3 hk5
      rw [knows_get _ kl3 ho8] at hst5
      have est : (learnX x s st).knows oz = st5 := Option.some.inj hst5
      subst est
      have s45 := s4.trans s5
      refine ⟨rfl, iteT (B := C H5) ?_⟩
      refine ⟨_, rfl, a, _, _, _, _, rfl, s45 _ _ hA3, T.cN, T.a_known, nF_known _ _ _, _, rfl, L.k, _, oz, _, rfl, rfl, SqL.of (s45 _ _ hk3), (by rw [List.getElem?_map, hk5]; all_goals rfl), ?_⟩
      refine ⟨_, rfl, a, _, _, _, _, rfl, s45 _ _ hA3, T.cN, T.a_me, nF_me _ _ _, k5, _, x.me, _, rfl, rfl, SqL.of (s45 _ _ hst5'), ni_get (of_get (by rw [learn_len hw hs st ho8]; exact me8)), ?_⟩
      exact hR _ (by rw [hoz]; rfl)
    intro H5 s5 e5
    rw [ni_length, range_map (fun o => V.int (of ((learnX x s st).knows o) x.me : Nat))] at e5
    have eN : (othersL x.me x.n).map (fun o => V.int (of ((learnX x s st).knows o) x.me : Nat)) = (nints ((othersL x.me x.n).map fun o => of ((learnX x s st).knows o) x.me)).map V.int := by
      rw [← ni_zi]
      unfold ni
      rw [List.map_map]
      rfl
    rw [eN] at e5
    refine ⟨D2, _, rfl, SqL.of e5, ?_, fun m hm hmin => ?_⟩
    · unfold nints Sv27Neutral.ints
      rw [List.length_map, List.length_map, hol]
      have := hw.n2
      omega
    obtain ⟨mn, hmn, rfl⟩ := List.mem_map.mp hm
    have hmin : ∀ y, y ∈ (othersL x.me x.n).map (fun o => of ((learnX x s st).knows o) x.me) → mn ≤ y := fun y hy => by
      have := hmin (y : Int) (List.mem_map.mpr ⟨y, hy, rfl⟩)
      omega
    have hP : ∀ p : Sv27.Post, dropP (learnX x s st) p = decide (of p.stamp x.me ≤ mn) := fun p => by
      unfold dropP
      rw [Bool.eq_iff_iff, List.all_eq_true, decide_eq_true_iff]
      constructor
      · intro h
        obtain ⟨o, ho, e⟩ := List.mem_map.mp hmn
        have := h o ho
        rw [decide_eq_true_iff] at this
        have e : of ((learnX x s st).knows o) x.me = mn := e
        rw [← e]
        exact this
      · intro h o ho
        rw [decide_eq_true_iff]
        exact Nat.le_trans h (hmin _ (List.mem_map.mpr ⟨o, ho, rfl⟩))
    have N5 := N4.same s5
    have K5 : Keep (fun b => b ∈ L.muts) H H5 := K2.trans (Same.keep (s4.trans s5))
    -- while: the first that all others are known to have seen goes
    refine ⟨fun m σ H' => ∃ ps : List Sv27.Post, m = ps.length ∧ σ = [some (.ref a), some (.int (s : Int)), some (.ref sa), some (.ref ka), some (.int (mn : Int)), none, none] ∧ NodeAt CN CP B H' a L { learnX x s st with own := ps } ∧ Keep (fun b => b ∈ L.muts) H H' ∧ ps.dropWhile (dropP (learnX x s st)) = x.own.dropWhile (dropP (learnX x s st)) ∧ ∀ p, p ∈ ps → p.stamp.length = 8, ⟨_, x.own, rfl, rfl, N5, K5, rfl, fun p hp => (hw.own p hp).1⟩, ?_⟩
    rintro m σ H6 ⟨ps, rfl, rfl, N6, K6, hd6, h86⟩
    obtain ⟨dx6, hA6⟩ := N6.ins
    obtain ⟨pas, hm6, hpas⟩ := N6.mine
    have plen := paired_len hpas
    refine ⟨_, rfl, a, _, _, _, _, rfl, hA6, T.cN, T.a_mine, nF_mine _ _ _, L.m, _, rfl, SqL.of hm6, _, _, rfl, rfl, _, rfl, ?_⟩
    rw [List.length_map, plen]
    cases hps : ps with
    | nil =>
      refine iteF ?_
      refine iteF ?_
      refine k H6 ?_ K6
      rw [drops_eq]
      rw [hps] at hd6 N6
      have : (learnX x s st).own.dropWhile (dropP (learnX x s st)) = [] := hd6.symm
      rw [this]
      exact N6
    | cons p rest =>
      rw [hps] at hpas hd6 N6 h86
      obtain ⟨pa, pas', rfl⟩ : ∃ pa pas', pas = pa :: pas' := by
        cases pas with
        | nil => cases hpas
        | cons c d => exact ⟨c, d, rfl⟩
      have hpp : PostAt CP B H6 pa p := by cases hpas; assumption
      have hrest : Paired (PostAt CP B H6) pas' rest := by cases hpas; assumption
      obtain ⟨dp, sp, tp, pA, pS, pT, _⟩ := id hpp
      rw [decide_eq_true (by simp only [List.length_cons]; omega : (0 : Int) < ((p :: rest).length : Nat))]
      refine iteT ?_
      refine ⟨_, rfl, a, _, _, _, _, rfl, hA6, T.cN, T.a_mine, nF_mine _ _ _, L.m, _, 0, _, rfl, rfl, SqL.of hm6, rfl, pa, _, _, _, _, rfl, pA, T.cP, T.a_stamp, pF_stamp sp tp, _, rfl, a, _, _, _, _, rfl, hA6, T.cN, T.a_me, nF_me _ _ _, sp, _, x.me, _, rfl, rfl, SqL.of pS, ni_get (of_get (by rw [h86 p (List.mem_cons_self ..)]; exact me8)), _, rfl, _, _, rfl, rfl, _, rfl, ?_⟩
      by_cases c : of p.stamp x.me ≤ mn
      · rw [decide_eq_true (by omega : ((of p.stamp x.me : Nat) : Int) ≤ (mn : Int))]
        refine iteT ⟨_, fun σ' H' q => q, ?_⟩
        refine ⟨_, rfl, a, _, _, _, _, rfl, hA6, T.cN, T.a_mine, nF_mine _ _ _, .inl ⟨rfl, _, SqL.of hm6⟩, L.m, _, 0, 0, _, rfl, rfl, hm6, by decide, by decide, seqIndex_of (by decide) (by simp only [List.map_cons, List.length_cons]; omega), rfl, ?_⟩
        refine ⟨rest.length, by rw [List.length_cons]; omega, rest, rfl, rfl, N6.setMine (But.upd _ _ _) ⟨pas', upd_same, ?_⟩, K6.trans ((But.upd _ _ _).keepM L.mem_m), ?_, fun q hq => h86 q (List.mem_cons_of_mem _ hq)⟩
        · exact paired_imp (fun _ _ q => PostAt.keep q ((But.upd _ _ _).keep (N.bar _ L.mem_m))) hrest
        · rw [← hd6, List.dropWhile_cons, if_pos (by rw [hP]; exact decide_eq_true c)]
      · rw [decide_eq_false (by omega : ¬ ((of p.stamp x.me : Nat) : Int) ≤ (mn : Int))]
        refine iteF (k H6 ?_ K6)
        rw [drops_eq]
        have e : (learnX x s st).own.dropWhile (dropP (learnX x s st)) = p :: rest := by
          show x.own.dropWhile (dropP (learnX x s st)) = p :: rest
          rw [← hd6, List.dropWhile_cons, if_neg (by rw [hP]; simp [c])]
        rw [e]
        exact N6
end
end Po

namespace Po
open PySem PySem.Spec PyProof.Rows L2
open Sv27 (little stampBytes stampOf stampOk nobody padded Bytes Stamp of word)
set_option linter.all false
/-! ### what may be shown -/
def mayShow (x : Sv27.Node) (au : Nat) (p : Sv27.Post) : Bool := decide (of p.stamp au = of x.seen au + 1) && (List.range x.n).all fun j => j == au || decide (of p.stamp j ≤ of x.seen j)
theorem stampOk_zero {n : Nat} {s : Stamp} (h : stampOk n s = true) {i : Nat} (h1 : n ≤ i) (h2 : i < 8) : of s i = 0 := by
  unfold stampOk at h
  rw [Bool.and_eq_true, List.all_eq_true] at h
  have q := h.2 i (List.mem_range.mpr h2)
  rw [decide_eq_true_iff, if_neg (by omega)] at q
  omega
theorem showable_cons {x : Sv27.Node} (h8 : x.n ≤ 8) {au : Nat} {p : Sv27.Post} {rest : List Sv27.Post} (hw : x.waiting au = p :: rest) (hp : stampOk x.n p.stamp = true) : x.showable au = if mayShow x au p = true then some p else none := by
  unfold Sv27.Node.showable
  rw [hw]
  show (if of p.stamp au = of x.seen au + 1 ∧ ((List.range 8).all fun i => i == au || decide (of p.stamp i ≤ of x.seen i)) = true then some p else none) = _
  have e : (of p.stamp au = of x.seen au + 1 ∧ ((List.range 8).all fun i => i == au || decide (of p.stamp i ≤ of x.seen i)) = true) ↔ mayShow x au p = true := by
    unfold mayShow
    rw [Bool.and_eq_true, decide_eq_true_iff, List.all_eq_true, List.all_eq_true]
    refine and_congr_right fun _ => ?_
    constructor
    · intro h j hj
      exact h j (List.mem_range.mpr (by have := List.mem_range.mp hj; omega))
    · intro h j hj
      by_cases q : j < x.n
      · exact h j (List.mem_range.mpr q)
      · rw [stampOk_zero hp (by omega) (List.mem_range.mp hj)]
        rw [Bool.or_eq_true]
        exact .inr (decide_eq_true (Nat.zero_le _))
  by_cases q : mayShow x au p = true
  · rw [if_pos q, if_pos (e.mpr q)]
  · rw [if_neg q, if_neg (fun z => q (e.mp z))]
theorem find_here {α : Type} {f : α → Bool} {l : List α} {i : Nat} {y : α} (h : (l.take i).find? f = none) (hy : l[i]? = some y) (hf : f y = true) : l.find? f = some y := by
  have e : l = l.take i ++ l.drop i := (List.take_append_drop i l).symm
  rw [e, List.find?_append, h]
  have hl := (List.getElem?_eq_some_iff.mp hy)
  rw [List.drop_eq_getElem_cons hl.1, hl.2, List.find?_cons, hf]
  rfl
theorem find_more {α : Type} {f : α → Bool} {l : List α} {i : Nat} {y : α} (h : (l.take i).find? f = none) (hy : l[i]? = some y) (hf : f y = false) : (l.take (i + 1)).find? f = none := by
  rw [take_more hy, List.find?_append, h]
  simp [hf]
theorem all_filterMap (n au : Nat) (g : Nat → Bool) : ∀ l : List Nat, (l.filterMap fun j => if j = au then none else some (V.bl (g j))) = ((l.filter fun j => j != au).map g).map V.bl
  | [] => rfl
  | x :: r => by
    rw [List.filterMap_cons, List.filter_cons]
    by_cases q : x = au
    · rw [if_pos q, if_neg (by simp [q])]
      exact all_filterMap n au g r
    · rw [if_neg q, if_pos (by simp [q])]
      exact congrArg _ (all_filterMap n au g r)
theorem all_filter (au : Nat) (g : Nat → Bool) : ∀ l : List Nat, ((l.filter fun j => j != au).map g).all id = l.all fun j => j == au || g j
  | [] => rfl
  | x :: r => by
    rw [List.filter_cons, List.all_cons]
    by_cases q : x = au
    · rw [if_neg (by simp [q]), all_filter au g r, q, beq_self_eq_true, Bool.true_or, Bool.true_and]
    · rw [if_pos (by simp [q]), List.map_cons, List.all_cons, all_filter au g r, beq_eq_false_iff_ne.mpr q, Bool.false_or]
      rfl
section
variable {P : Program} {w : World} {K : PySem.W.Frag} {mg : Str → Option Value} {base : Heap} {CN CP CR : Addr}
def spMayShow (CN CP : Addr) : Sp := fun vs H Q _ => ∃ (a : Addr) (au : Nat) (pa : Addr) (L : Lay) (B : Addr → Prop) (x : Sv27.Node) (p : Sv27.Post), vs = [.ref a, .int (au : Int), .ref pa] ∧ NodeAt CN CP B H a L x ∧ WF x ∧ PostAt CP B H pa p ∧ p.stamp.length = 8 ∧ au < 8 ∧ ∀ H', Same H H' → Q (.bl (mayShow x au p)) H'
theorem ok_may_be_shown (T : Txt K mg CN CP CR) (D : Def K mg "may_be_shown" s_may_be_shown) : Cal P w K mg base 1 "may_be_shown" ["node", "author", "post"] (spMayShow CN CP) := by
  refine D.cal b_may_be_shown fun f fd F => F.ok sc_may_be_shown (fun vs H Q E h => ?_) (fun cdv A outer s H vs Q E hroom h => ?_)
  · obtain ⟨a, au, pa, L, B, x, p, rfl, N, hw, hp, h8, hau, k⟩ := h
    rfl
  · obtain ⟨a, au, pa, L, B, x, p, rfl, N, hw, hp, h8, hau, k⟩ := h
    refine ⟨_, (pss_cons (ps_if (pt_cmpR op_ne (pe_ix ix_nat (pe_fld (pv 2) rfl) (pv 1) (fun _ _ => rfl)) (pe_op op_add (pe_ix ix_nat (pe_fld (pv 0) rfl) (pv 1) (fun _ _ => rfl)) pe_int) (nomark _)) (pss_one (ps_ret pe_bl)) pss_nil)
      (pss_one (ps_ret (pe_callB (cr_all rfl) (by rfl) T.b.all (by decide +kernel) (pa_cons (pe_lc (own := [("j", 3)]) (g := (gName 3)) (tt := (tTest (tOp rNe (tVar 3) (tVar 1)))) (te := (tOp (rI0 fun i j => .bl (decide (i ≤ j))) (tOp (rIxN K) (tFld K (tVar 2) "stamp") (tVar 3)) (tOp (rIxN K) (tFld K (tVar 0) "seen") (tVar 3)))) rfl sc_may_be_shown.nd (pi_range1 (by rfl) T.b.range (pa_cons (pe_fld (pv 0) rfl) pa_nil)) (blkOk_by (N := N_may_be_shown) (sc := defScope s_may_be_shown) (by decide +kernel)) (fun _ _ _ _ _ => (pg_name (i := 3) sc_may_be_shown.nd rfl (by first | exact Or.inl rfl | exact Or.inr rfl))) (fun _ _ _ _ _ => pts_one (pt_cmpR op_ne (pv 3) (pv 1) (nomark _))) (fun _ _ _ _ _ => (pe_cmpR op_le (pe_ix ix_nat (pe_fld (pv 2) rfl) (pv 3) (fun _ _ => rfl)) (pe_ix ix_nat (pe_fld (pv 0) rfl) (pv 3) (fun _ _ => rfl)) (nomark _)))) pa_nil))))), ?_⟩
    obtain ⟨dx, hA⟩ := N.ins
    obtain ⟨dp, s, t, pA, pS, pT, _⟩ := id hp
    refine ⟨_, rfl, pa, _, _, _, _, rfl, pA, T.cP, T.a_stamp, pF_stamp s t, _, rfl, s, _, au, _, rfl, rfl, SqL.of pS, ni_get (of_get (by omega)), ?_⟩
    refine ⟨_, rfl, a, _, _, _, _, rfl, hA, T.cN, T.a_seen, nF_seen _ _ _, _, rfl, L.s, _, au, _, rfl, rfl, SqL.of N.seen, ni_get (of_get (by rw [hw.seen]; exact hau)), _, _, rfl, rfl, rfl, _, rfl, ?_⟩
    rw [dec_int]
    unfold mayShow at k
    by_cases c : of p.stamp au = of x.seen au + 1
    · rw [show (((of p.stamp au : Nat) : Int) == ((of x.seen au : Nat) : Int) + 1) = true from beq_iff_eq.mpr (by omega)]
      refine iteF ?_
      rw [decide_eq_true c, Bool.true_and] at k
      refine ⟨_, rfl, a, _, _, _, _, rfl, hA, T.cN, T.a_n, nF_n _ _ _, _, rfl, by have := hw.n8; omega, by have := hw.n8; omega, fun D hD => lc_pureR (n := x.n) (fun j => if j = au then none else some (V.bl (decide (of p.stamp j ≤ of x.seen j)))) (by have := hw.n8; omega) hD ?_ ?_⟩
      · intro j H2 hj s2 R C hR hC
        have hj8 : j < 8 := by have := hw.n8; omega
        refine ⟨rfl, _, rfl, _, rfl, rfl, _, rfl, ?_⟩
        rw [dec_int]
        by_cases q : j = au
        · rw [show ((j : Int) == (au : Int)) = true from beq_iff_eq.mpr (by omega)]
          exact iteF (hC (if_pos q))
        · rw [show ((j : Int) == (au : Int)) = false from beq_eq_false_iff_ne.mpr (by omega)]
          refine iteT ⟨_, rfl, pa, _, _, _, _, rfl, s2 _ _ pA, T.cP, T.a_stamp, pF_stamp s t, _, rfl, s, _, j, _, rfl, rfl, SqL.of (s2 _ _ pS), ni_get (of_get (by omega)), _, rfl, a, _, _, _, _, rfl, s2 _ _ hA, T.cN, T.a_seen, nF_seen _ _ _, _, rfl, L.s, _, j, _, rfl, rfl, SqL.of (s2 _ _ N.seen), ni_get (of_get (by rw [hw.seen]; exact hj8)), _, _, rfl, rfl, ?_⟩
          have e : decide (((of p.stamp j : Nat) : Int) ≤ ((of x.seen j : Nat) : Int)) = decide (of p.stamp j ≤ of x.seen j) := by
            rw [Bool.eq_iff_iff, decide_eq_true_iff, decide_eq_true_iff]
            omega
          have z := hR (V.bl (decide (of p.stamp j ≤ of x.seen j))) (if_neg q)
          rw [← e] at z
          exact z
      · intro H2 s2 e2
        rw [all_filterMap x.n au] at e2
        refine ⟨D, _, rfl, SqL.of e2, ?_⟩
        have z := k _ s2
        rw [← all_filter au] at z
        exact z
    · rw [show (((of p.stamp au : Nat) : Int) == ((of x.seen au : Nat) : Int) + 1) = false from beq_eq_false_iff_ne.mpr (by omega)]
      rw [decide_eq_false c, Bool.false_and] at k
      exact iteT (k _ (Same.refl H))
def nextAu (x : Sv27.Node) : Option Nat := x.others.find? fun a => (x.showable a).isSome
def auV : Option Nat → V
  | none => .non
  | some a => .int (a : Int)
def spNextAu (CN CP : Addr) : Sp := fun vs H Q _ => ∃ (a : Addr) (L : Lay) (B : Addr → Prop) (x : Sv27.Node), vs = [.ref a] ∧ NodeAt CN CP B H a L x ∧ WF x ∧ ∀ H', Same H H' → Q (auV (nextAu x)) H'
theorem ok_next_author (T : Txt K mg CN CP CR) (D : Def K mg "next_author" s_next_author) (c_others_of : Cal P w K mg base 1 "others_of" ["node"] (spOthers CN)) (c_may_be_shown : Cal P w K mg base 1 "may_be_shown" ["node", "author", "post"] (spMayShow CN CP)) : Cal P w K mg base 2 "next_author" ["node"] (spNextAu CN CP) := by
  refine D.cal b_next_author fun f fd F => F.ok sc_next_author (fun vs H Q E h => ?_) (fun cdv A outer s H vs Q E hroom h => ?_)
  · obtain ⟨a, L, B, x, rfl, N, hw, k⟩ := h
    rfl
  · obtain ⟨a, L, B, x, rfl, N, hw, k⟩ := h
    refine ⟨_, (pss_cons (ps_for PassesOwn.never rfl (pi_list (pe_cal c_others_of hroom (pa_cons (pv 0) pa_nil))) (pg_name (i := 1) sc_next_author.nd rfl (by first | exact Or.inl rfl | exact Or.inr rfl)) (pss_cons (ps_set (i := 2) sc_next_author.nd rfl (by first | exact Or.inl rfl | exact Or.inr rfl) (pe_ix ix_nat (pe_fld (pv 0) rfl) (pv 1) (fun _ _ => rfl)))
      (pss_one (ps_if (PW.pt (pw_and (pt_cmpR op_gt (pe_callB cr_lenN (by rfl) T.b.len PySem.boot_len (pa_cons (pv 2) pa_nil)) pe_int (nomark _)) (pw_and1 (pt_val (pe_cal c_may_be_shown hroom (pa_cons (pv 0) (pa_cons (pv 1) (pa_cons (pe_ix ix_nat (pv 2) pe_int (fun _ _ => rfl)) pa_nil)))))))) (pss_one (ps_ret (pv 1))) pss_nil))))
      (pss_one (ps_ret pe_non))), ?_⟩
    obtain ⟨dx, hA⟩ := N.ins
    refine ⟨_, rfl, a, x.me, x.n, rfl, N.hd, hw.n8, fun H1 o s1 ho e1 => ?_⟩
    refine ⟨o, rfl, ⟨_, SqL.of e1⟩, for_list (K := K) (a := o) (xs := ni (othersL x.me x.n)) (fun i σ H' => ∃ v1 v2, σ = [some (.ref a), v1, v2] ∧ Same H1 H' ∧ (x.others.take i).find? (fun a => (x.showable a).isSome) = none) ⟨none, none, rfl, Same.refl _, rfl⟩ (fun i σ H' _ ⟨_, _, _, s, _⟩ => SqL.of (s _ _ e1)) ?_ ?_⟩
    · rintro i y σ H2 hi ⟨v1, v2, rfl, s2, hf⟩
      obtain ⟨au, hau, rfl⟩ := ni_get_inv hi
      have hau' : x.others[i]? = some au := hau
      have hao := mem_others.mp (List.mem_of_getElem? hau')
      have ha8 : au < 8 := by have := hw.n8; omega
      have s12 := s1.trans s2
      have hwl := paired_len N.waits
      obtain ⟨wl, hwl2⟩ : ∃ wl, L.ws[au]? = some wl := ⟨_, List.getElem?_eq_getElem (by rw [hwl, hw.waitsL]; exact ha8)⟩
      obtain ⟨ps, hps, pas, hpo, hpas⟩ := paired_get N.waits hwl2
      have eps : ps = x.waiting au := by
        rw [waiting_get x hw.waitsL ha8] at hps
        exact (Option.some.inj hps).symm
      subst eps
      have plen := paired_len hpas
      refine ⟨_, rfl, a, _, _, _, _, rfl, s12 _ _ hA, T.cN, T.a_waits, nF_waits _ _ _, _, rfl, L.w, _, au, _, rfl, rfl, SqL.of (s12 _ _ N.wl), (by rw [List.getElem?_map, hwl2]; all_goals rfl), ?_⟩
      refine ⟨_, rfl, wl, _, rfl, SqL.of (s12 _ _ hpo), _, _, rfl, rfl, _, rfl, ?_⟩
      rw [List.length_map, plen]
      cases hps : x.waiting au with
      | nil =>
        refine iteF (iteF ⟨_, _, rfl, s2, find_more hf hau' ?_⟩)
        unfold Sv27.Node.showable
        rw [hps]
        rfl
      | cons p rest =>
        rw [hps] at hpas
        obtain ⟨pa, pas', rfl⟩ : ∃ pa pas', pas = pa :: pas' := by
          cases pas with
          | nil => cases hpas
          | cons c d => exact ⟨c, d, rfl⟩
        have hpp : PostAt CP B H pa p := by cases hpas; assumption
        have hpok := hw.waits _ (hw.waiting_mem ha8) p (by rw [hps]; exact List.mem_cons_self ..)
        rw [decide_eq_true (by simp only [List.length_cons]; omega : (0 : Int) < ((p :: rest).length : Nat))]
        refine iteT ⟨_, rfl, _, rfl, _, rfl, wl, _, 0, _, rfl, rfl, SqL.of (s12 _ _ hpo), rfl, a, au, pa, L, B, x, p, rfl, N.same s12, hw, hpp.keep s12.keep, hpok.len, ha8, fun H3 s3 => ⟨_, rfl, ?_⟩⟩
        have sc := showable_cons hw.n8 hps hpok.st
        cases hm : mayShow x au p with
        | true =>
          refine iteT ⟨_, rfl, ?_⟩
          rw [hm, if_pos rfl] at sc
          have en : nextAu x = some au := find_here hf hau' (by rw [sc]; rfl)
          rw [en] at k
          exact k H3 (s12.trans s3)
        | false =>
          refine iteF ⟨_, _, rfl, s2.trans s3, find_more hf hau' ?_⟩
          rw [hm, if_neg (by decide)] at sc
          rw [sc]
          rfl
    · rintro σ H2 ⟨v1, v2, rfl, s2, hf⟩
      rw [ni_length] at hf
      have hf : (x.others.take x.others.length).find? (fun a => (x.showable a).isSome) = none := hf
      rw [List.take_length] at hf
      have en : nextAu x = none := hf
      rw [en] at k
      exact k H2 (s1.trans s2)
def spShow (CN CP : Addr) : Sp := fun vs H Q _ => ∃ (a : Addr) (L : Lay) (B : Addr → Prop) (x : Sv27.Node), vs = [.ref a] ∧ NodeAt CN CP B H a L x ∧ WF x ∧ ∃ x' r, Sv27.on x .next = (some x', r) ∧ MutRet CN CP B H Q a L x' r
theorem ok_show_next (T : Txt K mg CN CP CR) (D : Def K mg "show_next" s_show_next) (c_next_author : Cal P w K mg base 2 "next_author" ["node"] (spNextAu CN CP)) : Cal P w K mg base 3 "show_next" ["node"] (spShow CN CP) := by
  refine D.cal b_show_next fun f fd F => F.ok sc_show_next (fun vs H Q E h => ?_) (fun cdv A outer s H vs Q E hroom h => ?_)
  · obtain ⟨a, L, B, x, rfl, N, hw, x', r, hon, k⟩ := h
    rfl
  · obtain ⟨a, L, B, x, rfl, N, hw, x', r, hon, k⟩ := h
    refine ⟨_, (pss_cons (ps_set (i := 1) sc_show_next.nd rfl (by first | exact Or.inl rfl | exact Or.inr rfl) (pe_cal c_next_author hroom (pa_cons (pv 0) pa_nil)))
      (pss_cons (ps_if (pt_cmpR op_isN (pv 1) pe_non (nomark _)) (pss_one (ps_ret (pe_lst (pa_cons (pe_cst T.c_NOTHING_TO_SHOW) pa_nil)))) pss_nil)
      (pss_cons (ps_set (i := 2) sc_show_next.nd rfl (by first | exact Or.inl rfl | exact Or.inr rfl) (pe_bm PySem.F.plainAttrs_list PySem.F.slot_list_pop PySem.F.type_list_pop mt_popAt (pe_ix ix_nat (pe_fld (pv 0) rfl) (pv 1) (fun _ _ => rfl)) (pa_cons pe_int pa_nil)))
      (pss_cons (ps_augS (pe_fld (pv 0) rfl) (pv 1) get_nat pe_int ip_add set_nat)
      (pss_one (ps_ret (pe_op op_cat (pe_lst (pa_cons (pe_callB cr_lenN (by rfl) T.b.len PySem.boot_len (pa_cons (pe_fld (pv 2) rfl) pa_nil)) (pa_cons (pv 1) pa_nil))) (pe_fld (pv 2) rfl)))))))), ?_⟩
    have eon : Sv27.on x .next = match Sv27.next x with
      | none => (some x, Sv27.ok (-4))
      | some r => (some r.1, ⟨r.2.2.text.length, r.2.1 :: r.2.2.text⟩) := rfl
    rw [eon] at hon
    refine ⟨_, rfl, a, L, B, x, rfl, N, hw, fun H1 s1 => ?_⟩
    have N1 := N.same s1
    obtain ⟨dx, hA⟩ := N1.ins
    cases hn : nextAu x with
    | none =>
      have e : Sv27.next x = none := by
        unfold Sv27.next
        rw [show x.others.find? (fun a => (x.showable a).isSome) = none from hn]
        rfl
      rw [e] at hon
      have e1 : x = x' := Option.some.inj (congrArg Prod.fst hon)
      have e2 : Sv27.ok (-4) = r := congrArg Prod.snd hon
      subst e1
      subst e2
      refine ⟨_, rfl, rfl, _, rfl, ?_⟩
      exact iteT ⟨(by show 1 ≤ sizeLine; decide), fun p hp => (k.pure N).now s1 hp⟩
    | some au =>
      have hmem := List.mem_of_find?_eq_some hn
      have hsome := List.find?_some hn
      have hao := mem_others.mp hmem
      have ha8 : au < 8 := by have := hw.n8; omega
      -- the post
      cases hps : x.waiting au with
      | nil =>
        unfold Sv27.Node.showable at hsome
        rw [hps] at hsome
        cases hsome
      | cons p rest =>
        have hpok := hw.waits _ (hw.waiting_mem ha8) p (by rw [hps]; exact List.mem_cons_self ..)
        have sc := showable_cons hw.n8 hps hpok.st
        have hm : mayShow x au p = true := by
          cases z : mayShow x au p with
          | true => rfl
          | false =>
            rw [z, if_neg (by decide)] at sc
            rw [sc] at hsome
            cases hsome
        rw [hm, if_pos rfl] at sc
        have e : Sv27.next x = some (Sv27.Node.more { x with waits := x.waits.set au rest } au, au, p) := by
          unfold Sv27.next
          rw [show x.others.find? (fun a => (x.showable a).isSome) = some au from hn]
          show (x.showable au).map _ = _
          rw [sc, hps]
          rfl
        rw [e] at hon
        have e1 : Sv27.Node.more { x with waits := x.waits.set au rest } au = x' := Option.some.inj (congrArg Prod.fst hon)
        have e2 : (⟨p.text.length, au :: p.text⟩ : Sv27.Ans) = r := congrArg Prod.snd hon
        have hwl := paired_len N1.waits
        obtain ⟨wl, hwl2⟩ : ∃ wl, L.ws[au]? = some wl := ⟨_, List.getElem?_eq_getElem (by rw [hwl, hw.waitsL]; exact ha8)⟩
        obtain ⟨ps, hps2, pas, hpo, hpas⟩ := paired_get N1.waits hwl2
        have eps : ps = x.waiting au := by
          rw [waiting_get x hw.waitsL ha8] at hps2
          exact (Option.some.inj hps2).symm
        rw [eps, hps] at hpas
        obtain ⟨pa, pas', rfl⟩ : ∃ pa pas', pas = pa :: pas' := by
          cases pas with
          | nil => cases hpas
          | cons c d => exact ⟨c, d, rfl⟩
        have hpp : PostAt CP B H1 pa p := by cases hpas; assumption
        have hrest : Paired (PostAt CP B H1) pas' rest := by cases hpas; assumption
        have hwm : wl ∈ L.muts := L.mem_w (List.mem_of_getElem? hwl2)
        refine ⟨_, rfl, rfl, _, rfl, ?_⟩
        refine iteF ?_
        refine ⟨_, rfl, a, _, _, _, _, rfl, hA, T.cN, T.a_waits, nF_waits _ _ _, _, rfl, L.w, _, au, _, rfl, rfl, SqL.of N1.wl, (by rw [List.getElem?_map, hwl2]; all_goals rfl), ?_⟩
        refine ⟨.inl ⟨rfl, _, SqL.of hpo⟩, wl, _, 0, 0, _, rfl, rfl, hpo, by decide, by decide, seqIndex_of (by decide) (by simp only [List.map_cons, List.length_cons]; omega), rfl, ?_⟩
        have b1 : But wl H1 (upd H1 wl (.lst (((pa :: pas').map V.ref).eraseIdx 0))) := But.upd _ _ _
        have kB := b1.keep (N1.bar _ hwm)
        have N2 := N1.setWait hwl2 b1 (ps := rest) ⟨pas', upd_same, paired_imp (fun _ _ q => PostAt.keep q kB) hrest⟩
        have hpp2 := hpp.keep kB
        have K2 : Keep (fun b => b ∈ L.muts) H (upd H1 wl (.lst (((pa :: pas').map V.ref).eraseIdx 0))) := (Same.keep s1).trans (b1.keepM hwm)
        generalize hH2 : upd H1 wl (.lst (((pa :: pas').map V.ref).eraseIdx 0)) = H2 at N2 hpp2 K2
        clear hH2 kB b1
        obtain ⟨dx2, hA2⟩ := N2.ins
        have hsl : au < x.seen.length := by rw [hw.seen]; exact ha8
        refine ⟨_, rfl, a, _, _, _, _, rfl, hA2, T.cN, T.a_seen, nF_seen _ _ _, _, rfl, L.s, _, au, _, rfl, rfl, SqL.of N2.seen, ni_get (of_get hsl), _, _, rfl, rfl, L.s, _, au, rfl, rfl, N2.seen, (by rw [ni_length]; exact hsl), ?_⟩
        have b3 : But L.s H2 (upd H2 L.s (.lst ((ni x.seen).set au (.int ((of x.seen au : Nat) + 1))))) := But.upd _ _ _
        have eset : (ni x.seen).set au (.int ((of x.seen au : Nat) + 1)) = ni (x.seen.set au (of x.seen au + 1)) := by
          unfold ni
          rw [List.map_set]
          rfl
        have N3 := N2.setSeen b3 (st := x.seen.set au (of x.seen au + 1)) (by rw [upd_same, eset])
        have hpp3 := hpp2.keep (b3.keep (N2.bar _ L.mem_s))
        have K3 := K2.trans (b3.keepM L.mem_s)
        generalize hH3 : upd H2 L.s (.lst ((ni x.seen).set au (.int ((of x.seen au : Nat) + 1)))) = H3 at N3 hpp3 K3
        clear hH3 b3
        have N3 : NodeAt CN CP B H3 a L (Sv27.Node.more { x with waits := x.waits.set au rest } au) := N3
        rw [e1] at N3
        obtain ⟨dp, s, t, pA, pS, pT, _⟩ := hpp3
        refine ⟨_, rfl, pa, _, _, _, _, rfl, pA, T.cP, T.a_text, pF_text s t, t, _, rfl, SqL.of pT, _, rfl, (by show 2 ≤ sizeLine; decide), fun l hl => ?_⟩
        rw [ni_length]
        have s4 : Same H3 (upd H3 l (.lst [V.int (p.text.length : Nat), V.int (au : Nat)])) := Same.new hl
        refine ⟨_, rfl, pa, _, _, _, _, rfl, s4 _ _ pA, T.cP, T.a_text, pF_text s t, ?_⟩
        refine ⟨l, t, _, _, rfl, rfl, upd_same, s4 _ _ pT, ?_, fun q hq => ?_⟩
        · rw [ni_length]
          have := hpok.tx
          exact small_sz (by simp only [List.length_cons, List.length_nil]; omega)
        · have s5 := s4.trans (Same.new (o := HO.lst ([V.int (p.text.length : Nat), V.int (au : Nat)] ++ ni p.text)) hq)
          subst e2
          refine k _ q (N3.same s5) (K3.trans (Same.keep s5)) ?_ upd_same
          -- the new list is new
          have h3 : H3 q = none := s4.none hq
          cases eH : H q with
          | none => rfl
          | some o =>
            by_cases qm : q ∈ L.muts
            · exfalso
              have tq : ∃ o, H3 q = some o := by
                rcases List.mem_cons.mp qm with z | z
                · rw [z]; exact ⟨_, N3.seen⟩
                rcases (List.mem_cons.mp z) with z | z
                · rw [z]; obtain ⟨_, h, _⟩ := N3.known; exact ⟨_, h⟩
                rcases (List.mem_cons.mp z) with z | z
                · rw [z]; obtain ⟨_, h, _⟩ := N3.mine; exact ⟨_, h⟩
                · obtain ⟨i, hi⟩ := List.mem_iff_getElem?.mp z
                  obtain ⟨_, _, _, h, _⟩ := paired_get N3.waits hi
                  exact ⟨_, h⟩
              obtain ⟨o', ho'⟩ := tq
              rw [h3] at ho'
              cases ho'
            · rw [K3 q o eH qm] at h3
              cases h3
end
end Po

namespace Po
open PySem PySem.Spec PyProof.Rows L2
open Sv27 (little stampBytes stampOf stampOk nobody padded Bytes Stamp of word)
set_option linter.all false
theorem NodeAt.tracked {CN CP : Addr} {B : Addr → Prop} {H : Hp} {a : Addr} {L : Lay} {x : Sv27.Node} (N : NodeAt CN CP B H a L x) {q : Addr} (qm : q ∈ L.muts) : ∃ o, H q = some o := by
  rcases List.mem_cons.mp qm with z | z
  · rw [z]; exact ⟨_, N.seen⟩
  rcases (List.mem_cons.mp z) with z | z
  · rw [z]; obtain ⟨_, h, _⟩ := N.known; exact ⟨_, h⟩
  rcases (List.mem_cons.mp z) with z | z
  · rw [z]; obtain ⟨_, h, _⟩ := N.mine; exact ⟨_, h⟩
  · obtain ⟨i, hi⟩ := List.mem_iff_getElem?.mp z
    obtain ⟨_, _, _, h, _⟩ := paired_get N.waits hi
    exact ⟨_, h⟩
theorem NodeAt.fresh {CN CP : Addr} {B : Addr → Prop} {H H' : Hp} {a : Addr} {L : Lay} {x : Sv27.Node} (N : NodeAt CN CP B H' a L x) (k : Keep (fun b => b ∈ L.muts) H H') {q : Addr} (h : H' q = none) : H q = none := by
  cases eH : H q with
  | none => rfl
  | some o =>
    by_cases qm : q ∈ L.muts
    · obtain ⟨o', ho'⟩ := N.tracked qm
      rw [h] at ho'
      cases ho'
    · rw [k q o eH qm] at h
      cases h
/-! ### post -/
def postB (me : Nat) (p : Sv27.Post) (l : List Nat) : Bytes := (l.map fun i => (⟨i, me, .post p⟩ : Sv27.Letter)).flatMap Sv27.Letter.bytes
theorem postB_snoc (me : Nat) (p : Sv27.Post) {l : List Nat} {i y : Nat} (h : l[i]? = some y) : postB me p (l.take (i + 1)) = postB me p (l.take i) ++ Sv27.Letter.bytes ⟨y, me, .post p⟩ := by
  unfold postB
  rw [take_more h, List.map_append, List.flatMap_append]
  simp
theorem postB_len (me : Nat) {p : Sv27.Post} (h : p.text.length ≤ 31) (l : List Nat) : (postB me p l).length = 100 * l.length := by
  unfold postB
  rw [flatMap_len 100, List.length_map, Nat.mul_comm]
  intro q hq
  obtain ⟨i, _, rfl⟩ := List.mem_map.mp hq
  exact postL_length h
def newPost (x : Sv27.Node) (t : Bytes) : Sv27.Post := ⟨x.seen.set x.me (of x.seen x.me + 1), t⟩
theorem on_post (x : Sv27.Node) (h : WF x) {t : Bytes} (ht : t.length ≤ 31) (most : Int) : Sv27.on x (.post t (t.length : Int) most) =
    if most < 0 then (some x, Sv27.ok (-2)) else if ¬ (x.own.length < 32 ∧ of x.seen x.me < 4611686018427387904) then (some x, Sv27.ok (-6))
    else if most < ((100 * (x.n - 1) : Nat) : Int) then (some x, Sv27.ok (-7))
    else (some { x with seen := x.seen.set x.me (of x.seen x.me + 1), own := x.own ++ [newPost x t] }, ⟨((100 * (x.n - 1) : Nat) : Int), postB x.me (newPost x t) x.others⟩) := by
  have e : Sv27.on x (.post t (t.length : Int) most) = if Sv27.within (t.length : Int) 0 31 = false ∨ most < 0 then (some x, Sv27.ok (-2)) else if x.open_ = false then (some x, Sv27.ok (-6)) else Sv27.sent x most (Sv27.post x t) := rfl
  rw [e]
  have hw : Sv27.within (t.length : Int) 0 31 = true := by
    unfold Sv27.within
    rw [Bool.and_eq_true, decide_eq_true_iff, decide_eq_true_iff]
    omega
  rw [hw]
  by_cases c0 : most < 0
  · rw [if_pos (.inr c0), if_pos c0]
  rw [if_neg (fun q => q.elim (fun z => by cases z) c0), if_neg c0]
  have ho : x.open_ = false ↔ ¬ (x.own.length < 32 ∧ of x.seen x.me < 4611686018427387904) := by
    unfold Sv27.Node.open_
    rw [← Bool.not_eq_true, Bool.and_eq_true, decide_eq_true_iff, decide_eq_true_iff]
    exact Iff.rfl
  by_cases c1 : ¬ (x.own.length < 32 ∧ of x.seen x.me < 4611686018427387904)
  · rw [if_pos (ho.mpr c1), if_pos c1]
  rw [if_neg (fun q => c1 (ho.mp q)), if_neg c1]
  have e2 : Sv27.sent x most (Sv27.post x t) = if most < ((postB x.me (newPost x t) x.others).length : Int) then (some x, Sv27.ok (-7)) else (some { x with seen := x.seen.set x.me (of x.seen x.me + 1), own := x.own ++ [newPost x t] }, ⟨((postB x.me (newPost x t) x.others).length : Int), postB x.me (newPost x t) x.others⟩) := rfl
  have el : (postB x.me (newPost x t) x.others).length = 100 * (x.n - 1) := by
    have z := postB_len x.me (p := newPost x t) ht x.others
    rw [others_length h.me] at z
    exact z
  rw [e2, el]
section
variable {P : Program} {w : World} {K : PySem.W.Frag} {mg : Str → Option Value} {base : Heap} {CN CP CR : Addr}
def spWrite (CN CP : Addr) : Sp := fun vs H Q _ => ∃ (a : Addr) (most : Int) (t : Addr) (L : Lay) (B : Addr → Prop) (x : Sv27.Node) (tx : Bytes), vs = [.ref a, .int most, .ref t] ∧ NodeAt CN CP B H a L x ∧ WF x ∧ H t = some (.lst (ni tx)) ∧ ¬ B t ∧ tx.length ≤ 31 ∧ (∀ b, B b → H b ≠ none) ∧ ∃ x' r, Sv27.on x (.post tx (tx.length : Int) most) = (some x', r) ∧ MutRet CN CP B H Q a L x' r
theorem ok_write_post (T : Txt K mg CN CP CR) (D : Def K mg "write_post" s_write_post) (i_Post : ICal P w K mg base 1 CP "Post" ["self", "stamp", "text"] (spPostI CP)) (c_others_of : Cal P w K mg base 1 "others_of" ["node"] (spOthers CN)) (c_post_letter : Cal P w K mg base 3 "post_letter" ["to", "author", "post"] (spPostL CP)) : Cal P w K mg base 4 "write_post" ["node", "most", "text"] (spWrite CN CP) := by
  refine D.cal b_write_post fun f fd F => F.ok sc_write_post (fun vs H Q E h => ?_) (fun cdv A outer s H vs Q E hroom h => ?_)
  · obtain ⟨a, most, t, L, B, x, tx, rfl, N, hw, hT, hTB, h31, tr, x', r, hon, k⟩ := h
    rfl
  · obtain ⟨a, most, t, L, B, x, tx, rfl, N, hw, hT, hTB, h31, tr, x', r, hon, k⟩ := h
    refine ⟨_, (pss_cons (ps_if (PW.pt (pw_or (pt_cmpR op_gt (pe_callB cr_lenN (by rfl) T.b.len PySem.boot_len (pa_cons (pv 2) pa_nil)) (pe_cst T.c_LONGEST_TEXT) (nomark _)) (pw_or1 (pt_cmpR op_lt (pv 1) pe_int (nomark _))))) (pss_one (ps_ret (pe_lst (pa_cons (pe_cst T.c_BAD_ARGUMENTS) pa_nil)))) pss_nil)
      (pss_cons (ps_if (PW.pt (pw_or (pt_cmpR op_ge (pe_callB cr_lenN (by rfl) T.b.len PySem.boot_len (pa_cons (pe_fld (pv 0) rfl) pa_nil)) (pe_cst T.c_ROOM) (nomark _)) (pw_or1 (pt_cmpR op_ge (pe_ix ix_nat (pe_fld (pv 0) rfl) (pe_fld (pv 0) rfl) (fun _ _ => rfl)) (pe_cst T.c_HIGHEST) (nomark _))))) (pss_one (ps_ret (pe_lst (pa_cons (pe_cst T.c_NO_MORE) pa_nil)))) pss_nil)
      (pss_cons (ps_if (pt_cmpR op_gt (pe_op op_mul (pe_cst T.c_POST_LETTER_BYTES) (pe_op op_sub (pe_fld (pv 0) rfl) pe_int)) (pv 1) (nomark _)) (pss_one (ps_ret (pe_lst (pa_cons (pe_cst T.c_TOO_LONG) pa_nil)))) pss_nil)
      (pss_cons (ps_augS (pe_fld (pv 0) rfl) (pe_fld (pv 0) rfl) get_nat pe_int ip_add set_nat)
      (pss_cons (ps_set (i := 3) sc_write_post.nd rfl (by first | exact Or.inl rfl | exact Or.inr rfl) (pe_ical i_Post (hroom.mono (by decide)) (pa_cons (pe_callTy cr_listN (by rfl) T.b.list boot_list (pa_cons (pe_fld (pv 0) rfl) pa_nil)) (pa_cons (pv 2) pa_nil))))
      (pss_cons (ps_expr (pe_bm PySem.F.plainAttrs_list PySem.F.slot_list_append PySem.F.type_list_append mt_append (pe_fld (pv 0) rfl) (pa_cons (pv 3) pa_nil)))
      (pss_cons (ps_set (i := 4) sc_write_post.nd rfl (by first | exact Or.inl rfl | exact Or.inr rfl) (pe_lst pa_nil))
      (pss_cons (ps_for PassesOwn.never rfl (pi_list (pe_cal c_others_of (hroom.mono (by decide)) (pa_cons (pv 0) pa_nil))) (pg_name (i := 5) sc_write_post.nd rfl (by first | exact Or.inl rfl | exact Or.inr rfl)) (pss_one (ps_expr (pe_bm PySem.F.plainAttrs_list PySem.F.slot_list_extend PySem.F.type_list_extend mt_extend (pv 4) (pa_cons (pe_cal c_post_letter hroom (pa_cons (pv 5) (pa_cons (pe_fld (pv 0) rfl) (pa_cons (pv 3) pa_nil)))) pa_nil)))))
      (pss_one (ps_ret (pe_op op_cat (pe_lst (pa_cons (pe_callB cr_lenN (by rfl) T.b.len PySem.boot_len (pa_cons (pv 4) pa_nil)) pa_nil)) (pv 4)))))))))))), ?_⟩
    rw [on_post x hw h31] at hon
    obtain ⟨dx, hA⟩ := N.ins
    obtain ⟨pas, hm, hpas⟩ := N.mine
    have plen := paired_len hpas
    have me8 : x.me < 8 := by have := hw.n8; have := hw.me; omega
    have msl : x.me < x.seen.length := by rw [hw.seen]; exact me8
    refine ⟨_, rfl, t, _, rfl, SqL.of hT, _, _, rfl, rfl, _, rfl, ?_⟩
    rw [ni_length, decide_eq_false (by omega : ¬ (31 : Int) < (tx.length : Nat))]
    refine iteF ⟨_, rfl, _, _, rfl, rfl, _, rfl, ite2 (fun c0 => ?_) (fun c0 => ?_)⟩
    · rw [if_pos (of_decide_eq_true c0)] at hon
      have e1 : x = x' := Option.some.inj (congrArg Prod.fst hon)
      have e2 : Sv27.ok (-2) = r := congrArg Prod.snd hon
      subst e1
      subst e2
      exact ⟨(by show 1 ≤ sizeLine; decide), fun p hp => (k.pure N).now (Same.refl H) hp⟩
    rw [if_neg (fun q => c0 (decide_eq_true q))] at hon
    refine ⟨_, rfl, a, _, _, _, _, rfl, hA, T.cN, T.a_mine, nF_mine _ _ _, L.m, _, rfl, SqL.of hm, _, _, rfl, rfl, _, rfl, ?_⟩
    rw [List.length_map, plen]
    by_cases c1 : x.own.length < 32
    · rw [decide_eq_false (by omega : ¬ (32 : Int) ≤ (x.own.length : Nat))]
      refine iteF ⟨_, rfl, a, _, _, _, _, rfl, hA, T.cN, T.a_seen, nF_seen _ _ _, _, rfl, a, _, _, _, _, rfl, hA, T.cN, T.a_me, nF_me _ _ _, L.s, _, x.me, _, rfl, rfl, SqL.of N.seen, ni_get (of_get msl), _, _, rfl, rfl, _, rfl, ?_⟩
      by_cases c2 : of x.seen x.me < 4611686018427387904
      · rw [decide_eq_false (by omega : ¬ (4611686018427387904 : Int) ≤ (of x.seen x.me : Nat))]
        rw [if_neg (fun q => q ⟨c1, c2⟩)] at hon
        refine iteF ⟨_, rfl, a, _, _, _, _, rfl, hA, T.cN, T.a_n, nF_n _ _ _, _, _, rfl, rfl, _, _, rfl, rfl, .inl ⟨by decide, by decide⟩, _, rfl, _, _, rfl, rfl, _, rfl, ?_⟩
        have en : (100 : Int) * ((x.n : Int) - 1) = ((100 * (x.n - 1) : Nat) : Int) := by
          have := hw.n2
          omega
        rw [en]
        refine ite2 (fun c3 => ?_) (fun c3 => ?_)
        · rw [if_pos (of_decide_eq_true c3)] at hon
          have e1 : x = x' := Option.some.inj (congrArg Prod.fst hon)
          have e2 : Sv27.ok (-7) = r := congrArg Prod.snd hon
          subst e1
          subst e2
          exact ⟨(by show 1 ≤ sizeLine; decide), fun p hp => (k.pure N).now (Same.refl H) hp⟩
        rw [if_neg (fun q => c3 (decide_eq_true q))] at hon
        have e1 : ({ x with seen := x.seen.set x.me (of x.seen x.me + 1), own := x.own ++ [newPost x tx] } : Sv27.Node) = x' := Option.some.inj (congrArg Prod.fst hon)
        have e2 : (⟨((100 * (x.n - 1) : Nat) : Int), postB x.me (newPost x tx) x.others⟩ : Sv27.Ans) = r := congrArg Prod.snd hon
        -- node.seen[node.me] += 1
        refine ⟨_, rfl, a, _, _, _, _, rfl, hA, T.cN, T.a_seen, nF_seen _ _ _, _, rfl, a, _, _, _, _, rfl, hA, T.cN, T.a_me, nF_me _ _ _, L.s, _, x.me, _, rfl, rfl, SqL.of N.seen, ni_get (of_get msl), _, _, rfl, rfl, L.s, _, x.me, rfl, rfl, N.seen, (by rw [ni_length]; exact msl), ?_⟩
        have b1 : But L.s H (upd H L.s (.lst ((ni x.seen).set x.me (.int ((of x.seen x.me : Nat) + 1))))) := But.upd _ _ _
        have eset : (ni x.seen).set x.me (.int ((of x.seen x.me : Nat) + 1)) = ni (x.seen.set x.me (of x.seen x.me + 1)) := by
          unfold ni
          rw [List.map_set]
          rfl
        have N1 := N.setSeen b1 (st := x.seen.set x.me (of x.seen x.me + 1)) (by rw [upd_same, eset])
        have K1 : Keep (fun b => b ∈ L.muts) H (upd H L.s (.lst ((ni x.seen).set x.me (.int ((of x.seen x.me : Nat) + 1))))) := b1.keepM L.mem_s
        have hT1 := (b1.keep (N.bar _ L.mem_s)) t _ hT hTB
        have tr1 : ∀ b, B b → upd H L.s (.lst ((ni x.seen).set x.me (.int ((of x.seen x.me : Nat) + 1)))) b ≠ none := fun b hb q => by
          by_cases z : b = L.s
          · rw [z, upd_same] at q; cases q
          · rw [upd_ne z] at q; exact tr b hb q
        generalize hH1 : upd H L.s (.lst ((ni x.seen).set x.me (.int ((of x.seen x.me : Nat) + 1)))) = H1 at N1 K1 hT1 tr1
        clear hH1 b1
        obtain ⟨dx1, hA1⟩ := N1.ins
        -- post = Post(list(node.seen), text)
        refine ⟨_, rfl, a, _, _, _, _, rfl, hA1, T.cN, T.a_seen, nF_seen _ _ _, L.s, _, rfl, SqL.of N1.seen, fun c hc => ?_⟩
        have s2 : Same H1 (upd H1 c (.lst (ni (x.seen.set x.me (of x.seen x.me + 1))))) := Same.new hc
        refine ⟨_, rfl, ?_⟩
        intro pa dp npa ndp ne
        refine ⟨pa, dp, c, t, rfl, upd_same, fun H3 hpa kp => ⟨rfl, ?_⟩⟩
        have s3 : Same _ H3 := Same.made npa ndp kp
        have s13 := s2.trans s3
        have N3 := N1.same s13
        have hcB : ¬ B c := fun q => tr1 c q hc
        have hpaB : ¬ B pa := fun q => tr1 pa q (s2.none npa)
        have hP : PostAt CP B H3 pa (newPost x tx) := ⟨dp, c, t, hpa, s3 _ _ upd_same, s13 _ _ hT1, hpaB, hcB, hTB⟩
        have K3 := K1.trans (Same.keep s13)
        clear kp s3 s2
        obtain ⟨dx3, hA3⟩ := N3.ins
        obtain ⟨pas3, hm3, hpas3⟩ := N3.mine
        have plen3 := paired_len hpas3
        -- node.mine.append(post)
        refine ⟨_, rfl, a, _, _, _, _, rfl, hA3, T.cN, T.a_mine, nF_mine _ _ _, .inl ⟨rfl, _, SqL.of hm3⟩, _, rfl, L.m, _, _, rfl, rfl, hm3, ?_, ?_⟩
        · rw [List.length_map, plen3]
          have z : x.own.length ≤ 16000000 := by omega
          exact small_lt z
        have b4 : But L.m H3 (upd H3 L.m (.lst (pas3.map V.ref ++ [V.ref pa]))) := But.upd _ _ _
        have kB4 := b4.keep (N3.bar _ L.mem_m)
        have N4 := N3.setMine b4 (ps := x.own ++ [newPost x tx]) ⟨pas3 ++ [pa], by rw [upd_same, List.map_append]; rfl, paired_append (paired_imp (fun _ _ q => PostAt.keep q kB4) hpas3) (.cons (hP.keep kB4) .nil)⟩
        have hP4 := hP.keep kB4
        have K4 := K3.trans (b4.keepM L.mem_m)
        generalize hH4 : upd H3 L.m (.lst (pas3.map V.ref ++ [V.ref pa])) = H4 at N4 hP4 K4
        clear hH4 b4 kB4
        have N4 : NodeAt CN CP B H4 a L { x with seen := x.seen.set x.me (of x.seen x.me + 1), own := x.own ++ [newPost x tx] } := N4
        rw [e1] at N4
        have eme : x'.me = x.me := by rw [← e1]
        have enn : x'.n = x.n := by rw [← e1]
        -- sent = []
        refine ⟨(by show 0 ≤ sizeLine; decide), fun l hl => ?_⟩
        have s5 : Same H4 (upd H4 l (.lst [])) := Same.new hl
        refine ⟨_, rfl, a, x'.me, x'.n, rfl, (N4.same s5).hd, (by rw [enn]; exact hw.n8), fun H6 o s6 ho e6 => ?_⟩
        have s46 := s5.trans s6
        rw [eme, enn] at e6
        have hol : (othersL x.me x.n).length = x.n - 1 := others_length hw.me
        have hl6 := s6 _ _ (upd_same (H := H4) (a := l))
        refine ⟨o, rfl, ⟨_, SqL.of e6⟩, for_list (K := K) (a := o) (xs := ni (othersL x.me x.n)) (fun i σ H' => ∃ tv, σ = [some (.ref a), some (.int most), some (.ref t), some (.ref pa), some (.ref l), tv] ∧ Same H4 H' ∧ H' o = some (.lst (ni (othersL x.me x.n))) ∧ H' l = some (.lst (ni (postB x.me (newPost x tx) ((othersL x.me x.n).take i))))) ⟨none, rfl, s46, e6, hl6⟩ (fun i σ H' _ ⟨_, _, _, q, _⟩ => SqL.of q) ?_ ?_⟩
        · rintro i y σ H7 hi ⟨tv, rfl, s7, e7, hl7⟩
          obtain ⟨to, hto, rfl⟩ := ni_get_inv hi
          obtain ⟨dx7, hA7⟩ := (N4.same s7).ins
          have hi8 : i < 8 := by
            have := (List.getElem?_eq_some_iff.mp hto).1
            have := hw.n8
            omega
          refine ⟨_, rfl, .inl ⟨rfl, _, SqL.of hl7⟩, _, rfl, _, rfl, a, _, _, _, _, rfl, hA7, T.cN, T.a_me, nF_me _ _ _, _, rfl, to, x'.me, pa, B, newPost x tx, rfl, hP4.keep s7.keep, (by show (x.seen.set x.me _).length = 8; rw [List.length_set]; exact hw.seen), h31, fun H8 q s8 hq e8 => ?_⟩
          rw [eme] at e8
          refine ⟨l, q, _, _, rfl, rfl, s8 _ _ hl7, e8, ?_, ⟨_, rfl, (s7.trans s8).free_upd hl, ?_, ?_⟩⟩
          · rw [ni_length, ni_length, postL_length h31, postB_len x.me (p := newPost x tx) h31, List.length_take]
            exact small_sz (by omega)
          · rw [upd_ne (fun z => ?_)]
            · exact s8 _ _ e7
            · rw [z] at e6
              rw [z] at ho
              rw [upd_same] at ho
              cases ho
          · rw [upd_same, postB_snoc x.me _ hto, ni_append]
        · rintro σ H7 ⟨tv, rfl, s7, e7, hl7⟩
          rw [ni_length, List.take_length] at hl7
          refine ⟨_, rfl, l, _, rfl, SqL.of hl7, (by show 1 ≤ sizeLine; decide), fun p hp => ?_⟩
          rw [ni_length]
          have elen : (postB x.me (newPost x tx) (othersL x.me x.n)).length = 100 * (x.n - 1) := by
            rw [postB_len x.me (p := newPost x tx) h31, hol]
          rw [elen]
          refine ⟨_, rfl, p, l, _, _, rfl, rfl, upd_same, at_new hl7 hp, ?_, fun q hq => ?_⟩
          · rw [ni_length, elen]
            have := hw.n8
            exact small_sz (by simp only [List.length_cons, List.length_nil]; omega)
          · have s8 := (s7.trans (Same.new (o := HO.lst [V.int ((100 * (x.n - 1) : Nat) : Int)]) hp)).trans (Same.new (o := HO.lst ([V.int ((100 * (x.n - 1) : Nat) : Int)] ++ ni (postB x.me (newPost x tx) (othersL x.me x.n)))) hq)
            have s7q := s7.trans (Same.new (o := HO.lst [V.int ((100 * (x.n - 1) : Nat) : Int)]) hp)
            subst e2
            exact k _ q (N4.same s8) (K4.trans (Same.keep s8)) (N4.fresh K4 (s7q.none hq)) upd_same
      · rw [decide_eq_true (by omega : (4611686018427387904 : Int) ≤ (of x.seen x.me : Nat))]
        rw [if_pos (fun q => c2 q.2)] at hon
        have e1 : x = x' := Option.some.inj (congrArg Prod.fst hon)
        have e2 : Sv27.ok (-6) = r := congrArg Prod.snd hon
        subst e1
        subst e2
        exact iteT ⟨(by show 1 ≤ sizeLine; decide), fun p hp => (k.pure N).now (Same.refl H) hp⟩
    · rw [decide_eq_true (by omega : (32 : Int) ≤ (x.own.length : Nat))]
      rw [if_pos (fun q => c1 q.1)] at hon
      have e1 : x = x' := Option.some.inj (congrArg Prod.fst hon)
      have e2 : Sv27.ok (-6) = r := congrArg Prod.snd hon
      subst e1
      subst e2
      exact iteT (iteT ⟨(by show 1 ≤ sizeLine; decide), fun p hp => (k.pure N).now (Same.refl H) hp⟩)
end
end Po

namespace Po
open PySem PySem.Spec PyProof.Rows L2
open Sv27 (little stampBytes stampOf stampOk nobody padded Bytes Stamp of word)
set_option linter.all false
def postOf (b : Bytes) : Sv27.Post := ⟨stampOf (b.drop 4), (b.drop 68).take (b.getD 3 0)⟩
theorem isRight_cases {me n : Nat} {b : Bytes} (h : isRight me n b = true) : (b.length = 100 ∧ b.getD 1 0 = 1 ∧ fromOther me n b = true ∧ rightPost n b = true) ∨ (b.length = 68 ∧ b.getD 1 0 = 2 ∧ fromOther me n b = true ∧ rightSeen n b = true) := by
  unfold isRight at h
  by_cases c1 : b.length = 100 ∧ b.getD 1 0 = 1
  · rw [if_pos c1, Bool.and_eq_true] at h
    exact .inl ⟨c1.1, c1.2, h.1, h.2⟩
  · rw [if_neg c1] at h
    by_cases c2 : b.length = 68 ∧ b.getD 1 0 = 2
    · rw [if_pos c2, Bool.and_eq_true] at h
      exact .inr ⟨c2.1, c2.2, h.1, h.2⟩
    · rw [if_neg c2] at h
      cases h
theorem on_receive (x : Sv27.Node) {b : Bytes} (hs : Small b) (hl : b.length ≤ 1024) (most : Int) : Sv27.on x (.receive b (b.length : Int) most) =
    if most < 0 then (some x, Sv27.ok (-2)) else if isRight x.me x.n b = false then (some x, Sv27.ok (-3))
    else if b.getD 1 0 = 2 then (some (Sv27.Node.drops (learnX x (b.getD 2 0) (stampOf (b.drop 4)))), Sv27.ok 0)
    else (some (takeX x (b.getD 2 0) (postOf b)), takeA x most (b.getD 2 0) (postOf b)) := by
  have e : Sv27.on x (.receive b (b.length : Int) most) = if Sv27.within (b.length : Int) 0 1024 = false ∨ most < 0 then (some x, Sv27.ok (-2)) else match Sv27.letterOf b with
    | none => (some x, Sv27.ok (-3))
    | some l => if Sv27.right x l = false then (some x, Sv27.ok (-3)) else Sv27.sent x most (Sv27.receive x l) := rfl
  rw [e]
  have hw : Sv27.within (b.length : Int) 0 1024 = true := by
    unfold Sv27.within
    rw [Bool.and_eq_true, decide_eq_true_iff, decide_eq_true_iff]
    omega
  rw [hw]
  by_cases c0 : most < 0
  · rw [if_pos (.inr c0), if_pos c0]
  rw [if_neg (fun q => q.elim (fun z => by cases z) c0), if_neg c0]
  have hr := isRight_eq x hs
  cases hR : isRight x.me x.n b with
  | false =>
    rw [if_pos rfl]
    rw [hR] at hr
    cases hlo : Sv27.letterOf b with
    | none => rfl
    | some l =>
      rw [hlo] at hr
      have hr : false = Sv27.right x l := hr
      show (if Sv27.right x l = false then (some x, Sv27.ok (-3)) else Sv27.sent x most (Sv27.receive x l)) = _
      rw [if_pos hr.symm]
  | true =>
    rw [if_neg (by decide)]
    rw [hR] at hr
    rcases isRight_cases hR with ⟨h100, h1, hf, hp⟩ | ⟨h68, h1, hf, hp⟩
    · have hpad : isPad (b.getD 3 0) (b.drop 68) = true := by
        unfold rightPost at hp
        rw [Bool.and_eq_true] at hp
        exact hp.1
      have hlo := letter_post hs h100
      rw [if_pos ⟨h1, hpad⟩] at hlo
      rw [hlo] at hr ⊢
      have hr : true = Sv27.right x ⟨b.getD 0 0, b.getD 2 0, .post (postOf b)⟩ := hr
      show (if Sv27.right x ⟨b.getD 0 0, b.getD 2 0, .post (postOf b)⟩ = false then (some x, Sv27.ok (-3)) else Sv27.sent x most (Sv27.receive x ⟨b.getD 0 0, b.getD 2 0, .post (postOf b)⟩)) = _
      rw [← hr, if_neg (by decide), if_neg (by omega), sent_post x _ _ _ (by omega)]
    · have hlo := letter_seen hs (show b.length ≠ 100 by omega)
      have h3 : b.getD 3 0 = 0 := by
        unfold rightSeen at hp
        rw [Bool.and_eq_true, decide_eq_true_iff] at hp
        exact hp.1
      rw [if_pos ⟨h68, h1, h3⟩] at hlo
      rw [hlo] at hr ⊢
      have hr : true = Sv27.right x ⟨b.getD 0 0, b.getD 2 0, .seen (stampOf (b.drop 4))⟩ := hr
      show (if Sv27.right x ⟨b.getD 0 0, b.getD 2 0, .seen (stampOf (b.drop 4))⟩ = false then (some x, Sv27.ok (-3)) else Sv27.sent x most (Sv27.receive x ⟨b.getD 0 0, b.getD 2 0, .seen (stampOf (b.drop 4))⟩)) = _
      rw [← hr, if_neg (by decide), if_pos h1, receive_seen]
      exact sent_none x _ (by omega)
section
variable {P : Program} {w : World} {K : PySem.W.Frag} {mg : Str → Option Value} {base : Heap} {CN CP CR : Addr}
def spTakeL (CN CP : Addr) : Sp := fun vs H Q _ => ∃ (a : Addr) (most : Int) (la : Addr) (L : Lay) (B : Addr → Prop) (x : Sv27.Node) (b : Bytes), vs = [.ref a, .int most, .ref la] ∧ NodeAt CN CP B H a L x ∧ WF x ∧ H la = some (.lst (ni b)) ∧ Small b ∧ b.length ≤ 1024 ∧ (∀ b, B b → H b ≠ none) ∧ ∃ x' r, Sv27.on x (.receive b (b.length : Int) most) = (some x', r) ∧ MutRet CN CP B H Q a L x' r
theorem ok_take_letter (T : Txt K mg CN CP CR) (D : Def K mg "take_letter" s_take_letter) (c_is_seen : Cal P w K mg base 1 "is_seen" ["letter"] (spIsSeen K)) (c_take_post : Cal P w K mg base 5 "take_post" ["node", "most", "author", "post"] (spTakePost CN CP)) (c_is_right : Cal P w K mg base 5 "is_right" ["node", "letter"] (spRight K CN)) (c_learn : Cal P w K mg base 2 "learn" ["node", "sender", "seen"] (spLearn CN CP)) (c_sender_of : Cal P w K mg base 1 "sender_of" ["letter"] (spSender K)) (c_post_in : Cal P w K mg base 4 "post_in" ["letter"] (spPostIn K CP)) (c_stamp_in : Cal P w K mg base 3 "stamp_in" ["letter"] (spStampIn K)) : Cal P w K mg base 6 "take_letter" ["node", "most", "letter"] (spTakeL CN CP) := by
  refine D.cal b_take_letter fun f fd F => F.ok sc_take_letter (fun vs H Q E h => ?_) (fun cdv A outer s H vs Q E hroom h => ?_)
  · obtain ⟨a, most, la, L, B, x, b, rfl, N, hw, hla, hs, hl, tr, x', r, hon, k⟩ := h
    rfl
  · obtain ⟨a, most, la, L, B, x, b, rfl, N, hw, hla, hs, hl, tr, x', r, hon, k⟩ := h
    refine ⟨_, (pss_cons (ps_if (PW.pt (pw_or (pt_cmpR op_gt (pe_callB cr_lenN (by rfl) T.b.len PySem.boot_len (pa_cons (pv 2) pa_nil)) (pe_cst T.c_LONGEST_LETTER) (nomark _)) (pw_or1 (pt_cmpR op_lt (pv 1) pe_int (nomark _))))) (pss_one (ps_ret (pe_lst (pa_cons (pe_cst T.c_BAD_ARGUMENTS) pa_nil)))) pss_nil)
      (pss_cons (ps_if (pt_not (pt_val (pe_cal c_is_right hroom (pa_cons (pv 0) (pa_cons (pv 2) pa_nil))))) (pss_one (ps_ret (pe_lst (pa_cons (pe_cst T.c_BAD_BYTES) pa_nil)))) pss_nil)
      (pss_cons (ps_if (pt_val (pe_cal c_is_seen (hroom.mono (by decide)) (pa_cons (pv 2) pa_nil))) (pss_cons (ps_expr (pe_cal c_learn (hroom.mono (by decide)) (pa_cons (pv 0) (pa_cons (pe_cal c_sender_of (hroom.mono (by decide)) (pa_cons (pv 2) pa_nil)) (pa_cons (pe_cal c_stamp_in (hroom.mono (by decide)) (pa_cons (pv 2) pa_nil)) pa_nil)))))
      (pss_one (ps_ret (pe_lst (pa_cons pe_int pa_nil))))) pss_nil)
      (pss_one (ps_ret (pe_cal c_take_post hroom (pa_cons (pv 0) (pa_cons (pv 1) (pa_cons (pe_cal c_sender_of (hroom.mono (by decide)) (pa_cons (pv 2) pa_nil)) (pa_cons (pe_cal c_post_in (hroom.mono (by decide)) (pa_cons (pv 2) pa_nil)) pa_nil)))))))))), ?_⟩
    rw [on_receive x hs hl] at hon
    refine ⟨_, rfl, la, _, rfl, SqL.of hla, _, _, rfl, rfl, _, rfl, ?_⟩
    rw [ni_length, decide_eq_false (by omega : ¬ (1024 : Int) < (b.length : Nat))]
    refine iteF ⟨_, rfl, _, _, rfl, rfl, _, rfl, ite2 (fun c0 => ?_) (fun c0 => ?_)⟩
    · rw [if_pos (of_decide_eq_true c0)] at hon
      have e1 : x = x' := Option.some.inj (congrArg Prod.fst hon)
      have e2 : Sv27.ok (-2) = r := congrArg Prod.snd hon
      subst e1
      subst e2
      exact ⟨(by show 1 ≤ sizeLine; decide), fun p hp => (k.pure N).now (Same.refl H) hp⟩
    rw [if_neg (fun q => c0 (decide_eq_true q))] at hon
    refine ⟨_, rfl, _, rfl, a, la, b, x.me, x.n, rfl, N.hd, SqL.of hla, hs, hw.n8, fun H1 s1 => ⟨_, rfl, ?_⟩⟩
    have N1 := N.same s1
    cases hR : isRight x.me x.n b with
    | false =>
      rw [hR, if_pos rfl] at hon
      have e1 : x = x' := Option.some.inj (congrArg Prod.fst hon)
      have e2 : Sv27.ok (-3) = r := congrArg Prod.snd hon
      subst e1
      subst e2
      exact iteT ⟨(by show 1 ≤ sizeLine; decide), fun p hp => (k.pure N).now s1 hp⟩
    | true =>
      rw [hR, if_neg (by decide)] at hon
      have hlen : 68 ≤ b.length := by rcases isRight_cases hR with ⟨h, _⟩ | ⟨h, _⟩ <;> omega
      have hfo : fromOther x.me x.n b = true := by rcases isRight_cases hR with ⟨_, _, h, _⟩ | ⟨_, _, h, _⟩ <;> exact h
      have h28 : b.getD 2 0 < 8 := by have := fromOther_lt hfo; have := hw.n8; omega
      refine iteF ⟨_, rfl, la, b, rfl, SqL.of (s1 _ _ hla), by omega, _, rfl, ite2 (fun c2 => ?_) (fun c2 => ?_)⟩
      · rw [if_pos (of_decide_eq_true c2)] at hon
        have e1 : Sv27.Node.drops (learnX x (b.getD 2 0) (stampOf (b.drop 4))) = x' := Option.some.inj (congrArg Prod.fst hon)
        have e2 : Sv27.ok 0 = r := congrArg Prod.snd hon
        refine ⟨_, rfl, _, rfl, la, b, rfl, SqL.of (s1 _ _ hla), by omega, ?_⟩
        refine ⟨_, rfl, la, b, rfl, SqL.of (s1 _ _ hla), hlen, hs, fun H2 sa s2 hsa e3 => ?_⟩
        have s12 := s1.trans s2
        have tr2 : ∀ b, B b → H2 b ≠ none := fun c hc q => tr c hc (s12.none q)
        refine ⟨a, b.getD 2 0, sa, L, B, x, stampOf (b.drop 4), rfl, N1.same s2, hw, h28, e3, stampOf_length _, tr2, fun H3 N3 K3 => ?_⟩
        rw [e1] at N3
        have K13 : Keep (fun b => b ∈ L.muts) H H3 := (Same.keep s12).trans K3
        subst e2
        exact ⟨(by show 1 ≤ sizeLine; decide), fun p hp => k _ p (N3.same (Same.new hp)) (K13.trans (Same.keep (Same.new hp))) (N3.fresh K13 hp) upd_same⟩
      · rw [if_neg (fun q => c2 (decide_eq_true q))] at hon
        have e1 : takeX x (b.getD 2 0) (postOf b) = x' := Option.some.inj (congrArg Prod.fst hon)
        have e2 : takeA x most (b.getD 2 0) (postOf b) = r := congrArg Prod.snd hon
        refine ⟨_, rfl, _, rfl, _, rfl, la, b, rfl, SqL.of (s1 _ _ hla), by omega, ?_⟩
        refine ⟨_, rfl, la, b, rfl, SqL.of (s1 _ _ hla), hlen, hs, fun H2 pa dp sa ta s2 n1 n2 n3 q1 q2 q3 => ?_⟩
        have s12 := s1.trans s2
        have nb : ∀ {c : Addr}, H1 c = none → ¬ B c := fun h q => tr _ q (s1.none h)
        refine ⟨a, most, b.getD 2 0, pa, L, B, x, postOf b, rfl, N1.same s2, hw, ⟨dp, sa, ta, q1, q2, q3, nb n1, nb n2, nb n3⟩, stampOf_length _, h28, fun H3 p N3 K3 hp e3 => ?_⟩
        rw [e1] at N3
        rw [e2] at e3
        exact k H3 p N3 ((Same.keep s12).trans K3) (s12.none hp) e3
end
end Po

namespace Po
open PySem PySem.Spec PyProof.Rows L2
open Sv27 (little stampBytes stampOf stampOk nobody padded Bytes Stamp of word rowBytes postBytes)
set_option linter.all false
theorem flat_zeros (m : Nat) : (List.replicate m [V.int 0]).flatten = ni (List.replicate m 0) := by
  unfold ni
  rw [List.map_replicate]
  induction m with
  | zero => rfl
  | succ m ih => rw [List.replicate_succ, List.flatten_cons, ih, List.replicate_succ]; rfl
theorem flat_zeros_len (m : Nat) : (List.replicate m [V.int 0]).flatten.length = m := by
  rw [flat_zeros, ni_length, List.length_replicate]
theorem flatMap_by_get {α β : Type} (f : α → List β) (d : α) : ∀ {n : Nat} {l : List α}, l.length = n → (List.range n).flatMap (fun i => f (l.getD i d)) = l.flatMap f := by
  intro n l h
  have e : l = (List.range n).map fun i => l.getD i d := by
    apply List.ext_getElem?
    intro i
    rw [List.getElem?_map]
    by_cases hi : i < n
    · rw [List.getElem?_range hi, List.getElem?_eq_getElem (by omega)]
      show some (l[i]'(by omega)) = some (l.getD i d)
      rw [List.getD_eq_getElem?_getD, List.getElem?_eq_getElem (by omega)]
      rfl
    · rw [List.getElem?_eq_none (by omega), List.getElem?_eq_none (by rw [List.length_range]; omega)]
      rfl
  have q : l.flatMap f = ((List.range n).map fun i => l.getD i d).flatMap f := congrArg (fun z => z.flatMap f) e
  rw [q, List.flatMap_map]
theorem flatMap_snoc {α β : Type} (f : α → List β) {l : List α} {i : Nat} {x : α} (h : l[i]? = some x) : (l.take (i + 1)).flatMap f = (l.take i).flatMap f ++ f x := by
  rw [take_more h, List.flatMap_append]
  simp
section
variable {P : Program} {w : World} {K : PySem.W.Frag} {mg : Str → Option Value} {base : Heap} {CN CP CR : Addr}
def spBytesP (CP : Addr) : Sp := fun vs H Q _ => ∃ (l : Addr) (B : Addr → Prop) (ps : List Sv27.Post), vs = [.ref l] ∧ PostsAt CP B H l ps ∧ (∀ p, p ∈ ps → p.stamp.length = 8 ∧ p.text.length ≤ 31) ∧ ps.length ≤ 32 ∧ RetL H Q (ni (rowBytes ps))
theorem ok_bytes_of_posts (T : Txt K mg CN CP CR) (D : Def K mg "bytes_of_posts" s_bytes_of_posts) (c_bytes_of_number : Cal P w K mg base 1 "bytes_of_number" ["number"] spNumB) (c_bytes_of_stamp : Cal P w K mg base 2 "bytes_of_stamp" ["stamp"] (spStB K)) (c_padded_text : Cal P w K mg base 1 "padded_text" ["text"] spPad) : Cal P w K mg base 3 "bytes_of_posts" ["posts"] (spBytesP CP) := by
  refine D.cal b_bytes_of_posts fun f fd F => F.ok sc_bytes_of_posts (fun vs H Q E h => ?_) (fun cdv A outer s H vs Q E hroom h => ?_)
  · obtain ⟨l, B, ps, rfl, ⟨pas, hl, hpas⟩, hok, hz, k⟩ := h
    rfl
  · obtain ⟨l, B, ps, rfl, ⟨pas, hl, hpas⟩, hok, hz, k⟩ := h
    refine ⟨_, (pss_cons (ps_set (i := 1) sc_bytes_of_posts.nd rfl (by first | exact Or.inl rfl | exact Or.inr rfl) (pe_cal c_bytes_of_number (hroom.mono (by decide)) (pa_cons (pe_callB cr_lenN (by rfl) T.b.len PySem.boot_len (pa_cons (pv 0) pa_nil)) pa_nil)))
      (pss_cons (ps_for PassesOwn.never rfl (pi_list (pv 0)) (pg_name (i := 2) sc_bytes_of_posts.nd rfl (by first | exact Or.inl rfl | exact Or.inr rfl)) (pss_cons (ps_expr (pe_bm PySem.F.plainAttrs_list PySem.F.slot_list_extend PySem.F.type_list_extend mt_extend (pv 1) (pa_cons (pe_cal c_bytes_of_stamp hroom (pa_cons (pe_fld (pv 2) rfl) pa_nil)) pa_nil)))
      (pss_cons (ps_expr (pe_bm PySem.F.plainAttrs_list PySem.F.slot_list_extend PySem.F.type_list_extend mt_extend (pv 1) (pa_cons (pe_cal c_bytes_of_number (hroom.mono (by decide)) (pa_cons (pe_callB cr_lenN (by rfl) T.b.len PySem.boot_len (pa_cons (pe_fld (pv 2) rfl) pa_nil)) pa_nil)) pa_nil)))
      (pss_one (ps_expr (pe_bm PySem.F.plainAttrs_list PySem.F.slot_list_extend PySem.F.type_list_extend mt_extend (pv 1) (pa_cons (pe_cal c_padded_text (hroom.mono (by decide)) (pa_cons (pe_fld (pv 2) rfl) pa_nil)) pa_nil)))))))
      (pss_one (ps_ret (pe_op op_cat (pv 1) (pe_op op_rep (pe_lst (pa_cons pe_int pa_nil)) (pe_op op_mul (pe_cst T.c_SAVED_POST_BYTES) (pe_op op_sub (pe_cst T.c_ROOM) (pe_callB cr_lenN (by rfl) T.b.len PySem.boot_len (pa_cons (pv 0) pa_nil)))))))))), ?_⟩
    have plen := paired_len hpas
    refine ⟨_, rfl, l, _, rfl, SqL.of hl, ?_⟩
    rw [List.length_map, plen]
    refine ⟨_, rfl, fun H1 r s1 hr e1 => ?_⟩
    refine ⟨_, rfl, l, rfl, ⟨_, SqL.of (s1 _ _ hl)⟩, for_list (K := K) (a := l) (xs := pas.map V.ref) (fun i σ H' => ∃ pv, σ = [some (.ref l), some (.ref r), pv] ∧ Same H H' ∧ H' r = some (.lst (ni (little 8 ps.length ++ (ps.take i).flatMap postBytes)))) ⟨none, rfl, s1, by rw [e1]; simp⟩ (fun i σ H' _ ⟨_, _, s, _⟩ => SqL.of (s _ _ hl)) ?_ ?_⟩
    · rintro i y σ H2 hi ⟨pv, rfl, s2, e2⟩
      obtain ⟨pa, hpa, rfl⟩ := refs_get hi
      obtain ⟨p, hpi, dp, s, t, pA, pS, pT, _⟩ := paired_get hpas hpa
      obtain ⟨q8, q31⟩ := hok p (List.mem_of_getElem? hpi)
      have hi32 : i < 32 := by have := (List.getElem?_eq_some_iff.mp hpi).1; omega
      have hlen : (little 8 ps.length ++ (ps.take i).flatMap postBytes).length ≤ 8 + 104 * 32 := by
        rw [List.length_append, little_length, flatMap_len 104 (fun p hp => postBytes_length (by have := (hok p (List.mem_of_mem_take hp)).2; omega)), List.length_take]
        omega
      -- row.extend(bytes_of_stamp(post.stamp))
      refine ⟨_, rfl, .inl ⟨rfl, _, SqL.of e2⟩, _, rfl, pa, _, _, _, _, rfl, s2 _ _ pA, T.cP, T.a_stamp, pF_stamp s t, s, p.stamp, rfl, SqL.of (s2 _ _ pS), q8, fun H3 b3 s3 hb3 e3 => ?_⟩
      refine ⟨r, b3, _, _, rfl, rfl, s3 _ _ e2, e3, ?_, ?_⟩
      · rw [ni_length, ni_length, stampBytes_length]
        exact small_sz (by omega)
      rw [← ni_append]
      have s4 : Same H (upd H3 r (.lst (ni (little 8 ps.length ++ (ps.take i).flatMap postBytes ++ stampBytes p.stamp)))) := (s2.trans s3).free_upd hr
      -- row.extend(bytes_of_number(len(post.text)))
      refine ⟨_, rfl, .inl ⟨rfl, _, SqL.of upd_same⟩, _, rfl, pa, _, _, _, _, rfl, s4 _ _ pA, T.cP, T.a_text, pF_text s t, t, _, rfl, SqL.of (s4 _ _ pT), p.text.length, by rw [ni_length]; rfl, fun H5 b5 s5 hb5 e5 => ?_⟩
      refine ⟨r, b5, _, _, rfl, rfl, s5 _ _ upd_same, e5, ?_, ?_⟩
      · rw [ni_length, ni_length, List.length_append, stampBytes_length, little_length]
        exact small_sz (by omega)
      rw [← ni_append]
      have s6 : Same H (upd H5 r (.lst (ni (little 8 ps.length ++ (ps.take i).flatMap postBytes ++ stampBytes p.stamp ++ little 8 p.text.length)))) := (s4.trans s5).free_upd hr
      -- row.extend(padded_text(post.text))
      refine ⟨_, rfl, .inl ⟨rfl, _, SqL.of upd_same⟩, _, rfl, pa, _, _, _, _, rfl, s6 _ _ pA, T.cP, T.a_text, pF_text s t, t, p.text, rfl, s6 _ _ pT, by omega, fun H7 b7 s7 hb7 e7 => ?_⟩
      refine ⟨r, b7, _, _, rfl, rfl, s7 _ _ upd_same, e7, ?_, ?_⟩
      · rw [ni_length, ni_length, List.length_append, List.length_append, stampBytes_length, little_length, padded_length (by omega)]
        exact small_sz (by omega)
      refine ⟨_, rfl, (s6.trans s7).free_upd hr, ?_⟩
      rw [upd_same, ← ni_append, flatMap_snoc postBytes hpi]
      congr 3
      unfold postBytes
      simp only [List.append_assoc]
    · rintro σ H2 ⟨pv, rfl, s2, e2⟩
      rw [List.length_map, plen, List.take_length] at e2
      refine ⟨_, rfl, (by show 1 ≤ sizeLine; decide), fun z hz' => ?_⟩
      have s3 : Same H2 (upd H2 z (.lst [V.int 0])) := Same.new hz'
      refine ⟨_, rfl, l, _, rfl, SqL.of (s3 _ _ (s2 _ _ hl)), ?_⟩
      rw [List.length_map, plen]
      refine ⟨_, _, rfl, rfl, _, _, rfl, rfl, .inl ⟨by decide, by decide⟩, ?_⟩
      have em : (104 : Int) * ((32 : Int) - (ps.length : Nat)) = ((104 * (32 - ps.length) : Nat) : Int) := by omega
      refine ⟨z, _, [.int 0], rfl, congrArg V.int em, upd_same, by omega, by omega, small_sz (by rw [List.length_singleton]; omega), fun q hq => ?_⟩
      rw [Int.toNat_natCast, flat_zeros]
      refine ⟨r, q, _, _, rfl, rfl, at_new (s3 _ _ e2) hq, upd_same, ?_, fun u hu => ?_⟩
      · rw [ni_length, ni_length, List.length_append, little_length, flatMap_len 104 (fun p hp => postBytes_length (by have := (hok p hp).2; omega)), List.length_replicate]
        exact small_sz (by omega)
      · have kk := k.now (s2.trans (s3.trans (Same.new hq))) hu
        have e : ni (rowBytes ps) = ni (little 8 ps.length ++ ps.flatMap postBytes) ++ ni (List.replicate (104 * (32 - ps.length)) 0) := by
          rw [← ni_append, List.append_assoc]
          rfl
        rw [e] at kk
        exact kk
def spBytesN (CN CP : Addr) : Sp := fun vs H Q _ => ∃ (a : Addr) (L : Lay) (B : Addr → Prop) (x : Sv27.Node), vs = [.ref a] ∧ NodeAt CN CP B H a L x ∧ WF x ∧ RetL H Q (ni (Sv27.save x))
theorem save_eq {x : Sv27.Node} (h : WF x) : Sv27.save x = [x.me, x.n, 0, 0, 0, 0, 0, 0] ++ stampBytes x.seen ++ x.known.flatMap stampBytes ++ rowBytes x.own ++ x.waits.flatMap rowBytes := by
  have e1 : ((List.range 8).flatMap fun i => stampBytes (x.knows i)) = x.known.flatMap stampBytes := flatMap_by_get stampBytes nobody h.known
  have e2 : ((List.range 8).flatMap fun i => rowBytes (x.waiting i)) = x.waits.flatMap rowBytes := flatMap_by_get rowBytes [] h.waitsL
  unfold Sv27.save
  rw [e1, e2]
  simp only [List.append_assoc]
theorem WF.row_len {x : Sv27.Node} (h : WF x) {i : Nat} {ps : List Sv27.Post} (hi : x.waits[i]? = some ps) : ps.length ≤ 32 ∧ ∀ p, p ∈ ps → p.stamp.length = 8 ∧ p.text.length ≤ 31 := by
  have hi8 : i < 8 := by
    have there := List.getElem?_eq_some_iff.mp hi
    have := there.1
    rw [h.waitsL] at this
    exact this
  have e := waiting_get x h.waitsL hi8
  rw [hi] at e
  have e : ps = x.waiting i := Option.some.inj e
  refine ⟨by rw [e]; exact h.waiting_len hi8, fun p hp => ?_⟩
  have q := h.waits ps (List.mem_of_getElem? hi) p hp
  exact ⟨q.len, q.tx⟩
theorem rows_len {x : Sv27.Node} (h : WF x) (n : Nat) : ((x.waits.take n).flatMap rowBytes).length ≤ 3336 * 8 := by
  rw [flatMap_len 3336, List.length_take, h.waitsL]
  · omega
  · intro ps hps
    obtain ⟨i, hi⟩ := List.mem_iff_getElem?.mp (List.mem_of_mem_take hps)
    obtain ⟨h1, h2⟩ := h.row_len hi
    exact rowBytes_length h1 fun p hp => by have := (h2 p hp).2; omega
theorem ok_bytes_of_node (T : Txt K mg CN CP CR) (D : Def K mg "bytes_of_node" s_bytes_of_node) (c_bytes_of_stamp : Cal P w K mg base 2 "bytes_of_stamp" ["stamp"] (spStB K)) (c_bytes_of_posts : Cal P w K mg base 3 "bytes_of_posts" ["posts"] (spBytesP CP)) : Cal P w K mg base 4 "bytes_of_node" ["node"] (spBytesN CN CP) := by
  refine D.cal b_bytes_of_node fun f fd F => F.ok sc_bytes_of_node (fun vs H Q E h => ?_) (fun cdv A outer s H vs Q E hroom h => ?_)
  · obtain ⟨a, L, B, x, rfl, N, hw, k⟩ := h
    rfl
  · obtain ⟨a, L, B, x, rfl, N, hw, k⟩ := h
    refine ⟨_, (pss_cons (ps_set (i := 1) sc_bytes_of_node.nd rfl (by first | exact Or.inl rfl | exact Or.inr rfl) (pe_op op_cat (pe_op op_cat (pe_lst (pa_cons (pe_fld (pv 0) rfl) (pa_cons (pe_fld (pv 0) rfl) pa_nil))) (pe_op op_rep (pe_lst (pa_cons pe_int pa_nil)) (pe_cst T.c_HEAD_ZEROS))) (pe_cal c_bytes_of_stamp (hroom.mono (by decide)) (pa_cons (pe_fld (pv 0) rfl) pa_nil))))
      (pss_cons (ps_for PassesOwn.never rfl (pi_list (pe_fld (pv 0) rfl)) (pg_name (i := 2) sc_bytes_of_node.nd rfl (by first | exact Or.inl rfl | exact Or.inr rfl)) (pss_one (ps_expr (pe_bm PySem.F.plainAttrs_list PySem.F.slot_list_extend PySem.F.type_list_extend mt_extend (pv 1) (pa_cons (pe_cal c_bytes_of_stamp (hroom.mono (by decide)) (pa_cons (pv 2) pa_nil)) pa_nil)))))
      (pss_cons (ps_expr (pe_bm PySem.F.plainAttrs_list PySem.F.slot_list_extend PySem.F.type_list_extend mt_extend (pv 1) (pa_cons (pe_cal c_bytes_of_posts hroom (pa_cons (pe_fld (pv 0) rfl) pa_nil)) pa_nil)))
      (pss_cons (ps_for PassesOwn.never rfl (pi_list (pe_fld (pv 0) rfl)) (pg_name (i := 3) sc_bytes_of_node.nd rfl (by first | exact Or.inl rfl | exact Or.inr rfl)) (pss_one (ps_expr (pe_bm PySem.F.plainAttrs_list PySem.F.slot_list_extend PySem.F.type_list_extend mt_extend (pv 1) (pa_cons (pe_cal c_bytes_of_posts hroom (pa_cons (pv 3) pa_nil)) pa_nil)))))
      (pss_one (ps_ret (pv 1))))))), ?_⟩
    obtain ⟨dx, hA⟩ := N.ins
    obtain ⟨kas, hk, hkas⟩ := N.known
    have klen := paired_len hkas
    have wlen := paired_len N.waits
    rw [save_eq hw] at k
    -- row = [node.me, node.n] + [0] * HEAD_ZEROS + bytes_of_stamp(node.seen)
    refine ⟨_, rfl, a, _, _, _, _, rfl, hA, T.cN, T.a_me, nF_me _ _ _, _, rfl, a, _, _, _, _, rfl, hA, T.cN, T.a_n, nF_n _ _ _, (by show 2 ≤ sizeLine; decide), fun l1 hl1 => ?_⟩
    refine ⟨(by show 1 ≤ sizeLine; decide), fun l2 hl2 => ?_⟩
    refine ⟨l2, 6, [.int 0], rfl, rfl, upd_same, by decide, by decide, (by show 1 * 6 ≤ sizeLine; decide), fun l3 hl3 => ?_⟩
    refine ⟨l1, l3, _, _, rfl, rfl, at_new (at_new upd_same hl2) hl3, upd_same, (by show 2 + 6 ≤ sizeLine; decide), fun l4 hl4 => ?_⟩
    have s1 : Same H (upd (upd (upd (upd H l1 (.lst [V.int (x.me : Nat), V.int (x.n : Nat)])) l2 (.lst [V.int 0])) l3 (.lst (List.replicate (6 : Int).toNat [V.int 0]).flatten)) l4 (.lst (ni [x.me, x.n, 0, 0, 0, 0, 0, 0]))) := ((Same.new hl1).trans (Same.new hl2)).trans ((Same.new hl3).trans (Same.new hl4))
    refine ⟨_, rfl, a, _, _, _, _, rfl, s1 _ _ hA, T.cN, T.a_seen, nF_seen _ _ _, L.s, x.seen, rfl, SqL.of (s1 _ _ N.seen), hw.seen, fun H2 q s2 hq e2 => ?_⟩
    refine ⟨l4, q, _, _, rfl, rfl, s2 _ _ upd_same, e2, ?_, fun r hr => ?_⟩
    · rw [ni_length, stampBytes_length]
      show 8 + 64 ≤ sizeLine
      decide
    have s12 := s1.trans s2
    have hrH : H r = none := s12.none hr
    have s3 : Same H (upd H2 r (.lst (ni ([x.me, x.n, 0, 0, 0, 0, 0, 0] ++ stampBytes x.seen)))) := s12.free_upd hrH
    have e3 : (upd H2 r (.lst (ni ([x.me, x.n, 0, 0, 0, 0, 0, 0] ++ stampBytes x.seen)))) r = some (.lst (ni ([x.me, x.n, 0, 0, 0, 0, 0, 0] ++ stampBytes x.seen ++ (x.known.take 0).flatMap stampBytes))) := by
      rw [upd_same]
      simp
    have eh : (upd H2 r (.lst ([V.int (x.me : Nat), V.int (x.n : Nat)] ++ (List.replicate (6 : Int).toNat [V.int 0]).flatten ++ ni (stampBytes x.seen)))) = upd H2 r (.lst (ni ([x.me, x.n, 0, 0, 0, 0, 0, 0] ++ stampBytes x.seen))) := by
      rw [ni_append]
      rfl
    rw [eh]
    have hd8 : ([x.me, x.n, 0, 0, 0, 0, 0, 0] ++ stampBytes x.seen).length = 72 := by
      rw [List.length_append, stampBytes_length]
      rfl
    -- for stamp in node.known
    refine ⟨_, rfl, a, _, _, _, _, rfl, s3 _ _ hA, T.cN, T.a_known, nF_known _ _ _, L.k, rfl, ⟨_, SqL.of (s3 _ _ hk)⟩, for_list (K := K) (a := L.k) (xs := kas.map V.ref) (fun i σ H' => ∃ sv, σ = [some (.ref a), some (.ref r), sv, none] ∧ Same H H' ∧ H' r = some (.lst (ni ([x.me, x.n, 0, 0, 0, 0, 0, 0] ++ stampBytes x.seen ++ (x.known.take i).flatMap stampBytes)))) ⟨none, rfl, s3, e3⟩ (fun i σ H' _ ⟨_, _, s, _⟩ => SqL.of (s _ _ hk)) ?_ ?_⟩
    · rintro i y σ H4 hi ⟨sv, rfl, s4, e4⟩
      obtain ⟨ka, hka, rfl⟩ := refs_get hi
      obtain ⟨st, hst, hkst, _⟩ := paired_get hkas hka
      have hi8 : i < 8 := by have := (List.getElem?_eq_some_iff.mp hst).1; rw [hw.known] at this; exact this
      refine ⟨_, rfl, .inl ⟨rfl, _, SqL.of e4⟩, _, rfl, ka, st, rfl, SqL.of (s4 _ _ hkst), hw.knownL _ (List.mem_of_getElem? hst), fun H5 b5 s5 hb5 e5 => ?_⟩
      refine ⟨r, b5, _, _, rfl, rfl, s5 _ _ e4, e5, ?_, ⟨_, rfl, (s4.trans s5).free_upd hrH, ?_⟩⟩
      · rw [ni_length, ni_length, List.length_append, hd8, flatMap_len 64 (fun _ _ => stampBytes_length _), stampBytes_length, List.length_take]
        exact small_sz (by omega)
      · rw [upd_same, ← ni_append, flatMap_snoc stampBytes hst, List.append_assoc]
    rintro σ H4 ⟨sv, rfl, s4, e4⟩
    rw [List.length_map, klen, List.take_length] at e4
    have hk8 : ([x.me, x.n, 0, 0, 0, 0, 0, 0] ++ stampBytes x.seen ++ x.known.flatMap stampBytes).length = 584 := by
      rw [List.length_append, hd8, flatMap_len 64 (fun _ _ => stampBytes_length _), hw.known]
    -- row.extend(bytes_of_posts(node.mine))
    refine ⟨_, rfl, .inl ⟨rfl, _, SqL.of e4⟩, _, rfl, a, _, _, _, _, rfl, s4 _ _ hA, T.cN, T.a_mine, nF_mine _ _ _, L.m, B, x.own, rfl, (N.same s4).mine, hw.own, hw.ownL, fun H5 b5 s5 hb5 e5 => ?_⟩
    have ro : (rowBytes x.own).length = 3336 := rowBytes_length hw.ownL fun p hp => by have := (hw.own p hp).2; omega
    refine ⟨r, b5, _, _, rfl, rfl, s5 _ _ e4, e5, ?_, ?_⟩
    · rw [ni_length, ni_length, hk8, ro]
      decide
    rw [← ni_append]
    have s6 : Same H (upd H5 r (.lst (ni ([x.me, x.n, 0, 0, 0, 0, 0, 0] ++ stampBytes x.seen ++ x.known.flatMap stampBytes ++ rowBytes x.own)))) := (s4.trans s5).free_upd hrH
    have e6 : (upd H5 r (.lst (ni ([x.me, x.n, 0, 0, 0, 0, 0, 0] ++ stampBytes x.seen ++ x.known.flatMap stampBytes ++ rowBytes x.own)))) r = some (.lst (ni ([x.me, x.n, 0, 0, 0, 0, 0, 0] ++ stampBytes x.seen ++ x.known.flatMap stampBytes ++ rowBytes x.own ++ (x.waits.take 0).flatMap rowBytes))) := by
      rw [upd_same]
      simp
    -- for posts in node.waits
    refine ⟨_, rfl, a, _, _, _, _, rfl, s6 _ _ hA, T.cN, T.a_waits, nF_waits _ _ _, L.w, rfl, ⟨_, SqL.of (s6 _ _ N.wl)⟩, for_list (K := K) (a := L.w) (xs := L.ws.map V.ref) (fun i σ H' => ∃ sv pv, σ = [some (.ref a), some (.ref r), sv, pv] ∧ Same H H' ∧ H' r = some (.lst (ni ([x.me, x.n, 0, 0, 0, 0, 0, 0] ++ stampBytes x.seen ++ x.known.flatMap stampBytes ++ rowBytes x.own ++ (x.waits.take i).flatMap rowBytes)))) ⟨_, none, rfl, s6, e6⟩ (fun i σ H' _ ⟨_, _, _, s, _⟩ => SqL.of (s _ _ N.wl)) ?_ ?_⟩
    · rintro i y σ H7 hi ⟨sv, pv, rfl, s7, e7⟩
      obtain ⟨wl, hwl, rfl⟩ := refs_get hi
      obtain ⟨ps, hps, hpo⟩ := paired_get (N.same s7).waits hwl
      obtain ⟨r1, r2⟩ := hw.row_len hps
      refine ⟨_, rfl, .inl ⟨rfl, _, SqL.of e7⟩, _, rfl, wl, B, ps, rfl, hpo, r2, r1, fun H8 b8 s8 hb8 e8 => ?_⟩
      refine ⟨r, b8, _, _, rfl, rfl, s8 _ _ e7, e8, ?_, ⟨_, _, rfl, (s7.trans s8).free_upd hrH, ?_⟩⟩
      · rw [ni_length, ni_length, List.length_append, List.length_append, hk8, ro, rowBytes_length r1 fun p hp => by have := (r2 p hp).2; omega]
        have := rows_len hw i
        exact small_sz (by omega)
      · rw [upd_same, ← ni_append, flatMap_snoc rowBytes hps, List.append_assoc]
    · rintro σ H7 ⟨sv, pv, rfl, s7, e7⟩
      rw [List.length_map, wlen, List.take_length] at e7
      exact ⟨_, rfl, k _ _ s7 hrH e7⟩
end
end Po

namespace Po
open PySem PySem.Spec PyProof.Rows L2
open Sv27 (little stampBytes stampOf stampOk nobody padded Bytes Stamp of word rowBytes postBytes)
set_option linter.all false
/-- None, or a post that is new in all its parts -/
def OptP (CP : Addr) (H H' : Hp) (v : V) : Option Sv27.Post → Prop
  | none => v = .non
  | some p => ∃ a dx s t, v = .ref a ∧ H a = none ∧ H s = none ∧ H t = none ∧ H' a = some (.ins CP dx (pF s t)) ∧ H' s = some (.lst (ni p.stamp)) ∧ H' t = some (.lst (ni p.text))
/-- a post that is new in all its parts, none of them the list at l -/
def NewP (CP : Addr) (H : Hp) (l : Addr) (H' : Hp) (a : Addr) (p : Sv27.Post) : Prop :=
  ∃ dx s t, H a = none ∧ H s = none ∧ H t = none ∧ a ≠ l ∧ s ≠ l ∧ t ≠ l ∧ H' a = some (.ins CP dx (pF s t)) ∧ H' s = some (.lst (ni p.stamp)) ∧ H' t = some (.lst (ni p.text))
def OptL (CP : Addr) (H : Hp) (l : Addr) (H' : Hp) (v : V) : Option Sv27.Post → Prop
  | none => v = .non
  | some p => ∃ a, v = .ref a ∧ NewP CP H l H' a p
def OptPs (CP : Addr) (H H' : Hp) (v : V) : Option (List Sv27.Post) → Prop
  | none => v = .non
  | some ps => ∃ (l : Addr) (pas : List Addr), v = .ref l ∧ H l = none ∧ H' l = some (.lst (pas.map V.ref)) ∧ Paired (NewP CP H l H') pas ps
theorem optL_none {CP : Addr} {H : Hp} {l : Addr} {H' : Hp} {v : V} {o : Option Sv27.Post} (h : OptL CP H l H' v o) : decide (v = .non) = o.isNone := by
  cases o with
  | none =>
    have h : v = .non := h
    rw [h]
    rfl
  | some p =>
    obtain ⟨a, e, _⟩ := h
    rw [e]
    rfl
theorem optL_all {CP : Addr} {H : Hp} {l : Addr} {H' : Hp} : ∀ {vs : List V} {os : List (Option Sv27.Post)}, Paired (OptL CP H l H') vs os → os.any (·.isNone) = false → ∃ pas : List Addr, vs = pas.map V.ref ∧ Paired (NewP CP H l H') pas (os.filterMap id)
  | [], [], .nil, _ => ⟨[], rfl, .nil⟩
  | v :: vs, o :: os, .cons h r, e => by
    rw [List.any_cons, Bool.or_eq_false_iff] at e
    obtain ⟨pas, e1, e2⟩ := optL_all r e.2
    cases o with
    | none => cases e.1
    | some p =>
      obtain ⟨a, ea, hp⟩ := h
      exact ⟨a :: pas, by rw [ea, e1]; rfl, .cons hp e2⟩
theorem NewP.but {CP : Addr} {H : Hp} {l : Addr} {H1 H2 : Hp} {a : Addr} {p : Sv27.Post} {r CR dxr : Addr} {fs : List (Str × V)} (h : NewP CP H l H1 a p) (b : But r H1 H2) (hr : H1 r = some (.ins CR dxr fs)) (hf : ∀ s t, fs ≠ pF s t) : NewP CP H l H2 a p := by
  obtain ⟨dx, s, t, n1, n2, n3, d1, d2, d3, q1, q2, q3⟩ := h
  refine ⟨dx, s, t, n1, n2, n3, d1, d2, d3, b _ _ q1 (ne_of q1 hr ?_), b _ _ q2 (ne_of q2 hr (by intro z; cases z)), b _ _ q3 (ne_of q3 hr (by intro z; cases z))⟩
  intro z
  injection z with z1 z2 z3
  exact hf s t z3.symm
theorem OptL.but {CP : Addr} {H : Hp} {l : Addr} {H1 H2 : Hp} {v : V} {o : Option Sv27.Post} {r CR dxr : Addr} {fs : List (Str × V)} (h : OptL CP H l H1 v o) (b : But r H1 H2) (hr : H1 r = some (.ins CR dxr fs)) (hf : ∀ s t, fs ≠ pF s t) : OptL CP H l H2 v o := by
  cases o with
  | none => exact h
  | some p =>
    obtain ⟨a, e, q⟩ := h
    exact ⟨a, e, q.but b hr hf⟩
theorem rF_pF (l : Addr) (i : Nat) : ∀ s t, rF l i ≠ pF s t := by
  intro s t z
  injection z with z1 z2
  injection z1 with z3 z4
  exact absurd z3 (by decide +kernel)
/-- a store at the list l itself -/
theorem NewP.updL {CP : Addr} {H : Hp} {l : Addr} {H1 : Hp} {a : Addr} {p : Sv27.Post} {o : HO} (h : NewP CP H l H1 a p) : NewP CP H l (upd H1 l o) a p := by
  obtain ⟨dx, s, t, n1, n2, n3, d1, d2, d3, q1, q2, q3⟩ := h
  exact ⟨dx, s, t, n1, n2, n3, d1, d2, d3, by rw [upd_ne d1]; exact q1, by rw [upd_ne d2]; exact q2, by rw [upd_ne d3]; exact q3⟩
theorem OptL.updL {CP : Addr} {H : Hp} {l : Addr} {H1 : Hp} {v : V} {q : Option Sv27.Post} {o : HO} (h : OptL CP H l H1 v q) : OptL CP H l (upd H1 l o) v q := by
  cases q with
  | none => exact h
  | some p =>
    obtain ⟨a, e, q⟩ := h
    exact ⟨a, e, q.updL⟩
theorem But.free_upd {r : Addr} {H H' : Hp} {p : Addr} {o : HO} (s : But r H H') (h : H p = Option.none) : But r H (L2.upd H' p o) := fun b u e n => by
  rw [upd_ne (ne_of_none e h)]
  exact s b u e n
section
variable {P : Program} {w : World} {K : PySem.W.Frag} {mg : Str → Option Value} {base : Heap} {CN CP CR : Addr}
def spReadP (K : PySem.W.Frag) (CP CR : Addr) : Sp := fun vs H Q _ => ∃ (r ls : Addr) (i : Nat) (b : Bytes) (n : Nat), vs = [.ref r, .int (n : Int)] ∧ RdAt CR H r ls i ∧ SqL K H ls (ni b) ∧ Small b ∧ i + 104 ≤ b.length ∧ n ≤ 8 ∧
  ∀ H' v, RdAt CR H' r ls (i + 104) → But r H H' → OptP CP H H' v (rdPost n ((b.drop i).take 104)) → Q v H'
theorem rd_word (b : Bytes) (i : Nat) : val ((b.drop (i + 64)).take 8) = word ((b.drop i).take 104) 64 8 := by
  rw [word_eq, List.drop_take, List.take_take, List.drop_drop]
  congr 2
theorem rd_stamp (b : Bytes) (i : Nat) : stampOf ((b.drop i).take 64) = stampOf ((b.drop i).take 104) := by
  rw [← stampOf_take ((b.drop i).take 104), List.take_take]
  congr 2
theorem rd_text (b : Bytes) (i : Nat) : (b.drop (i + 64 + 8)).take 32 = (((b.drop i).take 104).drop 72).take 32 := by
  rw [List.drop_take, List.take_take, List.drop_drop]
  congr 2
theorem ok_read_post (T : Txt K mg CN CP CR) (D : Def K mg "read_post" s_read_post) (c_stamp_of_bytes : Cal P w K mg base 2 "stamp_of_bytes" ["row"] (spStOf K)) (c_number_of_bytes : Cal P w K mg base 1 "number_of_bytes" ["row"] (spNumOf K)) (m_take_some : MCal P w K mg base 1 CR "take_some" ["self", "length"] (spSome K CR)) (c_is_stamp : Cal P w K mg base 1 "is_stamp" ["stamp", "n"] (spIsSt K)) (c_is_padded_text : Cal P w K mg base 1 "is_padded_text" ["length", "row"] (spIsPad K)) (i_Post : ICal P w K mg base 1 CP "Post" ["self", "stamp", "text"] (spPostI CP)) : Cal P w K mg base 3 "read_post" ["reader", "n"] (spReadP K CP CR) := by
  obtain ⟨mf_take_some, mfd_take_some, mt_take_some, mb_take_some, mF_take_some⟩ := m_take_some.ex
  refine D.cal b_read_post fun f fd F => F.ok sc_read_post (fun vs H Q E h => ?_) (fun cdv A outer s H vs Q E hroom h => ?_)
  · obtain ⟨r, ls, i, b, n, rfl, hR, hS, hs, hl, hn, k⟩ := h
    rfl
  · obtain ⟨r, ls, i, b, n, rfl, hR, hS, hs, hl, hn, k⟩ := h
    refine ⟨_, (pss_cons (ps_set (i := 2) sc_read_post.nd rfl (by first | exact Or.inl rfl | exact Or.inr rfl) (pe_cal c_stamp_of_bytes hroom (pa_cons (pe_meth (pv 0) T.cR mt_take_some mF_take_some (hroom.mono (by decide)) mb_take_some .nil pass0 (pa_cons (pe_cst T.c_STAMP_BYTES) pa_nil)) pa_nil)))
      (pss_cons (ps_set (i := 3) sc_read_post.nd rfl (by first | exact Or.inl rfl | exact Or.inr rfl) (pe_cal c_number_of_bytes (hroom.mono (by decide)) (pa_cons (pe_meth (pv 0) T.cR mt_take_some mF_take_some (hroom.mono (by decide)) mb_take_some .nil pass0 (pa_cons (pe_cst T.c_NUMBER_BYTES) pa_nil)) pa_nil)))
      (pss_cons (ps_set (i := 4) sc_read_post.nd rfl (by first | exact Or.inl rfl | exact Or.inr rfl) (pe_meth (pv 0) T.cR mt_take_some mF_take_some (hroom.mono (by decide)) mb_take_some .nil pass0 (pa_cons (pe_cst T.c_TEXT_BYTES) pa_nil)))
      (pss_cons (ps_if (PW.pt (pw_and (pt_val (pe_cal c_is_stamp (hroom.mono (by decide)) (pa_cons (pv 2) (pa_cons (pv 1) pa_nil)))) (pw_and1 (pt_val (pe_cal c_is_padded_text (hroom.mono (by decide)) (pa_cons (pv 3) (pa_cons (pv 4) pa_nil))))))) (pss_one (ps_ret (pe_ical i_Post hroom (pa_cons (pv 2) (pa_cons (pe_slice sl_list (pv 4) po_none (po_some (pv 3))) pa_nil))))) pss_nil)
      (pss_one (ps_ret pe_non)))))), ?_⟩
    obtain ⟨dx, hr⟩ := id hR
    have ec : ∀ j m, ((ni b).drop j).take m = ni ((b.drop j).take m) := fun j m => by rw [ni_take, ni_drop]
    -- stamp
    refine ⟨_, rfl, r, _, _, rfl, hr, rF_none ls i (by decide +kernel) (by decide +kernel), r, ls, i, 64, _, rfl, hR, hS, fun H1 p1 hR1 b1 hp1 e1 => ?_⟩
    rw [ec] at e1
    refine ⟨p1, (b.drop i).take 64, rfl, SqL.of e1, (by rw [List.length_take, List.length_drop]; omega), (hs.drop _).take _, fun H2 st s2 hst e2 => ?_⟩
    obtain ⟨dx1, hr1⟩ := hR1
    have hr2 := s2 _ _ hr1
    have b2 : But r H H2 := b1.trans (But.of_same s2)
    -- length
    refine ⟨_, rfl, r, _, _, rfl, hr2, rF_none ls (i + 64) (by decide +kernel) (by decide +kernel), r, ls, i + 64, 8, _, rfl, ⟨dx1, hr2⟩, b2.seq hr hS, fun H3 p3 hR3 b3 hp3 e3 => ?_⟩
    rw [ec] at e3
    have b03 := b2.trans b3
    refine ⟨p3, (b.drop (i + 64)).take 8, rfl, SqL.of e3, (hs.drop _).take _, (by rw [List.length_take]; omega), ?_⟩
    rw [rd_word]
    obtain ⟨dx3, hr3⟩ := hR3
    -- padded
    refine ⟨_, rfl, r, _, _, rfl, hr3, rF_none ls (i + 64 + 8) (by decide +kernel) (by decide +kernel), r, ls, i + 64 + 8, 32, _, rfl, ⟨dx3, hr3⟩, b03.seq hr hS, fun H4 p4 hR4 b4 hp4 e4 => ?_⟩
    rw [ec, rd_text] at e4
    have b04 := b03.trans b4
    obtain ⟨dx4, hr4⟩ := hR4
    have hR4 : RdAt CR H4 r ls (i + 104) := ⟨dx4, hr4⟩
    have nst : ∀ {H5 : Hp}, H5 st = none → False → True := fun _ _ => trivial
    -- the stamp's list stands
    have e24 : H4 st = some (.lst (ni (stampOf ((b.drop i).take 104)))) := by
      rw [← rd_stamp]
      exact b4 _ _ (b3 _ _ e2 (ne_of e2 hr2 (by intro z; cases z))) (ne_of (b3 _ _ e2 (ne_of e2 hr2 (by intro z; cases z))) hr3 (by intro z; cases z))
    have hstH : H st = none := b1.none hst (by rw [hr1]; exact fun q => nomatch q)
    refine ⟨_, rfl, _, rfl, st, stampOf ((b.drop i).take 104), n, rfl, SqL.of e24, stampOf_length _, hn, fun H5 s5 => ⟨_, rfl, ?_⟩⟩
    have hR5 : RdAt CR H5 r ls (i + 104) := ⟨dx4, s5 _ _ hr4⟩
    have b05 := b04.trans (But.of_same s5)
    cases hk : stampOk n (stampOf ((b.drop i).take 104)) with
    | false =>
      refine iteF (iteF ?_)
      refine k H5 .non hR5 b05 ?_
      unfold rdPost
      rw [hk, Bool.false_and, if_neg (by decide)]
      rfl
    | true =>
      refine iteT ⟨_, rfl, _, rfl, word ((b.drop i).take 104) 64 8, p4, _, rfl, SqL.of (s5 _ _ e4), fun H6 s6 => ⟨_, rfl, ?_⟩⟩
      have hR6 : RdAt CR H6 r ls (i + 104) := ⟨dx4, s6 _ _ (s5 _ _ hr4)⟩
      have b06 := b05.trans (But.of_same s6)
      cases hp : isPad (word ((b.drop i).take 104) 64 8) ((((b.drop i).take 104).drop 72).take 32) with
      | false =>
        refine iteF ?_
        refine k H6 .non hR6 b06 ?_
        unfold rdPost
        rw [hk, hp, Bool.and_false, if_neg (by decide)]
        rfl
      | true =>
        refine iteT ⟨_, rfl, _, rfl, _, rfl, _, rfl, p4, _, rfl, SqL.of (s6 _ _ (s5 _ _ e4)), fun t ht => ?_⟩
        rw [cutV_to, ← ni_take]
        intro a da na nda ne
        have s7 := Same.new (o := HO.lst (ni (((((b.drop i).take 104).drop 72).take 32).take (word ((b.drop i).take 104) 64 8)))) ht
        refine ⟨a, da, st, t, rfl, upd_same, fun H8 ha kp => ⟨rfl, ?_⟩⟩
        have s8 : Same _ H8 := Same.made na nda kp
        have b08 := b06.trans (But.of_same (s7.trans s8))
        have nr : H6 r ≠ none := by rw [s6 _ _ (s5 _ _ hr4)]; exact fun q => nomatch q
        refine k H8 (.ref a) ⟨dx4, s8 _ _ (s7 _ _ (s6 _ _ (s5 _ _ hr4)))⟩ b08 ?_
        unfold rdPost
        rw [hk, hp, Bool.and_true, if_pos rfl]
        exact ⟨a, da, st, t, rfl, b06.none (s7.none na) nr, hstH, b06.none ht nr, ha, s8 _ _ (s7 _ _ (s6 _ _ (s5 _ _ e24))), s8 _ _ upd_same⟩
end
end Po

namespace Po
open PySem PySem.Spec PyProof.Rows L2
open Sv27 (little stampBytes stampOf stampOk nobody padded Bytes Stamp of word rowBytes postBytes)
set_option linter.all false
theorem room_piece (b : Bytes) (i k : Nat) (h : k < 32) : (((b.drop (i + 8)).take 3328).drop (104 * k)).take 104 = piece ((b.drop i).take 3336) k := by
  unfold piece
  rw [List.drop_take, List.drop_take, List.take_take, List.take_take, List.drop_drop, List.drop_drop, Nat.min_eq_left (by omega), Nat.min_eq_left (by omega), Nat.add_assoc]
theorem room_rest (b : Bytes) (i m : Nat) (h : m ≤ 32) : (((b.drop (i + 8)).take 3328).drop (104 * m)).take (104 * (32 - m)) = (((b.drop i).take 3336).drop (8 + 104 * m)).take (104 * (32 - m)) := by
  rw [List.drop_take, List.drop_take, List.take_take, List.take_take, List.drop_drop, List.drop_drop, Nat.min_eq_left (by omega), Nat.min_eq_left (by omega), Nat.add_assoc]
theorem room_word (b : Bytes) (i : Nat) : val ((b.drop i).take 8) = word ((b.drop i).take 3336) 0 8 := by
  rw [word_eq, List.drop_zero, List.take_take]
  congr 2
theorem bools_range (os : List (Option Sv27.Post)) : (List.range os.length).filterMap (fun j => (os.map fun o => V.bl o.isNone)[j]?) = (os.map fun o => o.isNone).map V.bl := by
  have q := range_map (fun o : Option Sv27.Post => V.bl o.isNone) os
  rw [List.map_map]
  refine Eq.trans ?_ q
  congr 1
  funext j
  rw [List.getElem?_map]
section
variable {P : Program} {w : World} {K : PySem.W.Frag} {mg : Str → Option Value} {base : Heap} {CN CP CR : Addr}
def spReadPs (K : PySem.W.Frag) (CP CR : Addr) : Sp := fun vs H Q _ => ∃ (r ls : Addr) (i : Nat) (b : Bytes) (n : Nat), vs = [.ref r, .int (n : Int)] ∧ RdAt CR H r ls i ∧ SqL K H ls (ni b) ∧ Small b ∧ i + 3336 ≤ b.length ∧ n ≤ 8 ∧
  ∀ H' v, RdAt CR H' r ls (i + 3336) → But r H H' → OptPs CP H H' v (rdPosts n ((b.drop i).take 3336)) → Q v H'
theorem ok_read_posts (T : Txt K mg CN CP CR) (D : Def K mg "read_posts" s_read_posts) (c_number_of_bytes : Cal P w K mg base 1 "number_of_bytes" ["row"] (spNumOf K)) (i_Reader : ICal P w K mg base 1 CR "Reader" ["self", "numbers"] (spRdI CR)) (m_take_some : MCal P w K mg base 1 CR "take_some" ["self", "length"] (spSome K CR)) (c_read_post : Cal P w K mg base 3 "read_post" ["reader", "n"] (spReadP K CP CR)) : Cal P w K mg base 4 "read_posts" ["reader", "n"] (spReadPs K CP CR) := by
  obtain ⟨mf_take_some, mfd_take_some, mt_take_some, mb_take_some, mF_take_some⟩ := m_take_some.ex
  refine D.cal b_read_posts fun f fd F => F.ok sc_read_posts (fun vs H Q E h => ?_) (fun cdv A outer s H vs Q E hroom h => ?_)
  · obtain ⟨r, ls, i, b, n, rfl, hR, hS, hs, hl, hn, k⟩ := h
    rfl
  · obtain ⟨r, ls, i, b, n, rfl, hR, hS, hs, hl, hn, k⟩ := h
    refine ⟨_, (pss_cons (ps_set (i := 2) sc_read_posts.nd rfl (by first | exact Or.inl rfl | exact Or.inr rfl) (pe_cal c_number_of_bytes (hroom.mono (by decide)) (pa_cons (pe_meth (pv 0) T.cR mt_take_some mF_take_some (hroom.mono (by decide)) mb_take_some .nil pass0 (pa_cons (pe_cst T.c_NUMBER_BYTES) pa_nil)) pa_nil)))
      (pss_cons (ps_set (i := 3) sc_read_posts.nd rfl (by first | exact Or.inl rfl | exact Or.inr rfl) (pe_ical i_Reader (hroom.mono (by decide)) (pa_cons (pe_meth (pv 0) T.cR mt_take_some mF_take_some (hroom.mono (by decide)) mb_take_some .nil pass0 (pa_cons (pe_op op_mul (pe_cst T.c_SAVED_POST_BYTES) (pe_cst T.c_ROOM)) pa_nil)) pa_nil)))
      (pss_cons (ps_if (pt_cmpR op_gt (pv 2) (pe_cst T.c_ROOM) (nomark _)) (pss_one (ps_ret pe_non)) pss_nil)
      (pss_cons (ps_setLc (i := 4) (own := [("k", 5)]) (g := (gName 5)) (tt := tYes) (te := (tCall (spReadP K CP CR) [] E0 (tCons (tVar 3) (tCons (tVar 1) tNil)))) rfl sc_read_posts.nd rfl rfl (sw_true rfl rfl rfl (by decide +kernel)) (pi_range1 (by rfl) T.b.range (pa_cons (pv 2) pa_nil)) (blkOk_by (N := N_read_posts) (sc := defScope s_read_posts) (by decide +kernel)) (fun _ _ _ _ _ => (pg_name (i := 5) sc_read_posts.nd rfl (by first | exact Or.inl rfl | exact Or.inr rfl))) (fun _ _ _ _ _ => pts_nil) (fun _ _ _ _ _ => (pe_cal c_read_post hroom (pa_cons (pv 3) (pa_cons (pv 1) pa_nil)))))
      (pss_cons (ps_if (pt_val (pe_callB (cr_any rfl) (by rfl) T.b.any (by decide +kernel) (pa_cons (pe_lc (own := [("post", 6)]) (g := (gName 6)) (tt := tYes) (te := (tOp (fun x y H Q => y = V.non ∧ Q (.bl (decide (x = V.non))) H) (tVar 6) (tC .non))) rfl sc_read_posts.nd (pi_list (pv 4)) (blkOk_by (N := N_read_posts) (sc := defScope s_read_posts) (by decide +kernel)) (fun _ _ _ _ _ => (pg_name (i := 6) sc_read_posts.nd rfl (by first | exact Or.inl rfl | exact Or.inr rfl))) (fun _ _ _ _ _ => pts_nil) (fun _ _ _ _ _ => (pe_cmpR op_isN (pv 6) pe_non (nomark _)))) pa_nil))) (pss_one (ps_ret pe_non)) pss_nil)
      (pss_cons (ps_if (pt_val (pe_callB (cr_anyI rfl) (by rfl) T.b.any (by decide +kernel) (pa_cons (pe_meth (pv 3) T.cR mt_take_some mF_take_some (hroom.mono (by decide)) mb_take_some .nil pass0 (pa_cons (pe_op op_mul (pe_cst T.c_SAVED_POST_BYTES) (pe_op op_sub (pe_cst T.c_ROOM) (pv 2))) pa_nil)) pa_nil))) (pss_one (ps_ret pe_non)) pss_nil)
      (pss_one (ps_ret (pv 4))))))))), ?_⟩
    obtain ⟨dx, hr⟩ := id hR
    have ec : ∀ (b : Bytes) j m, ((ni b).drop j).take m = ni ((b.drop j).take m) := fun b j m => by rw [ni_take, ni_drop]
    -- how_many
    refine ⟨_, rfl, r, _, _, rfl, hr, rF_none ls i (by decide +kernel) (by decide +kernel), r, ls, i, 8, _, rfl, hR, hS, fun H1 p1 hR1 b1 hp1 e1 => ?_⟩
    rw [ec] at e1
    obtain ⟨dx1, hr1⟩ := id hR1
    refine ⟨p1, (b.drop i).take 8, rfl, SqL.of e1, (hs.drop _).take _, (by rw [List.length_take]; omega), ?_⟩
    rw [room_word]
    -- room
    refine ⟨_, rfl, r, _, _, rfl, hr1, rF_none ls (i + 8) (by decide +kernel) (by decide +kernel), _, _, rfl, rfl, .inl ⟨by decide, by decide⟩, r, ls, i + 8, 3328, _, rfl, hR1, b1.seq hr hS, fun H2 p2 hR2 b2 hp2 e2 => ?_⟩
    rw [ec] at e2
    obtain ⟨dx2, hr2⟩ := id hR2
    intro rm drm nrm ndrm ne
    refine ⟨rm, drm, p2, rfl, upd_same, fun H3 hrm kp => ⟨rfl, ?_⟩⟩
    have s3 : Same H2 H3 := Same.made nrm ndrm kp
    have b03 : But r H H3 := (b1.trans b2).trans (But.of_same s3)
    have hr3 := s3 _ _ hr2
    have e23 := s3 _ _ e2
    have nr3 : ∀ {H' : Hp} {o : HO}, H' r = some o → H' r ≠ none := fun e q => by rw [e] at q; cases q
    have rmr : rm ≠ r := fun z => by rw [z, hr2] at nrm; cases nrm
    have hR3 : RdAt CR H3 r ls (i + 3336) := ⟨dx2, hr3⟩
    have hsrb : Small ((b.drop (i + 8)).take 3328) := (hs.drop _).take _
    have hlrb : ((b.drop (i + 8)).take 3328).length = 3328 := by rw [List.length_take, List.length_drop]; omega
    -- if how_many > ROOM
    refine ⟨_, rfl, _, _, rfl, rfl, _, rfl, ite2 (fun c => ?_) (fun c => ?_)⟩
    · refine k H3 .non hR3 b03 ?_
      unfold rdPosts
      rw [if_pos (by have := of_decide_eq_true c; omega)]
      rfl
    have hm : word ((b.drop i).take 3336) 0 8 ≤ 32 := by
      refine Classical.byContradiction fun q => c (decide_eq_true (by omega))
    -- posts = [read_post(room, n) for k in range(how_many)]
    refine ⟨_, rfl, _, rfl, by omega, by omega, fun D hD => lc_range (lo := 0) (n := word ((b.drop i).take 3336) 0 8) (fun j H' => ∃ vs, RdAt CR H' rm p2 (104 * j) ∧ But rm H3 H' ∧ H' D = some (.lst vs) ∧ Paired (OptL CP H D H') vs ((List.range j).map fun j => rdPost n (piece ((b.drop i).take 3336) j))) ?_ ?_ ?_⟩
    · exact ⟨[], ⟨drm, at_new hrm hD⟩, But.of_same (Same.new hD), upd_same, .nil⟩
    · rintro j H4 hj ⟨vs, hR4, b4, e4, hpd⟩
      obtain ⟨dx4, hr4⟩ := id hR4
      have hDrm : D ≠ rm := ne_of e4 hr4 (by intro z; cases z)
      refine ⟨rfl, iteT (B := ∃ vs, RdAt CR H4 rm p2 (104 * (j + 1)) ∧ But rm H3 H4 ∧ H4 D = some (.lst vs) ∧ Paired (OptL CP H D H4) vs ((List.range (j + 1)).map fun j => rdPost n (piece ((b.drop i).take 3336) j))) ?_⟩
      refine ⟨_, rfl, _, rfl, rm, p2, 104 * j, (b.drop (i + 8)).take 3328, n, rfl, hR4, b4.seq hrm (SqL.of e23), hsrb, by rw [hlrb]; omega, hn, fun H5 v hR5 b5 ho => ?_⟩
      rw [room_piece b i j (by omega)] at ho
      obtain ⟨dx5, hr5⟩ := id hR5
      have e5 := b5 _ _ e4 hDrm
      have b35 := b4.trans b5
      -- what is new at this turn is no part of what was
      have hfr : ∀ {c : Addr}, H4 c = none → H c = none ∧ c ≠ D := fun {c} hc => by
        refine ⟨?_, fun z => by rw [z, e4] at hc; cases hc⟩
        have q3 : H3 c = none := b4.none hc (by rw [hr4]; exact fun q => nomatch q)
        exact b03.none q3 (nr3 hr3)
      have ho' : OptL CP H D H5 v (rdPost n (piece ((b.drop i).take 3336) j)) := by
        cases q : rdPost n (piece ((b.drop i).take 3336) j) with
        | none =>
          rw [q] at ho
          exact ho
        | some p =>
          rw [q] at ho
          obtain ⟨a, da, s, t, ev, n1, n2, n3, q1, q2, q3⟩ := ho
          exact ⟨a, ev, da, s, t, (hfr n1).1, (hfr n2).1, (hfr n3).1, (hfr n1).2, (hfr n2).2, (hfr n3).2, q1, q2, q3⟩
      refine ⟨vs, e5, ?_, vs ++ [v], ⟨dx5, ?_⟩, ?_, upd_same, ?_⟩
      · have := paired_len hpd
        rw [List.length_map, List.length_range] at this
        have hz : vs.length ≤ 16000000 := by omega
        exact small_lt hz
      · rw [upd_ne (fun z => hDrm z.symm)]
        exact hr5
      · exact b35.free_upd hD
      · rw [List.range_succ, List.map_append]
        refine paired_append (paired_imp (fun _ _ q => (q.but b5 hr4 (rF_pF _ _)).updL) hpd) (.cons ho'.updL .nil)
    rintro H4 ⟨vs, hR4, b4, e4, hpd⟩
    obtain ⟨dx4, hr4⟩ := id hR4
    have hDrm : D ≠ rm := ne_of e4 hr4 (by intro z; cases z)
    have hr4r : H4 r = some (.ins CR dx2 (rF ls (i + 3336))) := b4 _ _ hr3 (fun z => rmr z.symm)
    have b04 : But r H H4 := fun c o e n => b4 _ _ (b03 _ _ e n) fun z => by
      have q2 := (b1.trans b2) c o e n
      rw [z, nrm] at q2
      cases q2
    have vlen := paired_len hpd
    rw [List.length_map, List.length_range] at vlen
    -- if any([post is None for post in posts])
    refine ⟨_, rfl, D, rfl, ⟨_, SqL.of e4⟩, fun D2 hD2 => lc_pure (K := K) (fun j => (((List.range (word ((b.drop i).take 3336) 0 8)).map fun j => rdPost n (piece ((b.drop i).take 3336) j)).map fun o => V.bl o.isNone)[j]?) (SqL.of e4) (by omega) hD2 ?_ ?_⟩
    · intro j y H5 hj s5 R C hR hC
      obtain ⟨o, ho, hol⟩ := paired_get hpd hj
      refine ⟨rfl, iteT (B := C H5) ⟨_, rfl, rfl, ?_⟩⟩
      rw [optL_none hol]
      exact hR _ (by rw [List.getElem?_map, ho]; rfl)
    intro H5 s5 e5
    have emap := bools_range ((List.range (word ((b.drop i).take 3336) 0 8)).map fun j => rdPost n (piece ((b.drop i).take 3336) j))
    rw [List.length_map, List.length_range] at emap
    rw [vlen, emap] at e5
    refine ⟨D2, _, rfl, SqL.of e5, ?_⟩
    refine ⟨_, rfl, ?_⟩
    rw [List.any_map]
    have hr5r := s5 _ _ hr4r
    have b05 := b04.trans (But.of_same s5)
    cases hany : ((List.range (word ((b.drop i).take 3336) 0 8)).map fun j => rdPost n (piece ((b.drop i).take 3336) j)).any (id ∘ fun o => o.isNone) with
    | true =>
      have hany2 : ((List.range (word ((b.drop i).take 3336) 0 8)).map fun j => rdPost n (piece ((b.drop i).take 3336) j)).any (·.isNone) = true := hany
      refine iteT (k H5 .non ⟨dx2, hr5r⟩ b05 ?_)
      unfold rdPosts
      rw [if_neg (by omega), if_pos hany2]
      rfl
    | false =>
      have hany' : ((List.range (word ((b.drop i).take 3336) 0 8)).map fun j => rdPost n (piece ((b.drop i).take 3336) j)).any (·.isNone) = false := hany
      obtain ⟨pas, evs, hpas⟩ := optL_all hpd hany'
      subst evs
      refine iteF ?_
      -- if any(room.take_some(..))
      have em : (104 : Int) * ((32 : Int) - (word ((b.drop i).take 3336) 0 8 : Nat)) = ((104 * (32 - word ((b.drop i).take 3336) 0 8) : Nat) : Int) := by omega
      have hr5 := s5 _ _ hr4
      refine ⟨_, rfl, rm, _, _, rfl, hr5, rF_none p2 _ (by decide +kernel) (by decide +kernel), _, rfl, _, _, rfl, rfl, _, _, rfl, rfl, .inl ⟨by decide, by decide⟩, rm, p2, 104 * word ((b.drop i).take 3336) 0 8, 104 * (32 - word ((b.drop i).take 3336) 0 8), _, congrArg (fun z => [V.ref rm, V.int z]) em, ⟨dx4, hr5⟩, s5.seq (b4.seq hrm (SqL.of e23)), fun H6 p6 hR6 b6 hp6 e6 => ?_⟩
      rw [ec, room_rest b i _ hm] at e6
      obtain ⟨dx6, hr6⟩ := id hR6
      have hr6r := b6 _ _ hr5r (fun z => rmr z.symm)
      have b06 : But r H H6 := fun c o e n => b6 _ _ (b05 _ _ e n) fun z => by
        have q2 := (b1.trans b2) c o e n
        rw [z, nrm] at q2
        cases q2
      refine ⟨p6, nints ((((b.drop i).take 3336).drop (8 + 104 * word ((b.drop i).take 3336) 0 8)).take (104 * (32 - word ((b.drop i).take 3336) 0 8))), rfl, (by rw [← ni_zi]; exact SqL.of e6), _, rfl, ?_⟩
      rw [any_ni]
      have hz := zer_any ((((b.drop i).take 3336).drop (8 + 104 * word ((b.drop i).take 3336) 0 8)).take (104 * (32 - word ((b.drop i).take 3336) 0 8)))
      cases ha : ((((b.drop i).take 3336).drop (8 + 104 * word ((b.drop i).take 3336) 0 8)).take (104 * (32 - word ((b.drop i).take 3336) 0 8))).any (· != 0) with
      | true =>
        rw [ha] at hz
        refine iteT (k H6 .non ⟨dx2, hr6r⟩ b06 ?_)
        unfold rdPosts
        rw [if_neg (by omega), if_neg (by rw [hany']; decide), if_neg (by rw [hz]; decide)]
        rfl
      | false =>
        rw [ha] at hz
        refine iteF ⟨_, rfl, k H6 (.ref D) ⟨dx2, hr6r⟩ b06 ?_⟩
        unfold rdPosts
        rw [if_neg (by omega), if_neg (by rw [hany']; decide), if_pos (by rw [hz]; decide)]
        have hDH : H D = none := b03.none hD (nr3 hr3)
        refine ⟨D, pas, rfl, hDH, b6 _ _ (s5 _ _ e4) hDrm, ?_⟩
        refine paired_imp (fun a p q => ?_) hpas
        have q5 : NewP CP H D H5 a p := by
          obtain ⟨dq, sq, tq, n1, n2, n3, d1, d2, d3, q1, q2, q3⟩ := q
          exact ⟨dq, sq, tq, n1, n2, n3, d1, d2, d3, s5 _ _ q1, s5 _ _ q2, s5 _ _ q3⟩
        exact q5.but b6 hr5 (rF_pF _ _)
end
end Po

namespace Po
open PySem PySem.Spec PyProof.Rows L2
open Sv27 (little stampBytes stampOf stampOk nobody padded Bytes Stamp of word rowBytes postBytes)
set_option linter.all false
/-! ### lists of whole numbers as data -/
theorem canLay_ints : ∀ l : List Int, PyData.canLayAll0 (l.map PyData.int) = true
  | [] => by rw [List.map_nil, PyData.canLayAll0]
  | x :: r => by
    rw [List.map_cons, PyData.canLayAll0, canLay_ints r, PyData.canLay0]
    rfl
theorem depth_ints : ∀ l : List Int, PyData.depthAll (l.map PyData.int) = 0
  | [] => by rw [List.map_nil, PyData.depthAll]
  | x :: r => by
    rw [List.map_cons, PyData.depthAll, depth_ints r, PyData.depth]
    rfl
theorem shapedI (l : List Int) : SeqAt.shaped (.list (l.map PyData.int)) = true := by
  unfold SeqAt.shaped
  rw [PyData.canLay0, canLay_ints, PyData.depth, depth_ints]
  rfl
theorem eqvAll_ints : ∀ a b : List Int, PyData.eqvAll (a.map PyData.int) (b.map PyData.int) = decide (a = b)
  | [], [] => by
    rw [List.map_nil, PyData.eqvAll]
    rfl
  | [], y :: s => by
    rw [List.map_nil, List.map_cons, PyData.eqvAll]
    exact (decide_eq_false (by simp)).symm
  | x :: r, [] => by
    rw [List.map_nil, List.map_cons, PyData.eqvAll]
    exact (decide_eq_false (by simp)).symm
  | x :: r, y :: s => by
    rw [List.map_cons, List.map_cons, PyData.eqvAll, eqvAll_ints r s, PyData.eqv, Bool.eq_iff_iff, Bool.and_eq_true, decide_eq_true_iff, decide_eq_true_iff, beq_iff_eq]
    simp
theorem eqv_ints (a b : List Int) : PyData.eqv (.list (a.map PyData.int)) (.list (b.map PyData.int)) = decide (a = b) := by
  rw [PyData.eqv, eqvAll_ints]
theorem dpAll_ints {K : PySem.W.Frag} {H : Hp} : ∀ l : List Int, DpAll K H (l.map V.int) (l.map PyData.int)
  | [] => .nil
  | x :: r => .cons (.int x) (dpAll_ints r)
theorem rgV_eq (a b : Int) : rgV a b = ((List.range (b - a).toNat).map fun i => a + (i : Nat)).map V.int := by
  unfold rgV
  rw [List.map_map]
  rfl
/-! ### what's read of a node, before it is known to be so -/
structure Shp (x : Sv27.Node) : Prop where
  n8 : x.n ≤ 8
  me : x.me < x.n
  seen : x.seen.length = 8
  known : x.known.length = 8
  knownL : ∀ s, s ∈ x.known → s.length = 8
  ownL : x.own.length ≤ 32
  own : ∀ p, p ∈ x.own → p.stamp.length = 8
  waitsL : x.waits.length = 8
  waits : ∀ ps, ps ∈ x.waits → ps.length ≤ 32 ∧ ∀ p, p ∈ ps → p.stamp.length = 8
theorem other_isOther (x : Sv27.Node) (j : Nat) : otherZ x.me x.n (j : Int) = isOther x j := by
  unfold otherZ isOther
  rw [Bool.eq_iff_iff, Bool.and_eq_true, Bool.and_eq_true, decide_eq_true_iff, decide_eq_true_iff, decide_eq_true_iff, decide_eq_true_iff]
  omega
theorem all_range_false {n i : Nat} {f : Nat → Bool} (h : i < n) (hf : f i = false) : (List.range n).all f = false := by
  rw [Bool.eq_false_iff]
  intro q
  rw [List.all_eq_true] at q
  rw [q i (List.mem_range.mpr h)] at hf
  cases hf
theorem all_range_true {n : Nat} {f : Nat → Bool} (h : ∀ i, i < n → f i = true) : (List.range n).all f = true := by
  rw [List.all_eq_true]
  exact fun i hi => h i (List.mem_range.mp hi)
section
variable {P : Program} {w : World} {K : PySem.W.Frag} {mg : Str → Option Value} {base : Heap} {CN CP CR : Addr}
def knownB (x : Sv27.Node) (j : Nat) : Bool := stampOk x.n (x.knows j) && (isOther x j || zer (x.knows j))
def spKnown (CN CP : Addr) : Sp := fun vs H Q _ => ∃ (a : Addr) (L : Lay) (B : Addr → Prop) (x : Sv27.Node), vs = [.ref a] ∧ NodeAt CN CP B H a L x ∧ Shp x ∧ ∀ H', Same H H' → Q (.bl (knownSo x)) H'
theorem ok_is_known_so (T : Txt K mg CN CP CR) (D : Def K mg "is_known_so" s_is_known_so) (c_is_stamp : Cal P w K mg base 1 "is_stamp" ["stamp", "n"] (spIsSt K)) (c_is_other : Cal P w K mg base 1 "is_other" ["node", "j"] (spIsOther CN)) : Cal P w K mg base 2 "is_known_so" ["node"] (spKnown CN CP) := by
  refine D.cal b_is_known_so fun f fd F => F.ok sc_is_known_so (fun vs H Q E h => ?_) (fun cdv A outer s H vs Q E hroom h => ?_)
  · obtain ⟨a, L, B, x, rfl, N, hx, k⟩ := h
    rfl
  · obtain ⟨a, L, B, x, rfl, N, hx, k⟩ := h
    refine ⟨_, (pss_cons (ps_if (pt_not (pt_val (pe_cal c_is_stamp hroom (pa_cons (pe_fld (pv 0) rfl) (pa_cons (pe_fld (pv 0) rfl) pa_nil))))) (pss_one (ps_ret pe_bl)) pss_nil)
      (pss_cons (ps_for PassesOwn.never rfl (pi_enum (by rfl) T.b.enumerate (pa_cons (pe_fld (pv 0) rfl) pa_nil)) (pg_tup rfl (pgs_cons (pg_name (i := 1) sc_is_known_so.nd rfl (by first | exact Or.inl rfl | exact Or.inr rfl)) (pgs_cons (pg_name (i := 2) sc_is_known_so.nd rfl (by first | exact Or.inl rfl | exact Or.inr rfl)) pgs_nil))) (pss_cons (ps_if (pt_not (pt_val (pe_cal c_is_stamp hroom (pa_cons (pv 2) (pa_cons (pe_fld (pv 0) rfl) pa_nil))))) (pss_one (ps_ret pe_bl)) pss_nil)
      (pss_one (ps_if (PW.pt (pw_and (pt_not (pt_val (pe_cal c_is_other hroom (pa_cons (pv 0) (pa_cons (pv 1) pa_nil))))) (pw_and1 (pt_val (pe_callB (cr_anyI rfl) (by rfl) T.b.any (by decide +kernel) (pa_cons (pv 2) pa_nil)))))) (pss_one (ps_ret pe_bl)) pss_nil))))
      (pss_one (ps_ret pe_bl)))), ?_⟩
    obtain ⟨dx, hA⟩ := N.ins
    obtain ⟨kas, hk, hkas⟩ := N.known
    have klen := paired_len hkas
    have ek : knownSo x = (stampOk x.n x.seen && (List.range 8).all (knownB x)) := rfl
    rw [ek] at k
    refine ⟨_, rfl, a, _, _, _, _, rfl, hA, T.cN, T.a_seen, nF_seen _ _ _, _, rfl, a, _, _, _, _, rfl, hA, T.cN, T.a_n, nF_n _ _ _, L.s, x.seen, x.n, rfl, SqL.of N.seen, hx.seen, hx.n8, fun H1 s1 => ⟨_, rfl, ?_⟩⟩
    cases hs : stampOk x.n x.seen with
    | false =>
      rw [hs, Bool.false_and] at k
      exact iteT (k H1 s1)
    | true =>
      rw [hs, Bool.true_and] at k
      refine iteF ?_
      refine ⟨_, rfl, a, _, _, _, _, rfl, s1 _ _ hA, T.cN, T.a_known, nF_known _ _ _, L.k, _, rfl, SqL.of (s1 _ _ hk), for_it walk_enum (fun i σ H' => ∃ v1 v2, σ = [some (.ref a), v1, v2] ∧ Same H H' ∧ ∀ j, j < i → knownB x j = true) ⟨none, none, rfl, s1, fun j h => absurd h (Nat.not_lt_zero _)⟩ (fun i σ H' _ ⟨_, _, _, s, _⟩ => SqL.of (s _ _ hk)) ?_ ?_⟩
      · rintro i y σ H2 H3 hi ⟨v1, v2, rfl, s2, hall⟩ ⟨T0, y1, y2, rfl, hT0, rfl, e2, e3⟩
        rw [List.length_map, klen, hx.known] at hi
        have e2 : y1 = .int (i : Nat) := (Option.some.inj e2).symm
        subst e2
        obtain ⟨ka, hka, rfl⟩ := refs_get e3
        obtain ⟨st, hst, hkst, _⟩ := paired_get hkas hka
        rw [knows_get x hx.known hi] at hst
        have est : x.knows i = st := Option.some.inj hst
        subst est
        have kl8 : (x.knows i).length = 8 := hx.knownL _ (List.mem_of_getElem? (knows_get x hx.known hi))
        have s3 : Same H (upd H2 T0 (.tup [V.int (i : Nat), V.ref ka])) := s2.trans (Same.new hT0)
        refine ⟨T0, _, rfl, SqT.of upd_same, rfl, _, _, rfl, _, _, rfl, rfl, ?_⟩
        refine ⟨_, rfl, _, rfl, a, _, _, _, _, rfl, s3 _ _ hA, T.cN, T.a_n, nF_n _ _ _, ka, x.knows i, x.n, rfl, SqL.of (s3 _ _ hkst), kl8, hx.n8, fun H4 s4 => ⟨_, rfl, ?_⟩⟩
        have s34 := s3.trans s4
        cases hsk : stampOk x.n (x.knows i) with
        | false =>
          rw [all_range_false hi (by unfold knownB; rw [hsk, Bool.false_and])] at k
          exact iteT (k H4 s34)
        | true =>
          refine iteF ⟨_, rfl, _, rfl, a, x.me, x.n, _, rfl, (N.same s34).hd, _, rfl, ?_⟩
          rw [other_isOther]
          cases ho : isOther x i with
          | true =>
            refine iteF (iteF ⟨_, _, rfl, s34, fun j hj => ?_⟩)
            by_cases q : j = i
            · rw [q]
              unfold knownB
              rw [hsk, ho]
              rfl
            · exact hall j (by omega)
          | false =>
            refine iteT ⟨_, rfl, ka, nints (x.knows i), rfl, (by rw [← ni_zi]; exact SqL.of (s34 _ _ hkst)), _, rfl, ?_⟩
            rw [any_ni]
            have hz := zer_any (x.knows i)
            cases ha : (x.knows i).any (· != 0) with
            | true =>
              rw [ha] at hz
              rw [all_range_false hi (by unfold knownB; rw [ho, hz]; simp)] at k
              exact iteT (k H4 s34)
            | false =>
              rw [ha] at hz
              refine iteF ⟨_, _, rfl, s34, fun j hj => ?_⟩
              by_cases q : j = i
              · rw [q]
                unfold knownB
                rw [hsk, ho, hz]
                rfl
              · exact hall j (by omega)
      · rintro σ H2 ⟨v1, v2, rfl, s2, hall⟩
        rw [List.length_map, klen, hx.known] at hall
        rw [all_range_true hall] at k
        exact k H2 s2
def spMine (CN CP : Addr) : Sp := fun vs H Q _ => ∃ (a : Addr) (L : Lay) (B : Addr → Prop) (x : Sv27.Node), vs = [.ref a] ∧ NodeAt CN CP B H a L x ∧ Shp x ∧ of x.seen x.me ≤ 4611686018427387904 ∧ ∀ H', Same H H' → Q (.bl (mineSo x)) H'
theorem ok_is_mine_so (T : Txt K mg CN CP CR) (D : Def K mg "is_mine_so" s_is_mine_so) (c_counts_of : Cal P w K mg base 1 "counts_of" ["posts", "author"] (spCounts CP)) : Cal P w K mg base 2 "is_mine_so" ["node"] (spMine CN CP) := by
  refine D.cal b_is_mine_so fun f fd F => F.ok sc_is_mine_so (fun vs H Q E h => ?_) (fun cdv A outer s H vs Q E hroom h => ?_)
  · obtain ⟨a, L, B, x, rfl, N, hx, hM, k⟩ := h
    rfl
  · obtain ⟨a, L, B, x, rfl, N, hx, hM, k⟩ := h
    refine ⟨_, (pss_cons (ps_set (i := 1) sc_is_mine_so.nd rfl (by first | exact Or.inl rfl | exact Or.inr rfl) (pe_ix ix_nat (pe_fld (pv 0) rfl) (pe_fld (pv 0) rfl) (fun _ _ => rfl)))
      (pss_cons (ps_set (i := 2) sc_is_mine_so.nd rfl (by first | exact Or.inl rfl | exact Or.inr rfl) (pe_op op_add (pe_op op_sub (pv 1) (pe_callB cr_lenN (by rfl) T.b.len PySem.boot_len (pa_cons (pe_fld (pv 0) rfl) pa_nil))) pe_int))
      (pss_cons (ps_if (pt_cmpR op_lt (pv 2) pe_int (nomark _)) (pss_one (ps_ret pe_bl)) pss_nil)
      (pss_one (ps_ret (pe_cmpR (op_eqD hroom.units) (pe_cal c_counts_of hroom (pa_cons (pe_fld (pv 0) rfl) (pa_cons (pe_fld (pv 0) rfl) pa_nil))) (pe_listRg2 rfl (by rfl) T.b.list (prg_2 (by rfl) T.b.range (pv 2) (pe_op op_add (pv 1) pe_int))) (nomark _))))))), ?_⟩
    obtain ⟨dx, hA⟩ := N.ins
    obtain ⟨pas, hm, hpas⟩ := N.mine
    have plen := paired_len hpas
    have me8 : x.me < 8 := by have := hx.n8; have := hx.me; omega
    refine ⟨_, rfl, a, _, _, _, _, rfl, hA, T.cN, T.a_seen, nF_seen _ _ _, _, rfl, a, _, _, _, _, rfl, hA, T.cN, T.a_me, nF_me _ _ _, L.s, _, x.me, _, rfl, rfl, SqL.of N.seen, ni_get (of_get (by rw [hx.seen]; exact me8)), ?_⟩
    refine ⟨_, rfl, _, rfl, a, _, _, _, _, rfl, hA, T.cN, T.a_mine, nF_mine _ _ _, L.m, _, rfl, SqL.of hm, _, _, rfl, rfl, _, _, rfl, rfl, ?_⟩
    rw [List.length_map, plen]
    refine ⟨_, rfl, _, _, rfl, rfl, _, rfl, ite2 (fun c => ?_) (fun c => ?_)⟩
    · have c : ¬ x.own.length ≤ of x.seen x.me := by have := of_decide_eq_true c; omega
      have z := k H (Same.refl H)
      unfold mineSo at z
      rw [decide_eq_false c, Bool.false_and] at z
      exact z
    · have c : x.own.length ≤ of x.seen x.me := by
        refine Classical.byContradiction fun q => c (decide_eq_true (by omega))
      refine ⟨_, rfl, a, _, _, _, _, rfl, hA, T.cN, T.a_mine, nF_mine _ _ _, _, rfl, a, _, _, _, _, rfl, hA, T.cN, T.a_me, nF_me _ _ _, L.m, x.me, x.own, B, rfl, ⟨pas, hm, hpas⟩, hx.own, me8, by have := hx.ownL; omega, fun H1 c1 s1 hc1 e1 => ?_⟩
      refine ⟨_, rfl, _, rfl, _, _, rfl, rfl, _, _, rfl, rfl, ⟨by omega, by omega, by omega, by omega, by have := hx.ownL; omega⟩, fun q hq => ?_⟩
      have e2 := at_new (u := HO.lst (rgV (((of x.seen x.me : Nat) : Int) - (x.own.length : Nat) + 1) (((of x.seen x.me : Nat) : Int) + 1))) e1 hq
      refine ⟨.list ((nints (counts x.own x.me)).map PyData.int), .list (((List.range ((((of x.seen x.me : Nat) : Int) + 1) - (((of x.seen x.me : Nat) : Int) - (x.own.length : Nat) + 1)).toNat).map fun i => (((of x.seen x.me : Nat) : Int) - (x.own.length : Nat) + 1) + (i : Nat)).map PyData.int), .lst (SqL.of e2) (by rw [ni_zi]; exact dpAll_ints _), .lst (SqL.of upd_same) (by rw [rgV_eq]; exact dpAll_ints _), shapedI _, shapedI _, ?_⟩
      rw [eqv_ints]
      have en : ((((of x.seen x.me : Nat) : Int) + 1) - (((of x.seen x.me : Nat) : Int) - (x.own.length : Nat) + 1)).toNat = x.own.length := by omega
      rw [en]
      have z := k _ (s1.trans (Same.new (o := HO.lst (rgV (((of x.seen x.me : Nat) : Int) - (x.own.length : Nat) + 1) (((of x.seen x.me : Nat) : Int) + 1))) hq))
      unfold mineSo at z
      rw [decide_eq_true c, Bool.true_and] at z
      have eb : (counts x.own x.me == (List.range x.own.length).map fun i => of x.seen x.me - x.own.length + 1 + i) = decide (nints (counts x.own x.me) = (List.range x.own.length).map fun i => (((of x.seen x.me : Nat) : Int) - (x.own.length : Nat) + 1) + (i : Nat)) := by
        rw [Bool.eq_iff_iff, beq_iff_eq, decide_eq_true_iff]
        have er : ((List.range x.own.length).map fun i => (((of x.seen x.me : Nat) : Int) - (x.own.length : Nat) + 1) + (i : Nat)) = nints ((List.range x.own.length).map fun i => of x.seen x.me - x.own.length + 1 + i) := by
          unfold nints Sv27Neutral.ints
          rw [List.map_map]
          apply List.map_congr_left
          intro i _
          show _ = ((of x.seen x.me - x.own.length + 1 + i : Nat) : Int)
          omega
        rw [er]
        constructor
        · intro h
          rw [h]
        · intro h
          refine ni_inj ?_
          rw [ni_zi, ni_zi, h]
      rw [eb] at z
      exact z
def waitB (x : Sv27.Node) (j : Nat) : Bool := (isOther x j || (x.waiting j).isEmpty) && risesFrom (of x.seen j + 32) (of x.seen j) (counts (x.waiting j) j)
def spWait (CN CP : Addr) : Sp := fun vs H Q _ => ∃ (a : Addr) (L : Lay) (B : Addr → Prop) (x : Sv27.Node), vs = [.ref a] ∧ NodeAt CN CP B H a L x ∧ Shp x ∧ ∀ H', Same H H' → Q (.bl (waitingSo x)) H'
theorem ok_is_waiting_so (T : Txt K mg CN CP CR) (D : Def K mg "is_waiting_so" s_is_waiting_so) (c_counts_of : Cal P w K mg base 1 "counts_of" ["posts", "author"] (spCounts CP)) (c_is_other : Cal P w K mg base 1 "is_other" ["node", "j"] (spIsOther CN)) : Cal P w K mg base 2 "is_waiting_so" ["node"] (spWait CN CP) := by
  refine D.cal b_is_waiting_so fun f fd F => F.ok sc_is_waiting_so (fun vs H Q E h => ?_) (fun cdv A outer s H vs Q E hroom h => ?_)
  · obtain ⟨a, L, B, x, rfl, N, hx, k⟩ := h
    rfl
  · obtain ⟨a, L, B, x, rfl, N, hx, k⟩ := h
    refine ⟨_, (pss_cons (ps_for PassesOwn.never rfl (pi_enum (by rfl) T.b.enumerate (pa_cons (pe_fld (pv 0) rfl) pa_nil)) (pg_tup rfl (pgs_cons (pg_name (i := 1) sc_is_waiting_so.nd rfl (by first | exact Or.inl rfl | exact Or.inr rfl)) (pgs_cons (pg_name (i := 2) sc_is_waiting_so.nd rfl (by first | exact Or.inl rfl | exact Or.inr rfl)) pgs_nil))) (pss_cons (ps_if (PW.pt (pw_and (pt_not (pt_val (pe_cal c_is_other hroom (pa_cons (pv 0) (pa_cons (pv 1) pa_nil))))) (pw_and1 (pt_cmpR op_gt (pe_callB cr_lenN (by rfl) T.b.len PySem.boot_len (pa_cons (pv 2) pa_nil)) pe_int (nomark _))))) (pss_one (ps_ret pe_bl)) pss_nil)
      (pss_cons (ps_set (i := 3) sc_is_waiting_so.nd rfl (by first | exact Or.inl rfl | exact Or.inr rfl) (pe_ix ix_nat (pe_fld (pv 0) rfl) (pv 1) (fun _ _ => rfl)))
      (pss_one (ps_for PassesOwn.never rfl (pi_list (pe_cal c_counts_of hroom (pa_cons (pv 2) (pa_cons (pv 1) pa_nil)))) (pg_name (i := 4) sc_is_waiting_so.nd rfl (by first | exact Or.inl rfl | exact Or.inr rfl)) (pss_cons (ps_if (PW.pt (pw_or (pt_cmpR op_le (pv 4) (pv 3) (nomark _)) (pw_or1 (pt_cmpR op_gt (pv 4) (pe_op op_add (pe_ix ix_nat (pe_fld (pv 0) rfl) (pv 1) (fun _ _ => rfl)) (pe_cst T.c_ROOM)) (nomark _))))) (pss_one (ps_ret pe_bl)) pss_nil)
      (pss_one (ps_set (i := 3) sc_is_waiting_so.nd rfl (by first | exact Or.inl rfl | exact Or.inr rfl) (pv 4)))))))))
      (pss_one (ps_ret pe_bl))), ?_⟩
    obtain ⟨dx, hA⟩ := N.ins
    have wlen := paired_len N.waits
    have ek : waitingSo x = (List.range 8).all (waitB x) := rfl
    rw [ek] at k
    refine ⟨_, rfl, a, _, _, _, _, rfl, hA, T.cN, T.a_waits, nF_waits _ _ _, L.w, _, rfl, SqL.of N.wl, for_it walk_enum (fun i σ H' => ∃ v1 v2 v3 v4, σ = [some (.ref a), v1, v2, v3, v4] ∧ Same H H' ∧ ∀ j, j < i → waitB x j = true) ⟨none, none, none, none, rfl, Same.refl H, fun j h => absurd h (Nat.not_lt_zero _)⟩ (fun i σ H' _ ⟨_, _, _, _, _, s, _⟩ => SqL.of (s _ _ N.wl)) ?_ ?_⟩
    · rintro i y σ H2 H3 hi ⟨v1, v2, v3, v4, rfl, s2, hall⟩ ⟨T0, y1, y2, rfl, hT0, rfl, e2, e3⟩
      rw [List.length_map, wlen, hx.waitsL] at hi
      have e2 : y1 = .int (i : Nat) := (Option.some.inj e2).symm
      subst e2
      obtain ⟨wl, hwl, rfl⟩ := refs_get e3
      obtain ⟨ps, hps, hpo⟩ := paired_get N.waits hwl
      rw [waiting_get x hx.waitsL hi] at hps
      have eps : x.waiting i = ps := Option.some.inj hps
      subst eps
      obtain ⟨wl32, wl8⟩ := hx.waits _ (List.mem_of_getElem? (waiting_get x hx.waitsL hi))
      obtain ⟨pas, hpl, hpas⟩ := id hpo
      have plen := paired_len hpas
      have s3 : Same H (upd H2 T0 (.tup [V.int (i : Nat), V.ref wl])) := s2.trans (Same.new hT0)
      refine ⟨T0, _, rfl, SqT.of upd_same, rfl, _, _, rfl, _, _, rfl, rfl, ?_⟩
      -- the first question
      refine ⟨_, rfl, _, rfl, a, x.me, x.n, _, rfl, (N.same s3).hd, _, rfl, ?_⟩
      rw [other_isOther]
      cases ho : (isOther x i || (x.waiting i).isEmpty) with
      | false =>
        rw [Bool.or_eq_false_iff] at ho
        rw [ho.1]
        refine iteT ⟨_, rfl, wl, _, rfl, SqL.of (s3 _ _ hpl), _, _, rfl, rfl, _, rfl, ?_⟩
        rw [List.length_map, plen]
        cases hw : x.waiting i with
        | nil => rw [hw] at ho; cases ho.2
        | cons p r =>
          rw [decide_eq_true (by simp only [List.length_cons]; omega : (0 : Int) < ((p :: r).length : Nat))]
          refine iteT ?_
          rw [all_range_false hi (by unfold waitB; rw [ho.1, ho.2]; rfl)] at k
          exact k _ s3
      | true =>
        -- go on, whichever way the question was answered no
        cases hoi : isOther x i with
        | true =>
          refine iteF (iteF ?_)
          refine ⟨_, rfl, a, _, _, _, _, rfl, s3 _ _ hA, T.cN, T.a_seen, nF_seen _ _ _, _, rfl, L.s, _, i, _, rfl, rfl, SqL.of (s3 _ _ N.seen), ni_get (of_get (by rw [hx.seen]; exact hi)), ?_⟩
          refine ⟨_, rfl, _, rfl, wl, i, x.waiting i, B, rfl, hpo.keep s3.keep (fun o e => s3 _ _ e), wl8, hi, by omega, fun H4 c s4 hc e4 => ?_⟩
          have s34 := s3.trans s4
          refine ⟨c, rfl, ⟨_, SqL.of e4⟩, for_list (K := K) (a := c) (xs := ni (counts (x.waiting i) i)) (fun m σ H' => ∃ (bl : Nat) (cv : Option V), σ = [some (.ref a), some (.int (i : Nat)), some (.ref wl), some (.int (bl : Nat)), cv] ∧ Same H4 H' ∧ risesFrom (of x.seen i + 32) (of x.seen i) (counts (x.waiting i) i) = risesFrom (of x.seen i + 32) bl ((counts (x.waiting i) i).drop m)) ⟨_, _, rfl, Same.refl _, rfl⟩ (fun m σ H' _ ⟨_, _, _, s, _⟩ => SqL.of (s _ _ e4)) ?_ ?_⟩
          · rintro m y σ H5 hm ⟨bl, cv, rfl, s5, hrise⟩
            obtain ⟨z, hz, rfl⟩ := ni_get_inv hm
            have s35 := s34.trans s5
            have hd : (counts (x.waiting i) i).drop m = z :: (counts (x.waiting i) i).drop (m + 1) := by
              rw [List.drop_eq_getElem_cons (List.getElem?_eq_some_iff.mp hz).1, (List.getElem?_eq_some_iff.mp hz).2]
            have er : risesFrom (of x.seen i + 32) bl (z :: (counts (x.waiting i) i).drop (m + 1)) = (decide (bl < z) && decide (z ≤ of x.seen i + 32) && risesFrom (of x.seen i + 32) z ((counts (x.waiting i) i).drop (m + 1))) := rfl
            rw [hd, er] at hrise
            have bad : (decide (bl < z) && decide (z ≤ of x.seen i + 32)) = false → ∀ H', Same H H' → Q (.bl false) H' := fun q H' s' => by
              rw [q, Bool.false_and] at hrise
              rw [all_range_false hi (by unfold waitB; rw [hrise, Bool.and_false])] at k
              exact k _ s'
            refine ⟨_, rfl, _, rfl, _, _, rfl, rfl, _, rfl, ite2 (fun c1 => ?_) (fun c1 => ?_)⟩
            · refine iteT (bad ?_ _ s35)
              rw [decide_eq_false (by have := of_decide_eq_true c1; omega), Bool.false_and]
            · have c1 : bl < z := by
                refine Classical.byContradiction fun q => c1 (decide_eq_true (by omega))
              refine ⟨_, rfl, _, rfl, a, _, _, _, _, rfl, s35 _ _ hA, T.cN, T.a_seen, nF_seen _ _ _, _, rfl, L.s, _, i, _, rfl, rfl, SqL.of (s35 _ _ N.seen), ni_get (of_get (by rw [hx.seen]; exact hi)), _, _, rfl, rfl, _, _, rfl, rfl, _, rfl, ite2 (fun c2 => ?_) (fun c2 => ?_)⟩
              · refine bad ?_ _ s35
                rw [decide_eq_false (by have := of_decide_eq_true c2; omega : ¬ z ≤ of x.seen i + 32), Bool.and_false]
              · have c2 : z ≤ of x.seen i + 32 := by
                  refine Classical.byContradiction fun q => c2 (decide_eq_true (by omega))
                refine ⟨_, rfl, z, _, rfl, s5, ?_⟩
                rw [hrise, decide_eq_true c1, decide_eq_true c2, Bool.true_and, Bool.true_and]
          · rintro σ H5 ⟨bl, cv, rfl, s5, hrise⟩
            rw [ni_length, List.drop_length] at hrise
            refine ⟨_, _, _, _, rfl, s34.trans s5, fun j hj => ?_⟩
            by_cases q : j = i
            · rw [q]
              unfold waitB
              rw [ho, hrise]
              rfl
            · exact hall j (by omega)
        | false =>
          have hemp : x.waiting i = [] := by
            rw [hoi, Bool.false_or, List.isEmpty_iff] at ho
            exact ho
          refine iteT ⟨_, rfl, wl, _, rfl, SqL.of (s3 _ _ hpl), _, _, rfl, rfl, _, rfl, ?_⟩
          rw [List.length_map, plen, hemp]
          refine iteF ?_
          refine ⟨_, rfl, a, _, _, _, _, rfl, s3 _ _ hA, T.cN, T.a_seen, nF_seen _ _ _, _, rfl, L.s, _, i, _, rfl, rfl, SqL.of (s3 _ _ N.seen), ni_get (of_get (by rw [hx.seen]; exact hi)), ?_⟩
          refine ⟨_, rfl, _, rfl, wl, i, x.waiting i, B, rfl, hpo.keep s3.keep (fun o e => s3 _ _ e), wl8, hi, by omega, fun H4 c s4 hc e4 => ?_⟩
          rw [hemp] at e4
          refine ⟨c, rfl, ⟨_, SqL.of e4⟩, for_list (K := K) (a := c) (xs := ([] : List V)) (fun m σ H' => σ = [some (.ref a), some (.int (i : Nat)), some (.ref wl), some (.int (of x.seen i : Nat)), v4] ∧ Same H4 H') ⟨rfl, Same.refl _⟩ (fun m σ H' _ ⟨_, s⟩ => SqL.of (s _ _ e4)) (fun m y σ H5 hm _ => by simp at hm) ?_⟩
          rintro σ H5 ⟨rfl, s5⟩
          refine ⟨_, _, _, _, rfl, (s3.trans s4).trans s5, fun j hj => ?_⟩
          by_cases q : j = i
          · rw [q]
            unfold waitB
            rw [ho, hemp]
            rfl
          · exact hall j (by omega)
    · rintro σ H2 ⟨v1, v2, v3, v4, rfl, s2, hall⟩
      rw [List.length_map, wlen, hx.waitsL] at hall
      rw [all_range_true hall] at k
      exact k H2 s2
end
end Po

namespace Po
open PySem PySem.Spec PyProof.Rows L2
open Sv27 (little stampBytes stampOf stampOk nobody padded Bytes Stamp of word rowBytes postBytes)
set_option linter.all false
/-- a node's attributes, whatever they hold -/
def nG (me n : Nat) (s k m w : V) : List (Str × V) := [("me", .int (me : Int)), ("n", .int (n : Int)), ("seen", s), ("known", k), ("mine", m), ("waits", w)]
theorem nG_mine (me n : Nat) (s k m w : V) : (nG me n s k m w).lookup ("mine" : Str) = some m := (lk_past (by decide +kernel)).trans ((lk_past (by decide +kernel)).trans ((lk_past (by decide +kernel)).trans ((lk_past (by decide +kernel)).trans lk_here)))
theorem nG_waits (me n : Nat) (s k m w : V) : (nG me n s k m w).lookup ("waits" : Str) = some w := (lk_past (by decide +kernel)).trans ((lk_past (by decide +kernel)).trans ((lk_past (by decide +kernel)).trans ((lk_past (by decide +kernel)).trans ((lk_past (by decide +kernel)).trans lk_here))))
theorem nG_pseen (me n : Nat) (s k m w v : V) : putF "seen" v (nG me n s k m w) = nG me n v k m w := (put_past (by decide +kernel)).trans (congrArg _ ((put_past (by decide +kernel)).trans (congrArg _ put_here)))
theorem nG_pknown (me n : Nat) (s k m w v : V) : putF "known" v (nG me n s k m w) = nG me n s v m w := (put_past (by decide +kernel)).trans (congrArg _ ((put_past (by decide +kernel)).trans (congrArg _ ((put_past (by decide +kernel)).trans (congrArg _ put_here)))))
theorem nG_pmine (me n : Nat) (s k m w v : V) : putF "mine" v (nG me n s k m w) = nG me n s k v w := (put_past (by decide +kernel)).trans (congrArg _ ((put_past (by decide +kernel)).trans (congrArg _ ((put_past (by decide +kernel)).trans (congrArg _ ((put_past (by decide +kernel)).trans (congrArg _ put_here)))))))
theorem nG_pwaits (me n : Nat) (s k m w v : V) : putF "waits" v (nG me n s k m w) = nG me n s k m v := (put_past (by decide +kernel)).trans (congrArg _ ((put_past (by decide +kernel)).trans (congrArg _ ((put_past (by decide +kernel)).trans (congrArg _ ((put_past (by decide +kernel)).trans (congrArg _ ((put_past (by decide +kernel)).trans (congrArg _ put_here)))))))))
theorem nG_pF (me n : Nat) (s k m w : V) : ∀ a b, nG me n s k m w ≠ pF a b := by
  intro a b z
  injection z with z1 z2
  injection z1 with z3 z4
  exact absurd z3 (by decide +kernel)
theorem nG_new (me n : Nat) (s k m w : V) : putF "waits" w (putF "mine" m (putF "known" k (putF "seen" s (putF "n" (.int (n : Int)) (putF "me" (.int (me : Int)) []))))) = nG me n s k m w := by
  have e2 : putF "n" (.int (n : Int)) (putF "me" (.int (me : Int)) []) = ([("me", .int (me : Int)), ("n", .int (n : Int))] : List (Str × V)) := (put_past (by decide +kernel)).trans rfl
  have e3 : putF "seen" s ([("me", V.int (me : Int)), ("n", .int (n : Int))] : List (Str × V)) = ([("me", .int (me : Int)), ("n", .int (n : Int)), ("seen", s)] : List (Str × V)) := (put_past (by decide +kernel)).trans (congrArg _ ((put_past (by decide +kernel)).trans rfl))
  have e4 : putF "known" k ([("me", V.int (me : Int)), ("n", .int (n : Int)), ("seen", s)] : List (Str × V)) = ([("me", .int (me : Int)), ("n", .int (n : Int)), ("seen", s), ("known", k)] : List (Str × V)) := (put_past (by decide +kernel)).trans (congrArg _ ((put_past (by decide +kernel)).trans (congrArg _ ((put_past (by decide +kernel)).trans rfl))))
  have e5 : putF "mine" m ([("me", V.int (me : Int)), ("n", .int (n : Int)), ("seen", s), ("known", k)] : List (Str × V)) = ([("me", .int (me : Int)), ("n", .int (n : Int)), ("seen", s), ("known", k), ("mine", m)] : List (Str × V)) := (put_past (by decide +kernel)).trans (congrArg _ ((put_past (by decide +kernel)).trans (congrArg _ ((put_past (by decide +kernel)).trans (congrArg _ ((put_past (by decide +kernel)).trans rfl))))))
  rw [e2, e3, e4, e5]
  exact (put_past (by decide +kernel)).trans (congrArg _ ((put_past (by decide +kernel)).trans (congrArg _ ((put_past (by decide +kernel)).trans (congrArg _ ((put_past (by decide +kernel)).trans (congrArg _ ((put_past (by decide +kernel)).trans rfl))))))))
theorem NodeAt.anti {CN CP : Addr} {B B' : Addr → Prop} {H : Hp} {a : Addr} {L : Lay} {x : Sv27.Node} (N : NodeAt CN CP B H a L x) (h : ∀ c, B' c → B c) (hm : ∀ m, m ∈ L.muts → B' m) : NodeAt CN CP B' H a L x := by
  obtain ⟨kas, k1, k2⟩ := N.known
  have pa : ∀ {a p}, PostAt CP B H a p → PostAt CP B' H a p := fun ⟨dx, s, t, q1, q2, q3, n1, n2, n3⟩ => ⟨dx, s, t, q1, q2, q3, fun z => n1 (h _ z), fun z => n2 (h _ z), fun z => n3 (h _ z)⟩
  have pp : ∀ {l ps}, PostsAt CP B H l ps → PostsAt CP B' H l ps := fun ⟨pas, e, q⟩ => ⟨pas, e, paired_imp (fun _ _ z => pa z) q⟩
  exact ⟨N.ins, fun z => N.na (h _ z), N.seen, ⟨kas, k1, paired_imp (fun _ _ q => ⟨q.1, fun z => q.2 (h _ z)⟩) k2⟩, pp N.mine, N.wl, fun z => N.nw (h _ z), paired_imp (fun _ _ z => pp z) N.waits, hm, N.nd⟩
/-- a comprehension over range(n) that makes a new list l0 at each turn -/
theorem lc_alloc {n : Nat} {l0 : List V} {g : TG} {tt : TT} {te : TE} {vs : List Nat} {σ : L2.St} {H1 : Hp} {D : Addr} {Qd : Hp → Prop} (hn : n < 65536) (hD : H1 D = none)
    (hs : ∀ i H', i < n → Same H1 H' → ∀ (R : V → Hp → Prop) (C : Hp → Prop), (∀ H'' p, Same H' H'' → H' p = none → H'' p = some (.lst l0) → R (.ref p) H'') →
      g (.int (i : Int)) (wipe σ vs) H' fun σ2 H2 => wipe σ2 vs = wipe σ vs ∧ tt σ2 H2 fun b H3 => if b = true then te σ2 H3 R else C H3)
    (hd : ∀ (H' : Hp) (as : List Addr), as.length = n → as.Nodup → Same H1 H' → H' D = some (.lst (as.map V.ref)) → (∀ a, a ∈ as → H1 a = none ∧ a ≠ D ∧ H' a = some (.lst l0)) → Qd H') :
    ∃ Wq : Nat → Nat → Hp → Prop, (∃ q0, Wq 0 q0 (upd H1 D (.lst []))) ∧ ∀ i q Hi, Wq i q Hi →
      ((Itr 0 n).stop i Hi ∧ Qd Hi) ∨ ((Itr 0 n).go i Hi ∧ ∃ Nq : Hp → Prop, (∀ Hj, Nq Hj → ∃ q', q' < q ∧ Wq (i + 1) q' Hj) ∧
        ∀ x Hj, (Itr 0 n).yld i Hi x Hj → g x (wipe σ vs) Hj fun σ2 H2 => wipe σ2 vs = wipe σ vs ∧ tt σ2 H2 fun b H3 =>
          if b = true then te σ2 H3 (fun y H4 => ∃ acc, H4 D = some (.lst acc) ∧ acc.length < sizeLine ∧ Nq (upd H4 D (.lst (acc ++ [y])))) else Nq H3) := by
  refine lc_range (lo := 0) (n := n) (fun i H => ∃ as : List Addr, as.length = i ∧ as.Nodup ∧ Same H1 H ∧ H D = some (.lst (as.map V.ref)) ∧ ∀ a, a ∈ as → H1 a = none ∧ a ≠ D ∧ H a = some (.lst l0)) ⟨[], rfl, List.nodup_nil, Same.new hD, upd_same, fun a h => absurd h (List.not_mem_nil)⟩ ?_ ?_
  · rintro i H hi ⟨as, hl, hnd, s, hH, hall⟩
    rw [show ((0 : Int) + (i : Int)) = (i : Int) by omega]
    refine hs i H hi s _ _ fun H2 p s2 hp e2 => ⟨_, s2 _ _ hH, ?_, as ++ [p], ?_, ?_, (s.trans s2).free_upd hD, ?_, ?_⟩
    · rw [List.length_map, hl]
      exact small_lt (by omega)
    · rw [List.length_append, hl]
      rfl
    · rw [List.nodup_append]
      refine ⟨hnd, by simp, fun a ha b hb z => ?_⟩
      rw [List.mem_singleton.mp hb] at z
      rw [z] at ha
      have := (hall p ha).2.2
      rw [hp] at this
      cases this
    · rw [upd_same, List.map_append]
      rfl
    · intro a ha
      have hpD : p ≠ D := fun z => by rw [z, hH] at hp; cases hp
      rcases List.mem_append.mp ha with q | q
      · obtain ⟨q1, q2, q3⟩ := hall a q
        exact ⟨q1, q2, by rw [upd_ne q2]; exact s2 _ _ q3⟩
      · rw [List.mem_singleton.mp q]
        exact ⟨s.none hp, hpD, by rw [upd_ne hpD]; exact e2⟩
  · rintro H ⟨as, hl, hnd, s, hH, hall⟩
    exact hd H as hl hnd s hH hall
section
variable {P : Program} {w : World} {K : PySem.W.Frag} {mg : Str → Option Value} {base : Heap} {CN CP CR : Addr}
def spNodeI (CN CP : Addr) : Sp := fun vs H Q _ => ∃ (p dx : Addr) (me n : Nat), vs = [.ref p, .int (me : Int), .int (n : Int)] ∧ H p = some (.ins CN dx []) ∧
  ∀ H' L, NodeAt CN CP (fun c => (H c ≠ none ∧ c ≠ p) ∨ c ∈ L.muts) H' p L (Sv27.fresh me n) → But p H H' → (∀ m, m ∈ L.muts → H m = none) → Q .non H'
theorem ok_new_Node (T : Txt K mg CN CP CR) (D : IDef K mg CN "Node" "Node.__init__" s_new_Node) (c_empty_stamp : Cal P w K mg base 1 "empty_stamp" [] spEmpty) : ICal P w K mg base 2 CN "Node" ["self", "me", "n"] (spNodeI CN CP) := by
  refine D.cal b_new_Node fun f fd F => F.ok sc_new_Node (fun vs H Q E h => ?_) (fun cdv A outer s H vs Q E hroom h => ?_)
  · obtain ⟨p, dx, me, n, rfl, hp, k⟩ := h
    rfl
  · obtain ⟨p, dx, me, n, rfl, hp, k⟩ := h
    refine ⟨_, (pss_cons (ps_fld (pv 0) (pv 1) rfl)
      (pss_cons (ps_fld (pv 0) (pv 2) rfl)
      (pss_cons (ps_fld (pv 0) (pe_cal0 c_empty_stamp hroom) rfl)
      (pss_cons (ps_fld (pv 0) (pe_lc (own := [("j", 3)]) (g := (gName 3)) (tt := tYes) (te := (tCall spEmpty [] E0 tNil)) rfl sc_new_Node.nd (pi_range1 (by rfl) T.b.range (pa_cons (pe_cst T.c_NODES) pa_nil)) (blkOk_by (N := N_new_Node) (sc := defScope s_new_Node) (by decide +kernel)) (fun _ _ _ _ _ => (pg_name (i := 3) sc_new_Node.nd rfl (by first | exact Or.inl rfl | exact Or.inr rfl))) (fun _ _ _ _ _ => pts_nil) (fun _ _ _ _ _ => (pe_cal0 c_empty_stamp hroom))) rfl)
      (pss_cons (ps_fld (pv 0) (pe_lst pa_nil) rfl)
      (pss_one (ps_fld (pv 0) (pe_lc (own := [("j", 3)]) (g := (gName 3)) (tt := tYes) (te := (tLst tNil)) rfl sc_new_Node.nd (pi_range1 (by rfl) T.b.range (pa_cons (pe_cst T.c_NODES) pa_nil)) (blkOk_by (N := N_new_Node) (sc := defScope s_new_Node) (by decide +kernel)) (fun _ _ _ _ _ => (pg_name (i := 3) sc_new_Node.nd rfl (by first | exact Or.inl rfl | exact Or.inr rfl))) (fun _ _ _ _ _ => pts_nil) (fun _ _ _ _ _ => (pe_lst pa_nil))) rfl))))))), ?_⟩
    -- self.me = me; self.n = n
    refine ⟨_, rfl, _, rfl, p, CN, dx, [], rfl, hp, T.cN, T.a_me, (by show 0 < 1000; decide), ?_⟩
    refine ⟨_, rfl, _, rfl, p, CN, dx, _, rfl, upd_same, T.cN, T.a_n, (by show 1 < 1000; decide), ?_⟩
    have b1 : But p H (upd (upd H p (.ins CN dx (putF "me" (.int (me : Int)) []))) p (.ins CN dx (putF "n" (.int (n : Int)) (putF "me" (.int (me : Int)) [])))) := (But.upd _ _ _).trans (But.upd _ _ _)
    have hp1 : (upd (upd H p (.ins CN dx (putF "me" (.int (me : Int)) []))) p (.ins CN dx (putF "n" (.int (n : Int)) (putF "me" (.int (me : Int)) [])))) p = some (.ins CN dx (putF "n" (.int (n : Int)) (putF "me" (.int (me : Int)) []))) := upd_same
    generalize upd (upd H p (.ins CN dx (putF "me" (.int (me : Int)) []))) p (.ins CN dx (putF "n" (.int (n : Int)) (putF "me" (.int (me : Int)) []))) = H1 at b1 hp1
    -- of a heap that p stands in: what is free there was free before
    have fr : ∀ {H' : Hp} {o : HO}, But p H H' → H' p = some o → ∀ {c : Addr}, H' c = none → H c = none ∧ c ≠ p := fun b e c hc => ⟨b.none hc (by rw [e]; exact fun q => nomatch q), fun z => by rw [z, e] at hc; cases hc⟩
    -- self.seen = empty_stamp()
    refine ⟨rfl, fun H2 s s2 hs e2 => ?_⟩
    have hp2 := s2 _ _ hp1
    refine ⟨_, rfl, p, CN, dx, _, rfl, hp2, T.cN, T.a_seen, (by show 2 < 1000; decide), ?_⟩
    have b2 := (b1.trans (But.of_same s2)).trans (But.upd p H2 (.ins CN dx (putF "seen" (.ref s) (putF "n" (.int (n : Int)) (putF "me" (.int (me : Int)) [])))))
    have hsp : s ≠ p := fun z => by rw [z, hp1] at hs; cases hs
    have hsH : H s = none := (fr b1 hp1 hs).1
    have e3 : (upd H2 p (.ins CN dx (putF "seen" (.ref s) (putF "n" (.int (n : Int)) (putF "me" (.int (me : Int)) []))))) s = some (.lst (ni nobody)) := by rw [upd_ne hsp]; exact e2
    have hp3 : (upd H2 p (.ins CN dx (putF "seen" (.ref s) (putF "n" (.int (n : Int)) (putF "me" (.int (me : Int)) []))))) p = some (.ins CN dx (putF "seen" (.ref s) (putF "n" (.int (n : Int)) (putF "me" (.int (me : Int)) [])))) := upd_same
    generalize upd H2 p (.ins CN dx (putF "seen" (.ref s) (putF "n" (.int (n : Int)) (putF "me" (.int (me : Int)) [])))) = H3 at b2 e3 hp3
    clear e2 s2 hp2 hs
    -- self.known = [empty_stamp() for j in range(NODES)]
    refine ⟨8, rfl, by decide, by decide, fun Dk hDk => lc_alloc (n := 8) (l0 := ni nobody) (by decide) hDk ?_ ?_⟩
    · intro i H' hi s' R C hR
      exact ⟨rfl, iteT (B := C H') ⟨rfl, fun H'' q sq hq eq => hR H'' q sq hq eq⟩⟩
    intro H4 kas hkl hknd s4 hk hkall
    have hp4 := s4 _ _ hp3
    refine ⟨_, rfl, p, CN, dx, _, rfl, hp4, T.cN, T.a_known, (by show 3 < 1000; decide), ?_⟩
    have b4 := (b2.trans (But.of_same s4)).trans (But.upd p H4 (.ins CN dx (putF "known" (.ref Dk) (putF "seen" (.ref s) (putF "n" (.int (n : Int)) (putF "me" (.int (me : Int)) []))))))
    have kp : ∀ {c : Addr} {l : List V}, H4 c = some (.lst l) → (upd H4 p (.ins CN dx (putF "known" (.ref Dk) (putF "seen" (.ref s) (putF "n" (.int (n : Int)) (putF "me" (.int (me : Int)) [])))))) c = some (.lst l) := fun e => by
      rw [upd_ne (ne_of e hp4 (by intro z; cases z))]
      exact e
    have e5s := kp (s4 _ _ e3)
    have e5k := kp hk
    have e5a : ∀ a, a ∈ kas → _ := fun a ha => kp (hkall a ha).2.2
    have hp5 : (upd H4 p (.ins CN dx (putF "known" (.ref Dk) (putF "seen" (.ref s) (putF "n" (.int (n : Int)) (putF "me" (.int (me : Int)) [])))))) p = some (.ins CN dx (putF "known" (.ref Dk) (putF "seen" (.ref s) (putF "n" (.int (n : Int)) (putF "me" (.int (me : Int)) []))))) := upd_same
    have fk := fr b2 hp3 hDk
    have fka : ∀ a, a ∈ kas → H a = none ∧ a ≠ p := fun a ha => fr b2 hp3 (hkall a ha).1
    have ska : ∀ a, a ∈ kas → a ≠ s := fun a ha z => by
      have := (hkall a ha).1
      rw [z, e3] at this
      cases this
    have dka : ∀ a, a ∈ kas → a ≠ Dk := fun a ha => (hkall a ha).2.1
    have skD : s ≠ Dk := fun z => by rw [← z, e3] at hDk; cases hDk
    generalize upd H4 p (.ins CN dx (putF "known" (.ref Dk) (putF "seen" (.ref s) (putF "n" (.int (n : Int)) (putF "me" (.int (me : Int)) []))))) = H5 at b4 e5s e5k e5a hp5
    clear kp hp4 hk s4 hkall
    -- self.mine = []
    refine ⟨(by show 0 ≤ sizeLine; decide), fun m hm => ?_⟩
    have hp6 := at_new (u := HO.lst []) hp5 hm
    refine ⟨_, rfl, p, CN, dx, _, rfl, hp6, T.cN, T.a_mine, (by show 4 < 1000; decide), ?_⟩
    have b6 := (b4.trans (But.of_same (Same.new (o := HO.lst []) hm))).trans (But.upd p _ (.ins CN dx (putF "mine" (.ref m) (putF "known" (.ref Dk) (putF "seen" (.ref s) (putF "n" (.int (n : Int)) (putF "me" (.int (me : Int)) [])))))))
    have kp : ∀ {c : Addr} {l : List V}, (upd H5 m (.lst [])) c = some (.lst l) → (upd (upd H5 m (.lst [])) p (.ins CN dx (putF "mine" (.ref m) (putF "known" (.ref Dk) (putF "seen" (.ref s) (putF "n" (.int (n : Int)) (putF "me" (.int (me : Int)) []))))))) c = some (.lst l) := fun e => by
      rw [upd_ne (ne_of e hp6 (by intro z; cases z))]
      exact e
    have e7s := kp (at_new e5s hm)
    have e7k := kp (at_new e5k hm)
    have e7a : ∀ a, a ∈ kas → _ := fun a ha => kp (at_new (e5a a ha) hm)
    have e7m := kp (upd_same (H := H5) (a := m) (o := HO.lst []))
    have fm := fr b4 hp5 hm
    have hp7 : (upd (upd H5 m (.lst [])) p (.ins CN dx (putF "mine" (.ref m) (putF "known" (.ref Dk) (putF "seen" (.ref s) (putF "n" (.int (n : Int)) (putF "me" (.int (me : Int)) []))))))) p = some (.ins CN dx (putF "mine" (.ref m) (putF "known" (.ref Dk) (putF "seen" (.ref s) (putF "n" (.int (n : Int)) (putF "me" (.int (me : Int)) [])))))) := upd_same
    have sm : s ≠ m := fun z => by rw [← z, e5s] at hm; cases hm
    have km : Dk ≠ m := fun z => by rw [← z, e5k] at hm; cases hm
    have kam : ∀ a, a ∈ kas → a ≠ m := fun a ha z => by
      have q := e5a a ha
      rw [z, hm] at q
      cases q
    generalize upd (upd H5 m (.lst [])) p (.ins CN dx (putF "mine" (.ref m) (putF "known" (.ref Dk) (putF "seen" (.ref s) (putF "n" (.int (n : Int)) (putF "me" (.int (me : Int)) [])))))) = H7 at b6 e7s e7k e7a e7m hp7
    clear kp hp6 e5s e5k e5a hp5 hm
    -- self.waits = [[] for j in range(NODES)]
    refine ⟨8, rfl, by decide, by decide, fun Dw hDw => lc_alloc (n := 8) (l0 := []) (by decide) hDw ?_ ?_⟩
    · intro i H' hi s' R C hR
      exact ⟨rfl, iteT (B := C H') ⟨(by show 0 ≤ sizeLine; decide), fun q hq => hR _ q (Same.new hq) hq upd_same⟩⟩
    intro H8 ws hwl hwnd s8 hw hwall
    have hp8 := s8 _ _ hp7
    refine ⟨_, rfl, p, CN, dx, _, rfl, hp8, T.cN, T.a_waits, (by show 5 < 1000; decide), ?_⟩
    rw [nG_new]
    have kp : ∀ {c : Addr} {l : List V}, H8 c = some (.lst l) → (upd H8 p (.ins CN dx (nG me n (.ref s) (.ref Dk) (.ref m) (.ref Dw)))) c = some (.lst l) := fun e => by
      rw [upd_ne (ne_of e hp8 (by intro z; cases z))]
      exact e
    have fw := fr b6 hp7 hDw
    have fwa : ∀ a, a ∈ ws → H a = none ∧ a ≠ p := fun a ha => fr b6 hp7 (hwall a ha).1
    have notin : ∀ {c : Addr} {l : List V}, H7 c = some (.lst l) → c ∉ ws ∧ c ≠ Dw := fun e => by
      refine And.intro (fun z => ?_) (fun z => ?_)
      · have q := (hwall _ z).1
        rw [e] at q
        cases q
      · rw [← z, e] at hDw
        cases hDw
    have mem : ∀ c, c ∈ Lay.muts ⟨s, Dk, m, Dw, ws⟩ → c = s ∨ c = Dk ∨ c = m ∨ c ∈ ws := fun c hc => by
      rcases List.mem_cons.mp hc with z | z
      · exact .inl z
      rcases (List.mem_cons.mp z) with z | z
      · exact .inr (.inl z)
      rcases (List.mem_cons.mp z) with z | z
      · exact .inr (.inr (.inl z))
      · exact .inr (.inr (.inr z))
    refine k _ ⟨s, Dk, m, Dw, ws⟩ ⟨⟨dx, upd_same⟩, ?_, kp (s8 _ _ e7s), ⟨kas, kp (s8 _ _ e7k), ?_⟩, ⟨[], kp (s8 _ _ e7m), .nil⟩, kp hw, ?_, ?_, fun c hc => .inr hc, ?_⟩ ((b6.trans (But.of_same s8)).trans (But.upd _ _ _)) ?_
    · rintro (⟨_, z⟩ | z)
      · exact z rfl
      · rcases mem p z with z | z | z | z
        · exact hsp z.symm
        · exact fk.2 z.symm
        · exact fm.2 z.symm
        · exact (fwa p z).2 rfl
    · have key : ∀ (as : List Addr) (j : Nat), as.length = j → (∀ a, a ∈ as → a ∈ kas) → Paired (StAt (fun c => (H c ≠ none ∧ c ≠ p) ∨ c ∈ Lay.muts ⟨s, Dk, m, Dw, ws⟩) (upd H8 p (.ins CN dx (nG me n (.ref s) (.ref Dk) (.ref m) (.ref Dw))))) as (List.replicate j nobody) := by
        intro as
        induction as with
        | nil =>
          intro j hj _
          subst hj
          exact .nil
        | cons a r ih =>
          intro j hj hsub
          subst hj
          have ha := hsub a (List.mem_cons_self ..)
          refine .cons ⟨kp (s8 _ _ (e7a a ha)), ?_⟩ (ih _ rfl fun c hc => hsub c (List.mem_cons_of_mem _ hc))
          rintro (⟨z, _⟩ | z)
          · exact z (fka a ha).1
          · rcases mem a z with z | z | z | z
            · exact ska a ha z
            · exact dka a ha z
            · exact kam a ha z
            · exact (notin (e7a a ha)).1 z
      exact key kas 8 hkl fun _ h => h
    · rintro (⟨z, _⟩ | z)
      · exact z fw.1
      · rcases mem Dw z with z | z | z | z
        · exact (notin e7s).2 z.symm
        · exact (notin e7k).2 z.symm
        · exact (notin e7m).2 z.symm
        · exact (hwall Dw z).2.1 rfl
    · have key : ∀ (as : List Addr) (j : Nat), as.length = j → (∀ a, a ∈ as → a ∈ ws) → Paired (PostsAt CP (fun c => (H c ≠ none ∧ c ≠ p) ∨ c ∈ Lay.muts ⟨s, Dk, m, Dw, ws⟩) (upd H8 p (.ins CN dx (nG me n (.ref s) (.ref Dk) (.ref m) (.ref Dw))))) as (List.replicate j ([] : List Sv27.Post)) := by
        intro as
        induction as with
        | nil =>
          intro j hj _
          subst hj
          exact .nil
        | cons a r ih =>
          intro j hj hsub
          subst hj
          exact .cons ⟨[], kp (hwall a (hsub a (List.mem_cons_self ..))).2.2, .nil⟩ (ih _ rfl fun c hc => hsub c (List.mem_cons_of_mem _ hc))
      exact key ws 8 hwl fun _ h => h
    · show (s :: Dk :: m :: ws).Nodup
      rw [List.nodup_cons, List.nodup_cons, List.nodup_cons]
      refine ⟨?_, ?_, (notin e7m).1, hwnd⟩
      · simp only [List.mem_cons, not_or]
        exact ⟨skD, sm, (notin e7s).1⟩
      · simp only [List.mem_cons, not_or]
        exact ⟨km, (notin e7k).1⟩
    · intro c hc
      rcases mem c hc with z | z | z | z
      · rw [z]; exact hsH
      · rw [z]; exact fk.1
      · rw [z]; exact fm.1
      · exact (fwa c z).1
end
end Po

namespace Po
open PySem PySem.Spec PyProof.Rows L2
open Sv27 (little stampBytes stampOf stampOk nobody padded Bytes Stamp of word rowBytes postBytes)
set_option linter.all false
/-! ### a node that is being read -/
/-- all stands but the objects at r and d -/
def Chg (r d : Addr) (H H' : Hp) : Prop := ∀ b o, H b = some o → b ≠ r → b ≠ d → H' b = some o
theorem Chg.trans {r d : Addr} {H H1 H2 : Hp} (a : Chg r d H H1) (b : Chg r d H1 H2) : Chg r d H H2 := fun c o h n m => b c o (a c o h n m) n m
theorem But.chg {r d : Addr} {H H' : Hp} (s : But r H H') : Chg r d H H' := fun c o h n _ => s c o h n
theorem But.chg2 {r d : Addr} {H H' : Hp} (s : But d H H') : Chg r d H H' := fun c o h _ n => s c o h n
theorem _root_.L2.Same.chg {r d : Addr} {H H' : Hp} (s : Same H H') : Chg r d H H' := fun c o h _ _ => s c o h
theorem Chg.same {r d : Addr} {H0 H H' : Hp} (s : Same H0 H) (c : Chg r d H H') (hr : H0 r = none) (hd : H0 d = none) : Same H0 H' := fun b o e =>
  c b o (s b o e) (ne_of_none e hr) (ne_of_none e hd)
theorem Chg.lst {r d : Addr} {H H' : Hp} {C1 C2 d1 d2 : Addr} {f1 f2 : List (Str × V)} (c : Chg r d H H') (hr : H r = some (.ins C1 d1 f1)) (hd : H d = some (.ins C2 d2 f2)) {a : Addr} {l : List V} (e : H a = some (.lst l)) : H' a = some (.lst l) :=
  c _ _ e (ne_of e hr (by intro z; cases z)) (ne_of e hd (by intro z; cases z))
theorem Chg.keep {r d : Addr} {H H' : Hp} {B : Addr → Prop} (c : Chg r d H H') (h1 : B r) (h2 : B d) : Keep B H H' := fun b o e n => c b o e (fun z => n (by rw [z]; exact h1)) (fun z => n (by rw [z]; exact h2))
def Bq (H0 : Hp) (r d : Addr) (ms : List Addr) (c : Addr) : Prop := H0 c ≠ none ∨ c = r ∨ c = d ∨ c ∈ ms
theorem StAt.grow {B B' : Addr → Prop} {H : Hp} {a : Addr} {st : Stamp} (h : StAt B H a st) (k : ∀ b, B' b → B b ∨ H b = none) : StAt B' H a st := ⟨h.1, fun q => (k _ q).elim h.2 fun w => by have := h.1; rw [w] at this; cases this⟩
theorem PostsAt.grow {CP : Addr} {B B' : Addr → Prop} {H : Hp} {l : Addr} {ps : List Sv27.Post} (h : PostsAt CP B H l ps) (k : ∀ b, B' b → B b ∨ H b = none) : PostsAt CP B' H l ps := by
  obtain ⟨pas, e, p⟩ := h
  exact ⟨pas, e, paired_imp (fun _ _ q => PostAt.grow q k) p⟩
/-- a row that was read: none, or the list's place and its posts -/
abbrev RowR := Option (Addr × List Sv27.Post)
def rowV : RowR → V
  | none => .non
  | some (l, _) => .ref l
def lsR : List RowR → List Addr
  | [] => []
  | none :: r => lsR r
  | some (l, _) :: r => l :: lsR r
theorem lsR_append : ∀ a b : List RowR, lsR (a ++ b) = lsR a ++ lsR b
  | [], _ => rfl
  | none :: r, b => lsR_append r b
  | some (l, ps) :: r, b => congrArg (l :: ·) (lsR_append r b)
theorem mem_lsR : ∀ {rows : List RowR} {l : Addr}, l ∈ lsR rows → ∃ ps, some (l, ps) ∈ rows
  | none :: r, l, h => by
    obtain ⟨ps, q⟩ := mem_lsR (rows := r) h
    exact ⟨ps, List.mem_cons_of_mem _ q⟩
  | some (a, ps) :: r, l, h => by
    rcases (List.mem_cons.mp h) with z | z
    · exact ⟨ps, by rw [z]; exact List.mem_cons_self ..⟩
    · obtain ⟨ps', q⟩ := mem_lsR (rows := r) z
      exact ⟨ps', List.mem_cons_of_mem _ q⟩
theorem rowV_none (o : RowR) : decide (rowV o = .non) = (o.map Prod.snd).isNone := by
  cases o with
  | none => rfl
  | some q => rfl
/-- all rows were read: their lists and their posts side by side -/
theorem rows_all {CP : Addr} {B : Addr → Prop} {H : Hp} : ∀ {rows : List RowR}, (rows.map (Option.map Prod.snd)).any (·.isNone) = false → (∀ l ps, some (l, ps) ∈ rows → PostsAt CP B H l ps) →
    rows.map rowV = (lsR rows).map V.ref ∧ Paired (PostsAt CP B H) (lsR rows) ((rows.map (Option.map Prod.snd)).filterMap id)
  | [], _, _ => ⟨rfl, .nil⟩
  | none :: r, h, _ => by
    rw [List.map_cons, List.any_cons] at h
    cases h
  | some (l, ps) :: r, h, hp => by
    rw [List.map_cons, List.any_cons, Bool.or_eq_false_iff] at h
    obtain ⟨e1, e2⟩ := rows_all h.2 fun l' ps' q => hp l' ps' (List.mem_cons_of_mem _ q)
    exact ⟨congrArg (V.ref l :: ·) e1, .cons (hp l ps (List.mem_cons_self ..)) e2⟩
theorem rdPosts_shape {n : Nat} {c : Bytes} {l : List Sv27.Post} (h : rdPosts n c = some l) : l.length ≤ 32 ∧ ∀ p, p ∈ l → p.stamp.length = 8 := by
  unfold rdPosts at h
  split at h
  · cases h
  rename_i h1
  split at h
  · cases h
  split at h
  · have e := Option.some.inj h
    subst e
    refine ⟨Nat.le_trans (List.length_filterMap_le ..) (by rw [List.length_map, List.length_range]; omega), fun p hp => ?_⟩
    rw [List.mem_filterMap] at hp
    obtain ⟨o, ho, e⟩ := hp
    obtain ⟨k, _, rfl⟩ := List.mem_map.mp ho
    have e : rdPost n (piece c k) = some p := e
    unfold rdPost at e
    split at e
    · have e2 := Option.some.inj e
      rw [← e2]
      exact stampOf_length _
    · cases e
  · cases h
theorem yes_in {σ : L2.St} {H : Hp} {A B : Hp → Prop} (h : A H) : tYes σ H (fun b H3 => if b = true then A H3 else B H3) := iteT (B := B H) h
theorem Bq.tr {H0 Hc : Hp} {r d : Addr} {ms : List Addr} (s : Same H0 Hc) {o1 o2 : HO} (hr : Hc r = some o1) (hd : Hc d = some o2) (hm : ∀ m, m ∈ ms → Hc m ≠ none) : ∀ c, Bq H0 r d ms c → Hc c ≠ none := by
  rintro c (q | q | q | q) z
  · cases e : H0 c with
    | none => exact q e
    | some o => rw [s _ _ e] at z; cases z
  · rw [q, hr] at z; cases z
  · rw [q, hd] at z; cases z
  · exact hm c q z
/-- the rows that were read by now, and the stamps -/
structure RInv (CP : Addr) (H0 : Hp) (r d : Addr) (base : List Addr) (kas : List Addr) (ks : List Stamp) (Hc : Hp) (rows : List RowR) : Prop where
  posts : ∀ l ps, some (l, ps) ∈ rows → PostsAt CP (Bq H0 r d (base ++ lsR rows)) Hc l ps
  nd : (base ++ lsR rows).Nodup
  fr : ∀ m, m ∈ base ++ lsR rows → H0 m = none
  st : Paired (StAt (Bq H0 r d (base ++ lsR rows)) Hc) kas ks
theorem RInv.keep {CP : Addr} {H0 : Hp} {r d : Addr} {base kas : List Addr} {ks : List Stamp} {Hc Hd : Hp} {rows : List RowR} (h : RInv CP H0 r d base kas ks Hc rows) (k : Keep (Bq H0 r d (base ++ lsR rows)) Hc Hd) (kl : ∀ l, l ∈ lsR rows → ∀ xs, Hc l = some (.lst xs) → Hd l = some (.lst xs)) : RInv CP H0 r d base kas ks Hd rows := by
  refine ⟨fun l ps hl => ?_, h.nd, h.fr, paired_imp (fun _ _ q => StAt.keep q k) h.st⟩
  have key : ∀ {rows : List RowR}, some (l, ps) ∈ rows → l ∈ lsR rows := by
    intro rows
    induction rows with
    | nil => intro q; cases q
    | cons o t ih =>
      intro q
      rcases List.mem_cons.mp q with z | z
      · rw [← z]; exact List.mem_cons_self ..
      · cases o with
        | none => exact ih z
        | some e => exact List.mem_cons_of_mem _ (ih z)
  obtain ⟨pas, e, p⟩ := h.posts l ps hl
  exact ⟨pas, kl l (key hl) _ e, paired_imp (fun _ _ q => PostAt.keep q k) p⟩
theorem RInv.chg {CP : Addr} {H0 : Hp} {r d : Addr} {base kas : List Addr} {ks : List Stamp} {Hc Hd : Hp} {rows : List RowR} (h : RInv CP H0 r d base kas ks Hc rows) (c : Chg r d Hc Hd) {C1 C2 d1 d2 : Addr} {f1 f2 : List (Str × V)} (hr : Hc r = some (.ins C1 d1 f1)) (hd : Hc d = some (.ins C2 d2 f2)) : RInv CP H0 r d base kas ks Hd rows :=
  h.keep (c.keep (.inr (.inl rfl)) (.inr (.inr (.inl rfl)))) fun _ _ _ e => c.lst hr hd e
/-- one more list, new, that may be changed -/
theorem RInv.more {CP : Addr} {H0 : Hp} {r d : Addr} {base kas : List Addr} {ks : List Stamp} {Hc : Hp} {rows : List RowR} (h : RInv CP H0 r d base kas ks Hc rows) {D : Addr} (hD : Hc D = none) (hD0 : H0 D = none) (hn : D ∉ base ++ lsR rows) : RInv CP H0 r d (D :: base) kas ks Hc rows := by
  have g : ∀ b, Bq H0 r d (D :: base ++ lsR rows) b → Bq H0 r d (base ++ lsR rows) b ∨ Hc b = none := by
    rintro b (q | q | q | q)
    · exact .inl (.inl q)
    · exact .inl (.inr (.inl q))
    · exact .inl (.inr (.inr (.inl q)))
    · rcases List.mem_cons.mp q with z | z
      · exact .inr (by rw [z]; exact hD)
      · exact .inl (.inr (.inr (.inr z)))
  refine ⟨fun l ps hl => (h.posts l ps hl).grow g, List.nodup_cons.mpr ⟨hn, h.nd⟩, fun m hm => ?_, paired_imp (fun _ _ q => StAt.grow q g) h.st⟩
  rcases List.mem_cons.mp hm with z | z
  · rw [z]; exact hD0
  · exact h.fr m z
/-- one more row -/
theorem RInv.step {CP : Addr} {H0 : Hp} {r d : Addr} {base kas : List Addr} {ks : List Stamp} {Hc Hd : Hp} {rows : List RowR} (h : RInv CP H0 r d base kas ks Hc rows) {v : V} {o : Option (List Sv27.Post)} (ho : OptPs CP Hc Hd v o) (b : But r Hc Hd) (s : Same H0 Hc)
    {C1 C2 d1 d2 : Addr} {f1 f2 : List (Str × V)} (hr : Hc r = some (.ins C1 d1 f1)) (hd : Hc d = some (.ins C2 d2 f2)) (hm : ∀ m, m ∈ base ++ lsR rows → Hc m ≠ none) : ∃ row : RowR, rowV row = v ∧ row.map Prod.snd = o ∧ RInv CP H0 r d base kas ks Hd (rows ++ [row]) := by
  have h1 := h.chg (b.chg (d := d)) hr hd
  have tr := Bq.tr s hr hd hm
  cases o with
  | none =>
    have ho : v = .non := ho
    refine ⟨none, ho.symm, rfl, ?_⟩
    have el : base ++ lsR (rows ++ [none]) = base ++ lsR rows := by
      rw [lsR_append]
      show base ++ (lsR rows ++ []) = _
      rw [List.append_nil]
    refine ⟨fun l ps hl => ?_, by rw [el]; exact h.nd, fun m hm => h.fr m (by rw [el] at hm; exact hm), by rw [el]; exact h1.st⟩
    rw [el]
    rcases List.mem_append.mp hl with q | q
    · exact h1.posts l ps q
    · have := List.mem_singleton.mp q
      cases this
  | some ps =>
    obtain ⟨l, pas, ev, fl, el0, hp⟩ := ho
    have el : base ++ lsR (rows ++ [some (l, ps)]) = (base ++ lsR rows) ++ [l] := by
      rw [lsR_append, List.append_assoc]
      rfl
    have hln : l ∉ base ++ lsR rows := fun q => hm l q fl
    have g : ∀ c, Bq H0 r d ((base ++ lsR rows) ++ [l]) c → Bq H0 r d (base ++ lsR rows) c ∨ Hc c = none := by
      rintro c (q | q | q | q)
      · exact .inl (.inl q)
      · exact .inl (.inr (.inl q))
      · exact .inl (.inr (.inr (.inl q)))
      · rcases List.mem_append.mp q with z | z
        · exact .inl (.inr (.inr (.inr z)))
        · exact .inr (by rw [List.mem_singleton.mp z]; exact fl)
    have kB : Keep (Bq H0 r d ((base ++ lsR rows) ++ [l])) Hc Hd := b.keep (.inr (.inl rfl))
    refine ⟨some (l, ps), ev.symm, rfl, ⟨fun l' ps' hl' => ?_, ?_, fun m hm => ?_, ?_⟩⟩
    · rw [el]
      rcases List.mem_append.mp hl' with q | q
      · exact ((h.posts l' ps' q).grow g).keep kB fun o e => by
          obtain ⟨pas', e', _⟩ := h.posts l' ps' q
          rw [e'] at e
          cases e
          exact b _ _ e' (ne_of e' hr (by intro z; cases z))
      · have e := List.mem_singleton.mp q
        cases e
        refine ⟨pas, el0, paired_imp (fun a p q => ?_) hp⟩
        obtain ⟨dx, st, t, n1, n2, n3, m1, m2, m3, q1, q2, q3⟩ := q
        have nb : ∀ {c : Addr}, Hc c = none → c ≠ l → ¬ Bq H0 r d ((base ++ lsR rows) ++ [l]) c := fun {c} hc hl z => by
          rcases z with z | z | z | z
          · exact tr c (.inl z) hc
          · exact tr c (.inr (.inl z)) hc
          · exact tr c (.inr (.inr (.inl z))) hc
          · rcases List.mem_append.mp z with y | y
            · exact tr c (.inr (.inr (.inr y))) hc
            · exact hl (List.mem_singleton.mp y)
        exact ⟨dx, st, t, q1, q2, q3, nb n1 m1, nb n2 m2, nb n3 m3⟩
    · rw [el, List.nodup_append]
      refine ⟨h.nd, by simp, fun a ha c hc z => ?_⟩
      rw [List.mem_singleton.mp hc] at z
      rw [z] at ha
      exact hln ha
    · rw [el] at hm
      rcases List.mem_append.mp hm with q | q
      · exact h.fr m q
      · rw [List.mem_singleton.mp q]
        exact s.none fl
    · rw [el]
      exact paired_imp (fun _ _ q => StAt.keep (StAt.grow q g) kB) h.st
/-! ### what the program reads of bytes -/
def headB (b : Bytes) : Bool := decide (2 ≤ b.getD 1 0) && decide (b.getD 1 0 ≤ 8) && decide (b.getD 0 0 < b.getD 1 0)
def seenB (b : Bytes) : Stamp := stampOf ((b.drop 8).take 64)
def knownL (b : Bytes) (j : Nat) : List Stamp := (List.range j).map fun j => stampOf ((b.drop (72 + 64 * j)).take 64)
def waitR (b : Bytes) (j : Nat) : List (Option (List Sv27.Post)) := (List.range j).map fun j => rdPosts (b.getD 1 0) (rowOf b (3920 + 3336 * j))
theorem rdNode_head {b : Bytes} (h : (headB b && zer ((b.drop 2).take 6)) = false) : rdNode b = none := by
  unfold rdNode
  rw [if_neg]
  intro q
  unfold headB at h
  rw [h] at q
  cases q
theorem rdNode_own {b : Bytes} (h : (headB b && zer ((b.drop 2).take 6)) = true) (ho : rdPosts (b.getD 1 0) (rowOf b 584) = none) : rdNode b = none := by
  unfold rdNode
  unfold headB at h
  rw [if_pos h, ho]
theorem rdNode_waits {b : Bytes} (h : (headB b && zer ((b.drop 2).take 6)) = true) (hw : (waitR b 8).any (·.isNone) = true) : rdNode b = none := by
  unfold rdNode
  unfold headB at h
  rw [if_pos h]
  cases rdPosts (b.getD 1 0) (rowOf b 584) with
  | none => rfl
  | some own =>
    unfold waitR at hw
    simp only []
    rw [if_pos hw]
theorem rdNode_some {b : Bytes} (h : (headB b && zer ((b.drop 2).take 6)) = true) {own : List Sv27.Post} (ho : rdPosts (b.getD 1 0) (rowOf b 584) = some own) (hw : (waitR b 8).any (·.isNone) = false) {x : Sv27.Node} (hx : x = ⟨b.getD 0 0, b.getD 1 0, seenB b, knownL b 8, own, (waitR b 8).filterMap id⟩) :
    rdNode b = if (knownSo x && mineSo x && waitingSo x) = true then some x else none := by
  unfold rdNode
  unfold headB at h
  rw [if_pos h, ho]
  unfold waitR at hw hx
  unfold seenB knownL at hx
  subst hx
  simp only []
  rw [if_neg (by rw [hw]; decide)]
/-- None, or a node that is new in all its parts -/
def OptN (CN CP : Addr) (H H' : Hp) (v : V) : Option Sv27.Node → Prop
  | none => v = .non
  | some x => ∃ a L, v = .ref a ∧ (∀ m, m ∈ Lay.muts L → H m = none) ∧ NodeAt CN CP (fun c => H c ≠ none ∨ c ∈ L.muts) H' a L x
section
variable {P : Program} {w : World} {K : PySem.W.Frag} {mg : Str → Option Value} {base : Heap} {CN CP CR : Addr}
def spNodeOf (K : PySem.W.Frag) (CN CP : Addr) : Sp := fun vs H Q _ => ∃ (s : Addr) (b : Bytes), vs = [.ref s] ∧ SqL K H s (ni b) ∧ b.length = 30608 ∧ Small b ∧ ∀ H' v, Same H H' → OptN CN CP H H' v (Sv27.load b) → Q v H'
theorem ok_node_of_bytes (T : Txt K mg CN CP CR) (D : Def K mg "node_of_bytes" s_node_of_bytes) (i_Reader : ICal P w K mg base 1 CR "Reader" ["self", "numbers"] (spRdI CR)) (m_take_one : MCal P w K mg base 1 CR "take_one" ["self"] (spOne K CR)) (i_Node : ICal P w K mg base 2 CN "Node" ["self", "me", "n"] (spNodeI CN CP)) (c_stamp_of_bytes : Cal P w K mg base 2 "stamp_of_bytes" ["row"] (spStOf K)) (c_read_posts : Cal P w K mg base 4 "read_posts" ["reader", "n"] (spReadPs K CP CR)) (m_take_some : MCal P w K mg base 1 CR "take_some" ["self", "length"] (spSome K CR)) (c_is_known_so : Cal P w K mg base 2 "is_known_so" ["node"] (spKnown CN CP)) (c_is_mine_so : Cal P w K mg base 2 "is_mine_so" ["node"] (spMine CN CP)) (c_is_waiting_so : Cal P w K mg base 2 "is_waiting_so" ["node"] (spWait CN CP)) (c_may_be_node : Cal P w K mg base 1 "may_be_node" ["me", "n"] spMay) : Cal P w K mg base 5 "node_of_bytes" ["saved"] (spNodeOf K CN CP) := by
  obtain ⟨mf_take_one, mfd_take_one, mt_take_one, mb_take_one, mF_take_one⟩ := m_take_one.ex
  obtain ⟨mf_take_some, mfd_take_some, mt_take_some, mb_take_some, mF_take_some⟩ := m_take_some.ex
  refine D.cal b_node_of_bytes fun f fd F => F.ok sc_node_of_bytes (fun vs H Q E h => ?_) (fun cdv A outer s H vs Q E hroom h => ?_)
  · obtain ⟨s, b, rfl, hS, hb, hs, k⟩ := h
    rfl
  · obtain ⟨s, b, rfl, hS, hb, hs, k⟩ := h
    refine ⟨_, (pss_cons (ps_set (i := 1) sc_node_of_bytes.nd rfl (by first | exact Or.inl rfl | exact Or.inr rfl) (pe_ical i_Reader (hroom.mono (by decide)) (pa_cons (pv 0) pa_nil)))
      (pss_cons (ps_set (i := 2) sc_node_of_bytes.nd rfl (by first | exact Or.inl rfl | exact Or.inr rfl) (pe_meth0 (pv 1) T.cR mt_take_one mF_take_one (hroom.mono (by decide)) mb_take_one .nil pass0))
      (pss_cons (ps_set (i := 3) sc_node_of_bytes.nd rfl (by first | exact Or.inl rfl | exact Or.inr rfl) (pe_meth0 (pv 1) T.cR mt_take_one mF_take_one (hroom.mono (by decide)) mb_take_one .nil pass0))
      (pss_cons (ps_if (PW.pt (pw_or (pt_not (pt_val (pe_cal c_may_be_node (hroom.mono (by decide)) (pa_cons (pv 2) (pa_cons (pv 3) pa_nil))))) (pw_or1 (pt_val (pe_callB (cr_anyI rfl) (by rfl) T.b.any (by decide +kernel) (pa_cons (pe_meth (pv 1) T.cR mt_take_some mF_take_some (hroom.mono (by decide)) mb_take_some .nil pass0 (pa_cons (pe_cst T.c_HEAD_ZEROS) pa_nil)) pa_nil)))))) (pss_one (ps_ret pe_non)) pss_nil)
      (pss_cons (ps_set (i := 4) sc_node_of_bytes.nd rfl (by first | exact Or.inl rfl | exact Or.inr rfl) (pe_ical i_Node (hroom.mono (by decide)) (pa_cons (pv 2) (pa_cons (pv 3) pa_nil))))
      (pss_cons (ps_fld (pv 4) (pe_cal c_stamp_of_bytes (hroom.mono (by decide)) (pa_cons (pe_meth (pv 1) T.cR mt_take_some mF_take_some (hroom.mono (by decide)) mb_take_some .nil pass0 (pa_cons (pe_cst T.c_STAMP_BYTES) pa_nil)) pa_nil)) rfl)
      (pss_cons (ps_fld (pv 4) (pe_lc (own := [("j", 5)]) (g := (gName 5)) (tt := tYes) (te := (tCall (spStOf K) [] E0 (tCons (tMeth CR "take_some" (spSome K CR) [] E0 (tVar 1) (tCons (tC (.int 64)) tNil)) tNil))) rfl sc_node_of_bytes.nd (pi_range1 (by rfl) T.b.range (pa_cons (pe_cst T.c_NODES) pa_nil)) (blkOk_by (N := N_node_of_bytes) (sc := defScope s_node_of_bytes) (by decide +kernel)) (fun _ _ _ _ _ => (pg_name (i := 5) sc_node_of_bytes.nd rfl (by first | exact Or.inl rfl | exact Or.inr rfl))) (fun _ _ _ _ _ => pts_nil) (fun _ _ _ _ _ => (pe_cal c_stamp_of_bytes (hroom.mono (by decide)) (pa_cons (pe_meth (pv 1) T.cR mt_take_some mF_take_some (hroom.mono (by decide)) mb_take_some .nil pass0 (pa_cons (pe_cst T.c_STAMP_BYTES) pa_nil)) pa_nil)))) rfl)
      (pss_cons (ps_fld (pv 4) (pe_cal c_read_posts hroom (pa_cons (pv 1) (pa_cons (pv 3) pa_nil))) rfl)
      (pss_cons (ps_fld (pv 4) (pe_lc (own := [("j", 5)]) (g := (gName 5)) (tt := tYes) (te := (tCall (spReadPs K CP CR) [] E0 (tCons (tVar 1) (tCons (tVar 3) tNil)))) rfl sc_node_of_bytes.nd (pi_range1 (by rfl) T.b.range (pa_cons (pe_cst T.c_NODES) pa_nil)) (blkOk_by (N := N_node_of_bytes) (sc := defScope s_node_of_bytes) (by decide +kernel)) (fun _ _ _ _ _ => (pg_name (i := 5) sc_node_of_bytes.nd rfl (by first | exact Or.inl rfl | exact Or.inr rfl))) (fun _ _ _ _ _ => pts_nil) (fun _ _ _ _ _ => (pe_cal c_read_posts hroom (pa_cons (pv 1) (pa_cons (pv 3) pa_nil))))) rfl)
      (pss_cons (ps_if (PW.pt (pw_or (pt_cmpR op_isN (pe_fld (pv 4) rfl) pe_non (nomark _)) (pw_or1 (pt_val (pe_callB (cr_any rfl) (by rfl) T.b.any (by decide +kernel) (pa_cons (pe_lc (own := [("posts", 6)]) (g := (gName 6)) (tt := tYes) (te := (tOp (fun x y H Q => y = V.non ∧ Q (.bl (decide (x = V.non))) H) (tVar 6) (tC .non))) rfl sc_node_of_bytes.nd (pi_list (pe_fld (pv 4) rfl)) (blkOk_by (N := N_node_of_bytes) (sc := defScope s_node_of_bytes) (by decide +kernel)) (fun _ _ _ _ _ => (pg_name (i := 6) sc_node_of_bytes.nd rfl (by first | exact Or.inl rfl | exact Or.inr rfl))) (fun _ _ _ _ _ => pts_nil) (fun _ _ _ _ _ => (pe_cmpR op_isN (pv 6) pe_non (nomark _)))) pa_nil)))))) (pss_one (ps_ret pe_non)) pss_nil)
      (pss_cons (ps_if (PW.pt (pw_and (pt_val (pe_cal c_is_known_so (hroom.mono (by decide)) (pa_cons (pv 4) pa_nil))) (pw_and (pt_val (pe_cal c_is_mine_so (hroom.mono (by decide)) (pa_cons (pv 4) pa_nil))) (pw_and1 (pt_val (pe_cal c_is_waiting_so (hroom.mono (by decide)) (pa_cons (pv 4) pa_nil))))))) (pss_one (ps_ret (pv 4))) pss_nil)
      (pss_one (ps_ret pe_non))))))))))))), ?_⟩
    rw [← rdNode_eq b hb hs] at k
    have ec : ∀ j m, ((ni b).drop j).take m = ni ((b.drop j).take m) := fun j m => by rw [ni_take, ni_drop]
    -- reader = Reader(saved)
    refine ⟨_, rfl, ?_⟩
    intro rd dr nrd ndr ne
    refine ⟨rd, dr, s, rfl, upd_same, fun H1 hr1 kp => ⟨rfl, ?_⟩⟩
    have s1 : Same H H1 := Same.made nrd ndr kp
    -- me, n
    refine ⟨_, rfl, rd, _, _, rfl, hr1, rF_none s 0 (by decide +kernel) (by decide +kernel), rd, s, 0, _, _, rfl, ⟨dr, hr1⟩, s1.seq hS, ni_get (getD_get (by omega)), fun H2 ⟨d2, hr2⟩ b2 => ?_⟩
    refine ⟨_, rfl, rd, _, _, rfl, hr2, rF_none s 1 (by decide +kernel) (by decide +kernel), rd, s, 1, _, _, rfl, ⟨d2, hr2⟩, b2.seq hr1 (s1.seq hS), ni_get (getD_get (by omega)), fun H3 ⟨d3, hr3⟩ b3 => ?_⟩
    have s3 : Same H H3 := fun c o e => (b2.trans b3) c o (s1 c o e) (ne_of_none e nrd)
    -- may_be_node(me, n)
    refine ⟨_, rfl, _, rfl, _, _, rfl, _, rfl, ?_⟩
    have ehead : decide ((2 : Int) ≤ (b.getD 1 0 : Nat) ∧ ((b.getD 1 0 : Nat) : Int) ≤ 8 ∧ (0 : Int) ≤ (b.getD 0 0 : Nat) ∧ ((b.getD 0 0 : Nat) : Int) < (b.getD 1 0 : Nat)) = headB b := by
      unfold headB
      rw [Bool.eq_iff_iff, decide_eq_true_iff, Bool.and_eq_true, Bool.and_eq_true, decide_eq_true_iff, decide_eq_true_iff, decide_eq_true_iff]
      omega
    rw [ehead]
    cases hh : headB b with
    | false =>
      refine iteT (iteT ?_)
      refine k H3 .non s3 ?_
      rw [rdNode_head (by rw [hh, Bool.false_and])]
      rfl
    | true =>
    refine iteF ?_
    -- any(reader.take_some(HEAD_ZEROS))
    refine ⟨_, rfl, rd, _, _, rfl, hr3, rF_none s 2 (by decide +kernel) (by decide +kernel), rd, s, 2, 6, _, rfl, ⟨d3, hr3⟩, s3.seq hS, fun H4 p4 ⟨d4, hr4⟩ b4 hp4 e4 => ?_⟩
    rw [ec] at e4
    have s4 : Same H H4 := fun c o e => b4 c o (s3 c o e) (ne_of_none e nrd)
    refine ⟨p4, nints ((b.drop 2).take 6), rfl, (by rw [← ni_zi]; exact SqL.of e4), _, rfl, ?_⟩
    rw [any_ni]
    have hz := zer_any ((b.drop 2).take 6)
    cases ha : ((b.drop 2).take 6).any (· != 0) with
    | true =>
      rw [ha] at hz
      refine iteT ?_
      refine k H4 .non s4 ?_
      rw [rdNode_head (by rw [hz, Bool.and_comm]; rfl)]
      rfl
    | false =>
    rw [ha] at hz
    have hhz : (headB b && zer ((b.drop 2).take 6)) = true := by rw [hh, hz]; rfl
    refine iteF ?_
    have hh' := hh
    unfold headB at hh'
    rw [Bool.and_eq_true, Bool.and_eq_true, decide_eq_true_iff, decide_eq_true_iff, decide_eq_true_iff] at hh'
    obtain ⟨⟨hn2, hn8⟩, hme⟩ := hh'
    -- node = Node(me, n)
    refine ⟨_, rfl, _, rfl, ?_⟩
    intro nd dn nnd ndn nen
    refine ⟨nd, dn, b.getD 0 0, b.getD 1 0, rfl, upd_same, fun H5 L0 N0 b5 _ => ⟨rfl, ?_⟩⟩
    have s45 : Same H4 H5 := Same.made nnd ndn b5
    have s5 := s4.trans s45
    obtain ⟨dn', hn5⟩ := N0.ins
    have hr5 := s45 _ _ hr4
    have nndH : H nd = none := s4.none nnd
    have hrn : rd ≠ nd := fun z => by rw [← z, hr4] at nnd; cases nnd
    have hn5 : H5 nd = some (.ins CN dn' (nG (b.getD 0 0) (b.getD 1 0) (.ref L0.s) (.ref L0.k) (.ref L0.m) (.ref L0.w))) := hn5
    clear N0 b5
    -- node.seen = stamp_of_bytes(reader.take_some(STAMP_BYTES))
    refine ⟨_, rfl, rd, _, _, rfl, hr5, rF_none s 8 (by decide +kernel) (by decide +kernel), rd, s, 8, 64, _, rfl, ⟨d4, hr5⟩, s5.seq hS, fun H6 p6 ⟨d6, hr6⟩ b6 hp6 e6 => ?_⟩
    rw [ec] at e6
    refine ⟨p6, (b.drop 8).take 64, rfl, SqL.of e6, (by rw [List.length_take, List.length_drop]; omega), (hs.drop _).take _, fun H7 ms s7 hms e7 => ?_⟩
    have hn7 := s7 _ _ (b6 _ _ hn5 (fun z => hrn z.symm))
    have hr7 := s7 _ _ hr6
    refine ⟨_, rfl, nd, CN, dn', _, rfl, hn7, T.cN, T.a_seen, (by show 6 < 1000; decide), ?_⟩
    rw [nG_pseen]
    have s6 : Same H H6 := Chg.same s5 (b6.chg (d := nd)) nrd nndH
    have s7' : Same H H7 := s6.trans s7
    have s8 : Same H (upd H7 nd (.ins CN dn' (nG (b.getD 0 0) (b.getD 1 0) (.ref ms) (.ref L0.k) (.ref L0.m) (.ref L0.w)))) := Chg.same s7' ((But.upd _ _ _).chg2 (r := rd)) nrd nndH
    have hn8' : (upd H7 nd (.ins CN dn' (nG (b.getD 0 0) (b.getD 1 0) (.ref ms) (.ref L0.k) (.ref L0.m) (.ref L0.w)))) nd = some (.ins CN dn' (nG (b.getD 0 0) (b.getD 1 0) (.ref ms) (.ref L0.k) (.ref L0.m) (.ref L0.w))) := upd_same
    have hr8 : (upd H7 nd (.ins CN dn' (nG (b.getD 0 0) (b.getD 1 0) (.ref ms) (.ref L0.k) (.ref L0.m) (.ref L0.w)))) rd = some (.ins CR d6 (rF s 72)) := by rw [upd_ne hrn]; exact hr7
    have e8s : (upd H7 nd (.ins CN dn' (nG (b.getD 0 0) (b.getD 1 0) (.ref ms) (.ref L0.k) (.ref L0.m) (.ref L0.w)))) ms = some (.lst (ni (seenB b))) := by rw [upd_ne (ne_of e7 hn7 (by intro z; cases z))]; exact e7
    have fms : H ms = none := s6.none hms
    generalize upd H7 nd (.ins CN dn' (nG (b.getD 0 0) (b.getD 1 0) (.ref ms) (.ref L0.k) (.ref L0.m) (.ref L0.w))) = H8 at s8 hn8' hr8 e8s
    clear s7' s7 e7 hn7 hr7 s6 hms
    -- node.known = [..]
    refine ⟨8, rfl, by decide, by decide, fun Dk hDk => lc_range (lo := 0) (n := 8) (fun j H' => ∃ kas : List Addr, RdAt CR H' rd s (72 + 64 * j) ∧ Chg rd nd H8 H' ∧ H' nd = some (.ins CN dn' (nG (b.getD 0 0) (b.getD 1 0) (.ref ms) (.ref L0.k) (.ref L0.m) (.ref L0.w))) ∧ H' Dk = some (.lst (kas.map V.ref)) ∧ Paired (StAt (Bq H rd nd [Dk, ms]) H') kas (knownL b j)) ?_ ?_ ?_⟩
    · exact ⟨[], ⟨d6, at_new hr8 hDk⟩, (Same.new hDk).chg, at_new hn8' hDk, upd_same, .nil⟩
    · rintro j H9 hj ⟨kas, ⟨d9, hr9⟩, c9, hn9, e9k, hst9⟩
      have s9 : Same H H9 := Chg.same s8 c9 nrd nndH
      refine ⟨rfl, yes_in ?_⟩
      refine ⟨_, rfl, rd, _, _, rfl, hr9, rF_none s _ (by decide +kernel) (by decide +kernel), rd, s, 72 + 64 * j, 64, _, rfl, ⟨d9, hr9⟩, s9.seq hS, fun Ha pa ⟨da, hra⟩ ba hpa ea => ?_⟩
      rw [ec] at ea
      refine ⟨pa, (b.drop (72 + 64 * j)).take 64, rfl, SqL.of ea, (by rw [List.length_take, List.length_drop]; omega), (hs.drop _).take _, fun Hb q sb hq eb => ?_⟩
      have cab : Chg rd nd H9 Hb := (ba.chg (d := nd)).trans sb.chg
      have hnb := sb _ _ (ba _ _ hn9 (fun z => hrn z.symm))
      have hrb := sb _ _ hra
      have ebk := cab.lst hr9 hn9 e9k
      have hDkn : Dk ≠ nd := ne_of e9k hn9 (by intro z; cases z)
      have hDkr : Dk ≠ rd := ne_of e9k hr9 (by intro z; cases z)
      have eas := (c9.trans (ba.chg (d := nd))).lst hr8 hn8' e8s
      have eak := (ba.chg (d := nd)).lst hr9 hn9 e9k
      have tra : ∀ c, Bq H rd nd [Dk, ms] c → Ha c ≠ none := Bq.tr (Chg.same s9 (ba.chg (d := nd)) nrd nndH) hra (ba _ _ hn9 (fun z => hrn z.symm)) fun m hm => by
        rcases List.mem_cons.mp hm with z | z
        · rw [z, eak]; exact fun q => nomatch q
        · rw [List.mem_singleton.mp z, eas]; exact fun q => nomatch q
      have hqB : ¬ Bq H rd nd [Dk, ms] q := fun z => tra q z hq
      have hqD : q ≠ Dk := fun z => hqB (.inr (.inr (.inr (by rw [z]; exact List.mem_cons_self ..))))
      have kB : Keep (Bq H rd nd [Dk, ms]) H9 (upd Hb Dk (.lst (kas.map V.ref ++ [V.ref q]))) := (cab.keep (.inr (.inl rfl)) (.inr (.inr (.inl rfl)))).trans fun c o e n => by
        rw [upd_ne (fun z => n (.inr (.inr (.inr (by rw [z]; exact List.mem_cons_self ..)))))]
        exact e
      have klen := paired_len hst9
      refine ⟨_, ebk, ?_, kas ++ [q], ⟨da, by rw [upd_ne (fun z => hDkr z.symm)]; exact hrb⟩, ?_, by rw [upd_ne (fun z => hDkn z.symm)]; exact hnb, by rw [upd_same, List.map_append]; rfl, ?_⟩
      · unfold knownL at klen
        rw [List.length_map, List.length_range] at klen
        rw [List.length_map]
        have hz : kas.length ≤ 16000000 := by omega
        exact small_lt hz
      · exact fun c o e n1 n2 => by
          rw [upd_ne (ne_of_none e hDk)]
          exact (c9.trans cab) c o e n1 n2
      · unfold knownL at hst9 ⊢
        rw [List.range_succ, List.map_append]
        exact paired_append (paired_imp (fun _ _ q => StAt.keep q kB) hst9) (.cons ⟨by rw [upd_ne hqD]; exact eb, hqB⟩ .nil)
    rintro H9 ⟨kas, ⟨d9, hr9⟩, c9, hn9, e9k, hst9⟩
    have s9 : Same H H9 := Chg.same s8 c9 nrd nndH
    have e9s := c9.lst hr8 hn8' e8s
    have fDk : H Dk = none := s8.none hDk
    have sDk : Dk ≠ ms := fun z => by rw [z, e8s] at hDk; cases hDk
    refine ⟨_, rfl, nd, CN, dn', _, rfl, hn9, T.cN, T.a_known, (by show 6 < 1000; decide), ?_⟩
    rw [nG_pknown]
    have R9 : RInv CP H rd nd [Dk, ms] kas (knownL b 8) H9 [] := by
      refine ⟨fun l ps q => absurd q List.not_mem_nil, ?_, fun m hm => ?_, hst9⟩
      · show ([Dk, ms] : List Addr).Nodup
        rw [List.nodup_cons]
        exact ⟨by simpa using sDk, by simp⟩
      · have hm : m ∈ [Dk, ms] := hm
        rcases List.mem_cons.mp hm with z | z
        · rw [z]; exact fDk
        · rw [List.mem_singleton.mp z]; exact fms
    have c10 : Chg rd nd H9 (upd H9 nd (.ins CN dn' (nG (b.getD 0 0) (b.getD 1 0) (.ref ms) (.ref Dk) (.ref L0.m) (.ref L0.w)))) := (But.upd _ _ _).chg2
    have R10 := R9.chg c10 hr9 hn9
    have e10s := c10.lst hr9 hn9 e9s
    have e10k := c10.lst hr9 hn9 e9k
    have s10 : Same H _ := Chg.same s9 c10 nrd nndH
    have hn10 : (upd H9 nd (.ins CN dn' (nG (b.getD 0 0) (b.getD 1 0) (.ref ms) (.ref Dk) (.ref L0.m) (.ref L0.w)))) nd = some (.ins CN dn' (nG (b.getD 0 0) (b.getD 1 0) (.ref ms) (.ref Dk) (.ref L0.m) (.ref L0.w))) := upd_same
    have hr10 : (upd H9 nd (.ins CN dn' (nG (b.getD 0 0) (b.getD 1 0) (.ref ms) (.ref Dk) (.ref L0.m) (.ref L0.w)))) rd = some (.ins CR d9 (rF s 584)) := by rw [upd_ne hrn]; exact hr9
    generalize upd H9 nd (.ins CN dn' (nG (b.getD 0 0) (b.getD 1 0) (.ref ms) (.ref Dk) (.ref L0.m) (.ref L0.w))) = H10 at c10 R10 e10s e10k s10 hn10 hr10
    clear c10 R9 s9 e9s e9k hn9 hr9 hst9 c9
    -- node.mine = read_posts(reader, n)
    refine ⟨_, rfl, _, rfl, rd, s, 584, b, b.getD 1 0, rfl, ⟨d9, hr10⟩, s10.seq hS, hs, by omega, hn8, fun H11 vm ⟨d11, hr11⟩ b11 ho11 => ?_⟩
    obtain ⟨om, evm, eom, R11⟩ := R10.step ho11 b11 s10 hr10 hn10 fun m hm => by
      have hm : m ∈ [Dk, ms] := hm
      rcases List.mem_cons.mp hm with z | z
      · rw [z, e10k]; exact fun q => nomatch q
      · rw [List.mem_singleton.mp z, e10s]; exact fun q => nomatch q
    have R11 : RInv CP H rd nd [Dk, ms] kas (knownL b 8) H11 [om] := R11
    subst evm
    have hn11 := b11 _ _ hn10 (fun z => hrn z.symm)
    have s11 : Same H H11 := Chg.same s10 (b11.chg (d := nd)) nrd nndH
    have e11s := (b11.chg (d := nd)).lst hr10 hn10 e10s
    have e11k := (b11.chg (d := nd)).lst hr10 hn10 e10k
    refine ⟨_, rfl, nd, CN, dn', _, rfl, hn11, T.cN, T.a_mine, (by show 6 < 1000; decide), ?_⟩
    rw [nG_pmine]
    have c12 : Chg rd nd H11 (upd H11 nd (.ins CN dn' (nG (b.getD 0 0) (b.getD 1 0) (.ref ms) (.ref Dk) (rowV om) (.ref L0.w)))) := (But.upd _ _ _).chg2
    have R12 := R11.chg c12 hr11 hn11
    have e12s := c12.lst hr11 hn11 e11s
    have e12k := c12.lst hr11 hn11 e11k
    have s12 : Same H _ := Chg.same s11 c12 nrd nndH
    have hn12 : (upd H11 nd (.ins CN dn' (nG (b.getD 0 0) (b.getD 1 0) (.ref ms) (.ref Dk) (rowV om) (.ref L0.w)))) nd = some (.ins CN dn' (nG (b.getD 0 0) (b.getD 1 0) (.ref ms) (.ref Dk) (rowV om) (.ref L0.w))) := upd_same
    have hr12 : (upd H11 nd (.ins CN dn' (nG (b.getD 0 0) (b.getD 1 0) (.ref ms) (.ref Dk) (rowV om) (.ref L0.w)))) rd = some (.ins CR d11 (rF s 3920)) := by rw [upd_ne hrn]; exact hr11
    generalize upd H11 nd (.ins CN dn' (nG (b.getD 0 0) (b.getD 1 0) (.ref ms) (.ref Dk) (rowV om) (.ref L0.w))) = H12 at c12 R12 e12s e12k s12 hn12 hr12
    clear c12 R11 e11s e11k hn11 hr11 R10 e10s e10k hn10 hr10 s10 s11 b11 ho11
    -- node.waits = [read_posts(reader, n) for j in range(NODES)]
    refine ⟨8, rfl, by decide, by decide, fun Dw hDw => ?_⟩
    have trow : ∀ {Hc : Hp} {base : List Addr} {rows : List RowR}, RInv CP H rd nd base kas (knownL b 8) Hc rows → ∀ m, m ∈ lsR rows → Hc m ≠ none := fun R m hm z => by
      obtain ⟨ps, q⟩ := mem_lsR hm
      obtain ⟨_, e, _⟩ := R.posts m ps q
      rw [e] at z
      cases z
    have fDw : H Dw = none := s12.none hDw
    have nDw : Dw ∉ [Dk, ms] ++ lsR [om] := fun q => by
      rcases List.mem_append.mp q with z | z
      · rcases List.mem_cons.mp z with y | y
        · rw [y, e12k] at hDw; cases hDw
        · rw [List.mem_singleton.mp y, e12s] at hDw; cases hDw
      · exact trow R12 Dw z hDw
    have R12w := R12.more hDw fDw nDw
    refine lc_range (lo := 0) (n := 8) (fun j H' => ∃ rows : List RowR, RdAt CR H' rd s (3920 + 3336 * j) ∧ Chg rd nd H12 H' ∧ H' nd = some (.ins CN dn' (nG (b.getD 0 0) (b.getD 1 0) (.ref ms) (.ref Dk) (rowV om) (.ref L0.w))) ∧ H' Dw = some (.lst (rows.map rowV)) ∧ RInv CP H rd nd [Dw, Dk, ms] kas (knownL b 8) H' (om :: rows) ∧ rows.map (Option.map Prod.snd) = waitR b j) ?_ ?_ ?_
    · refine ⟨[], ⟨d11, at_new hr12 hDw⟩, (Same.new hDw).chg, at_new hn12 hDw, upd_same, ?_, rfl⟩
      exact R12w.keep (Same.new hDw).keep fun l hl xs e => at_new e hDw
    · rintro j H13 hj ⟨rows, ⟨d13, hr13⟩, c13, hn13, e13w, R13, erows⟩
      have s13 : Same H H13 := Chg.same s12 c13 nrd nndH
      refine ⟨rfl, yes_in ?_⟩
      refine ⟨_, rfl, _, rfl, rd, s, 3920 + 3336 * j, b, b.getD 1 0, rfl, ⟨d13, hr13⟩, s13.seq hS, hs, by omega, hn8, fun Ha va ⟨da, hra⟩ ba hoa => ?_⟩
      have e13s := c13.lst hr12 hn12 e12s
      have e13k := c13.lst hr12 hn12 e12k
      obtain ⟨row, erow, eo, Ra⟩ := R13.step hoa ba s13 hr13 hn13 fun m hm => by
        rcases List.mem_append.mp hm with z | z
        · rcases List.mem_cons.mp z with y | y
          · rw [y, e13w]; exact fun q => nomatch q
          rcases List.mem_cons.mp y with y | y
          · rw [y, e13k]; exact fun q => nomatch q
          · rw [List.mem_singleton.mp y, e13s]; exact fun q => nomatch q
        · exact trow R13 m z
      subst erow
      have hna := ba _ _ hn13 (fun z => hrn z.symm)
      have eaw := (ba.chg (d := nd)).lst hr13 hn13 e13w
      have hDwn : Dw ≠ nd := ne_of e13w hn13 (by intro z; cases z)
      have hDwr : Dw ≠ rd := ne_of e13w hr13 (by intro z; cases z)
      have rlen : rows.length = j := by
        have := congrArg List.length erows
        unfold waitR at this
        rw [List.length_map, List.length_map, List.length_range] at this
        exact this
      refine ⟨_, eaw, ?_, rows ++ [row], ⟨da, by rw [upd_ne (fun z => hDwr z.symm)]; exact hra⟩, ?_, by rw [upd_ne (fun z => hDwn z.symm)]; exact hna, by rw [upd_same, List.map_append]; rfl, ?_, ?_⟩
      · rw [List.length_map]
        have hz : rows.length ≤ 16000000 := by omega
        exact small_lt hz
      · exact fun c o e n1 n2 => by
          rw [upd_ne (ne_of_none e hDw)]
          exact (c13.trans (ba.chg (d := nd))) c o e n1 n2
      · have Ra : RInv CP H rd nd [Dw, Dk, ms] kas (knownL b 8) Ha (om :: (rows ++ [row])) := Ra
        refine Ra.keep (fun c o e n => ?_) fun l hl xs e => ?_
        · rw [upd_ne (fun z => n (.inr (.inr (.inr (by rw [z]; exact List.mem_cons_self ..)))))]
          exact e
        · rw [upd_ne (fun z => ?_)]
          · exact e
          · have nd3 := Ra.nd
            rw [z] at hl
            rw [List.nodup_append] at nd3
            exact nd3.2.2 Dw (List.mem_cons_self ..) Dw hl rfl
      · unfold waitR at erows ⊢
        rw [List.map_append, erows, List.range_succ, List.map_append]
        show _ ++ [row.map Prod.snd] = _ ++ [rdPosts (b.getD 1 0) (rowOf b (3920 + 3336 * j))]
        rw [eo]
        rfl
    rintro H13 ⟨rows, ⟨d13, hr13⟩, c13, hn13, e13w, R13, erows⟩
    have s13 : Same H H13 := Chg.same s12 c13 nrd nndH
    have e13s := c13.lst hr12 hn12 e12s
    have e13k := c13.lst hr12 hn12 e12k
    refine ⟨_, rfl, nd, CN, dn', _, rfl, hn13, T.cN, T.a_waits, (by show 6 < 1000; decide), ?_⟩
    rw [nG_pwaits]
    have c14 : Chg rd nd H13 (upd H13 nd (.ins CN dn' (nG (b.getD 0 0) (b.getD 1 0) (.ref ms) (.ref Dk) (rowV om) (.ref Dw)))) := (But.upd _ _ _).chg2
    have R14 := R13.chg c14 hr13 hn13
    have e14s := c14.lst hr13 hn13 e13s
    have e14k := c14.lst hr13 hn13 e13k
    have e14w := c14.lst hr13 hn13 e13w
    have s14 : Same H _ := Chg.same s13 c14 nrd nndH
    have hn14 : (upd H13 nd (.ins CN dn' (nG (b.getD 0 0) (b.getD 1 0) (.ref ms) (.ref Dk) (rowV om) (.ref Dw)))) nd = some (.ins CN dn' (nG (b.getD 0 0) (b.getD 1 0) (.ref ms) (.ref Dk) (rowV om) (.ref Dw))) := upd_same
    generalize upd H13 nd (.ins CN dn' (nG (b.getD 0 0) (b.getD 1 0) (.ref ms) (.ref Dk) (rowV om) (.ref Dw))) = H14 at c14 R14 e14s e14k e14w s14 hn14
    clear c14 R13 e13s e13k e13w hn13 hr13 s13 c13 R12w R12 e12s e12k hn12 hr12
    -- if node.mine is None or any([posts is None for posts in node.waits])
    have eown : rdPosts (b.getD 1 0) (rowOf b 584) = om.map Prod.snd := eom.symm
    refine ⟨_, rfl, nd, _, _, _, _, rfl, hn14, T.cN, T.a_mine, nG_mine _ _ _ _ _ _, rfl, _, rfl, ?_⟩
    rw [rowV_none]
    cases om with
    | none =>
      refine iteT (iteT ?_)
      refine k H14 .non s14 ?_
      rw [rdNode_own hhz eown]
      rfl
    | some mo =>
    obtain ⟨mm, own⟩ := mo
    refine iteF ?_
    have rlen : rows.length = 8 := by
      have := congrArg List.length erows
      unfold waitR at this
      rw [List.length_map, List.length_map, List.length_range] at this
      exact this
    refine ⟨_, rfl, nd, _, _, _, _, rfl, hn14, T.cN, T.a_waits, nG_waits _ _ _ _ _ _, Dw, rfl, ⟨_, SqL.of e14w⟩, fun D2 hD2 => lc_pure (K := K) (fun j => rows[j]?.map fun o => V.bl (o.map Prod.snd).isNone) (SqL.of e14w) (by rw [List.length_map, rlen]; decide) hD2 ?_ ?_⟩
    · intro j y H15 hj s15 Rr Cc hR hC
      rw [List.getElem?_map] at hj
      cases e : rows[j]? with
      | none => rw [e] at hj; cases hj
      | some o =>
        rw [e] at hj
        have hj : rowV o = y := Option.some.inj hj
        subst hj
        refine ⟨rfl, yes_in ⟨_, rfl, rfl, ?_⟩⟩
        rw [rowV_none]
        exact hR _ (by rw [e]; rfl)
    intro H15 s15 e15
    rw [List.length_map, range_map (fun o : RowR => V.bl (o.map Prod.snd).isNone) rows] at e15
    have emb : rows.map (fun o : RowR => V.bl (o.map Prod.snd).isNone) = ((waitR b 8).map fun o => o.isNone).map V.bl := by
      rw [← erows, List.map_map, List.map_map]
      rfl
    rw [emb] at e15
    refine ⟨D2, _, rfl, SqL.of e15, _, rfl, ?_⟩
    rw [List.any_map]
    cases hany : (waitR b 8).any (id ∘ fun o => o.isNone) with
    | true =>
      have hany2 : (waitR b 8).any (·.isNone) = true := hany
      refine iteT ?_
      refine k H15 .non (s14.trans s15) ?_
      rw [rdNode_waits hhz hany2]
      rfl
    | false =>
    have hany2 : (waitR b 8).any (·.isNone) = false := hany
    refine iteF ?_
    -- the node that was read
    obtain ⟨x, hx⟩ : ∃ x : Sv27.Node, x = ⟨b.getD 0 0, b.getD 1 0, seenB b, knownL b 8, own, (waitR b 8).filterMap id⟩ := ⟨_, rfl⟩
    have R15 := R14.keep s15.keep fun l hl xs e => s15 _ _ e
    obtain ⟨ev, hpw⟩ := rows_all (CP := CP) (B := Bq H rd nd ([Dw, Dk, ms] ++ lsR (some (mm, own) :: rows))) (H := H15) (rows := rows) (by rw [erows]; exact hany2) fun l ps q => R15.posts l ps (List.mem_cons_of_mem _ q)
    rw [erows] at hpw
    have hmine := R15.posts mm own (List.mem_cons_self ..)
    have hn15 := s15 _ _ hn14
    have e15s := s15 _ _ e14s
    have e15k := s15 _ _ e14k
    have e15w := s15 _ _ e14w
    rw [ev] at e15w
    have ndup := R15.nd
    have ndup : (Dw :: Dk :: ms :: mm :: lsR rows).Nodup := ndup
    have mutM : ∀ c, c ∈ Lay.muts ⟨ms, Dk, mm, Dw, lsR rows⟩ → c ∈ [Dw, Dk, ms] ++ lsR (some (mm, own) :: rows) := fun c hc => by
      show c ∈ Dw :: Dk :: ms :: mm :: lsR rows
      rcases List.mem_cons.mp hc with z | z
      · rw [z]; simp
      rcases (List.mem_cons.mp z) with z | z
      · rw [z]; simp
      · exact List.mem_cons_of_mem _ (List.mem_cons_of_mem _ (List.mem_cons_of_mem _ z))
    have anti : ∀ c, (H c ≠ none ∨ c ∈ Lay.muts ⟨ms, Dk, mm, Dw, lsR rows⟩) → Bq H rd nd ([Dw, Dk, ms] ++ lsR (some (mm, own) :: rows)) c := by
      rintro c (z | z)
      · exact .inl z
      · exact .inr (.inr (.inr (mutM c z)))
    have pa : ∀ {a p}, PostAt CP (Bq H rd nd ([Dw, Dk, ms] ++ lsR (some (mm, own) :: rows))) H15 a p → PostAt CP (fun c => H c ≠ none ∨ c ∈ Lay.muts ⟨ms, Dk, mm, Dw, lsR rows⟩) H15 a p := by
      rintro a p ⟨dx, st, t, q1, q2, q3, n1, n2, n3⟩
      exact ⟨dx, st, t, q1, q2, q3, fun z => n1 (anti _ z), fun z => n2 (anti _ z), fun z => n3 (anti _ z)⟩
    have pp : ∀ {l ps}, PostsAt CP (Bq H rd nd ([Dw, Dk, ms] ++ lsR (some (mm, own) :: rows))) H15 l ps → PostsAt CP (fun c => H c ≠ none ∨ c ∈ Lay.muts ⟨ms, Dk, mm, Dw, lsR rows⟩) H15 l ps := by
      rintro l ps ⟨pas, e, q⟩
      exact ⟨pas, e, paired_imp (fun _ _ z => pa z) q⟩
    have mutL : ∀ c, c ∈ Lay.muts ⟨ms, Dk, mm, Dw, lsR rows⟩ → ∃ l, H15 c = some (.lst l) := fun c hc => by
      rcases List.mem_cons.mp hc with z | z
      · rw [z]; exact ⟨_, e15s⟩
      rcases (List.mem_cons.mp z) with z | z
      · rw [z]; exact ⟨_, e15k⟩
      rcases (List.mem_cons.mp z) with z | z
      · rw [z]; obtain ⟨_, e, _⟩ := hmine; exact ⟨_, e⟩
      · obtain ⟨ps, q⟩ := mem_lsR z
        obtain ⟨_, e, _⟩ := R15.posts c ps (List.mem_cons_of_mem _ q)
        exact ⟨_, e⟩
    have Nx : NodeAt CN CP (fun c => H c ≠ none ∨ c ∈ Lay.muts ⟨ms, Dk, mm, Dw, lsR rows⟩) H15 nd ⟨ms, Dk, mm, Dw, lsR rows⟩ x := by
      subst hx
      refine ⟨⟨dn', hn15⟩, ?_, e15s, ⟨kas, e15k, paired_imp (fun _ _ q => ⟨q.1, fun z => q.2 (anti _ z)⟩) R15.st⟩, pp hmine, e15w, ?_, paired_imp (fun _ _ q => pp q) hpw, fun m hm => .inr hm, ?_⟩
      · rintro (z | z)
        · exact z nndH
        · obtain ⟨l, e⟩ := mutL nd z
          rw [hn15] at e
          cases e
      · rintro (z | z)
        · exact z fDw
        · rw [List.nodup_cons] at ndup
          refine ndup.1 ?_
          have z : Dw ∈ ms :: Dk :: mm :: lsR rows := z
          rcases List.mem_cons.mp z with y | y
          · exact List.mem_cons_of_mem _ (by rw [y]; exact List.mem_cons_self ..)
          rcases List.mem_cons.mp y with y | y
          · rw [y]; exact List.mem_cons_self ..
          · exact List.mem_cons_of_mem _ (List.mem_cons_of_mem _ y)
      · show (ms :: Dk :: mm :: lsR rows).Nodup
        rw [List.nodup_cons, List.nodup_cons, List.nodup_cons] at ndup
        obtain ⟨n1, n2, n3, n4⟩ := ndup
        rw [List.nodup_cons, List.nodup_cons]
        refine ⟨?_, ?_, n4⟩
        · intro q
          rcases List.mem_cons.mp q with y | y
          · exact n2 (by rw [y]; simp)
          · exact n3 y
        · intro q
          exact n2 (List.mem_cons_of_mem _ q)
    have wl8 : ((waitR b 8).filterMap id).length = 8 := by
      have q := paired_len hpw
      have q2 := congrArg List.length ev
      rw [List.length_map, List.length_map, rlen] at q2
      omega
    have hsh : Shp x := by
      subst hx
      refine ⟨hn8, hme, stampOf_length _, by show (knownL b 8).length = 8; unfold knownL; rw [List.length_map, List.length_range], ?_, ?_, ?_, wl8, ?_⟩
      · intro st hst
        obtain ⟨_, _, rfl⟩ := List.mem_map.mp (show st ∈ (List.range 8).map fun j => stampOf ((b.drop (72 + 64 * j)).take 64) from hst)
        exact stampOf_length _
      · exact (rdPosts_shape eown).1
      · exact (rdPosts_shape eown).2
      · intro ps hps
        have hps : ps ∈ (waitR b 8).filterMap id := hps
        rw [List.mem_filterMap] at hps
        obtain ⟨o, ho, e⟩ := hps
        have e : o = some ps := e
        subst e
        obtain ⟨j, _, hj⟩ := List.mem_map.mp (show some ps ∈ (List.range 8).map fun j => rdPosts (b.getD 1 0) (rowOf b (3920 + 3336 * j)) from ho)
        exact rdPosts_shape hj
    rw [rdNode_some hhz eown hany2 hx] at k
    have s15H := s14.trans s15
    -- if is_known_so(node) and is_mine_so(node) and is_waiting_so(node)
    refine ⟨_, rfl, nd, _, _, x, rfl, Nx, hsh, fun H16 s16 => ⟨_, rfl, ?_⟩⟩
    cases hk1 : knownSo x with
    | false =>
      rw [hk1, Bool.false_and, Bool.false_and, if_neg (by decide)] at k
      exact iteF (iteF (k H16 .non (s15H.trans s16) rfl))
    | true =>
    rw [hk1, Bool.true_and] at k
    have hMs : of x.seen x.me ≤ 4611686018427387904 := by
      have q : stampOk x.n x.seen = true := by
        unfold knownSo at hk1
        rw [Bool.and_eq_true] at hk1
        exact hk1.1
      unfold stampOk at q
      rw [Bool.and_eq_true, List.all_eq_true] at q
      have z := q.2 x.me (List.mem_range.mpr (by have := hsh.me; have := hsh.n8; omega))
      rw [decide_eq_true_iff, if_pos hsh.me] at z
      exact z
    refine iteT ⟨_, rfl, nd, _, _, x, rfl, Nx.same s16, hsh, hMs, fun H17 s17 => ⟨_, rfl, ?_⟩⟩
    have s167 := s16.trans s17
    cases hk2 : mineSo x with
    | false =>
      rw [hk2, Bool.false_and, if_neg (by decide)] at k
      exact iteF (iteF (k H17 .non (s15H.trans s167) rfl))
    | true =>
    rw [hk2, Bool.true_and] at k
    refine iteT ⟨_, rfl, nd, _, _, x, rfl, Nx.same s167, hsh, fun H18 s18 => ⟨_, rfl, ?_⟩⟩
    have s178 := s167.trans s18
    cases hk3 : waitingSo x with
    | false =>
      rw [hk3, if_neg (by decide)] at k
      exact iteF (k H18 .non (s15H.trans s178) rfl)
    | true =>
    rw [hk3, if_pos rfl] at k
    refine iteT ⟨_, rfl, k H18 (.ref nd) (s15H.trans s178) ⟨nd, _, rfl, fun m hm => R15.fr m (mutM m hm), Nx.same s178⟩⟩
end
end Po

namespace Po
open PySem PySem.Spec PyProof.Rows L2
open Sv27 (little stampBytes stampOf stampOk nobody padded Bytes Stamp of word rowBytes postBytes)
set_option linter.all false
/-! ### all objects, as they lie in the heap -/
/-- the list that was handed in: nobody changes it -/
def Scr (K : PySem.W.Frag) (H : Hp) (a : Addr) (xs : List V) : Prop := (∃ o, H a = some (.frz o (.lst xs))) ∨ ∀ Hx : Hp, SqL K Hx a xs
theorem Scr.seq {K : PySem.W.Frag} {H : Hp} {a : Addr} {xs : List V} (h : Scr K H a xs) : SqL K H a xs := by
  rcases h with ⟨o, h⟩ | h
  · exact .inl (.inr ⟨o, h⟩)
  · exact h H
theorem Scr.same {K : PySem.W.Frag} {H H' : Hp} {a : Addr} {xs : List V} (h : Scr K H a xs) (s : Same H H') : Scr K H' a xs := by
  rcases h with ⟨o, h⟩ | h
  · exact .inl ⟨o, s _ _ h⟩
  · exact .inr h
theorem Scr.but {K : PySem.W.Frag} {H H' : Hp} {a r : Addr} {xs : List V} (h : Scr K H a xs) (s : But r H H') {u : HO} (hr : H r = some u) (hu : ∀ o w, u ≠ .frz o w) : Scr K H' a xs := by
  rcases h with ⟨o, h⟩ | h
  · exact .inl ⟨o, s _ _ h (ne_of h hr fun z => hu _ _ z.symm)⟩
  · exact .inr h
theorem Scr.keep {K : PySem.W.Frag} {H H' : Hp} {a : Addr} {xs : List V} {M : Addr → Prop} (h : Scr K H a xs) (s : Keep M H H') (hM : ∀ c, M c → ∃ u, H c = some u ∧ ∀ o w, u ≠ .frz o w) : Scr K H' a xs := by
  rcases h with ⟨o, h⟩ | h
  · refine .inl ⟨o, s _ _ h fun z => ?_⟩
    obtain ⟨u, e, hu⟩ := hM _ z
    rw [h] at e
    exact hu _ _ (Option.some.inj e).symm
  · exact .inr h
theorem lst_frz {l : List V} : ∀ o w, (HO.lst l) ≠ .frz o w := by intro o w z; cases z
theorem ins_frz {C d : Addr} {f : List (Str × V)} : ∀ o w, (HO.ins C d f) ≠ .frz o w := by intro o w z; cases z
abbrev Cell := Option (Addr × Lay)
def cellV : Cell → V
  | none => .non
  | some (a, _) => .ref a
def CellAt (CN CP : Addr) (B : Addr → Prop) (H : Hp) : Cell → Sv27.Abs → Prop
  | none, none => True
  | some (a, L), some x => NodeAt CN CP B H a L x ∧ WF x
  | _, _ => False
structure Wld (CN CP : Addr) (H : Hp) (nl : Addr) (B : Addr → Prop) (ls : List Cell) (ext : List Addr) (S : Sv27Neutral.S) : Prop where
  lst : H nl = some (.lst (ls.map cellV))
  len : S.length = 8
  ex : ∀ e, e ∈ ext → B e
  nl : nl ∈ ext
  cells : Paired (CellAt CN CP B H) ls S
  dis : ∀ (i j : Nat) (a : Addr) (L : Lay) (a' : Addr) (L' : Lay), i ≠ j → ls[i]? = some (some (a, L)) → ls[j]? = some (some (a', L')) → ∀ m, m ∈ Lay.muts L → m ∉ Lay.muts L'
  exd : ∀ (i : Nat) (a : Addr) (L : Lay), ls[i]? = some (some (a, L)) → ∀ m, m ∈ Lay.muts L → m ∉ ext
  tr : ∀ c, B c → H c ≠ none
theorem Wld.llen {CN CP : Addr} {H : Hp} {nl : Addr} {B : Addr → Prop} {ls : List Cell} {ext : List Addr} {S : Sv27Neutral.S} (h : Wld CN CP H nl B ls ext S) : ls.length = 8 := (paired_len h.cells).trans h.len
/-- a cell by its number -/
theorem Wld.cell {CN CP : Addr} {H : Hp} {nl : Addr} {B : Addr → Prop} {ls : List Cell} {ext : List Addr} {S : Sv27Neutral.S} (h : Wld CN CP H nl B ls ext S) {k : Nat} (hk : k < 8) : ∃ c, ls[k]? = some c ∧ CellAt CN CP B H c (S.getD k none) := by
  obtain ⟨c, hc⟩ : ∃ c, ls[k]? = some c := ⟨_, List.getElem?_eq_getElem (by rw [h.llen]; exact hk)⟩
  obtain ⟨s, hs, q⟩ := paired_get h.cells hc
  refine ⟨c, hc, ?_⟩
  rw [List.getD_eq_getElem?_getD, hs]
  exact q
theorem Wld.node {CN CP : Addr} {H : Hp} {nl : Addr} {B : Addr → Prop} {ls : List Cell} {ext : List Addr} {S : Sv27Neutral.S} (h : Wld CN CP H nl B ls ext S) {k : Nat} (hk : k < 8) {x : Sv27.Node} (hx : S.getD k none = some x) : ∃ a L, ls[k]? = some (some (a, L)) ∧ NodeAt CN CP B H a L x ∧ WF x := by
  obtain ⟨c, hc, q⟩ := h.cell hk
  rw [hx] at q
  cases c with
  | none => exact absurd q (fun z => z)
  | some al => exact ⟨al.1, al.2, hc, q.1, q.2⟩
theorem cells_mem {CN CP : Addr} {B : Addr → Prop} {H H' : Hp} {ls : List Cell} {S : List Sv27.Abs} (h : Paired (CellAt CN CP B H) ls S) (g : ∀ (i : Nat) (a : Addr) (L : Lay) (x : Sv27.Node), ls[i]? = some (some (a, L)) → NodeAt CN CP B H a L x → NodeAt CN CP B H' a L x) : Paired (CellAt CN CP B H') ls S := by
  induction h with
  | nil => exact .nil
  | @cons c s l₁ l₂ f r ih =>
    refine .cons ?_ (ih fun i a L x hi => g (i + 1) a L x (by simpa using hi))
    cases c with
    | none =>
      cases s with
      | none => exact trivial
      | some _ => exact f
    | some al =>
      cases s with
      | none => exact f
      | some x => exact ⟨g 0 al.1 al.2 x rfl f.1, f.2⟩
/-- nothing of it is changed -/
theorem Wld.keep {CN CP : Addr} {H H' : Hp} {nl : Addr} {B : Addr → Prop} {ls : List Cell} {ext : List Addr} {S : Sv27Neutral.S} (h : Wld CN CP H nl B ls ext S) {r : Addr} (hr : r ∈ ext) (hn : r ≠ nl) (b : But r H H') (hr' : H' r ≠ none) : Wld CN CP H' nl B ls ext S := by
  refine ⟨b _ _ h.lst (fun z => hn z.symm), h.len, h.ex, h.nl, cells_mem h.cells fun i a L x hi N => N.keep (b.keep (h.ex r hr)) fun m o hm e => b _ _ e fun z => h.exd i a L hi m hm (by rw [z]; exact hr), h.dis, h.exd, fun c hc z => ?_⟩
  by_cases q : c = r
  · rw [q] at z; exact hr' z
  · cases e : H c with
    | none => exact h.tr c hc e
    | some o => rw [b _ _ e q] at z; cases z
theorem Wld.same {CN CP : Addr} {H H' : Hp} {nl : Addr} {B : Addr → Prop} {ls : List Cell} {ext : List Addr} {S : Sv27Neutral.S} (h : Wld CN CP H nl B ls ext S) (s : Same H H') : Wld CN CP H' nl B ls ext S := by
  refine ⟨s _ _ h.lst, h.len, h.ex, h.nl, cells_mem h.cells fun i a L x hi N => N.same s, h.dis, h.exd, fun c hc z => ?_⟩
  cases e : H c with
  | none => exact h.tr c hc e
  | some o => rw [s _ _ e] at z; cases z
/-- one node is changed -/
theorem Wld.change {CN CP : Addr} {H H' : Hp} {nl : Addr} {B : Addr → Prop} {ls : List Cell} {ext : List Addr} {S : Sv27Neutral.S} (h : Wld CN CP H nl B ls ext S) {k : Nat} {a : Addr} {L : Lay} {x' : Sv27.Node} (hk : ls[k]? = some (some (a, L))) (N : NodeAt CN CP B H' a L x') (hw : WF x') (kp : Keep (fun b => b ∈ L.muts) H H') : Wld CN CP H' nl B ls ext (S.set k (some x')) := by
  have hB : ∀ m, m ∈ L.muts → B m := N.bar
  have kB : Keep B H H' := kp.mono hB
  refine ⟨kp _ _ h.lst fun z => h.exd k a L hk nl z h.nl, by rw [List.length_set]; exact h.len, h.ex, h.nl, ?_, h.dis, h.exd, fun c hc z => ?_⟩
  · have key : ∀ {ls' : List Cell} {S' : List Sv27.Abs} {j : Nat}, Paired (CellAt CN CP B H) ls' S' → ls'[j]? = some (some (a, L)) → (∀ (i : Nat) (a' : Addr) (L' : Lay), i ≠ j → ls'[i]? = some (some (a', L')) → ∀ m, m ∈ Lay.muts L' → m ∉ L.muts) → Paired (CellAt CN CP B H') ls' (S'.set j (some x')) := by
      intro ls' S' j hp
      induction hp generalizing j with
      | nil => intro q; simp at q
      | @cons c s l₁ l₂ f r ih =>
        intro hj hd
        cases j with
        | zero =>
          have e : c = some (a, L) := Option.some.inj hj
          subst e
          refine .cons ⟨N, hw⟩ (cells_mem r fun i a' L' x hi N' => N'.keep kB fun m o hm e => kp _ _ e (hd (i + 1) a' L' (by omega) (by simpa using hi) m hm))
        | succ j =>
          refine .cons ?_ (ih (by simpa using hj) fun i a' L' hij hi => hd (i + 1) a' L' (by omega) (by simpa using hi))
          cases c with
          | none =>
            cases s with
            | none => exact trivial
            | some _ => exact f
          | some al =>
            cases s with
            | none => exact f
            | some x => exact ⟨f.1.keep kB fun m o hm e => kp _ _ e (hd 0 al.1 al.2 (by omega) rfl m hm), f.2⟩
    exact key h.cells hk fun i a' L' hij hi m hm => h.dis i k a' L' a L hij hi hk m hm
  · by_cases q : c ∈ L.muts
    · obtain ⟨o, e⟩ := N.tracked q
      rw [e] at z; cases z
    · cases e : H c with
      | none => exact h.tr c hc e
      | some o => rw [kp _ _ e q] at z; cases z
/-- a new node takes a place -/
theorem Wld.put {CN CP : Addr} {H H' : Hp} {nl : Addr} {B : Addr → Prop} {ls : List Cell} {ext : List Addr} {S : Sv27Neutral.S} (h : Wld CN CP H nl B ls ext S) {k : Nat} {a : Addr} {L : Lay} {x : Sv27.Node} (hk : k < 8) (s : Same H H') (N : NodeAt CN CP (fun c => H c ≠ none ∨ c ∈ L.muts) H' a L x) (hw : WF x) (fr : ∀ m, m ∈ L.muts → H m = none) :
    Wld CN CP (upd H' nl (.lst ((ls.map cellV).set k (.ref a)))) nl (fun c => B c ∨ c ∈ L.muts) (ls.set k (some (a, L))) ext (S.set k (some x)) := by
  have h' := h.same s
  have nfr : ∀ m, m ∈ L.muts → ¬ B m := fun m hm q => h.tr m q (fr m hm)
  have N1 : NodeAt CN CP (fun c => B c ∨ c ∈ L.muts) H' a L x := N.anti (fun c q => q.elim (fun z => .inl (h.tr c z)) .inr) fun m hm => .inr hm
  have bnl : But nl H' (upd H' nl (.lst ((ls.map cellV).set k (.ref a)))) := But.upd _ _ _
  have kB : Keep (fun c => B c ∨ c ∈ L.muts) H' (upd H' nl (.lst ((ls.map cellV).set k (.ref a)))) := bnl.keep (.inl (h.ex nl h.nl))
  have nlm : nl ∉ L.muts := fun z => nfr nl z (h.ex nl h.nl)
  -- the nodes that stood, with the new places barred too
  have old : ∀ (i : Nat) (a' : Addr) (L' : Lay) (x' : Sv27.Node), ls[i]? = some (some (a', L')) → NodeAt CN CP B H' a' L' x' → NodeAt CN CP (fun c => B c ∨ c ∈ L.muts) (upd H' nl (.lst ((ls.map cellV).set k (.ref a)))) a' L' x' := fun i a' L' x' hi N' => by
    -- grow at the first heap
    obtain ⟨c, hc, q⟩ := h.cell (k := i) (by have := (List.getElem?_eq_some_iff.mp hi).1; rw [h.llen] at this; exact this)
    rw [hi] at hc
    have hc : some (a', L') = c := Option.some.inj hc
    subst hc
    have g : ∀ {b : Addr} {o : HO}, H b = some o → b ∉ L.muts := fun e z => by rw [fr _ z] at e; cases e
    cases e : S.getD i none with
    | none => rw [e] at q; exact absurd q (fun z => z)
    | some x0 =>
      rw [e] at q
      obtain ⟨N0, _⟩ := q
      -- what is read of it stands at tracked places
      have hin : ∀ {b : Addr}, (∃ o, H b = some o) → ¬ B b → ¬ (B b ∨ b ∈ L.muts) := fun ⟨o, eo⟩ nb z => z.elim nb (g eo)
      obtain ⟨d0, i0⟩ := N0.ins
      obtain ⟨dx, hi'⟩ := N'.ins
      obtain ⟨kas, k1, k2⟩ := N'.known
      obtain ⟨kas0, k10, k20⟩ := N0.known
      have ek : kas = kas0 := by
        have q := s _ _ k10
        rw [k1] at q
        have q := HO.lst.inj (Option.some.inj q)
        exact (List.map_inj_right (fun _ _ z => V.ref.inj z)).mp q
      subst ek
      have trp : ∀ {l : Addr} {pas : List Addr} {ps ps' : List Sv27.Post}, Paired (PostAt CP B H) pas ps' → Paired (PostAt CP B H') pas ps → Paired (PostAt CP (fun c => B c ∨ c ∈ L.muts) H') pas ps := by
        intro l pas ps ps' p1 p2
        induction p2 generalizing ps' with
        | nil => exact .nil
        | @cons b p l1 l2 f r ih =>
          cases p1 with
          | cons f1 r1 =>
            refine .cons ?_ (ih r1)
            obtain ⟨dx, st, t, q1, q2, q3, n1, n2, n3⟩ := f
            obtain ⟨dx0, st0, t0, z1, z2, z3, _⟩ := f1
            have e1 := s _ _ z1
            rw [q1] at e1
            have e2 := HO.ins.inj (Option.some.inj e1)
            have e3 : pF st t = pF st0 t0 := e2.2.2
            injection e3 with e4 e5
            injection e4 with e6 e7
            injection e5 with e8 e9
            injection e8 with e10 e11
            have e7 := V.ref.inj e7
            have e11 := V.ref.inj e11
            subst e7
            subst e11
            exact ⟨dx, st, t, q1, q2, q3, hin ⟨_, z1⟩ n1, hin ⟨_, z2⟩ n2, hin ⟨_, z3⟩ n3⟩
      have trps : ∀ {l : Addr} {ps ps' : List Sv27.Post}, PostsAt CP B H l ps' → PostsAt CP B H' l ps → PostsAt CP (fun c => B c ∨ c ∈ L.muts) H' l ps := by
        rintro l ps ps' ⟨pas0, e0, p0⟩ ⟨pas, e1, p1⟩
        have q := s _ _ e0
        rw [e1] at q
        have q := HO.lst.inj (Option.some.inj q)
        have q : pas = pas0 := (List.map_inj_right (fun _ _ z => V.ref.inj z)).mp q
        subst q
        exact ⟨pas, e1, trp (l := l) p0 p1⟩
      have N2 : NodeAt CN CP (fun c => B c ∨ c ∈ L.muts) H' a' L' x' := by
        refine ⟨⟨dx, hi'⟩, hin ⟨_, i0⟩ N'.na, N'.seen, ⟨kas, k1, ?_⟩, trps N0.mine N'.mine, N'.wl, hin ⟨_, N0.wl⟩ N'.nw, ?_, fun m hm => .inl (N'.bar m hm), N'.nd⟩
        · have key : ∀ {as : List Addr} {us vs : List Stamp}, Paired (StAt B H) as us → Paired (StAt B H') as vs → Paired (StAt (fun c => B c ∨ c ∈ L.muts) H') as vs := by
            intro as us vs p1 p2
            induction p2 generalizing us with
            | nil => exact .nil
            | @cons b p l1 l2 f r ih =>
              cases p1 with
              | cons f1 r1 => exact .cons ⟨f.1, hin ⟨_, f1.1⟩ f.2⟩ (ih r1)
          exact key k20 k2
        · have key : ∀ {ws : List Addr} {us vs : List (List Sv27.Post)}, Paired (PostsAt CP B H) ws us → Paired (PostsAt CP B H') ws vs → Paired (PostsAt CP (fun c => B c ∨ c ∈ L.muts) H') ws vs := by
            intro ws us vs p1 p2
            induction p2 generalizing us with
            | nil => exact .nil
            | @cons b p l1 l2 f r ih =>
              cases p1 with
              | cons f1 r1 => exact .cons (trps f1 f) (ih r1)
          exact key N0.waits N'.waits
      exact N2.keep kB fun m o hm e => bnl _ _ e fun z => h.exd i a' L' hi m hm (by rw [z]; exact h.nl)
  have ll := h.llen
  refine ⟨by rw [upd_same, List.map_set]; rfl, by rw [List.length_set]; exact h.len, fun e he => .inl (h.ex e he), h.nl, ?_, ?_, ?_, ?_⟩
  · have key : ∀ {ls' : List Cell} {S' : List Sv27.Abs} (j : Nat), Paired (CellAt CN CP B H') ls' S' → (∀ (i : Nat) c, ls'[i]? = some c → ∃ i' : Nat, ls[i']? = some c) → Paired (CellAt CN CP (fun c => B c ∨ c ∈ L.muts) (upd H' nl (.lst ((ls.map cellV).set k (.ref a))))) (ls'.set j (some (a, L))) (S'.set j (some x)) := by
      intro ls' S' j hp
      have conv : ∀ {c : Cell} {t : Sv27.Abs}, (∃ i' : Nat, ls[i']? = some c) → CellAt CN CP B H' c t → CellAt CN CP (fun c => B c ∨ c ∈ L.muts) (upd H' nl (.lst ((ls.map cellV).set k (.ref a)))) c t := by
        rintro c t ⟨i', hi'⟩ q
        cases c with
        | none =>
          cases t with
          | none => exact trivial
          | some _ => exact q
        | some al =>
          cases t with
          | none => exact q
          | some x0 => exact ⟨old i' al.1 al.2 x0 hi' q.1, q.2⟩
      induction hp generalizing j with
      | nil => intro _; exact .nil
      | @cons c t l₁ l₂ f r ih =>
        intro hsub
        have tail : ∀ (i : Nat) c', l₁[i]? = some c' → ∃ i' : Nat, ls[i']? = some c' := fun i c' hi => hsub (i + 1) c' (by simpa using hi)
        cases j with
        | zero =>
          refine .cons ⟨N1.keep kB fun m o hm e => bnl _ _ e fun z => nlm (by rw [← z]; exact hm), hw⟩ ?_
          have all : ∀ {m₁ : List Cell} {m₂ : List Sv27.Abs}, Paired (CellAt CN CP B H') m₁ m₂ → (∀ (i : Nat) c', m₁[i]? = some c' → ∃ i' : Nat, ls[i']? = some c') → Paired (CellAt CN CP (fun c => B c ∨ c ∈ L.muts) (upd H' nl (.lst ((ls.map cellV).set k (.ref a))))) m₁ m₂ := by
            intro m₁ m₂ hp
            induction hp with
            | nil => intro _; exact .nil
            | cons f r ih => intro hs; exact .cons (conv (hs 0 _ rfl) f) (ih fun i c' hi => hs (i + 1) c' (by simpa using hi))
          exact all r tail
        | succ j => exact .cons (conv (hsub 0 c rfl) f) (ih j tail)
    exact key k h'.cells fun i c hi => ⟨i, hi⟩
  · intro i j a1 L1 a2 L2 hij hi hj m hm
    rw [List.getElem?_set] at hi hj
    by_cases qi : k = i
    · rw [if_pos qi, if_pos (by rw [ll]; exact hk)] at hi
      have ei := Option.some.inj (Option.some.inj hi)
      rw [if_neg (fun z => hij (qi.symm.trans z))] at hj
      have eL : L = L1 := congrArg Prod.snd ei
      subst eL
      intro z
      obtain ⟨c, hc, q⟩ := h.cell (k := j) (by have := (List.getElem?_eq_some_iff.mp hj).1; rw [ll] at this; exact this)
      rw [hj] at hc
      have hc : some (a2, L2) = c := Option.some.inj hc
      subst hc
      cases e : S.getD j none with
      | none => rw [e] at q; exact q
      | some x0 => rw [e] at q; exact nfr m hm (q.1.bar m z)
    · rw [if_neg qi] at hi
      by_cases qj : k = j
      · rw [if_pos qj, if_pos (by rw [ll]; exact hk)] at hj
        have ej := Option.some.inj (Option.some.inj hj)
        have eL : L = L2 := congrArg Prod.snd ej
        subst eL
        intro z
        obtain ⟨c, hc, q⟩ := h.cell (k := i) (by have := (List.getElem?_eq_some_iff.mp hi).1; rw [ll] at this; exact this)
        rw [hi] at hc
        have hc : some (a1, L1) = c := Option.some.inj hc
        subst hc
        cases e : S.getD i none with
        | none => rw [e] at q; exact q
        | some x0 => rw [e] at q; exact nfr m z (q.1.bar m hm)
      · rw [if_neg qj] at hj
        exact h.dis i j a1 L1 a2 L2 hij hi hj m hm
  · intro i a1 L1 hi m hm z
    rw [List.getElem?_set] at hi
    by_cases qi : k = i
    · rw [if_pos qi, if_pos (by rw [ll]; exact hk)] at hi
      have eL : L = L1 := congrArg Prod.snd (Option.some.inj (Option.some.inj hi))
      subst eL
      exact nfr m hm (h.ex m z)
    · rw [if_neg qi] at hi
      exact h.exd i a1 L1 hi m hm z
  · intro c hc z
    by_cases q : c = nl
    · rw [q, upd_same] at z; cases z
    · rw [upd_ne q] at z
      rcases hc with w | w
      · exact h'.tr c w z
      · obtain ⟨o, e⟩ := N1.tracked w
        rw [e] at z; cases z
/-- the answer of a call, with all objects as they are then -/
def NxtRet (K : PySem.W.Frag) (CN CP CR : Addr) (H : Hp) (Q : VK) (nl rd cl : Addr) (xs : List V) (ext : List Addr) (S' : Sv27Neutral.S) (r : Sv27.Ans) (j : Nat) : Prop :=
  ∀ H' p B' ls', Wld CN CP H' nl B' ls' ext S' → RdAt CR H' rd cl j → (∀ e, e ∈ ext → e ≠ nl → e ≠ rd → ∀ o, H e = some o → H' e = some o) → Scr K H' cl xs → H p = none → H' p = some (.lst (ansL r)) → Q (.ref p) H'
section
variable {P : Program} {w : World} {K : PySem.W.Frag} {mg : Str → Option Value} {base : Heap} {CN CP CR : Addr}
def spBegin (K : PySem.W.Frag) (CN CP CR : Addr) : Sp := fun vs H Q _ => ∃ (nl : Addr) (k : Nat) (rd cl : Addr) (i : Nat) (ns : List Int) (B : Addr → Prop) (ls : List Cell) (ext : List Addr) (S : Sv27Neutral.S) (me n : Int), vs = [.ref nl, .int (k : Int), .ref rd] ∧ Wld CN CP H nl B ls ext S ∧ rd ∈ ext ∧ rd ≠ nl ∧ RdAt CR H rd cl i ∧ Scr K H cl (zi ns) ∧
  ns[i]? = some me ∧ ns[i + 1]? = some n ∧ k < 8 ∧ NxtRet K CN CP CR H Q nl rd cl (zi ns) ext (S.set k (Sv27.does (S.getD k none) (.begin_ me n)).1) (Sv27.does (S.getD k none) (.begin_ me n)).2 (i + 2)
theorem zi_get {ns : List Int} {i : Nat} {x : Int} (h : ns[i]? = some x) : (zi ns)[i]? = some (V.int x) := by
  unfold zi
  rw [List.getElem?_map, h]
  rfl
theorem does_begin (s : Sv27.Abs) (me n : Int) : Sv27.does s (.begin_ me n) = if 2 ≤ n ∧ n ≤ 8 ∧ 0 ≤ me ∧ me < n then (some (Sv27.fresh me.toNat n.toNat), Sv27.ok 0) else (s, Sv27.ok (-2)) := by
  have e : Sv27.does s (.begin_ me n) = if Sv27.within n 2 8 = true ∧ 0 ≤ me ∧ me < n then (some (Sv27.fresh me.toNat n.toNat), Sv27.ok 0) else (s, Sv27.ok (-2)) := rfl
  rw [e]
  have hw : Sv27.within n 2 8 = true ↔ 2 ≤ n ∧ n ≤ 8 := by
    unfold Sv27.within
    rw [Bool.and_eq_true, decide_eq_true_iff, decide_eq_true_iff]
  by_cases c : 2 ≤ n ∧ n ≤ 8 ∧ 0 ≤ me ∧ me < n
  · rw [if_pos c, if_pos ⟨hw.mpr ⟨c.1, c.2.1⟩, c.2.2⟩]
  · rw [if_neg c, if_neg (fun q => c ⟨(hw.mp q.1).1, (hw.mp q.1).2, q.2⟩)]
theorem ok_begin (T : Txt K mg CN CP CR) (D : Def K mg "begin" s_begin) (m_take_one : MCal P w K mg base 1 CR "take_one" ["self"] (spOne K CR)) (i_Node : ICal P w K mg base 2 CN "Node" ["self", "me", "n"] (spNodeI CN CP)) (c_may_be_node : Cal P w K mg base 1 "may_be_node" ["me", "n"] spMay) : Cal P w K mg base 4 "begin" ["nodes", "place", "reader"] (spBegin K CN CP CR) := by
  obtain ⟨mf_take_one, mfd_take_one, mt_take_one, mb_take_one, mF_take_one⟩ := m_take_one.ex
  refine D.cal b_begin fun f fd F => F.ok sc_begin (fun vs H Q E h => ?_) (fun cdv A outer s H vs Q E hroom h => ?_)
  · obtain ⟨nl, k, rd, cl, i, ns, B, ls, ext, S, me, n, rfl, W, hrx, hrn, ⟨d0, hr⟩, hS, hme, hn, hk, kk⟩ := h
    rfl
  · obtain ⟨nl, k, rd, cl, i, ns, B, ls, ext, S, me, n, rfl, W, hrx, hrn, ⟨d0, hr⟩, hS, hme, hn, hk, kk⟩ := h
    refine ⟨_, (pss_cons (ps_set (i := 3) sc_begin.nd rfl (by first | exact Or.inl rfl | exact Or.inr rfl) (pe_meth0 (pv 2) T.cR mt_take_one mF_take_one (hroom.mono (by decide)) mb_take_one .nil pass0))
      (pss_cons (ps_set (i := 4) sc_begin.nd rfl (by first | exact Or.inl rfl | exact Or.inr rfl) (pe_meth0 (pv 2) T.cR mt_take_one mF_take_one (hroom.mono (by decide)) mb_take_one .nil pass0))
      (pss_cons (ps_if (pt_not (pt_val (pe_cal c_may_be_node (hroom.mono (by decide)) (pa_cons (pv 3) (pa_cons (pv 4) pa_nil))))) (pss_one (ps_ret (pe_lst (pa_cons (pe_cst T.c_BAD_ARGUMENTS) pa_nil)))) pss_nil)
      (pss_cons (ps_asg (pe_ical i_Node hroom (pa_cons (pv 3) (pa_cons (pv 4) pa_nil))) (pg_sub (pv 0) (pv 1) set_nat))
      (pss_one (ps_ret (pe_lst (pa_cons pe_int pa_nil)))))))), ?_⟩
    rw [does_begin] at kk
    refine ⟨_, rfl, rd, _, _, rfl, hr, rF_none cl i (by decide +kernel) (by decide +kernel), rd, cl, i, _, _, rfl, ⟨d0, hr⟩, hS.seq, zi_get hme, fun H1 ⟨d1, hr1⟩ b1 => ?_⟩
    have hS1 := hS.but b1 hr ins_frz
    refine ⟨_, rfl, rd, _, _, rfl, hr1, rF_none cl (i + 1) (by decide +kernel) (by decide +kernel), rd, cl, i + 1, _, _, rfl, ⟨d1, hr1⟩, hS1.seq, zi_get hn, fun H2 ⟨d2, hr2⟩ b2 => ?_⟩
    have hS2 := hS1.but b2 hr1 ins_frz
    have b02 := b1.trans b2
    have W2 := W.keep hrx hrn b02 (by rw [hr2]; exact fun q => nomatch q)
    have ex2 : ∀ e, e ∈ ext → e ≠ nl → e ≠ rd → ∀ o, H e = some o → H2 e = some o := fun e _ _ h2 o eo => b02 _ _ eo h2
    have nr2 : H2 rd ≠ none := by rw [hr2]; exact fun q => nomatch q
    refine ⟨_, rfl, _, rfl, _, _, rfl, _, rfl, ?_⟩
    by_cases c : 2 ≤ n ∧ n ≤ 8 ∧ 0 ≤ me ∧ me < n
    · rw [decide_eq_true c]
      rw [if_pos c] at kk
      refine iteF ?_
      obtain ⟨mn, rfl⟩ : ∃ mn : Nat, me = (mn : Int) := ⟨me.toNat, by omega⟩
      obtain ⟨nn, rfl⟩ : ∃ nn : Nat, n = (nn : Int) := ⟨n.toNat, by omega⟩
      refine ⟨_, rfl, _, rfl, ?_⟩
      intro nd dn nnd ndn nen
      refine ⟨nd, dn, mn, nn, rfl, upd_same, fun H3 L N b3 hm => ⟨rfl, ?_⟩⟩
      have s3 : Same H2 H3 := Same.made nnd ndn b3
      have up : ∀ c, H2 c ≠ none → (upd (upd H2 dn (.own nd)) nd (.ins CN dn [])) c ≠ none ∧ c ≠ nd := fun c hc => by
        have n1 : c ≠ nd := fun z => hc (by rw [z]; exact nnd)
        have n2 : c ≠ dn := fun z => hc (by rw [z]; exact ndn)
        exact ⟨by rw [upd_ne n1, upd_ne n2]; exact hc, n1⟩
      have N' : NodeAt CN CP (fun c => H2 c ≠ none ∨ c ∈ L.muts) H3 nd L (Sv27.fresh mn nn) := N.anti (fun c q => q.elim (fun z => .inl (up c z)) .inr) fun m hm => .inr hm
      have hm2 : ∀ m, m ∈ L.muts → H2 m = none := fun m hml => by
        cases e : H2 m with
        | none => rfl
        | some o =>
          have q := hm m hml
          exact absurd q (up m (by rw [e]; exact fun q => nomatch q)).1
      have hwf : WF (Sv27.fresh mn nn) := WF.fresh (by omega) (by omega) (by omega)
      refine ⟨_, rfl, _, rfl, nl, _, k, rfl, rfl, s3 _ _ W2.lst, by rw [List.length_map, W.llen]; exact hk, ?_⟩
      have W3 := W2.put hk s3 N' hwf hm2
      have s3u : ∀ e o, H2 e = some o → e ≠ nl → (upd H3 nl (.lst ((ls.map cellV).set k (.ref nd)))) e = some o := fun e o eo h1 => by
        rw [upd_ne h1]
        exact s3 _ _ eo
      refine ⟨(by show 1 ≤ sizeLine; decide), fun p hp => ?_⟩
      have s4 := Same.new (o := HO.lst [V.int 0]) hp
      refine kk _ p _ _ (W3.same s4) ⟨d2, s4 _ _ (s3u _ _ hr2 hrn)⟩ (fun e he h1 h2 o eo => s4 _ _ (s3u _ _ (ex2 e he h1 h2 o eo) h1)) ?_ ?_ upd_same
      · refine ((hS2.same s3).keep (M := fun c => c = nl) (fun c o e hc => ?_) fun c hc => by have hc : c = nl := hc; rw [hc]; exact ⟨_, s3 _ _ W2.lst, lst_frz⟩).same s4
        rw [upd_ne hc]
        exact e
      · refine b02.none (s3.none ?_) nr2
        by_cases q : p = nl
        · rw [q, upd_same] at hp; cases hp
        · rw [upd_ne q] at hp; exact hp
    · rw [decide_eq_false c]
      rw [if_neg c, set_self] at kk
      refine iteT ⟨(by show 1 ≤ sizeLine; decide), fun p hp => ?_⟩
      have s4 := Same.new (o := HO.lst [V.int (-2)]) hp
      exact kk _ p B ls (W2.same s4) ⟨d2, s4 _ _ hr2⟩ (fun e he h1 h2 o eo => s4 _ _ (ex2 e he h1 h2 o eo)) (hS2.same s4) (b02.none hp nr2) upd_same
def spLoad (K : PySem.W.Frag) (CN CP CR : Addr) : Sp := fun vs H Q _ => ∃ (nl : Addr) (k : Nat) (rd cl : Addr) (i : Nat) (ns : List Int) (B : Addr → Prop) (ls : List Cell) (ext : List Addr) (S : Sv27Neutral.S) (b : Bytes) (t : List Int), vs = [.ref nl, .int (k : Int), .ref rd] ∧ Wld CN CP H nl B ls ext S ∧ rd ∈ ext ∧ rd ≠ nl ∧ RdAt CR H rd cl i ∧ Scr K H cl (zi ns) ∧
  ns.drop i = (b.length : Int) :: (nints b ++ t) ∧ b.length = 30608 ∧ Small b ∧ k < 8 ∧ NxtRet K CN CP CR H Q nl rd cl (zi ns) ext (S.set k (Sv27.does (S.getD k none) (.load b)).1) (Sv27.does (S.getD k none) (.load b)).2 (i + 1 + b.length)
theorem drop_cons {ns : List Int} {i : Nat} {a : Int} {r : List Int} (h : ns.drop i = a :: r) : ns[i]? = some a ∧ ns.drop (i + 1) = r := by
  have hl : i < ns.length := by
    refine Classical.byContradiction fun q => ?_
    rw [List.drop_of_length_le (by omega)] at h
    cases h
  rw [List.drop_eq_getElem_cons hl] at h
  injection h with h1 h2
  exact ⟨by rw [List.getElem?_eq_getElem hl, h1], h2⟩
theorem row_at {ns : List Int} {i : Nat} {b : Bytes} {t : List Int} (h : ns.drop i = (b.length : Int) :: (nints b ++ t)) : (zi ns)[i]? = some (.int (b.length : Nat)) ∧ ((zi ns).drop (i + 1)).take b.length = ni b ∧ ns.drop (i + 1 + b.length) = t := by
  obtain ⟨h1, h2⟩ := drop_cons h
  refine ⟨zi_get h1, ?_, ?_⟩
  · unfold zi
    rw [← List.map_drop, h2, ← List.map_take]
    have e : (nints b ++ t).take b.length = nints b := by
      have hl : (nints b).length = b.length := by unfold nints Sv27Neutral.ints; exact List.length_map _
      rw [← hl, List.take_left]
    rw [e, ← ni_zi]
  · rw [← List.drop_drop, h2]
    have hl : (nints b).length = b.length := by unfold nints Sv27Neutral.ints; exact List.length_map _
    rw [← hl, List.drop_left]
theorem ok_load (T : Txt K mg CN CP CR) (D : Def K mg "load" s_load) (c_node_of_bytes : Cal P w K mg base 5 "node_of_bytes" ["saved"] (spNodeOf K CN CP)) (m_take_row : MCal P w K mg base 2 CR "take_row" ["self"] (spRow K CR)) : Cal P w K mg base 6 "load" ["nodes", "place", "reader"] (spLoad K CN CP CR) := by
  obtain ⟨mf_take_row, mfd_take_row, mt_take_row, mb_take_row, mF_take_row⟩ := m_take_row.ex
  refine D.cal b_load fun f fd F => F.ok sc_load (fun vs H Q E h => ?_) (fun cdv A outer s H vs Q E hroom h => ?_)
  · obtain ⟨nl, k, rd, cl, i, ns, B, ls, ext, S, b, t, rfl, W, hrx, hrn, ⟨d0, hr⟩, hS, hb, hl, hs, hk, kk⟩ := h
    rfl
  · obtain ⟨nl, k, rd, cl, i, ns, B, ls, ext, S, b, t, rfl, W, hrx, hrn, ⟨d0, hr⟩, hS, hb, hl, hs, hk, kk⟩ := h
    refine ⟨_, (pss_cons (ps_set (i := 3) sc_load.nd rfl (by first | exact Or.inl rfl | exact Or.inr rfl) (pe_cal c_node_of_bytes hroom (pa_cons (pe_meth0 (pv 2) T.cR mt_take_row mF_take_row (hroom.mono (by decide)) mb_take_row .nil pass0) pa_nil)))
      (pss_cons (ps_if (pt_cmpR op_isN (pv 3) pe_non (nomark _)) (pss_one (ps_ret (pe_lst (pa_cons (pe_cst T.c_BAD_BYTES) pa_nil)))) pss_nil)
      (pss_cons (ps_asg (pv 3) (pg_sub (pv 0) (pv 1) set_nat))
      (pss_one (ps_ret (pe_lst (pa_cons pe_int pa_nil))))))), ?_⟩
    obtain ⟨r1, r2, r3⟩ := row_at hb
    have ed : Sv27.does (S.getD k none) (.load b) = match Sv27.load b with
      | some x => (some x, Sv27.ok 0)
      | none => (S.getD k none, Sv27.ok (-3)) := rfl
    rw [ed] at kk
    refine ⟨_, rfl, rd, _, _, rfl, hr, rF_none cl i (by decide +kernel) (by decide +kernel), rd, cl, i, b.length, _, rfl, ⟨d0, hr⟩, hS.seq, r1, fun H1 p1 ⟨d1, hr1⟩ b1 hp1 e1 => ?_⟩
    rw [r2] at e1
    have hS1 := hS.but b1 hr ins_frz
    have nr1 : H1 rd ≠ none := by rw [hr1]; exact fun q => nomatch q
    have W1 := W.keep hrx hrn b1 nr1
    have ex1 : ∀ e, e ∈ ext → e ≠ nl → e ≠ rd → ∀ o, H e = some o → H1 e = some o := fun e _ _ h2 o eo => b1 _ _ eo h2
    refine ⟨p1, b, rfl, SqL.of e1, hl, hs, fun H2 v s2 ho => ?_⟩
    refine ⟨_, rfl, rfl, _, rfl, ?_⟩
    cases hlo : Sv27.load b with
    | none =>
      rw [hlo] at ho kk
      have ho : v = .non := ho
      subst ho
      have kk : NxtRet K CN CP CR H Q nl rd cl (zi ns) ext (S.set k (S.getD k none)) (Sv27.ok (-3)) (i + 1 + b.length) := kk
      rw [set_self] at kk
      refine iteT ⟨(by show 1 ≤ sizeLine; decide), fun p hp => ?_⟩
      have s4 := s2.trans (Same.new (o := HO.lst [V.int (-3)]) hp)
      exact kk _ p B ls (W1.same s4) ⟨d1, s4 _ _ hr1⟩ (fun e he h1 h2 o eo => s4 _ _ (ex1 e he h1 h2 o eo)) (hS1.same s4) (b1.none (s2.none hp) nr1) upd_same
    | some x =>
      rw [hlo] at ho kk
      obtain ⟨nd, L, ev, hm, N⟩ := ho
      subst ev
      have kk : NxtRet K CN CP CR H Q nl rd cl (zi ns) ext (S.set k (some x)) (Sv27.ok 0) (i + 1 + b.length) := kk
      refine iteF ?_
      refine ⟨_, rfl, _, rfl, _, rfl, nl, _, k, rfl, rfl, s2 _ _ W1.lst, by rw [List.length_map, W.llen]; exact hk, ?_⟩
      have W3 := W1.put hk s2 N (WF.load hlo) hm
      have s3u : ∀ e o, H1 e = some o → e ≠ nl → (upd H2 nl (.lst ((ls.map cellV).set k (.ref nd)))) e = some o := fun e o eo h1 => by
        rw [upd_ne h1]
        exact s2 _ _ eo
      refine ⟨(by show 1 ≤ sizeLine; decide), fun p hp => ?_⟩
      have s4 := Same.new (o := HO.lst [V.int 0]) hp
      refine kk _ p _ _ (W3.same s4) ⟨d1, s4 _ _ (s3u _ _ hr1 hrn)⟩ (fun e he h1 h2 o eo => s4 _ _ (s3u _ _ (ex1 e he h1 h2 o eo) h1)) ?_ ?_ upd_same
      · refine ((hS1.same s2).keep (M := fun c => c = nl) (fun c o e hc => ?_) fun c hc => by have hc : c = nl := hc; rw [hc]; exact ⟨_, s2 _ _ W1.lst, lst_frz⟩).same s4
        rw [upd_ne hc]
        exact e
      · refine b1.none (s2.none ?_) nr1
        by_cases q : p = nl
        · rw [q, upd_same] at hp; cases hp
        · rw [upd_ne q] at hp; exact hp
end
end Po

namespace Po
open PySem PySem.Spec PyProof.Rows L2
open Sv27 (little stampBytes stampOf stampOk nobody padded Bytes Stamp of word rowBytes postBytes)
set_option linter.all false
/-! ### what stays true of a node -/
theorem sent_cases {x x' : Sv27.Node} {most : Int} {r : Sv27.Node × List Sv27.Letter} {a : Sv27.Ans} (h : Sv27.sent x most r = (some x', a)) : x' = x ∨ x' = r.1 := by
  unfold Sv27.sent at h
  simp only [] at h
  split at h
  · exact .inl (Option.some.inj (congrArg Prod.fst h)).symm
  · exact .inr (Option.some.inj (congrArg Prod.fst h)).symm
theorem WF_post {x x' : Sv27.Node} {t : Bytes} {k most : Int} {a : Sv27.Ans} (hw : WF x) (ht : t.length ≤ 31) (h : Sv27.on x (.post t k most) = (some x', a)) : WF x' := by
  have h : (if Sv27.within k 0 31 = false ∨ most < 0 then (some x, Sv27.ok (-2)) else if x.open_ = false then (some x, Sv27.ok (-6)) else Sv27.sent x most (Sv27.post x t)) = (some x', a) := h
  split at h
  · rw [← Option.some.inj (congrArg Prod.fst h)]; exact hw
  split at h
  · rw [← Option.some.inj (congrArg Prod.fst h)]; exact hw
  rename_i ho
  have ho : x.open_ = true := by simpa using ho
  rcases sent_cases h with e | e
  · rw [e]; exact hw
  · rw [e]; exact hw.post ho ht
theorem letterOf_text {b : Bytes} {l : Sv27.Letter} (h : Sv27.letterOf b = some l) : ∀ p, l.body = .post p → p.text.length ≤ 31 := by
  unfold Sv27.letterOf at h
  simp only [] at h
  intro p hp
  split at h
  · split at h
    · have e := Option.some.inj h
      subst e
      have e := Sv27.Body.post.inj hp
      rw [← e]
      show ((b.drop 68).take (min 31 (b.getD 3 0))).length ≤ 31
      rw [List.length_take]
      omega
    · cases h
  · split at h
    · have e := Option.some.inj h
      subst e
      cases hp
    · cases h
theorem WF_receive {x x' : Sv27.Node} {b : Bytes} {k most : Int} {a : Sv27.Ans} (hw : WF x) (h : Sv27.on x (.receive b k most) = (some x', a)) : WF x' := by
  have h : (if Sv27.within k 0 1024 = false ∨ most < 0 then (some x, Sv27.ok (-2)) else match Sv27.letterOf b with
    | none => (some x, Sv27.ok (-3))
    | some l => if Sv27.right x l = false then (some x, Sv27.ok (-3)) else Sv27.sent x most (Sv27.receive x l)) = (some x', a) := h
  split at h
  · rw [← Option.some.inj (congrArg Prod.fst h)]; exact hw
  cases e : Sv27.letterOf b with
  | none =>
    rw [e] at h
    rw [← Option.some.inj (congrArg Prod.fst h)]; exact hw
  | some l =>
    rw [e] at h
    have h : (if Sv27.right x l = false then (some x, Sv27.ok (-3)) else Sv27.sent x most (Sv27.receive x l)) = (some x', a) := h
    split at h
    · rw [← Option.some.inj (congrArg Prod.fst h)]; exact hw
    rename_i hr
    have hr : Sv27.right x l = true := by simpa using hr
    rcases sent_cases h with e2 | e2
    · rw [e2]; exact hw
    · rw [e2]; exact hw.receive hr (letterOf_text e)
theorem WF_next {x x' : Sv27.Node} {a : Sv27.Ans} (hw : WF x) (h : Sv27.on x .next = (some x', a)) : WF x' := by
  have h : (match Sv27.next x with
      | none => (some x, Sv27.ok (-4))
      | some r => (some r.1, (⟨r.2.2.text.length, r.2.1 :: r.2.2.text⟩ : Sv27.Ans))) = (some x', a) := h
  cases e : Sv27.next x with
  | none =>
    rw [e] at h
    rw [← Option.some.inj (congrArg Prod.fst h)]; exact hw
  | some r =>
    rw [e] at h
    rw [← Option.some.inj (congrArg Prod.fst h)]; exact hw.next e
theorem on_some (x : Sv27.Node) (c : Sv27.Call) : ∃ x' r, Sv27.on x c = (some x', r) := by
  have hsent : ∀ most r, ∃ x' a, Sv27.sent x most r = (some x', a) := fun most r => by
    unfold Sv27.sent
    simp only []
    split <;> exact ⟨_, _, rfl⟩
  cases c with
  | begin_ me n => exact ⟨_, _, rfl⟩
  | save => exact ⟨_, _, rfl⟩
  | load b => exact ⟨_, _, rfl⟩
  | post t k room =>
    show ∃ x' r, (if Sv27.within k 0 31 = false ∨ room < 0 then (some x, Sv27.ok (-2)) else if x.open_ = false then (some x, Sv27.ok (-6)) else Sv27.sent x room (Sv27.post x t)) = (some x', r)
    split
    · exact ⟨_, _, rfl⟩
    split
    · exact ⟨_, _, rfl⟩
    · exact hsent _ _
  | receive b k room =>
    show ∃ x' r, (if Sv27.within k 0 1024 = false ∨ room < 0 then (some x, Sv27.ok (-2)) else match Sv27.letterOf b with
      | none => (some x, Sv27.ok (-3))
      | some l => if Sv27.right x l = false then (some x, Sv27.ok (-3)) else Sv27.sent x room (Sv27.receive x l)) = (some x', r)
    split
    · exact ⟨_, _, rfl⟩
    cases Sv27.letterOf b with
    | none => exact ⟨_, _, rfl⟩
    | some l =>
      show ∃ x' r, (if Sv27.right x l = false then (some x, Sv27.ok (-3)) else Sv27.sent x room (Sv27.receive x l)) = (some x', r)
      split
      · exact ⟨_, _, rfl⟩
      · exact hsent _ _
  | next =>
    show ∃ x' r, (match Sv27.next x with
      | none => (some x, Sv27.ok (-4))
      | some r => (some r.1, (⟨r.2.2.text.length, r.2.1 :: r.2.2.text⟩ : Sv27.Ans))) = (some x', r)
    cases Sv27.next x with
    | none => exact ⟨_, _, rfl⟩
    | some r => exact ⟨_, _, rfl⟩
  | again to room =>
    show ∃ x' r, (if x.other to = false ∨ room < 0 then (some x, Sv27.ok (-2)) else Sv27.sent x room (x, Sv27.again x to.toNat)) = (some x', r)
    split
    · exact ⟨_, _, rfl⟩
    · exact hsent _ _
  | tell to room =>
    show ∃ x' r, (if x.other to = false ∨ room < 0 then (some x, Sv27.ok (-2)) else Sv27.sent x room (x, Sv27.tell x to.toNat)) = (some x', r)
    split
    · exact ⟨_, _, rfl⟩
    · exact hsent _ _
  | seen => exact ⟨_, _, rfl⟩
/-- tell and again change nothing -/
theorem on_again_same (x : Sv27.Node) (to most : Int) : (Sv27.on x (.again to most)).1 = some x := by
  show (if x.other to = false ∨ most < 0 then (some x, Sv27.ok (-2)) else Sv27.sent x most (x, Sv27.again x to.toNat)).1 = some x
  split
  · rfl
  · unfold Sv27.sent
    simp only []
    split <;> rfl
theorem on_tell_same (x : Sv27.Node) (to most : Int) : (Sv27.on x (.tell to most)).1 = some x := by
  show (if x.other to = false ∨ most < 0 then (some x, Sv27.ok (-2)) else Sv27.sent x most (x, Sv27.tell x to.toNat)).1 = some x
  split
  · rfl
  · unfold Sv27.sent
    simp only []
    split <;> rfl
theorem nats_ints (b : Bytes) : Sv27Neutral.nats (Sv27Neutral.ints b) = b := by
  unfold Sv27Neutral.nats Sv27Neutral.ints
  rw [List.map_map]
  have e : b.map (Int.toNat ∘ fun (x : Nat) => (x : Int)) = b.map id := List.map_congr_left fun x _ => by
    show ((x : Int)).toNat = x
    omega
  rw [e, List.map_id]
theorem ints_len (b : Bytes) : (Sv27Neutral.ints b).length = b.length := by
  unfold Sv27Neutral.ints
  exact List.length_map _
theorem seen_all (s : Stamp) (h : s.length = 8) : ((List.range 8).map fun i => of s i) = s := by
  apply List.ext_getElem?
  intro i
  rw [List.getElem?_map]
  by_cases hi : i < 8
  · rw [List.getElem?_range hi]
    exact (of_get (by omega)).symm
  · rw [List.getElem?_eq_none (by rw [List.length_range]; omega), List.getElem?_eq_none (by omega)]
    rfl
/-! ### what is left to be shown behind a call -/
theorem NxtRet.but {K : PySem.W.Frag} {CN CP CR : Addr} {H H1 : Hp} {Q : VK} {nl rd cl : Addr} {xs : List V} {ext : List Addr} {S : Sv27Neutral.S} {r : Sv27.Ans} {j : Nat} (k : NxtRet K CN CP CR H Q nl rd cl xs ext S r j) (b : But rd H H1) (hr : H1 rd ≠ none) : NxtRet K CN CP CR H1 Q nl rd cl xs ext S r j :=
  fun H' p B' ls' W R ex hS hp e => k H' p B' ls' W R (fun e he h1 h2 o eo => ex e he h1 h2 o (b _ _ eo h2)) hS (b.none hp hr) e
theorem NxtRet.same {K : PySem.W.Frag} {CN CP CR : Addr} {H H1 : Hp} {Q : VK} {nl rd cl : Addr} {xs : List V} {ext : List Addr} {S : Sv27Neutral.S} {r : Sv27.Ans} {j : Nat} (k : NxtRet K CN CP CR H Q nl rd cl xs ext S r j) (s : Same H H1) : NxtRet K CN CP CR H1 Q nl rd cl xs ext S r j :=
  fun H' p B' ls' W R ex hS hp e => k H' p B' ls' W R (fun e he h1 h2 o eo => ex e he h1 h2 o (s _ _ eo)) hS (s.none hp) e
theorem NxtRet.mut {K : PySem.W.Frag} {CN CP CR : Addr} {H : Hp} {Q : VK} {nl rd cl : Addr} {xs : List V} {ext : List Addr} {S : Sv27Neutral.S} {x' : Sv27.Node} {r : Sv27.Ans} {j k : Nat} {B : Addr → Prop} {ls : List Cell} {a : Addr} {L : Lay} (kk : NxtRet K CN CP CR H Q nl rd cl xs ext (S.set k (some x')) r j)
    (W : Wld CN CP H nl B ls ext S) (hrx : rd ∈ ext) (R : RdAt CR H rd cl j) (hS : Scr K H cl xs) (hc : ls[k]? = some (some (a, L))) {x : Sv27.Node} (Nx : NodeAt CN CP B H a L x) (hw : WF x') : MutRet CN CP B H Q a L x' r := by
  intro H' p N kp hp e
  obtain ⟨d, hr⟩ := R
  refine kk H' p B ls (W.change hc N hw kp) ⟨d, kp _ _ hr fun z => W.exd k a L hc rd z hrx⟩ (fun e he _ _ o eo => kp _ _ eo fun z => W.exd k a L hc e z he) (hS.keep kp fun c hcm => ?_) hp e
  rcases List.mem_cons.mp hcm with z | z
  · rw [z]; exact ⟨_, Nx.seen, lst_frz⟩
  rcases (List.mem_cons.mp z) with z | z
  · rw [z]; obtain ⟨_, h, _⟩ := Nx.known; exact ⟨_, h, lst_frz⟩
  rcases (List.mem_cons.mp z) with z | z
  · rw [z]; obtain ⟨_, h, _⟩ := Nx.mine; exact ⟨_, h, lst_frz⟩
  · obtain ⟨i, hi⟩ := List.mem_iff_getElem?.mp z
    obtain ⟨_, _, _, h, _⟩ := paired_get Nx.waits hi
    exact ⟨_, h, lst_frz⟩
theorem NxtRet.ret {K : PySem.W.Frag} {CN CP CR : Addr} {H : Hp} {Q : VK} {nl rd cl : Addr} {xs : List V} {ext : List Addr} {S : Sv27Neutral.S} {r : Sv27.Ans} {j : Nat} {B : Addr → Prop} {ls : List Cell} (kk : NxtRet K CN CP CR H Q nl rd cl xs ext S r j)
    (W : Wld CN CP H nl B ls ext S) (R : RdAt CR H rd cl j) (hS : Scr K H cl xs) : RetL H Q (ansL r) := by
  intro H' p s hp e
  obtain ⟨d, hr⟩ := R
  exact kk H' p B ls (W.same s) ⟨d, s _ _ hr⟩ (fun e _ _ _ o eo => s _ _ eo) (hS.same s) hp e
theorem Req.front {l : List Int} {c : List (List Int)} {t : List Int} (h : Req l c t) : ∃ (p : Int) (o : Nat) (r : List Int), l = p :: (o : Int) :: r ∧ o < 8 := by
  cases h <;> exact ⟨_, _, _, rfl, by assumption⟩
section
variable {P : Program} {w : World} {K : PySem.W.Frag} {mg : Str → Option Value} {base : Heap} {CN CP CR : Addr}
def spNext (K : PySem.W.Frag) (CN CP CR : Addr) : Sp := fun vs H Q _ => ∃ (nl rd cl : Addr) (i : Nat) (ns : List Int) (B : Addr → Prop) (ls : List Cell) (ext : List Addr) (S : Sv27Neutral.S) (c : List (List Int)) (t : List Int), vs = [.ref nl, .ref rd] ∧ Wld CN CP H nl B ls ext S ∧ rd ∈ ext ∧ rd ≠ nl ∧ RdAt CR H rd cl i ∧ Scr K H cl (zi ns) ∧
  Req (ns.drop i) c t ∧ fit1 S c = true ∧ ∃ k x, Sv27Neutral.callOf (PySv27.whole c) = some (k, x) ∧ ∀ j, ns.drop j = t → i < j → NxtRet K CN CP CR H Q nl rd cl (zi ns) ext (S.set k (Sv27.does (S.getD k none) x).1) (Sv27.does (S.getD k none) x).2 j
theorem isN {i j : Int} (h : ¬ i = j) {A B : Prop} (b : B) : if decide (V.int i = V.int j) = true then A else B := ite2 (fun q => absurd (V.int.inj (of_decide_eq_true q)) h) (fun _ => b)
theorem isY {i : Int} {A B : Prop} (a : A) : if decide (V.int i = V.int i) = true then A else B := ite2 (fun _ => a) (fun q => absurd (decide_eq_true rfl) q)
theorem fit_node {S : Sv27Neutral.S} {p : Int} {o : Nat} {r : List Int} {rs : List (List Int)} (h : fit1 S ((p :: (o : Int) :: r) :: rs) = true) (h0 : p.toNat ≠ 0) (h2 : p.toNat ≠ 2) : ∃ x, S.getD o none = some x := by
  have h : ((p.toNat == 0 || p.toNat == 2) || (S.getD ((o : Int)).toNat none).isSome) = true := h
  rw [beq_eq_false_iff_ne.mpr h0, beq_eq_false_iff_ne.mpr h2, Bool.false_or, Bool.false_or] at h
  rw [Int.toNat_natCast] at h
  exact Option.isSome_iff_exists.mp h
theorem ok_next_answer (T : Txt K mg CN CP CR) (D : Def K mg "next_answer" s_next_answer) (m_take_one : MCal P w K mg base 1 CR "take_one" ["self"] (spOne K CR)) (c_begin : Cal P w K mg base 4 "begin" ["nodes", "place", "reader"] (spBegin K CN CP CR)) (c_load : Cal P w K mg base 6 "load" ["nodes", "place", "reader"] (spLoad K CN CP CR)) (c_write_post : Cal P w K mg base 4 "write_post" ["node", "most", "text"] (spWrite CN CP)) (c_take_letter : Cal P w K mg base 6 "take_letter" ["node", "most", "letter"] (spTakeL CN CP)) (c_show_next : Cal P w K mg base 3 "show_next" ["node"] (spShow CN CP)) (c_send_again : Cal P w K mg base 4 "send_again" ["node", "to", "most"] (spAgain CN CP)) (c_tell : Cal P w K mg base 5 "tell" ["node", "to", "most"] (spTell CN CP)) (c_bytes_of_node : Cal P w K mg base 4 "bytes_of_node" ["node"] (spBytesN CN CP)) (m_take_row : MCal P w K mg base 2 CR "take_row" ["self"] (spRow K CR)) : Cal P w K mg base 7 "next_answer" ["nodes", "reader"] (spNext K CN CP CR) := by
  obtain ⟨mf_take_one, mfd_take_one, mt_take_one, mb_take_one, mF_take_one⟩ := m_take_one.ex
  obtain ⟨mf_take_row, mfd_take_row, mt_take_row, mb_take_row, mF_take_row⟩ := m_take_row.ex
  refine D.cal b_next_answer fun f fd F => F.ok sc_next_answer (fun vs H Q E h => ?_) (fun cdv A outer s H vs Q E hroom h => ?_)
  · obtain ⟨nl, rd, cl, i, ns, B, ls, ext, S, c, t, rfl, W, hrx, hrn, ⟨d0, hr⟩, hS, hreq, hfit, kc, xc, hcall, kk⟩ := h
    rfl
  · obtain ⟨nl, rd, cl, i, ns, B, ls, ext, S, c, t, rfl, W, hrx, hrn, ⟨d0, hr⟩, hS, hreq, hfit, kc, xc, hcall, kk⟩ := h
    refine ⟨_, (pss_cons (ps_set (i := 2) sc_next_answer.nd rfl (by first | exact Or.inl rfl | exact Or.inr rfl) (pe_meth0 (pv 1) T.cR mt_take_one mF_take_one (hroom.mono (by decide)) mb_take_one .nil pass0))
      (pss_cons (ps_set (i := 3) sc_next_answer.nd rfl (by first | exact Or.inl rfl | exact Or.inr rfl) (pe_meth0 (pv 1) T.cR mt_take_one mF_take_one (hroom.mono (by decide)) mb_take_one .nil pass0))
      (pss_cons (ps_if (pt_cmpR op_eq (pv 2) (pe_cst T.c_PO_BEGIN) (nomark _)) (pss_one (ps_ret (pe_cal c_begin (hroom.mono (by decide)) (pa_cons (pv 0) (pa_cons (pv 3) (pa_cons (pv 1) pa_nil)))))) pss_nil)
      (pss_cons (ps_if (pt_cmpR op_eq (pv 2) (pe_cst T.c_PO_SAVE) (nomark _)) (pss_one (ps_ret (pe_op op_cat (pe_lst (pa_cons pe_int pa_nil)) (pe_cal c_bytes_of_node (hroom.mono (by decide)) (pa_cons (pe_ix ix_nat (pv 0) (pv 3) (fun _ _ => rfl)) pa_nil))))) pss_nil)
      (pss_cons (ps_if (pt_cmpR op_eq (pv 2) (pe_cst T.c_PO_LOAD) (nomark _)) (pss_one (ps_ret (pe_cal c_load hroom (pa_cons (pv 0) (pa_cons (pv 3) (pa_cons (pv 1) pa_nil)))))) pss_nil)
      (pss_cons (ps_if (pt_cmpR op_eq (pv 2) (pe_cst T.c_PO_POST) (nomark _)) (pss_cons (ps_set (i := 4) sc_next_answer.nd rfl (by first | exact Or.inl rfl | exact Or.inr rfl) (pe_meth0 (pv 1) T.cR mt_take_one mF_take_one (hroom.mono (by decide)) mb_take_one .nil pass0))
      (pss_one (ps_ret (pe_cal c_write_post (hroom.mono (by decide)) (pa_cons (pe_ix ix_nat (pv 0) (pv 3) (fun _ _ => rfl)) (pa_cons (pv 4) (pa_cons (pe_meth0 (pv 1) T.cR mt_take_row mF_take_row (hroom.mono (by decide)) mb_take_row .nil pass0) pa_nil))))))) pss_nil)
      (pss_cons (ps_if (pt_cmpR op_eq (pv 2) (pe_cst T.c_PO_RECEIVE) (nomark _)) (pss_cons (ps_set (i := 4) sc_next_answer.nd rfl (by first | exact Or.inl rfl | exact Or.inr rfl) (pe_meth0 (pv 1) T.cR mt_take_one mF_take_one (hroom.mono (by decide)) mb_take_one .nil pass0))
      (pss_one (ps_ret (pe_cal c_take_letter hroom (pa_cons (pe_ix ix_nat (pv 0) (pv 3) (fun _ _ => rfl)) (pa_cons (pv 4) (pa_cons (pe_meth0 (pv 1) T.cR mt_take_row mF_take_row (hroom.mono (by decide)) mb_take_row .nil pass0) pa_nil))))))) pss_nil)
      (pss_cons (ps_if (pt_cmpR op_eq (pv 2) (pe_cst T.c_PO_NEXT) (nomark _)) (pss_one (ps_ret (pe_cal c_show_next (hroom.mono (by decide)) (pa_cons (pe_ix ix_nat (pv 0) (pv 3) (fun _ _ => rfl)) pa_nil)))) pss_nil)
      (pss_cons (ps_if (pt_cmpR op_eq (pv 2) (pe_cst T.c_PO_AGAIN) (nomark _)) (pss_cons (ps_set (i := 5) sc_next_answer.nd rfl (by first | exact Or.inl rfl | exact Or.inr rfl) (pe_meth0 (pv 1) T.cR mt_take_one mF_take_one (hroom.mono (by decide)) mb_take_one .nil pass0))
      (pss_one (ps_ret (pe_cal c_send_again (hroom.mono (by decide)) (pa_cons (pe_ix ix_nat (pv 0) (pv 3) (fun _ _ => rfl)) (pa_cons (pv 5) (pa_cons (pe_meth0 (pv 1) T.cR mt_take_one mF_take_one (hroom.mono (by decide)) mb_take_one .nil pass0) pa_nil))))))) pss_nil)
      (pss_cons (ps_if (pt_cmpR op_eq (pv 2) (pe_cst T.c_PO_TELL) (nomark _)) (pss_cons (ps_set (i := 5) sc_next_answer.nd rfl (by first | exact Or.inl rfl | exact Or.inr rfl) (pe_meth0 (pv 1) T.cR mt_take_one mF_take_one (hroom.mono (by decide)) mb_take_one .nil pass0))
      (pss_one (ps_ret (pe_cal c_tell (hroom.mono (by decide)) (pa_cons (pe_ix ix_nat (pv 0) (pv 3) (fun _ _ => rfl)) (pa_cons (pv 5) (pa_cons (pe_meth0 (pv 1) T.cR mt_take_one mF_take_one (hroom.mono (by decide)) mb_take_one .nil pass0) pa_nil))))))) pss_nil)
      (pss_cons (ps_if (pt_cmpR op_eq (pv 2) (pe_cst T.c_PO_SEEN) (nomark _)) (pss_one (ps_ret (pe_op op_cat (pe_lst (pa_cons pe_int pa_nil)) (pe_fld (pe_ix ix_nat (pv 0) (pv 3) (fun _ _ => rfl)) rfl)))) pss_nil)
      (pss_one ps_never)))))))))))), ?_⟩
    obtain ⟨p, o, r0, hfront, ho8⟩ := hreq.front
    obtain ⟨g0, hd1⟩ := drop_cons hfront
    obtain ⟨g1, hd2⟩ := drop_cons hd1
    -- call = reader.take_one(); place = reader.take_one()
    refine ⟨_, rfl, rd, _, _, rfl, hr, rF_none cl i (by decide +kernel) (by decide +kernel), rd, cl, i, _, _, rfl, ⟨d0, hr⟩, hS.seq, zi_get g0, fun H1 ⟨d1, hr1⟩ b1 => ?_⟩
    have hS1 := hS.but b1 hr ins_frz
    refine ⟨_, rfl, rd, _, _, rfl, hr1, rF_none cl (i + 1) (by decide +kernel) (by decide +kernel), rd, cl, i + 1, _, _, rfl, ⟨d1, hr1⟩, hS1.seq, zi_get g1, fun H2 ⟨d2, hr2⟩ b2 => ?_⟩
    have hS2 := hS1.but b2 hr1 ins_frz
    have b02 := b1.trans b2
    have nr2 : H2 rd ≠ none := by rw [hr2]; exact fun q => nomatch q
    have W2 := W.keep hrx hrn b02 nr2
    clear hS1 b1 b2 hr1 hS W
    -- a cell is read
    have cellR : ∀ {Hc : Hp} {a : Addr} {L : Lay}, Wld CN CP Hc nl B ls ext S → ls[o]? = some (some (a, L)) → SqL K Hc nl (ls.map cellV) ∧ (ls.map cellV)[o]? = some (.ref a) := fun Wc hc => ⟨SqL.of Wc.lst, by rw [List.getElem?_map, hc]; rfl⟩
    generalize hl : ns.drop i = l at hreq hfront
    cases hreq with
    | begin_ o' me n r ho' =>
      injection hfront with f1 f2
      injection f2 with f2 f3
      have f2 : o' = o := by omega
      subst f2
      subst f1
      subst f3
      have hcall : some (((o' : Int)).toNat, Sv27.Call.begin_ me n) = some (kc, xc) := hcall
      rw [Int.toNat_natCast] at hcall
      have e1 : o' = kc := congrArg Prod.fst (Option.some.inj hcall)
      have e2 : Sv27.Call.begin_ me n = xc := congrArg Prod.snd (Option.some.inj hcall)
      subst e1
      subst e2
      obtain ⟨g2, hd3⟩ := drop_cons hd2
      obtain ⟨g3, hd4⟩ := drop_cons hd3
      refine ⟨_, rfl, rfl, _, rfl, isY ?_⟩
      exact ⟨_, rfl, _, rfl, _, rfl, nl, o', rd, cl, i + 1 + 1, ns, B, ls, ext, S, me, n, rfl, W2, hrx, hrn, ⟨d2, hr2⟩, hS2, g2, g3, ho8, (kk (i + 1 + 1 + 2) hd4 (by omega)).but b02 nr2⟩
    | save o' r ho' =>
      injection hfront with f1 f2
      injection f2 with f2 f3
      have f2 : o' = o := by omega
      subst f2
      subst f1
      subst f3
      have hcall : some (((o' : Int)).toNat, Sv27.Call.save) = some (kc, xc) := hcall
      rw [Int.toNat_natCast] at hcall
      have e1 : o' = kc := congrArg Prod.fst (Option.some.inj hcall)
      have e2 : Sv27.Call.save = xc := congrArg Prod.snd (Option.some.inj hcall)
      subst e1
      subst e2
      obtain ⟨x, hx⟩ := fit_node hfit (by decide) (by decide)
      obtain ⟨a, L, hc, N, hw⟩ := W2.node ho8 hx
      have k2 := (kk (i + 1 + 1) hd2 (by omega)).but b02 nr2
      have ed : Sv27.does (S.getD o' none) .save = (some x, ⟨0, Sv27.save x⟩) := by rw [hx]; rfl
      rw [ed] at k2
      have k2 : NxtRet K CN CP CR H2 Q nl rd cl (zi ns) ext (S.set o' (some x)) ⟨0, Sv27.save x⟩ (i + 1 + 1) := k2
      rw [← hx, set_self] at k2
      refine ⟨_, rfl, rfl, _, rfl, isN (by decide) ?_⟩
      refine ⟨_, rfl, rfl, _, rfl, isY ?_⟩
      refine ⟨(by show 1 ≤ sizeLine; decide), fun l0 hl0 => ?_⟩
      have s3 := Same.new (o := HO.lst [V.int 0]) hl0
      have W3 := W2.same s3
      obtain ⟨c1, c2⟩ := cellR W3 hc
      refine ⟨_, rfl, _, rfl, nl, _, o', _, rfl, rfl, c1, c2, a, L, B, x, rfl, N.same s3, hw, fun H4 q s4 hq e4 => ?_⟩
      refine ⟨l0, q, _, _, rfl, rfl, s4 _ _ upd_same, e4, ?_, fun u hu => ?_⟩
      · have hsv := save_eq hw
        rw [ni_length, hsv, List.length_append, List.length_append, List.length_append, List.length_append, stampBytes_length, flatMap_len 64 (fun _ _ => stampBytes_length _), hw.known, rowBytes_length hw.ownL (fun p hp => by have := (hw.own p hp).2; omega)]
        have := rows_len hw x.waits.length
        rw [List.take_length] at this
        exact small_sz (by simp only [List.length_cons, List.length_nil]; omega)
      · exact (k2.ret W2 ⟨d2, hr2⟩ hS2).now (s3.trans s4) hu
    | load o' b r ho' hb30 hbs =>
      injection hfront with f1 f2
      injection f2 with f2 f3
      have f2 : o' = o := by omega
      subst f2
      subst f1
      subst f3
      have hcall : some (((o' : Int)).toNat, Sv27.Call.load (Sv27Neutral.nats (Sv27Neutral.ints b))) = some (kc, xc) := hcall
      rw [Int.toNat_natCast, nats_ints] at hcall
      have e1 : o' = kc := congrArg Prod.fst (Option.some.inj hcall)
      have e2 : Sv27.Call.load b = xc := congrArg Prod.snd (Option.some.inj hcall)
      subst e1
      subst e2
      obtain ⟨_, _, r3⟩ := row_at hd2
      refine ⟨_, rfl, rfl, _, rfl, isN (by decide) ?_⟩
      refine ⟨_, rfl, rfl, _, rfl, isN (by decide) ?_⟩
      refine ⟨_, rfl, rfl, _, rfl, isY ?_⟩
      exact ⟨_, rfl, _, rfl, _, rfl, nl, o', rd, cl, i + 1 + 1, ns, B, ls, ext, S, b, t, rfl, W2, hrx, hrn, ⟨d2, hr2⟩, hS2, hd2, hb30, hbs, ho8, (kk _ r3 (by omega)).but b02 nr2⟩
    | post o' most b r ho' hb31 hbs =>
      injection hfront with f1 f2
      injection f2 with f2 f3
      have f2 : o' = o := by omega
      subst f2
      subst f1
      subst f3
      have hcall : some (((o' : Int)).toNat, Sv27.Call.post (Sv27Neutral.nats (Sv27Neutral.ints b)) ((Sv27Neutral.ints b).length : Int) most) = some (kc, xc) := hcall
      rw [Int.toNat_natCast, nats_ints, ints_len] at hcall
      have e1 : o' = kc := congrArg Prod.fst (Option.some.inj hcall)
      have e2 : Sv27.Call.post b (b.length : Int) most = xc := congrArg Prod.snd (Option.some.inj hcall)
      subst e1
      subst e2
      obtain ⟨x, hx⟩ := fit_node hfit (by decide) (by decide)
      obtain ⟨a, L, hc, N, hw⟩ := W2.node ho8 hx
      obtain ⟨g2, hd3⟩ := drop_cons hd2
      obtain ⟨r1, r2, r3⟩ := row_at hd3
      have k2 := (kk _ r3 (by omega)).but b02 nr2
      have ed : Sv27.does (S.getD o' none) (.post b (b.length : Int) most) = Sv27.on x (.post b (b.length : Int) most) := by rw [hx]; rfl
      obtain ⟨x', rr, eon⟩ := on_some x (.post b (b.length : Int) most)
      rw [ed, eon] at k2
      refine ⟨_, rfl, rfl, _, rfl, isN (by decide) ?_⟩
      refine ⟨_, rfl, rfl, _, rfl, isN (by decide) ?_⟩
      refine ⟨_, rfl, rfl, _, rfl, isN (by decide) ?_⟩
      refine ⟨_, rfl, rfl, _, rfl, isY ?_⟩
      refine ⟨_, rfl, rd, _, _, rfl, hr2, rF_none cl _ (by decide +kernel) (by decide +kernel), rd, cl, i + 1 + 1, _, _, rfl, ⟨d2, hr2⟩, hS2.seq, zi_get g2, fun H3 ⟨d3, hr3⟩ b3 => ?_⟩
      have hS3 := hS2.but b3 hr2 ins_frz
      have nr3 : H3 rd ≠ none := by rw [hr3]; exact fun q => nomatch q
      have W3 := W2.keep hrx hrn b3 nr3
      obtain ⟨c1, c2⟩ := cellR W3 hc
      refine ⟨_, rfl, _, rfl, nl, _, o', _, rfl, rfl, c1, c2, _, rfl, _, rfl, rd, _, _, rfl, hr3, rF_none cl _ (by decide +kernel) (by decide +kernel), rd, cl, i + 1 + 1 + 1, b.length, _, rfl, ⟨d3, hr3⟩, hS3.seq, r1, fun H4 p4 ⟨d4, hr4⟩ b4 hp4 e4 => ?_⟩
      rw [r2] at e4
      have hS4 := hS3.but b4 hr3 ins_frz
      have nr4 : H4 rd ≠ none := by rw [hr4]; exact fun q => nomatch q
      have W4 := W3.keep hrx hrn b4 nr4
      obtain ⟨a4, L4, hc4, N4, _⟩ := W4.node ho8 hx
      have eal : (a, L) = (a4, L4) := Option.some.inj (Option.some.inj (hc.symm.trans hc4))
      have ea : a = a4 := congrArg Prod.fst eal
      have eL : L = L4 := congrArg Prod.snd eal
      subst ea
      subst eL
      refine ⟨a, most, p4, L, B, x, b, rfl, N4, hw, e4, fun q => W3.tr _ q hp4, hb31, W4.tr, x', rr, eon, ?_⟩
      exact ((k2.but b3 nr3).but b4 nr4).mut W4 hrx ⟨d4, hr4⟩ hS4 hc N4 (WF_post hw hb31 eon)
    | receive o' most b r ho' hb1024 hbs =>
      injection hfront with f1 f2
      injection f2 with f2 f3
      have f2 : o' = o := by omega
      subst f2
      subst f1
      subst f3
      have hcall : some (((o' : Int)).toNat, Sv27.Call.receive (Sv27Neutral.nats (Sv27Neutral.ints b)) ((Sv27Neutral.ints b).length : Int) most) = some (kc, xc) := hcall
      rw [Int.toNat_natCast, nats_ints, ints_len] at hcall
      have e1 : o' = kc := congrArg Prod.fst (Option.some.inj hcall)
      have e2 : Sv27.Call.receive b (b.length : Int) most = xc := congrArg Prod.snd (Option.some.inj hcall)
      subst e1
      subst e2
      obtain ⟨x, hx⟩ := fit_node hfit (by decide) (by decide)
      obtain ⟨a, L, hc, N, hw⟩ := W2.node ho8 hx
      obtain ⟨g2, hd3⟩ := drop_cons hd2
      obtain ⟨r1, r2, r3⟩ := row_at hd3
      have k2 := (kk _ r3 (by omega)).but b02 nr2
      have ed : Sv27.does (S.getD o' none) (.receive b (b.length : Int) most) = Sv27.on x (.receive b (b.length : Int) most) := by rw [hx]; rfl
      obtain ⟨x', rr, eon⟩ := on_some x (.receive b (b.length : Int) most)
      rw [ed, eon] at k2
      refine ⟨_, rfl, rfl, _, rfl, isN (by decide) ?_⟩
      refine ⟨_, rfl, rfl, _, rfl, isN (by decide) ?_⟩
      refine ⟨_, rfl, rfl, _, rfl, isN (by decide) ?_⟩
      refine ⟨_, rfl, rfl, _, rfl, isN (by decide) ?_⟩
      refine ⟨_, rfl, rfl, _, rfl, isY ?_⟩
      refine ⟨_, rfl, rd, _, _, rfl, hr2, rF_none cl _ (by decide +kernel) (by decide +kernel), rd, cl, i + 1 + 1, _, _, rfl, ⟨d2, hr2⟩, hS2.seq, zi_get g2, fun H3 ⟨d3, hr3⟩ b3 => ?_⟩
      have hS3 := hS2.but b3 hr2 ins_frz
      have nr3 : H3 rd ≠ none := by rw [hr3]; exact fun q => nomatch q
      have W3 := W2.keep hrx hrn b3 nr3
      obtain ⟨c1, c2⟩ := cellR W3 hc
      refine ⟨_, rfl, _, rfl, nl, _, o', _, rfl, rfl, c1, c2, _, rfl, _, rfl, rd, _, _, rfl, hr3, rF_none cl _ (by decide +kernel) (by decide +kernel), rd, cl, i + 1 + 1 + 1, b.length, _, rfl, ⟨d3, hr3⟩, hS3.seq, r1, fun H4 p4 ⟨d4, hr4⟩ b4 hp4 e4 => ?_⟩
      rw [r2] at e4
      have hS4 := hS3.but b4 hr3 ins_frz
      have nr4 : H4 rd ≠ none := by rw [hr4]; exact fun q => nomatch q
      have W4 := W3.keep hrx hrn b4 nr4
      obtain ⟨a4, L4, hc4, N4, _⟩ := W4.node ho8 hx
      have eal : (a, L) = (a4, L4) := Option.some.inj (Option.some.inj (hc.symm.trans hc4))
      have ea : a = a4 := congrArg Prod.fst eal
      have eL : L = L4 := congrArg Prod.snd eal
      subst ea
      subst eL
      refine ⟨a, most, p4, L, B, x, b, rfl, N4, hw, e4, hbs, hb1024, W4.tr, x', rr, eon, ?_⟩
      exact ((k2.but b3 nr3).but b4 nr4).mut W4 hrx ⟨d4, hr4⟩ hS4 hc N4 (WF_receive hw eon)
    | next o' r ho' =>
      injection hfront with f1 f2
      injection f2 with f2 f3
      have f2 : o' = o := by omega
      subst f2
      subst f1
      subst f3
      have hcall : some (((o' : Int)).toNat, Sv27.Call.next) = some (kc, xc) := hcall
      rw [Int.toNat_natCast] at hcall
      have e1 : o' = kc := congrArg Prod.fst (Option.some.inj hcall)
      have e2 : Sv27.Call.next = xc := congrArg Prod.snd (Option.some.inj hcall)
      subst e1
      subst e2
      obtain ⟨x, hx⟩ := fit_node hfit (by decide) (by decide)
      obtain ⟨a, L, hc, N, hw⟩ := W2.node ho8 hx
      have k2 := (kk (i + 1 + 1) hd2 (by omega)).but b02 nr2
      have ed : Sv27.does (S.getD o' none) .next = Sv27.on x .next := by rw [hx]; rfl
      obtain ⟨x', rr, eon⟩ := on_some x .next
      rw [ed, eon] at k2
      refine ⟨_, rfl, rfl, _, rfl, isN (by decide) ?_⟩
      refine ⟨_, rfl, rfl, _, rfl, isN (by decide) ?_⟩
      refine ⟨_, rfl, rfl, _, rfl, isN (by decide) ?_⟩
      refine ⟨_, rfl, rfl, _, rfl, isN (by decide) ?_⟩
      refine ⟨_, rfl, rfl, _, rfl, isN (by decide) ?_⟩
      refine ⟨_, rfl, rfl, _, rfl, isY ?_⟩
      obtain ⟨c1, c2⟩ := cellR W2 hc
      exact ⟨_, rfl, _, rfl, nl, _, o', _, rfl, rfl, c1, c2, a, L, B, x, rfl, N, hw, x', rr, eon, k2.mut W2 hrx ⟨d2, hr2⟩ hS2 hc N (WF_next hw eon)⟩
    | again o' to most r ho' =>
      injection hfront with f1 f2
      injection f2 with f2 f3
      have f2 : o' = o := by omega
      subst f2
      subst f1
      subst f3
      have hcall : some (((o' : Int)).toNat, Sv27.Call.again to most) = some (kc, xc) := hcall
      rw [Int.toNat_natCast] at hcall
      have e1 : o' = kc := congrArg Prod.fst (Option.some.inj hcall)
      have e2 : Sv27.Call.again to most = xc := congrArg Prod.snd (Option.some.inj hcall)
      subst e1
      subst e2
      obtain ⟨x, hx⟩ := fit_node hfit (by decide) (by decide)
      obtain ⟨a, L, hc, N, hw⟩ := W2.node ho8 hx
      obtain ⟨g2, hd3⟩ := drop_cons hd2
      obtain ⟨g3, hd4⟩ := drop_cons hd3
      have k2 := (kk _ hd4 (by omega)).but b02 nr2
      have ed : Sv27.does (S.getD o' none) (.again to most) = Sv27.on x (.again to most) := by rw [hx]; rfl
      rw [ed, on_again_same, ← hx, set_self] at k2
      refine ⟨_, rfl, rfl, _, rfl, isN (by decide) ?_⟩
      refine ⟨_, rfl, rfl, _, rfl, isN (by decide) ?_⟩
      refine ⟨_, rfl, rfl, _, rfl, isN (by decide) ?_⟩
      refine ⟨_, rfl, rfl, _, rfl, isN (by decide) ?_⟩
      refine ⟨_, rfl, rfl, _, rfl, isN (by decide) ?_⟩
      refine ⟨_, rfl, rfl, _, rfl, isN (by decide) ?_⟩
      refine ⟨_, rfl, rfl, _, rfl, isY ?_⟩
      refine ⟨_, rfl, rd, _, _, rfl, hr2, rF_none cl _ (by decide +kernel) (by decide +kernel), rd, cl, i + 1 + 1, _, _, rfl, ⟨d2, hr2⟩, hS2.seq, zi_get g2, fun H3 ⟨d3, hr3⟩ b3 => ?_⟩
      have hS3 := hS2.but b3 hr2 ins_frz
      have nr3 : H3 rd ≠ none := by rw [hr3]; exact fun q => nomatch q
      have W3 := W2.keep hrx hrn b3 nr3
      obtain ⟨c1, c2⟩ := cellR W3 hc
      refine ⟨_, rfl, _, rfl, nl, _, o', _, rfl, rfl, c1, c2, _, rfl, _, rfl, rd, _, _, rfl, hr3, rF_none cl _ (by decide +kernel) (by decide +kernel), rd, cl, i + 1 + 1 + 1, _, _, rfl, ⟨d3, hr3⟩, hS3.seq, zi_get g3, fun H4 ⟨d4, hr4⟩ b4 => ?_⟩
      have hS4 := hS3.but b4 hr3 ins_frz
      have nr4 : H4 rd ≠ none := by rw [hr4]; exact fun q => nomatch q
      have W4 := W3.keep hrx hrn b4 nr4
      obtain ⟨a4, L4, hc4, N4, _⟩ := W4.node ho8 hx
      have eal : (a, L) = (a4, L4) := Option.some.inj (Option.some.inj (hc.symm.trans hc4))
      have ea : a = a4 := congrArg Prod.fst eal
      have eL : L = L4 := congrArg Prod.snd eal
      subst ea
      subst eL
      exact ⟨a, to, most, L, B, x, rfl, N4, hw, ((k2.but b3 nr3).but b4 nr4).ret W4 ⟨d4, hr4⟩ hS4⟩
    | tell o' to most r ho' =>
      injection hfront with f1 f2
      injection f2 with f2 f3
      have f2 : o' = o := by omega
      subst f2
      subst f1
      subst f3
      have hcall : some (((o' : Int)).toNat, Sv27.Call.tell to most) = some (kc, xc) := hcall
      rw [Int.toNat_natCast] at hcall
      have e1 : o' = kc := congrArg Prod.fst (Option.some.inj hcall)
      have e2 : Sv27.Call.tell to most = xc := congrArg Prod.snd (Option.some.inj hcall)
      subst e1
      subst e2
      obtain ⟨x, hx⟩ := fit_node hfit (by decide) (by decide)
      obtain ⟨a, L, hc, N, hw⟩ := W2.node ho8 hx
      obtain ⟨g2, hd3⟩ := drop_cons hd2
      obtain ⟨g3, hd4⟩ := drop_cons hd3
      have k2 := (kk _ hd4 (by omega)).but b02 nr2
      have ed : Sv27.does (S.getD o' none) (.tell to most) = Sv27.on x (.tell to most) := by rw [hx]; rfl
      rw [ed, on_tell_same, ← hx, set_self] at k2
      refine ⟨_, rfl, rfl, _, rfl, isN (by decide) ?_⟩
      refine ⟨_, rfl, rfl, _, rfl, isN (by decide) ?_⟩
      refine ⟨_, rfl, rfl, _, rfl, isN (by decide) ?_⟩
      refine ⟨_, rfl, rfl, _, rfl, isN (by decide) ?_⟩
      refine ⟨_, rfl, rfl, _, rfl, isN (by decide) ?_⟩
      refine ⟨_, rfl, rfl, _, rfl, isN (by decide) ?_⟩
      refine ⟨_, rfl, rfl, _, rfl, isN (by decide) ?_⟩
      refine ⟨_, rfl, rfl, _, rfl, isY ?_⟩
      refine ⟨_, rfl, rd, _, _, rfl, hr2, rF_none cl _ (by decide +kernel) (by decide +kernel), rd, cl, i + 1 + 1, _, _, rfl, ⟨d2, hr2⟩, hS2.seq, zi_get g2, fun H3 ⟨d3, hr3⟩ b3 => ?_⟩
      have hS3 := hS2.but b3 hr2 ins_frz
      have nr3 : H3 rd ≠ none := by rw [hr3]; exact fun q => nomatch q
      have W3 := W2.keep hrx hrn b3 nr3
      obtain ⟨c1, c2⟩ := cellR W3 hc
      refine ⟨_, rfl, _, rfl, nl, _, o', _, rfl, rfl, c1, c2, _, rfl, _, rfl, rd, _, _, rfl, hr3, rF_none cl _ (by decide +kernel) (by decide +kernel), rd, cl, i + 1 + 1 + 1, _, _, rfl, ⟨d3, hr3⟩, hS3.seq, zi_get g3, fun H4 ⟨d4, hr4⟩ b4 => ?_⟩
      have hS4 := hS3.but b4 hr3 ins_frz
      have nr4 : H4 rd ≠ none := by rw [hr4]; exact fun q => nomatch q
      have W4 := W3.keep hrx hrn b4 nr4
      obtain ⟨a4, L4, hc4, N4, _⟩ := W4.node ho8 hx
      have eal : (a, L) = (a4, L4) := Option.some.inj (Option.some.inj (hc.symm.trans hc4))
      have ea : a = a4 := congrArg Prod.fst eal
      have eL : L = L4 := congrArg Prod.snd eal
      subst ea
      subst eL
      exact ⟨a, to, most, L, B, x, rfl, N4, hw, ((k2.but b3 nr3).but b4 nr4).ret W4 ⟨d4, hr4⟩ hS4⟩
    | seen o' r ho' =>
      injection hfront with f1 f2
      injection f2 with f2 f3
      have f2 : o' = o := by omega
      subst f2
      subst f1
      subst f3
      have hcall : some (((o' : Int)).toNat, Sv27.Call.seen) = some (kc, xc) := hcall
      rw [Int.toNat_natCast] at hcall
      have e1 : o' = kc := congrArg Prod.fst (Option.some.inj hcall)
      have e2 : Sv27.Call.seen = xc := congrArg Prod.snd (Option.some.inj hcall)
      subst e1
      subst e2
      obtain ⟨x, hx⟩ := fit_node hfit (by decide) (by decide)
      obtain ⟨a, L, hc, N, hw⟩ := W2.node ho8 hx
      have k2 := (kk (i + 1 + 1) hd2 (by omega)).but b02 nr2
      have ed : Sv27.does (S.getD o' none) .seen = (some x, ⟨0, (List.range 8).map fun i => of x.seen i⟩) := by rw [hx]; rfl
      rw [ed, seen_all x.seen hw.seen] at k2
      have k2 : NxtRet K CN CP CR H2 Q nl rd cl (zi ns) ext (S.set o' (some x)) ⟨0, x.seen⟩ (i + 1 + 1) := k2
      rw [← hx, set_self] at k2
      refine ⟨_, rfl, rfl, _, rfl, isN (by decide) ?_⟩
      refine ⟨_, rfl, rfl, _, rfl, isN (by decide) ?_⟩
      refine ⟨_, rfl, rfl, _, rfl, isN (by decide) ?_⟩
      refine ⟨_, rfl, rfl, _, rfl, isN (by decide) ?_⟩
      refine ⟨_, rfl, rfl, _, rfl, isN (by decide) ?_⟩
      refine ⟨_, rfl, rfl, _, rfl, isN (by decide) ?_⟩
      refine ⟨_, rfl, rfl, _, rfl, isN (by decide) ?_⟩
      refine ⟨_, rfl, rfl, _, rfl, isN (by decide) ?_⟩
      refine ⟨_, rfl, rfl, _, rfl, isY ?_⟩
      refine ⟨(by show 1 ≤ sizeLine; decide), fun l0 hl0 => ?_⟩
      have s3 := Same.new (o := HO.lst [V.int 0]) hl0
      have W3 := W2.same s3
      obtain ⟨c1, c2⟩ := cellR W3 hc
      obtain ⟨dx, hA⟩ := N.ins
      refine ⟨_, rfl, _, rfl, nl, _, o', _, rfl, rfl, c1, c2, a, _, _, _, _, rfl, s3 _ _ hA, T.cN, T.a_seen, nF_seen _ _ _, ?_⟩
      refine ⟨l0, L.s, _, _, rfl, rfl, upd_same, s3 _ _ N.seen, ?_, fun u hu => ?_⟩
      · rw [ni_length, hw.seen]
        show 1 + 8 ≤ sizeLine
        decide
      · exact (k2.ret W2 ⟨d2, hr2⟩ hS2).now s3 hu
end
end Po

namespace Po
open PySem PySem.Spec PyProof.Rows L2
open Sv27 (little stampBytes stampOf stampOk nobody padded Bytes Stamp of word rowBytes postBytes)
set_option linter.all false
theorem fit_whole {S : Sv27Neutral.S} {l : List Int} {c : List (List Int)} {t : List Int} (h : Req l c t) : fit1 S (PySv27.whole c) = fit1 S c := by
  cases h <;> rfl
theorem req_call {l : List Int} {c : List (List Int)} {t : List Int} (h : Req l c t) : ∃ k x, Sv27Neutral.callOf (PySv27.whole c) = some (k, x) := by
  cases h <;> exact ⟨_, _, rfl⟩
theorem step_call {S : Sv27Neutral.S} {c : List (List Int)} {k : Nat} {x : Sv27.Call} (h : Sv27Neutral.callOf c = some (k, x)) : Sv27Neutral.step S c = (S.set k (Sv27.does (S.getD k none) x).1, (Sv27.does (S.getD k none) x).2.v :: Sv27Neutral.ints (Sv27.does (S.getD k none) x).2.l) := by
  unfold Sv27Neutral.step
  rw [h]
theorem ansL_zi (r : Sv27.Ans) : ansL r = zi (r.v :: Sv27Neutral.ints r.l) := by
  unfold ansL
  rw [ni_zi]
  rfl
theorem zi_append (a b : List Int) : zi (a ++ b) = zi a ++ zi b := List.map_append
theorem zi_length (a : List Int) : (zi a).length = a.length := List.length_map _
theorem drop_more {ns t : List Int} {i : Nat} {c : List (List Int)} (h : Req (ns.drop i) c t) : ∃ j, ns.drop j = t ∧ i < j := by
  generalize hl : ns.drop i = l at h
  cases h with
  | begin_ o me n r _ => exact ⟨i + 1 + 1 + 1 + 1, (drop_cons (drop_cons (drop_cons (drop_cons hl).2).2).2).2, by omega⟩
  | save o r _ => exact ⟨i + 1 + 1, (drop_cons (drop_cons hl).2).2, by omega⟩
  | load o b r _ _ _ => exact ⟨_, (row_at (drop_cons (drop_cons hl).2).2).2.2, by omega⟩
  | post o m b r _ _ _ => exact ⟨_, (row_at (drop_cons (drop_cons (drop_cons hl).2).2).2).2.2, by omega⟩
  | receive o m b r _ _ _ => exact ⟨_, (row_at (drop_cons (drop_cons (drop_cons hl).2).2).2).2.2, by omega⟩
  | next o r _ => exact ⟨i + 1 + 1, (drop_cons (drop_cons hl).2).2, by omega⟩
  | again o to most r _ => exact ⟨i + 1 + 1 + 1 + 1, (drop_cons (drop_cons (drop_cons (drop_cons hl).2).2).2).2, by omega⟩
  | tell o to most r _ => exact ⟨i + 1 + 1 + 1 + 1, (drop_cons (drop_cons (drop_cons (drop_cons hl).2).2).2).2, by omega⟩
  | seen o r _ => exact ⟨i + 1 + 1, (drop_cons (drop_cons hl).2).2, by omega⟩
section
variable {P : Program} {w : World} {K : PySem.W.Frag} {mg : Str → Option Value} {base : Heap} {CN CP CR : Addr}
def spAns (K : PySem.W.Frag) : Sp := fun vs H Q _ => ∃ (a : Addr) (ns : List Int), vs = [.ref a] ∧ Scr K H a (zi ns) ∧ PySv27.answers_asked ns = true ∧
  ∀ (H' : Hp) (p : Addr), H' p = some (.lst (zi (PySv27.answers ns))) → Q (.ref p) H'
theorem okf_answers (T : Txt K mg CN CP CR) {f : Addr} {fd : FuncData} (F : Fun K "answers" "answers" s_answers f fd) (i_Reader : ICal P w K mg base 1 CR "Reader" ["self", "numbers"] (spRdI CR)) (m_is_done : MCal P w K mg base 1 CR "is_done" ["self"] (spDone K CR)) (c_next_answer : Cal P w K mg base 7 "next_answer" ["nodes", "reader"] (spNext K CN CP CR)) : FnOk P w K mg base CX0 8 f fd ["calls"] (spAns K) := by
  obtain ⟨mf_is_done, mfd_is_done, mt_is_done, mb_is_done, mF_is_done⟩ := m_is_done.ex
  refine F.ok sc_answers (fun vs H Q E h => ?_) (fun cdv A outer s H vs Q E hroom h => ?_)
  · obtain ⟨a, ns, rfl, hS, hask, k⟩ := h
    rfl
  · obtain ⟨a, ns, rfl, hS, hask, k⟩ := h
    refine ⟨_, (pss_cons (ps_set (i := 1) sc_answers.nd rfl (by first | exact Or.inl rfl | exact Or.inr rfl) (pe_ical i_Reader (hroom.mono (by decide)) (pa_cons (pv 0) pa_nil)))
      (pss_cons (ps_set (i := 2) sc_answers.nd rfl (by first | exact Or.inl rfl | exact Or.inr rfl) (pe_op op_rep (pe_lst (pa_cons pe_non pa_nil)) (pe_cst T.c_OBJECTS)))
      (pss_cons (ps_set (i := 3) sc_answers.nd rfl (by first | exact Or.inl rfl | exact Or.inr rfl) (pe_lst pa_nil))
      (pss_cons (ps_while PassesOwn.never (pt_not (pt_val (pe_meth0 (pv 1) T.cR mt_is_done mF_is_done (hroom.mono (by decide)) mb_is_done .nil pass0))) (pss_cons (ps_set (i := 4) sc_answers.nd rfl (by first | exact Or.inl rfl | exact Or.inr rfl) (pe_cal c_next_answer hroom (pa_cons (pv 2) (pa_cons (pv 1) pa_nil))))
      (pss_cons (ps_expr (pe_bm PySem.F.plainAttrs_list PySem.F.slot_list_append PySem.F.type_list_append mt_append (pv 3) (pa_cons (pe_callB cr_lenN (by rfl) T.b.len PySem.boot_len (pa_cons (pv 4) pa_nil)) pa_nil)))
      (pss_one (ps_expr (pe_bm PySem.F.plainAttrs_list PySem.F.slot_list_extend PySem.F.type_list_extend mt_extend (pv 3) (pa_cons (pv 4) pa_nil)))))))
      (pss_one (ps_ret (pv 3))))))), ?_⟩
    -- what is asked
    obtain ⟨raw, hraw, hin, hfits, htot⟩ : ∃ raw, PyFlat.calls PySv27.shape ns.length ns = some raw ∧ (∀ c, c ∈ raw → PyInside.call PySv27.bound c = true) ∧ Sv27Neutral.fits Sv27Neutral.start (raw.map PySv27.whole) = true ∧ Sv27Neutral.answered Sv27Neutral.start (raw.map PySv27.whole) + raw.length ≤ 1000400 := by
      unfold PySv27.answers_asked at hask
      cases e : PyFlat.calls PySv27.shape ns.length ns with
      | none => rw [e] at hask; cases hask
      | some raw =>
        rw [e] at hask
        have hask : (PyFlat.atMost 400 raw && PyInside.calls PySv27.bound raw && Sv27Neutral.asked (raw.map PySv27.whole)) = true := hask
        rw [Bool.and_eq_true, Bool.and_eq_true] at hask
        obtain ⟨⟨h1, h2⟩, h3⟩ := hask
        have h1 : decide (raw.length ≤ 400) = true := h1
        have h3 : ((raw.map PySv27.whole).all Sv27Neutral.asked1 && (decide (1 ≤ (raw.map PySv27.whole).length) && (decide ((raw.map PySv27.whole).length ≤ 400) && (Sv27Neutral.fits Sv27Neutral.start (raw.map PySv27.whole) && decide (Sv27Neutral.answered Sv27Neutral.start (raw.map PySv27.whole) < 1000000))))) = true := h3
        rw [Bool.and_eq_true, Bool.and_eq_true, Bool.and_eq_true, Bool.and_eq_true, decide_eq_true_iff, decide_eq_true_iff, decide_eq_true_iff] at h3
        rw [decide_eq_true_iff] at h1
        exact ⟨raw, rfl, fun c hc => List.all_eq_true.mp h2 c hc, h3.2.2.2.1, by omega⟩
    have hansw : PySv27.answers ns = PyFlat.told (PyFlat.played Sv27Neutral.step Sv27Neutral.start (raw.map PySv27.whole)) := by
      unfold PySv27.answers PySv27.calls
      rw [hraw]
    -- reader = Reader(calls)
    refine ⟨_, rfl, ?_⟩
    intro rd dr nrd ndr ne
    refine ⟨rd, dr, a, rfl, upd_same, fun H1 hr1 kp => ⟨rfl, ?_⟩⟩
    have s1 : Same H H1 := Same.made nrd ndr kp
    -- nodes = [None] * OBJECTS
    refine ⟨(by show 1 ≤ sizeLine; decide), fun l0 hl0 => ⟨l0, 8, [.non], rfl, rfl, upd_same, by decide, by decide, (by show 1 * 8 ≤ sizeLine; decide), fun nl hnl => ?_⟩⟩
    have s2 : Same H1 (upd (upd H1 l0 (.lst [V.non])) nl (.lst (List.replicate (8 : Int).toNat [V.non]).flatten)) := (Same.new hl0).trans (Same.new hnl)
    have enl : (upd (upd H1 l0 (.lst [V.non])) nl (.lst (List.replicate (8 : Int).toNat [V.non]).flatten)) nl = some (.lst ((List.replicate 8 (none : Cell)).map cellV)) := upd_same
    have hr2 := s2 _ _ hr1
    generalize upd (upd H1 l0 (.lst [V.non])) nl (.lst (List.replicate (8 : Int).toNat [V.non]).flatten) = H2 at s2 enl hr2
    -- answered = []
    refine ⟨(by show 0 ≤ sizeLine; decide), fun ol hol => ?_⟩
    have s3 := s2.trans (Same.new (o := HO.lst []) hol)
    have nne : nl ≠ rd := ne_of enl hr2 (by intro z; cases z)
    have one : ol ≠ rd := fun z => by rw [z, hr2] at hol; cases hol
    have onl : ol ≠ nl := fun z => by rw [z, enl] at hol; cases hol
    -- the loop
    refine ⟨fun m σ H' => ∃ (i : Nat) (B : Addr → Prop) (ls : List Cell) (S : Sv27Neutral.S) (f : Nat) (cs : List (List (List Int))) (done : List Int) (av : Option V), m = ns.length - i ∧ σ = [some (.ref a), some (.ref rd), some (.ref nl), some (.ref ol), av] ∧ Wld CN CP H' nl B ls [nl, rd, ol] S ∧ RdAt CR H' rd a i ∧ Scr K H' a (zi ns) ∧ H' ol = some (.lst (zi done)) ∧
      PyFlat.calls PySv27.shape f (ns.drop i) = some cs ∧ (∀ c, c ∈ cs → PyInside.call PySv27.bound c = true) ∧ Sv27Neutral.fits S (cs.map PySv27.whole) = true ∧ done ++ PyFlat.told (PyFlat.played Sv27Neutral.step S (cs.map PySv27.whole)) = PySv27.answers ns ∧ done.length + Sv27Neutral.answered S (cs.map PySv27.whole) + cs.length ≤ 1000400, ?_, ?_⟩
    · refine ⟨_, 0, fun c => c ∈ [nl, rd, ol], List.replicate 8 none, Sv27Neutral.start, ns.length, raw, [], none, rfl, rfl, ⟨at_new enl hol, rfl, fun e he => he, List.mem_cons_self .., ?_, ?_, ?_, ?_⟩, ⟨dr, at_new hr2 hol⟩, hS.same (s1.trans s3), upd_same, hraw, hin, hfits, hansw.symm, by rw [List.length_nil]; omega⟩
      · have key : ∀ n : Nat, Paired (CellAt CN CP (fun c => c ∈ [nl, rd, ol]) (upd H2 ol (.lst []))) (List.replicate n none) (List.replicate n none) := by
          intro n
          induction n with
          | zero => exact .nil
          | succ n ih => exact .cons trivial ih
        exact key 8
      · intro i j a L a' L' _ hi _
        rw [List.getElem?_replicate] at hi
        split at hi <;> cases hi
      · intro i a L hi
        rw [List.getElem?_replicate] at hi
        split at hi <;> cases hi
      · intro c hc z
        rcases List.mem_cons.mp hc with q | q
        · rw [q, at_new enl hol] at z; cases z
        rcases List.mem_cons.mp q with q | q
        · rw [q, at_new hr2 hol] at z; cases z
        · rw [List.mem_singleton.mp q, upd_same] at z; cases z
    rintro m σ H3 ⟨i, B, ls, S, f, cs, done, av, rfl, rfl, W, ⟨dr3, hr3⟩, hS3, hol3, hcs, hin3, hfit3, heq, hsz⟩
    refine ⟨_, rfl, rd, _, _, rfl, hr3, rF_none a i (by decide +kernel) (by decide +kernel), rd, a, i, _, rfl, ⟨dr3, hr3⟩, hS3.seq, _, rfl, ?_⟩
    rw [zi_length]
    by_cases hdone : ns.length ≤ i
    · rw [decide_eq_true hdone]
      refine iteF ⟨_, rfl, ?_⟩
      rw [List.drop_of_length_le hdone] at hcs
      rw [calls_nil hcs] at heq
      have heq : done ++ [] = PySv27.answers ns := heq
      rw [List.append_nil] at heq
      rw [heq] at hol3
      exact k _ _ hol3
    · rw [decide_eq_false hdone]
      obtain ⟨p0, r0, hpr⟩ : ∃ p r, ns.drop i = p :: r := by
        cases e : ns.drop i with
        | nil =>
          have := congrArg List.length e
          rw [List.length_drop, List.length_nil] at this
          omega
        | cons p r => exact ⟨p, r, rfl⟩
      rw [hpr] at hcs
      obtain ⟨f', c, t, cs', _, hcall, hcs', rfl⟩ := calls_cons hcs
      rw [← hpr] at hcall
      have hreq := call_req hcall (hin3 c (List.mem_cons_self ..))
      obtain ⟨kc, x, hof⟩ := req_call hreq
      have hst := step_call (S := S) hof
      rw [List.map_cons] at hfit3 heq hsz
      obtain ⟨hf1, hf2⟩ := fits_cons hfit3
      rw [fit_whole hreq] at hf1
      rw [hst] at hf2
      have heq : done ++ PyFlat.told ((Sv27Neutral.step S (PySv27.whole c)).2 :: PyFlat.played Sv27Neutral.step (Sv27Neutral.step S (PySv27.whole c)).1 (cs'.map PySv27.whole)) = PySv27.answers ns := heq
      have hsz : done.length + ((Sv27Neutral.step S (PySv27.whole c)).2.length + Sv27Neutral.answered (Sv27Neutral.step S (PySv27.whole c)).1 (cs'.map PySv27.whole)) + (cs'.length + 1) ≤ 1000400 := hsz
      rw [hst] at heq hsz
      have hsz : done.length + (((Sv27.does (S.getD kc none) x).2.v :: Sv27Neutral.ints (Sv27.does (S.getD kc none) x).2.l).length + Sv27Neutral.answered (S.set kc (Sv27.does (S.getD kc none) x).1) (cs'.map PySv27.whole)) + (cs'.length + 1) ≤ 1000400 := hsz
      -- answer = next_answer(nodes, reader)
      refine iteT ⟨_, fun σ' H' q => q, ?_⟩
      refine ⟨_, rfl, _, rfl, nl, rd, a, i, ns, B, ls, [nl, rd, ol], S, c, t, rfl, W, List.mem_cons_of_mem _ (List.mem_cons_self ..), fun z => nne z.symm, ⟨dr3, hr3⟩, hS3, hreq, hf1, kc, x, hof, fun j hj hij H4 p B' ls' W4 ⟨d4, hr4⟩ ex4 hS4 hp e4 => ?_⟩
      rw [ansL_zi] at e4
      have hol4 := ex4 ol (by simp) onl one _ hol3
      have hpol : p ≠ ol := fun z => by rw [z, hol3] at hp; cases hp
      -- answered.append(len(answer)); answered.extend(answer)
      refine ⟨_, rfl, .inl ⟨rfl, _, SqL.of hol4⟩, _, rfl, p, _, rfl, SqL.of e4, ol, _, _, rfl, rfl, hol4, ?_, ?_⟩
      · rw [zi_length]
        have hz : done.length ≤ 16000000 := by omega
        exact small_lt hz
      rw [zi_length]
      have e5 : (upd H4 ol (.lst (zi done ++ [V.int (((Sv27.does (S.getD kc none) x).2.v :: Sv27Neutral.ints (Sv27.does (S.getD kc none) x).2.l).length : Nat)]))) p = some (.lst (zi ((Sv27.does (S.getD kc none) x).2.v :: Sv27Neutral.ints (Sv27.does (S.getD kc none) x).2.l))) := by rw [upd_ne hpol]; exact e4
      refine ⟨_, rfl, .inl ⟨rfl, _, SqL.of upd_same⟩, _, rfl, ol, p, _, _, rfl, rfl, upd_same, e5, ?_, ?_⟩
      · rw [List.length_append, zi_length, zi_length]
        simp only [List.length_cons, List.length_nil] at hsz ⊢
        exact small_sz (by omega)
      have b6 : But ol H4 (upd (upd H4 ol (.lst (zi done ++ [V.int (((Sv27.does (S.getD kc none) x).2.v :: Sv27Neutral.ints (Sv27.does (S.getD kc none) x).2.l).length : Nat)]))) ol (.lst (zi done ++ [V.int (((Sv27.does (S.getD kc none) x).2.v :: Sv27Neutral.ints (Sv27.does (S.getD kc none) x).2.l).length : Nat)] ++ zi ((Sv27.does (S.getD kc none) x).2.v :: Sv27Neutral.ints (Sv27.does (S.getD kc none) x).2.l)))) := (But.upd _ _ _).trans (But.upd _ _ _)
      have hlt : j ≤ ns.length ∨ ns.length < j := by omega
      refine ⟨ns.length - j, by omega, j, B', ls', _, f', cs', done ++ (((((Sv27.does (S.getD kc none) x).2.v :: Sv27Neutral.ints (Sv27.does (S.getD kc none) x).2.l).length : Nat) : Int) :: ((Sv27.does (S.getD kc none) x).2.v :: Sv27Neutral.ints (Sv27.does (S.getD kc none) x).2.l)), _, rfl, rfl, W4.keep (by simp) onl b6 (by rw [upd_same]; exact fun q => nomatch q), ⟨d4, b6 _ _ hr4 (fun z => one z.symm)⟩, hS4.but b6 hol4 lst_frz, ?_, by rw [hj]; exact hcs', fun c' hc' => hin3 c' (List.mem_cons_of_mem _ hc'), hf2, ?_, ?_⟩
      · rw [upd_same, zi_append, List.append_assoc]
        rfl
      · rw [← heq]
        unfold PyFlat.told
        rw [List.flatMap_cons, List.append_assoc]
      · rw [List.length_append, List.length_cons]
        omega
end
end Po

namespace Po
open PySem PySem.Spec PyProof.Rows L2
set_option linter.all false
theorem scr_of {K : PySem.W.Frag} {H : Hp} {a : Addr} {xs : List V} (hO : OnlyF H) (h : SqL K H a xs) : Scr K H a xs := by
  rcases h with ((h | ⟨o, h⟩) | h)
  · rcases hO a with q | ⟨o, u, q⟩
    · rw [q] at h; cases h
    · rw [q] at h; cases h
  · exact .inl ⟨o, h⟩
  · exact .inr fun _ => .inr h
section
variable {P : Program} {w : World} {K : PySem.W.Frag} {mg : Str → Option Value} {CN CP CR : Addr}
theorem all_mk {fa : Addr} (hfa : mg "answers" = some (.ref fa)) (T : Txt K mg CN CP CR)
    (D_new_Post : IDef K mg CP "Post" "Post.__init__" s_new_Post)
    (D_padded_text : Def K mg "padded_text" s_padded_text)
    (D_is_padded_text : Def K mg "is_padded_text" s_is_padded_text)
    (D_counts_of : Def K mg "counts_of" s_counts_of)
    (D_empty_stamp : Def K mg "empty_stamp" s_empty_stamp)
    (D_bytes_of_number : Def K mg "bytes_of_number" s_bytes_of_number)
    (D_number_of_bytes : Def K mg "number_of_bytes" s_number_of_bytes)
    (D_bytes_of_stamp : Def K mg "bytes_of_stamp" s_bytes_of_stamp)
    (D_stamp_of_bytes : Def K mg "stamp_of_bytes" s_stamp_of_bytes)
    (D_is_stamp : Def K mg "is_stamp" s_is_stamp)
    (D_new_Node : IDef K mg CN "Node" "Node.__init__" s_new_Node)
    (D_may_be_node : Def K mg "may_be_node" s_may_be_node)
    (D_is_other : Def K mg "is_other" s_is_other)
    (D_others_of : Def K mg "others_of" s_others_of)
    (D_post_letter : Def K mg "post_letter" s_post_letter)
    (D_seen_letter : Def K mg "seen_letter" s_seen_letter)
    (D_is_seen : Def K mg "is_seen" s_is_seen)
    (D_sender_of : Def K mg "sender_of" s_sender_of)
    (D_stamp_in : Def K mg "stamp_in" s_stamp_in)
    (D_padded_text_in : Def K mg "padded_text_in" s_padded_text_in)
    (D_post_in : Def K mg "post_in" s_post_in)
    (D_is_from_another : Def K mg "is_from_another" s_is_from_another)
    (D_is_right_post : Def K mg "is_right_post" s_is_right_post)
    (D_is_right_seen : Def K mg "is_right_seen" s_is_right_seen)
    (D_is_right : Def K mg "is_right" s_is_right)
    (D_write_post : Def K mg "write_post" s_write_post)
    (D_tell_seen : Def K mg "tell_seen" s_tell_seen)
    (D_let_wait : Def K mg "let_wait" s_let_wait)
    (D_take_post : Def K mg "take_post" s_take_post)
    (D_learn : Def K mg "learn" s_learn)
    (D_take_letter : Def K mg "take_letter" s_take_letter)
    (D_may_be_shown : Def K mg "may_be_shown" s_may_be_shown)
    (D_next_author : Def K mg "next_author" s_next_author)
    (D_show_next : Def K mg "show_next" s_show_next)
    (D_send_again : Def K mg "send_again" s_send_again)
    (D_tell : Def K mg "tell" s_tell)
    (D_new_Reader : IDef K mg CR "Reader" "Reader.__init__" s_new_Reader)
    (D_m_is_done : MDef K CR "is_done" "Reader.is_done" s_m_is_done)
    (D_m_take_one : MDef K CR "take_one" "Reader.take_one" s_m_take_one)
    (D_m_take_some : MDef K CR "take_some" "Reader.take_some" s_m_take_some)
    (D_m_take_row : MDef K CR "take_row" "Reader.take_row" s_m_take_row)
    (D_bytes_of_posts : Def K mg "bytes_of_posts" s_bytes_of_posts)
    (D_bytes_of_node : Def K mg "bytes_of_node" s_bytes_of_node)
    (D_read_post : Def K mg "read_post" s_read_post)
    (D_read_posts : Def K mg "read_posts" s_read_posts)
    (D_is_known_so : Def K mg "is_known_so" s_is_known_so)
    (D_is_mine_so : Def K mg "is_mine_so" s_is_mine_so)
    (D_is_waiting_so : Def K mg "is_waiting_so" s_is_waiting_so)
    (D_node_of_bytes : Def K mg "node_of_bytes" s_node_of_bytes)
    (D_begin : Def K mg "begin" s_begin)
    (D_load : Def K mg "load" s_load)
    (D_next_answer : Def K mg "next_answer" s_next_answer)
    (D_answers : Def K mg "answers" s_answers) :
    ∃ fd : FuncData, (∀ (s : Shared) (us : List Value), us.length = (["calls"] : List Str).length → BindsTo s fd ⟨us, []⟩ ((["calls"] : List Str).zip us)) ∧ ∀ base : Heap, K.In base → base.Ns mainGlobals mg → FnOk P w K mg base CX0 8 fa fd ["calls"] (spAns K) := by
  obtain ⟨f, fd, hm, F⟩ := D_answers.ex
  have e : f = fa := by
    have q := hm.symm.trans hfa
    injection q with q
    injection q with q
  subst e
  refine ⟨fd, fun s us hu => ?_, fun base _ _ => ?_⟩
  · obtain ⟨oc, od, kV, doc, pm, an, cdv, ct, osl, rfl, lk, hcd⟩ := F.ex
    exact .of_eq (b_answers kV doc pm an cdv ct us hu)
  have i_Post := ok_new_Post (P := P) (w := w) (base := base) T D_new_Post
  have c_padded_text := ok_padded_text (P := P) (w := w) (base := base) T D_padded_text
  have c_is_padded_text := ok_is_padded_text (P := P) (w := w) (base := base) T D_is_padded_text
  have c_counts_of := ok_counts_of (P := P) (w := w) (base := base) T D_counts_of
  have c_empty_stamp := ok_empty_stamp (P := P) (w := w) (base := base) T D_empty_stamp
  have c_bytes_of_number := ok_bytes_of_number (P := P) (w := w) (base := base) T D_bytes_of_number
  have c_number_of_bytes := ok_number_of_bytes (P := P) (w := w) (base := base) T D_number_of_bytes
  have c_bytes_of_stamp := ok_bytes_of_stamp (P := P) (w := w) (base := base) T D_bytes_of_stamp c_bytes_of_number
  have c_stamp_of_bytes := ok_stamp_of_bytes (P := P) (w := w) (base := base) T D_stamp_of_bytes c_number_of_bytes
  have c_is_stamp := ok_is_stamp (P := P) (w := w) (base := base) T D_is_stamp
  have i_Node := ok_new_Node (P := P) (w := w) (base := base) T D_new_Node c_empty_stamp
  have c_may_be_node := ok_may_be_node (P := P) (w := w) (base := base) T D_may_be_node
  have c_is_other := ok_is_other (P := P) (w := w) (base := base) T D_is_other
  have c_others_of := ok_others_of (P := P) (w := w) (base := base) T D_others_of
  have c_post_letter := ok_post_letter (P := P) (w := w) (base := base) T D_post_letter c_padded_text c_bytes_of_stamp
  have c_seen_letter := ok_seen_letter (P := P) (w := w) (base := base) T D_seen_letter c_bytes_of_stamp
  have c_is_seen := ok_is_seen (P := P) (w := w) (base := base) T D_is_seen
  have c_sender_of := ok_sender_of (P := P) (w := w) (base := base) T D_sender_of
  have c_stamp_in := ok_stamp_in (P := P) (w := w) (base := base) T D_stamp_in c_stamp_of_bytes
  have c_padded_text_in := ok_padded_text_in (P := P) (w := w) (base := base) T D_padded_text_in
  have c_post_in := ok_post_in (P := P) (w := w) (base := base) T D_post_in i_Post c_stamp_in c_padded_text_in
  have c_is_from_another := ok_is_from_another (P := P) (w := w) (base := base) T D_is_from_another c_is_other c_sender_of
  have c_is_right_post := ok_is_right_post (P := P) (w := w) (base := base) T D_is_right_post c_stamp_in c_is_padded_text c_is_stamp c_padded_text_in c_sender_of
  have c_is_right_seen := ok_is_right_seen (P := P) (w := w) (base := base) T D_is_right_seen c_is_stamp c_stamp_in
  have c_is_right := ok_is_right (P := P) (w := w) (base := base) T D_is_right c_is_from_another c_is_right_post c_is_right_seen
  have c_write_post := ok_write_post (P := P) (w := w) (base := base) T D_write_post i_Post c_others_of c_post_letter
  have c_tell_seen := ok_tell_seen (P := P) (w := w) (base := base) T D_tell_seen c_seen_letter
  have c_let_wait := ok_let_wait (P := P) (w := w) (base := base) T D_let_wait c_counts_of
  have c_take_post := ok_take_post (P := P) (w := w) (base := base) T D_take_post c_tell_seen c_let_wait
  have c_learn := ok_learn (P := P) (w := w) (base := base) T D_learn c_others_of
  have c_take_letter := ok_take_letter (P := P) (w := w) (base := base) T D_take_letter c_is_seen c_take_post c_is_right c_learn c_sender_of c_post_in c_stamp_in
  have c_may_be_shown := ok_may_be_shown (P := P) (w := w) (base := base) T D_may_be_shown
  have c_next_author := ok_next_author (P := P) (w := w) (base := base) T D_next_author c_others_of c_may_be_shown
  have c_show_next := ok_show_next (P := P) (w := w) (base := base) T D_show_next c_next_author
  have c_send_again := ok_send_again (P := P) (w := w) (base := base) T D_send_again c_is_other c_post_letter
  have c_tell := ok_tell (P := P) (w := w) (base := base) T D_tell c_tell_seen c_is_other
  have i_Reader := ok_new_Reader (P := P) (w := w) (base := base) T D_new_Reader
  have m_is_done := ok_m_is_done (P := P) (w := w) (base := base) T D_m_is_done
  have m_take_one := ok_m_take_one (P := P) (w := w) (base := base) T D_m_take_one
  have m_take_some := ok_m_take_some (P := P) (w := w) (base := base) T D_m_take_some
  have m_take_row := ok_m_take_row (P := P) (w := w) (base := base) T D_m_take_row m_take_one m_take_some
  have c_bytes_of_posts := ok_bytes_of_posts (P := P) (w := w) (base := base) T D_bytes_of_posts c_bytes_of_number c_bytes_of_stamp c_padded_text
  have c_bytes_of_node := ok_bytes_of_node (P := P) (w := w) (base := base) T D_bytes_of_node c_bytes_of_stamp c_bytes_of_posts
  have c_read_post := ok_read_post (P := P) (w := w) (base := base) T D_read_post c_stamp_of_bytes c_number_of_bytes m_take_some c_is_stamp c_is_padded_text i_Post
  have c_read_posts := ok_read_posts (P := P) (w := w) (base := base) T D_read_posts c_number_of_bytes i_Reader m_take_some c_read_post
  have c_is_known_so := ok_is_known_so (P := P) (w := w) (base := base) T D_is_known_so c_is_stamp c_is_other
  have c_is_mine_so := ok_is_mine_so (P := P) (w := w) (base := base) T D_is_mine_so c_counts_of
  have c_is_waiting_so := ok_is_waiting_so (P := P) (w := w) (base := base) T D_is_waiting_so c_counts_of c_is_other
  have c_node_of_bytes := ok_node_of_bytes (P := P) (w := w) (base := base) T D_node_of_bytes i_Reader m_take_one i_Node c_stamp_of_bytes c_read_posts m_take_some c_is_known_so c_is_mine_so c_is_waiting_so c_may_be_node
  have c_begin := ok_begin (P := P) (w := w) (base := base) T D_begin m_take_one i_Node c_may_be_node
  have c_load := ok_load (P := P) (w := w) (base := base) T D_load c_node_of_bytes m_take_row
  have c_next_answer := ok_next_answer (P := P) (w := w) (base := base) T D_next_answer m_take_one c_begin c_load c_write_post c_take_letter c_show_next c_send_again c_tell c_bytes_of_node m_take_row
  exact okf_answers T F i_Reader m_is_done c_next_answer
theorem ends {h : Heap} {fa : Addr} (X : K.In h) (G : h.Ns mainGlobals mg) (hfa : mg "answers" = some (.ref fa))
    {t_LONGEST_TEXT t_TEXT_BYTES t_NODES t_NUMBER_BYTES t_STAMP_BYTES t_HIGHEST t_ROOM t_POST t_SEEN t_HEAD_BYTES t_SEEN_LETTER_BYTES t_POST_LETTER_BYTES t_BAD_ARGUMENTS t_BAD_BYTES t_NOTHING_TO_SHOW t_NO_MORE t_TOO_LONG t_LONGEST_LETTER t_HEAD_ZEROS t_SAVED_POST_BYTES t_OBJECTS t_PO_BEGIN t_PO_SAVE t_PO_LOAD t_PO_POST t_PO_RECEIVE t_PO_NEXT t_PO_AGAIN t_PO_TELL t_PO_SEEN : Tok}
    {f_new_Post : Addr} {od_new_Post an_new_Post : Option Addr} {sl_new_Post : Array (Option Value)} {oc_new_Post kV_new_Post dc_new_Post pm_new_Post cd_new_Post ct_new_Post : Value}
    {f_padded_text : Addr} {od_padded_text an_padded_text : Option Addr} {sl_padded_text : Array (Option Value)} {oc_padded_text kV_padded_text dc_padded_text pm_padded_text cd_padded_text ct_padded_text : Value}
    {f_is_padded_text : Addr} {od_is_padded_text an_is_padded_text : Option Addr} {sl_is_padded_text : Array (Option Value)} {oc_is_padded_text kV_is_padded_text dc_is_padded_text pm_is_padded_text cd_is_padded_text ct_is_padded_text : Value}
    {f_counts_of : Addr} {od_counts_of an_counts_of : Option Addr} {sl_counts_of : Array (Option Value)} {oc_counts_of kV_counts_of dc_counts_of pm_counts_of cd_counts_of ct_counts_of : Value}
    {f_empty_stamp : Addr} {od_empty_stamp an_empty_stamp : Option Addr} {sl_empty_stamp : Array (Option Value)} {oc_empty_stamp kV_empty_stamp dc_empty_stamp pm_empty_stamp cd_empty_stamp ct_empty_stamp : Value}
    {f_bytes_of_number : Addr} {od_bytes_of_number an_bytes_of_number : Option Addr} {sl_bytes_of_number : Array (Option Value)} {oc_bytes_of_number kV_bytes_of_number dc_bytes_of_number pm_bytes_of_number cd_bytes_of_number ct_bytes_of_number : Value}
    {f_number_of_bytes : Addr} {od_number_of_bytes an_number_of_bytes : Option Addr} {sl_number_of_bytes : Array (Option Value)} {oc_number_of_bytes kV_number_of_bytes dc_number_of_bytes pm_number_of_bytes cd_number_of_bytes ct_number_of_bytes : Value}
    {f_bytes_of_stamp : Addr} {od_bytes_of_stamp an_bytes_of_stamp : Option Addr} {sl_bytes_of_stamp : Array (Option Value)} {oc_bytes_of_stamp kV_bytes_of_stamp dc_bytes_of_stamp pm_bytes_of_stamp cd_bytes_of_stamp ct_bytes_of_stamp : Value}
    {f_stamp_of_bytes : Addr} {od_stamp_of_bytes an_stamp_of_bytes : Option Addr} {sl_stamp_of_bytes : Array (Option Value)} {oc_stamp_of_bytes kV_stamp_of_bytes dc_stamp_of_bytes pm_stamp_of_bytes cd_stamp_of_bytes ct_stamp_of_bytes : Value}
    {f_is_stamp : Addr} {od_is_stamp an_is_stamp : Option Addr} {sl_is_stamp : Array (Option Value)} {oc_is_stamp kV_is_stamp dc_is_stamp pm_is_stamp cd_is_stamp ct_is_stamp : Value}
    {f_new_Node : Addr} {od_new_Node an_new_Node : Option Addr} {sl_new_Node : Array (Option Value)} {oc_new_Node kV_new_Node dc_new_Node pm_new_Node cd_new_Node ct_new_Node : Value}
    {f_may_be_node : Addr} {od_may_be_node an_may_be_node : Option Addr} {sl_may_be_node : Array (Option Value)} {oc_may_be_node kV_may_be_node dc_may_be_node pm_may_be_node cd_may_be_node ct_may_be_node : Value}
    {f_is_other : Addr} {od_is_other an_is_other : Option Addr} {sl_is_other : Array (Option Value)} {oc_is_other kV_is_other dc_is_other pm_is_other cd_is_other ct_is_other : Value}
    {f_others_of : Addr} {od_others_of an_others_of : Option Addr} {sl_others_of : Array (Option Value)} {oc_others_of kV_others_of dc_others_of pm_others_of cd_others_of ct_others_of : Value}
    {f_post_letter : Addr} {od_post_letter an_post_letter : Option Addr} {sl_post_letter : Array (Option Value)} {oc_post_letter kV_post_letter dc_post_letter pm_post_letter cd_post_letter ct_post_letter : Value}
    {f_seen_letter : Addr} {od_seen_letter an_seen_letter : Option Addr} {sl_seen_letter : Array (Option Value)} {oc_seen_letter kV_seen_letter dc_seen_letter pm_seen_letter cd_seen_letter ct_seen_letter : Value}
    {f_is_seen : Addr} {od_is_seen an_is_seen : Option Addr} {sl_is_seen : Array (Option Value)} {oc_is_seen kV_is_seen dc_is_seen pm_is_seen cd_is_seen ct_is_seen : Value}
    {f_sender_of : Addr} {od_sender_of an_sender_of : Option Addr} {sl_sender_of : Array (Option Value)} {oc_sender_of kV_sender_of dc_sender_of pm_sender_of cd_sender_of ct_sender_of : Value}
    {f_stamp_in : Addr} {od_stamp_in an_stamp_in : Option Addr} {sl_stamp_in : Array (Option Value)} {oc_stamp_in kV_stamp_in dc_stamp_in pm_stamp_in cd_stamp_in ct_stamp_in : Value}
    {f_padded_text_in : Addr} {od_padded_text_in an_padded_text_in : Option Addr} {sl_padded_text_in : Array (Option Value)} {oc_padded_text_in kV_padded_text_in dc_padded_text_in pm_padded_text_in cd_padded_text_in ct_padded_text_in : Value}
    {f_post_in : Addr} {od_post_in an_post_in : Option Addr} {sl_post_in : Array (Option Value)} {oc_post_in kV_post_in dc_post_in pm_post_in cd_post_in ct_post_in : Value}
    {f_is_from_another : Addr} {od_is_from_another an_is_from_another : Option Addr} {sl_is_from_another : Array (Option Value)} {oc_is_from_another kV_is_from_another dc_is_from_another pm_is_from_another cd_is_from_another ct_is_from_another : Value}
    {f_is_right_post : Addr} {od_is_right_post an_is_right_post : Option Addr} {sl_is_right_post : Array (Option Value)} {oc_is_right_post kV_is_right_post dc_is_right_post pm_is_right_post cd_is_right_post ct_is_right_post : Value}
    {f_is_right_seen : Addr} {od_is_right_seen an_is_right_seen : Option Addr} {sl_is_right_seen : Array (Option Value)} {oc_is_right_seen kV_is_right_seen dc_is_right_seen pm_is_right_seen cd_is_right_seen ct_is_right_seen : Value}
    {f_is_right : Addr} {od_is_right an_is_right : Option Addr} {sl_is_right : Array (Option Value)} {oc_is_right kV_is_right dc_is_right pm_is_right cd_is_right ct_is_right : Value}
    {f_write_post : Addr} {od_write_post an_write_post : Option Addr} {sl_write_post : Array (Option Value)} {oc_write_post kV_write_post dc_write_post pm_write_post cd_write_post ct_write_post : Value}
    {f_tell_seen : Addr} {od_tell_seen an_tell_seen : Option Addr} {sl_tell_seen : Array (Option Value)} {oc_tell_seen kV_tell_seen dc_tell_seen pm_tell_seen cd_tell_seen ct_tell_seen : Value}
    {f_let_wait : Addr} {od_let_wait an_let_wait : Option Addr} {sl_let_wait : Array (Option Value)} {oc_let_wait kV_let_wait dc_let_wait pm_let_wait cd_let_wait ct_let_wait : Value}
    {f_take_post : Addr} {od_take_post an_take_post : Option Addr} {sl_take_post : Array (Option Value)} {oc_take_post kV_take_post dc_take_post pm_take_post cd_take_post ct_take_post : Value}
    {f_learn : Addr} {od_learn an_learn : Option Addr} {sl_learn : Array (Option Value)} {oc_learn kV_learn dc_learn pm_learn cd_learn ct_learn : Value}
    {f_take_letter : Addr} {od_take_letter an_take_letter : Option Addr} {sl_take_letter : Array (Option Value)} {oc_take_letter kV_take_letter dc_take_letter pm_take_letter cd_take_letter ct_take_letter : Value}
    {f_may_be_shown : Addr} {od_may_be_shown an_may_be_shown : Option Addr} {sl_may_be_shown : Array (Option Value)} {oc_may_be_shown kV_may_be_shown dc_may_be_shown pm_may_be_shown cd_may_be_shown ct_may_be_shown : Value}
    {f_next_author : Addr} {od_next_author an_next_author : Option Addr} {sl_next_author : Array (Option Value)} {oc_next_author kV_next_author dc_next_author pm_next_author cd_next_author ct_next_author : Value}
    {f_show_next : Addr} {od_show_next an_show_next : Option Addr} {sl_show_next : Array (Option Value)} {oc_show_next kV_show_next dc_show_next pm_show_next cd_show_next ct_show_next : Value}
    {f_send_again : Addr} {od_send_again an_send_again : Option Addr} {sl_send_again : Array (Option Value)} {oc_send_again kV_send_again dc_send_again pm_send_again cd_send_again ct_send_again : Value}
    {f_tell : Addr} {od_tell an_tell : Option Addr} {sl_tell : Array (Option Value)} {oc_tell kV_tell dc_tell pm_tell cd_tell ct_tell : Value}
    {f_new_Reader : Addr} {od_new_Reader an_new_Reader : Option Addr} {sl_new_Reader : Array (Option Value)} {oc_new_Reader kV_new_Reader dc_new_Reader pm_new_Reader cd_new_Reader ct_new_Reader : Value}
    {f_m_is_done : Addr} {od_m_is_done an_m_is_done : Option Addr} {sl_m_is_done : Array (Option Value)} {oc_m_is_done kV_m_is_done dc_m_is_done pm_m_is_done cd_m_is_done ct_m_is_done : Value}
    {f_m_take_one : Addr} {od_m_take_one an_m_take_one : Option Addr} {sl_m_take_one : Array (Option Value)} {oc_m_take_one kV_m_take_one dc_m_take_one pm_m_take_one cd_m_take_one ct_m_take_one : Value}
    {f_m_take_some : Addr} {od_m_take_some an_m_take_some : Option Addr} {sl_m_take_some : Array (Option Value)} {oc_m_take_some kV_m_take_some dc_m_take_some pm_m_take_some cd_m_take_some ct_m_take_some : Value}
    {f_m_take_row : Addr} {od_m_take_row an_m_take_row : Option Addr} {sl_m_take_row : Array (Option Value)} {oc_m_take_row kV_m_take_row dc_m_take_row pm_m_take_row cd_m_take_row ct_m_take_row : Value}
    {f_bytes_of_posts : Addr} {od_bytes_of_posts an_bytes_of_posts : Option Addr} {sl_bytes_of_posts : Array (Option Value)} {oc_bytes_of_posts kV_bytes_of_posts dc_bytes_of_posts pm_bytes_of_posts cd_bytes_of_posts ct_bytes_of_posts : Value}
    {f_bytes_of_node : Addr} {od_bytes_of_node an_bytes_of_node : Option Addr} {sl_bytes_of_node : Array (Option Value)} {oc_bytes_of_node kV_bytes_of_node dc_bytes_of_node pm_bytes_of_node cd_bytes_of_node ct_bytes_of_node : Value}
    {f_read_post : Addr} {od_read_post an_read_post : Option Addr} {sl_read_post : Array (Option Value)} {oc_read_post kV_read_post dc_read_post pm_read_post cd_read_post ct_read_post : Value}
    {f_read_posts : Addr} {od_read_posts an_read_posts : Option Addr} {sl_read_posts : Array (Option Value)} {oc_read_posts kV_read_posts dc_read_posts pm_read_posts cd_read_posts ct_read_posts : Value}
    {f_is_known_so : Addr} {od_is_known_so an_is_known_so : Option Addr} {sl_is_known_so : Array (Option Value)} {oc_is_known_so kV_is_known_so dc_is_known_so pm_is_known_so cd_is_known_so ct_is_known_so : Value}
    {f_is_mine_so : Addr} {od_is_mine_so an_is_mine_so : Option Addr} {sl_is_mine_so : Array (Option Value)} {oc_is_mine_so kV_is_mine_so dc_is_mine_so pm_is_mine_so cd_is_mine_so ct_is_mine_so : Value}
    {f_is_waiting_so : Addr} {od_is_waiting_so an_is_waiting_so : Option Addr} {sl_is_waiting_so : Array (Option Value)} {oc_is_waiting_so kV_is_waiting_so dc_is_waiting_so pm_is_waiting_so cd_is_waiting_so ct_is_waiting_so : Value}
    {f_node_of_bytes : Addr} {od_node_of_bytes an_node_of_bytes : Option Addr} {sl_node_of_bytes : Array (Option Value)} {oc_node_of_bytes kV_node_of_bytes dc_node_of_bytes pm_node_of_bytes cd_node_of_bytes ct_node_of_bytes : Value}
    {f_begin : Addr} {od_begin an_begin : Option Addr} {sl_begin : Array (Option Value)} {oc_begin kV_begin dc_begin pm_begin cd_begin ct_begin : Value}
    {f_load : Addr} {od_load an_load : Option Addr} {sl_load : Array (Option Value)} {oc_load kV_load dc_load pm_load cd_load ct_load : Value}
    {f_next_answer : Addr} {od_next_answer an_next_answer : Option Addr} {sl_next_answer : Array (Option Value)} {oc_next_answer kV_next_answer dc_next_answer pm_next_answer cd_next_answer ct_next_answer : Value}
    {f_answers : Addr} {od_answers an_answers : Option Addr} {sl_answers : Array (Option Value)} {oc_answers kV_answers dc_answers pm_answers cd_answers ct_answers : Value}
    (gNode : PySem.W.nsIn K mainGlobals "Node" = some (some (.ref CN)))
    (gPost : PySem.W.nsIn K mainGlobals "Post" = some (some (.ref CP)))
    (gReader : PySem.W.nsIn K mainGlobals "Reader" = some (some (.ref CR)))
    (pgNode : PySem.W.plainGet K CN Str.empty = true) (hdNode : PySem.W.hasDictIn K CN = true) (poNode : PySem.W.plainOver K CN = true) (saNode : PySem.W.findIn K (.ref CN) "__setattr__" = some (some (.builtin "object.__setattr__")))
    (pgPost : PySem.W.plainGet K CP Str.empty = true) (hdPost : PySem.W.hasDictIn K CP = true) (poPost : PySem.W.plainOver K CP = true) (saPost : PySem.W.findIn K (.ref CP) "__setattr__" = some (some (.builtin "object.__setattr__")))
    (pgReader : PySem.W.plainGet K CR Str.empty = true) (hdReader : PySem.W.hasDictIn K CR = true) (poReader : PySem.W.plainOver K CR = true) (saReader : PySem.W.findIn K (.ref CR) "__setattr__" = some (some (.builtin "object.__setattr__")))
    (at_me : PySem.W.findIn K (.ref CN) "me" = some none) (at_n : PySem.W.findIn K (.ref CN) "n" = some none) (at_seen : PySem.W.findIn K (.ref CN) "seen" = some none) (at_known : PySem.W.findIn K (.ref CN) "known" = some none) (at_mine : PySem.W.findIn K (.ref CN) "mine" = some none) (at_waits : PySem.W.findIn K (.ref CN) "waits" = some none)
    (at_stamp : PySem.W.findIn K (.ref CP) "stamp" = some none) (at_text : PySem.W.findIn K (.ref CP) "text" = some none)
    (at_numbers : PySem.W.findIn K (.ref CR) "numbers" = some none) (at_place : PySem.W.findIn K (.ref CR) "place" = some none)
    (bt_len : PySem.W.nsIn K mainGlobals "len" = some none)
    (bt_any : PySem.W.nsIn K mainGlobals "any" = some none)
    (bt_all : PySem.W.nsIn K mainGlobals "all" = some none)
    (bt_max : PySem.W.nsIn K mainGlobals "max" = some none)
    (bt_min : PySem.W.nsIn K mainGlobals "min" = some none)
    (bt_list : PySem.W.nsIn K mainGlobals "list" = some none)
    (bt_range : PySem.W.nsIn K mainGlobals "range" = some none)
    (bt_enumerate : PySem.W.nsIn K mainGlobals "enumerate" = some none)
    (bt_reversed : PySem.W.nsIn K mainGlobals "reversed" = some none)
    (ct_LONGEST_TEXT : PySem.W.nsIn K mainGlobals "LONGEST_TEXT" = some (some (.int 31 t_LONGEST_TEXT)))
    (ct_TEXT_BYTES : PySem.W.nsIn K mainGlobals "TEXT_BYTES" = some (some (.int 32 t_TEXT_BYTES)))
    (ct_NODES : PySem.W.nsIn K mainGlobals "NODES" = some (some (.int 8 t_NODES)))
    (ct_NUMBER_BYTES : PySem.W.nsIn K mainGlobals "NUMBER_BYTES" = some (some (.int 8 t_NUMBER_BYTES)))
    (ct_STAMP_BYTES : PySem.W.nsIn K mainGlobals "STAMP_BYTES" = some (some (.int 64 t_STAMP_BYTES)))
    (ct_HIGHEST : PySem.W.nsIn K mainGlobals "HIGHEST" = some (some (.int 4611686018427387904 t_HIGHEST)))
    (ct_ROOM : PySem.W.nsIn K mainGlobals "ROOM" = some (some (.int 32 t_ROOM)))
    (ct_POST : PySem.W.nsIn K mainGlobals "POST" = some (some (.int 1 t_POST)))
    (ct_SEEN : PySem.W.nsIn K mainGlobals "SEEN" = some (some (.int 2 t_SEEN)))
    (ct_HEAD_BYTES : PySem.W.nsIn K mainGlobals "HEAD_BYTES" = some (some (.int 4 t_HEAD_BYTES)))
    (ct_SEEN_LETTER_BYTES : PySem.W.nsIn K mainGlobals "SEEN_LETTER_BYTES" = some (some (.int 68 t_SEEN_LETTER_BYTES)))
    (ct_POST_LETTER_BYTES : PySem.W.nsIn K mainGlobals "POST_LETTER_BYTES" = some (some (.int 100 t_POST_LETTER_BYTES)))
    (ct_BAD_ARGUMENTS : PySem.W.nsIn K mainGlobals "BAD_ARGUMENTS" = some (some (.int (-2) t_BAD_ARGUMENTS)))
    (ct_BAD_BYTES : PySem.W.nsIn K mainGlobals "BAD_BYTES" = some (some (.int (-3) t_BAD_BYTES)))
    (ct_NOTHING_TO_SHOW : PySem.W.nsIn K mainGlobals "NOTHING_TO_SHOW" = some (some (.int (-4) t_NOTHING_TO_SHOW)))
    (ct_NO_MORE : PySem.W.nsIn K mainGlobals "NO_MORE" = some (some (.int (-6) t_NO_MORE)))
    (ct_TOO_LONG : PySem.W.nsIn K mainGlobals "TOO_LONG" = some (some (.int (-7) t_TOO_LONG)))
    (ct_LONGEST_LETTER : PySem.W.nsIn K mainGlobals "LONGEST_LETTER" = some (some (.int 1024 t_LONGEST_LETTER)))
    (ct_HEAD_ZEROS : PySem.W.nsIn K mainGlobals "HEAD_ZEROS" = some (some (.int 6 t_HEAD_ZEROS)))
    (ct_SAVED_POST_BYTES : PySem.W.nsIn K mainGlobals "SAVED_POST_BYTES" = some (some (.int 104 t_SAVED_POST_BYTES)))
    (ct_OBJECTS : PySem.W.nsIn K mainGlobals "OBJECTS" = some (some (.int 8 t_OBJECTS)))
    (ct_PO_BEGIN : PySem.W.nsIn K mainGlobals "PO_BEGIN" = some (some (.int 0 t_PO_BEGIN)))
    (ct_PO_SAVE : PySem.W.nsIn K mainGlobals "PO_SAVE" = some (some (.int 1 t_PO_SAVE)))
    (ct_PO_LOAD : PySem.W.nsIn K mainGlobals "PO_LOAD" = some (some (.int 2 t_PO_LOAD)))
    (ct_PO_POST : PySem.W.nsIn K mainGlobals "PO_POST" = some (some (.int 3 t_PO_POST)))
    (ct_PO_RECEIVE : PySem.W.nsIn K mainGlobals "PO_RECEIVE" = some (some (.int 4 t_PO_RECEIVE)))
    (ct_PO_NEXT : PySem.W.nsIn K mainGlobals "PO_NEXT" = some (some (.int 5 t_PO_NEXT)))
    (ct_PO_AGAIN : PySem.W.nsIn K mainGlobals "PO_AGAIN" = some (some (.int 6 t_PO_AGAIN)))
    (ct_PO_TELL : PySem.W.nsIn K mainGlobals "PO_TELL" = some (some (.int 7 t_PO_TELL)))
    (ct_PO_SEEN : PySem.W.nsIn K mainGlobals "PO_SEEN" = some (some (.int 8 t_PO_SEEN)))
    (mk_new_Post : PySem.W.makesIn K CP = true) (ai_new_Post : PySem.W.findIn K (.ref CP) "__init__" = some (some (.ref f_new_Post))) (ii_new_Post : PySem.W.isFn K (.ref f_new_Post) = true) (kc_new_Post : PySem.W.keepIn K (.ref CP) = true) (l_new_Post : K.lookup f_new_Post = some ⟨oc_new_Post, od_new_Post, .func (PySem.W.fnOf "__init__" "Post.__init__" (defArgs s_new_Post) (defBody s_new_Post) (defScope s_new_Post) .none kV_new_Post dc_new_Post pm_new_Post an_new_Post cd_new_Post ct_new_Post), sl_new_Post⟩) (c_new_Post : PySem.W.codeIn K cd_new_Post "Post.__init__" = true) (k_new_Post : PySem.W.keepIn K (.ref f_new_Post) = true)
    (a_padded_text : PySem.W.nsIn K mainGlobals "padded_text" = some (some (.ref f_padded_text))) (l_padded_text : K.lookup f_padded_text = some ⟨oc_padded_text, od_padded_text, .func (PySem.W.fnOf "padded_text" "padded_text" (defArgs s_padded_text) (defBody s_padded_text) (defScope s_padded_text) .none kV_padded_text dc_padded_text pm_padded_text an_padded_text cd_padded_text ct_padded_text), sl_padded_text⟩) (c_padded_text : PySem.W.codeIn K cd_padded_text "padded_text" = true) (k_padded_text : PySem.W.keepIn K (.ref f_padded_text) = true)
    (a_is_padded_text : PySem.W.nsIn K mainGlobals "is_padded_text" = some (some (.ref f_is_padded_text))) (l_is_padded_text : K.lookup f_is_padded_text = some ⟨oc_is_padded_text, od_is_padded_text, .func (PySem.W.fnOf "is_padded_text" "is_padded_text" (defArgs s_is_padded_text) (defBody s_is_padded_text) (defScope s_is_padded_text) .none kV_is_padded_text dc_is_padded_text pm_is_padded_text an_is_padded_text cd_is_padded_text ct_is_padded_text), sl_is_padded_text⟩) (c_is_padded_text : PySem.W.codeIn K cd_is_padded_text "is_padded_text" = true) (k_is_padded_text : PySem.W.keepIn K (.ref f_is_padded_text) = true)
    (a_counts_of : PySem.W.nsIn K mainGlobals "counts_of" = some (some (.ref f_counts_of))) (l_counts_of : K.lookup f_counts_of = some ⟨oc_counts_of, od_counts_of, .func (PySem.W.fnOf "counts_of" "counts_of" (defArgs s_counts_of) (defBody s_counts_of) (defScope s_counts_of) .none kV_counts_of dc_counts_of pm_counts_of an_counts_of cd_counts_of ct_counts_of), sl_counts_of⟩) (c_counts_of : PySem.W.codeIn K cd_counts_of "counts_of" = true) (k_counts_of : PySem.W.keepIn K (.ref f_counts_of) = true)
    (a_empty_stamp : PySem.W.nsIn K mainGlobals "empty_stamp" = some (some (.ref f_empty_stamp))) (l_empty_stamp : K.lookup f_empty_stamp = some ⟨oc_empty_stamp, od_empty_stamp, .func (PySem.W.fnOf "empty_stamp" "empty_stamp" (defArgs s_empty_stamp) (defBody s_empty_stamp) (defScope s_empty_stamp) .none kV_empty_stamp dc_empty_stamp pm_empty_stamp an_empty_stamp cd_empty_stamp ct_empty_stamp), sl_empty_stamp⟩) (c_empty_stamp : PySem.W.codeIn K cd_empty_stamp "empty_stamp" = true) (k_empty_stamp : PySem.W.keepIn K (.ref f_empty_stamp) = true)
    (a_bytes_of_number : PySem.W.nsIn K mainGlobals "bytes_of_number" = some (some (.ref f_bytes_of_number))) (l_bytes_of_number : K.lookup f_bytes_of_number = some ⟨oc_bytes_of_number, od_bytes_of_number, .func (PySem.W.fnOf "bytes_of_number" "bytes_of_number" (defArgs s_bytes_of_number) (defBody s_bytes_of_number) (defScope s_bytes_of_number) .none kV_bytes_of_number dc_bytes_of_number pm_bytes_of_number an_bytes_of_number cd_bytes_of_number ct_bytes_of_number), sl_bytes_of_number⟩) (c_bytes_of_number : PySem.W.codeIn K cd_bytes_of_number "bytes_of_number" = true) (k_bytes_of_number : PySem.W.keepIn K (.ref f_bytes_of_number) = true)
    (a_number_of_bytes : PySem.W.nsIn K mainGlobals "number_of_bytes" = some (some (.ref f_number_of_bytes))) (l_number_of_bytes : K.lookup f_number_of_bytes = some ⟨oc_number_of_bytes, od_number_of_bytes, .func (PySem.W.fnOf "number_of_bytes" "number_of_bytes" (defArgs s_number_of_bytes) (defBody s_number_of_bytes) (defScope s_number_of_bytes) .none kV_number_of_bytes dc_number_of_bytes pm_number_of_bytes an_number_of_bytes cd_number_of_bytes ct_number_of_bytes), sl_number_of_bytes⟩) (c_number_of_bytes : PySem.W.codeIn K cd_number_of_bytes "number_of_bytes" = true) (k_number_of_bytes : PySem.W.keepIn K (.ref f_number_of_bytes) = true)
    (a_bytes_of_stamp : PySem.W.nsIn K mainGlobals "bytes_of_stamp" = some (some (.ref f_bytes_of_stamp))) (l_bytes_of_stamp : K.lookup f_bytes_of_stamp = some ⟨oc_bytes_of_stamp, od_bytes_of_stamp, .func (PySem.W.fnOf "bytes_of_stamp" "bytes_of_stamp" (defArgs s_bytes_of_stamp) (defBody s_bytes_of_stamp) (defScope s_bytes_of_stamp) .none kV_bytes_of_stamp dc_bytes_of_stamp pm_bytes_of_stamp an_bytes_of_stamp cd_bytes_of_stamp ct_bytes_of_stamp), sl_bytes_of_stamp⟩) (c_bytes_of_stamp : PySem.W.codeIn K cd_bytes_of_stamp "bytes_of_stamp" = true) (k_bytes_of_stamp : PySem.W.keepIn K (.ref f_bytes_of_stamp) = true)
    (a_stamp_of_bytes : PySem.W.nsIn K mainGlobals "stamp_of_bytes" = some (some (.ref f_stamp_of_bytes))) (l_stamp_of_bytes : K.lookup f_stamp_of_bytes = some ⟨oc_stamp_of_bytes, od_stamp_of_bytes, .func (PySem.W.fnOf "stamp_of_bytes" "stamp_of_bytes" (defArgs s_stamp_of_bytes) (defBody s_stamp_of_bytes) (defScope s_stamp_of_bytes) .none kV_stamp_of_bytes dc_stamp_of_bytes pm_stamp_of_bytes an_stamp_of_bytes cd_stamp_of_bytes ct_stamp_of_bytes), sl_stamp_of_bytes⟩) (c_stamp_of_bytes : PySem.W.codeIn K cd_stamp_of_bytes "stamp_of_bytes" = true) (k_stamp_of_bytes : PySem.W.keepIn K (.ref f_stamp_of_bytes) = true)
    (a_is_stamp : PySem.W.nsIn K mainGlobals "is_stamp" = some (some (.ref f_is_stamp))) (l_is_stamp : K.lookup f_is_stamp = some ⟨oc_is_stamp, od_is_stamp, .func (PySem.W.fnOf "is_stamp" "is_stamp" (defArgs s_is_stamp) (defBody s_is_stamp) (defScope s_is_stamp) .none kV_is_stamp dc_is_stamp pm_is_stamp an_is_stamp cd_is_stamp ct_is_stamp), sl_is_stamp⟩) (c_is_stamp : PySem.W.codeIn K cd_is_stamp "is_stamp" = true) (k_is_stamp : PySem.W.keepIn K (.ref f_is_stamp) = true)
    (mk_new_Node : PySem.W.makesIn K CN = true) (ai_new_Node : PySem.W.findIn K (.ref CN) "__init__" = some (some (.ref f_new_Node))) (ii_new_Node : PySem.W.isFn K (.ref f_new_Node) = true) (kc_new_Node : PySem.W.keepIn K (.ref CN) = true) (l_new_Node : K.lookup f_new_Node = some ⟨oc_new_Node, od_new_Node, .func (PySem.W.fnOf "__init__" "Node.__init__" (defArgs s_new_Node) (defBody s_new_Node) (defScope s_new_Node) .none kV_new_Node dc_new_Node pm_new_Node an_new_Node cd_new_Node ct_new_Node), sl_new_Node⟩) (c_new_Node : PySem.W.codeIn K cd_new_Node "Node.__init__" = true) (k_new_Node : PySem.W.keepIn K (.ref f_new_Node) = true)
    (a_may_be_node : PySem.W.nsIn K mainGlobals "may_be_node" = some (some (.ref f_may_be_node))) (l_may_be_node : K.lookup f_may_be_node = some ⟨oc_may_be_node, od_may_be_node, .func (PySem.W.fnOf "may_be_node" "may_be_node" (defArgs s_may_be_node) (defBody s_may_be_node) (defScope s_may_be_node) .none kV_may_be_node dc_may_be_node pm_may_be_node an_may_be_node cd_may_be_node ct_may_be_node), sl_may_be_node⟩) (c_may_be_node : PySem.W.codeIn K cd_may_be_node "may_be_node" = true) (k_may_be_node : PySem.W.keepIn K (.ref f_may_be_node) = true)
    (a_is_other : PySem.W.nsIn K mainGlobals "is_other" = some (some (.ref f_is_other))) (l_is_other : K.lookup f_is_other = some ⟨oc_is_other, od_is_other, .func (PySem.W.fnOf "is_other" "is_other" (defArgs s_is_other) (defBody s_is_other) (defScope s_is_other) .none kV_is_other dc_is_other pm_is_other an_is_other cd_is_other ct_is_other), sl_is_other⟩) (c_is_other : PySem.W.codeIn K cd_is_other "is_other" = true) (k_is_other : PySem.W.keepIn K (.ref f_is_other) = true)
    (a_others_of : PySem.W.nsIn K mainGlobals "others_of" = some (some (.ref f_others_of))) (l_others_of : K.lookup f_others_of = some ⟨oc_others_of, od_others_of, .func (PySem.W.fnOf "others_of" "others_of" (defArgs s_others_of) (defBody s_others_of) (defScope s_others_of) .none kV_others_of dc_others_of pm_others_of an_others_of cd_others_of ct_others_of), sl_others_of⟩) (c_others_of : PySem.W.codeIn K cd_others_of "others_of" = true) (k_others_of : PySem.W.keepIn K (.ref f_others_of) = true)
    (a_post_letter : PySem.W.nsIn K mainGlobals "post_letter" = some (some (.ref f_post_letter))) (l_post_letter : K.lookup f_post_letter = some ⟨oc_post_letter, od_post_letter, .func (PySem.W.fnOf "post_letter" "post_letter" (defArgs s_post_letter) (defBody s_post_letter) (defScope s_post_letter) .none kV_post_letter dc_post_letter pm_post_letter an_post_letter cd_post_letter ct_post_letter), sl_post_letter⟩) (c_post_letter : PySem.W.codeIn K cd_post_letter "post_letter" = true) (k_post_letter : PySem.W.keepIn K (.ref f_post_letter) = true)
    (a_seen_letter : PySem.W.nsIn K mainGlobals "seen_letter" = some (some (.ref f_seen_letter))) (l_seen_letter : K.lookup f_seen_letter = some ⟨oc_seen_letter, od_seen_letter, .func (PySem.W.fnOf "seen_letter" "seen_letter" (defArgs s_seen_letter) (defBody s_seen_letter) (defScope s_seen_letter) .none kV_seen_letter dc_seen_letter pm_seen_letter an_seen_letter cd_seen_letter ct_seen_letter), sl_seen_letter⟩) (c_seen_letter : PySem.W.codeIn K cd_seen_letter "seen_letter" = true) (k_seen_letter : PySem.W.keepIn K (.ref f_seen_letter) = true)
    (a_is_seen : PySem.W.nsIn K mainGlobals "is_seen" = some (some (.ref f_is_seen))) (l_is_seen : K.lookup f_is_seen = some ⟨oc_is_seen, od_is_seen, .func (PySem.W.fnOf "is_seen" "is_seen" (defArgs s_is_seen) (defBody s_is_seen) (defScope s_is_seen) .none kV_is_seen dc_is_seen pm_is_seen an_is_seen cd_is_seen ct_is_seen), sl_is_seen⟩) (c_is_seen : PySem.W.codeIn K cd_is_seen "is_seen" = true) (k_is_seen : PySem.W.keepIn K (.ref f_is_seen) = true)
    (a_sender_of : PySem.W.nsIn K mainGlobals "sender_of" = some (some (.ref f_sender_of))) (l_sender_of : K.lookup f_sender_of = some ⟨oc_sender_of, od_sender_of, .func (PySem.W.fnOf "sender_of" "sender_of" (defArgs s_sender_of) (defBody s_sender_of) (defScope s_sender_of) .none kV_sender_of dc_sender_of pm_sender_of an_sender_of cd_sender_of ct_sender_of), sl_sender_of⟩) (c_sender_of : PySem.W.codeIn K cd_sender_of "sender_of" = true) (k_sender_of : PySem.W.keepIn K (.ref f_sender_of) = true)
    (a_stamp_in : PySem.W.nsIn K mainGlobals "stamp_in" = some (some (.ref f_stamp_in))) (l_stamp_in : K.lookup f_stamp_in = some ⟨oc_stamp_in, od_stamp_in, .func (PySem.W.fnOf "stamp_in" "stamp_in" (defArgs s_stamp_in) (defBody s_stamp_in) (defScope s_stamp_in) .none kV_stamp_in dc_stamp_in pm_stamp_in an_stamp_in cd_stamp_in ct_stamp_in), sl_stamp_in⟩) (c_stamp_in : PySem.W.codeIn K cd_stamp_in "stamp_in" = true) (k_stamp_in : PySem.W.keepIn K (.ref f_stamp_in) = true)
    (a_padded_text_in : PySem.W.nsIn K mainGlobals "padded_text_in" = some (some (.ref f_padded_text_in))) (l_padded_text_in : K.lookup f_padded_text_in = some ⟨oc_padded_text_in, od_padded_text_in, .func (PySem.W.fnOf "padded_text_in" "padded_text_in" (defArgs s_padded_text_in) (defBody s_padded_text_in) (defScope s_padded_text_in) .none kV_padded_text_in dc_padded_text_in pm_padded_text_in an_padded_text_in cd_padded_text_in ct_padded_text_in), sl_padded_text_in⟩) (c_padded_text_in : PySem.W.codeIn K cd_padded_text_in "padded_text_in" = true) (k_padded_text_in : PySem.W.keepIn K (.ref f_padded_text_in) = true)
    (a_post_in : PySem.W.nsIn K mainGlobals "post_in" = some (some (.ref f_post_in))) (l_post_in : K.lookup f_post_in = some ⟨oc_post_in, od_post_in, .func (PySem.W.fnOf "post_in" "post_in" (defArgs s_post_in) (defBody s_post_in) (defScope s_post_in) .none kV_post_in dc_post_in pm_post_in an_post_in cd_post_in ct_post_in), sl_post_in⟩) (c_post_in : PySem.W.codeIn K cd_post_in "post_in" = true) (k_post_in : PySem.W.keepIn K (.ref f_post_in) = true)
    (a_is_from_another : PySem.W.nsIn K mainGlobals "is_from_another" = some (some (.ref f_is_from_another))) (l_is_from_another : K.lookup f_is_from_another = some ⟨oc_is_from_another, od_is_from_another, .func (PySem.W.fnOf "is_from_another" "is_from_another" (defArgs s_is_from_another) (defBody s_is_from_another) (defScope s_is_from_another) .none kV_is_from_another dc_is_from_another pm_is_from_another an_is_from_another cd_is_from_another ct_is_from_another), sl_is_from_another⟩) (c_is_from_another : PySem.W.codeIn K cd_is_from_another "is_from_another" = true) (k_is_from_another : PySem.W.keepIn K (.ref f_is_from_another) = true)
    (a_is_right_post : PySem.W.nsIn K mainGlobals "is_right_post" = some (some (.ref f_is_right_post))) (l_is_right_post : K.lookup f_is_right_post = some ⟨oc_is_right_post, od_is_right_post, .func (PySem.W.fnOf "is_right_post" "is_right_post" (defArgs s_is_right_post) (defBody s_is_right_post) (defScope s_is_right_post) .none kV_is_right_post dc_is_right_post pm_is_right_post an_is_right_post cd_is_right_post ct_is_right_post), sl_is_right_post⟩) (c_is_right_post : PySem.W.codeIn K cd_is_right_post "is_right_post" = true) (k_is_right_post : PySem.W.keepIn K (.ref f_is_right_post) = true)
    (a_is_right_seen : PySem.W.nsIn K mainGlobals "is_right_seen" = some (some (.ref f_is_right_seen))) (l_is_right_seen : K.lookup f_is_right_seen = some ⟨oc_is_right_seen, od_is_right_seen, .func (PySem.W.fnOf "is_right_seen" "is_right_seen" (defArgs s_is_right_seen) (defBody s_is_right_seen) (defScope s_is_right_seen) .none kV_is_right_seen dc_is_right_seen pm_is_right_seen an_is_right_seen cd_is_right_seen ct_is_right_seen), sl_is_right_seen⟩) (c_is_right_seen : PySem.W.codeIn K cd_is_right_seen "is_right_seen" = true) (k_is_right_seen : PySem.W.keepIn K (.ref f_is_right_seen) = true)
    (a_is_right : PySem.W.nsIn K mainGlobals "is_right" = some (some (.ref f_is_right))) (l_is_right : K.lookup f_is_right = some ⟨oc_is_right, od_is_right, .func (PySem.W.fnOf "is_right" "is_right" (defArgs s_is_right) (defBody s_is_right) (defScope s_is_right) .none kV_is_right dc_is_right pm_is_right an_is_right cd_is_right ct_is_right), sl_is_right⟩) (c_is_right : PySem.W.codeIn K cd_is_right "is_right" = true) (k_is_right : PySem.W.keepIn K (.ref f_is_right) = true)
    (a_write_post : PySem.W.nsIn K mainGlobals "write_post" = some (some (.ref f_write_post))) (l_write_post : K.lookup f_write_post = some ⟨oc_write_post, od_write_post, .func (PySem.W.fnOf "write_post" "write_post" (defArgs s_write_post) (defBody s_write_post) (defScope s_write_post) .none kV_write_post dc_write_post pm_write_post an_write_post cd_write_post ct_write_post), sl_write_post⟩) (c_write_post : PySem.W.codeIn K cd_write_post "write_post" = true) (k_write_post : PySem.W.keepIn K (.ref f_write_post) = true)
    (a_tell_seen : PySem.W.nsIn K mainGlobals "tell_seen" = some (some (.ref f_tell_seen))) (l_tell_seen : K.lookup f_tell_seen = some ⟨oc_tell_seen, od_tell_seen, .func (PySem.W.fnOf "tell_seen" "tell_seen" (defArgs s_tell_seen) (defBody s_tell_seen) (defScope s_tell_seen) .none kV_tell_seen dc_tell_seen pm_tell_seen an_tell_seen cd_tell_seen ct_tell_seen), sl_tell_seen⟩) (c_tell_seen : PySem.W.codeIn K cd_tell_seen "tell_seen" = true) (k_tell_seen : PySem.W.keepIn K (.ref f_tell_seen) = true)
    (a_let_wait : PySem.W.nsIn K mainGlobals "let_wait" = some (some (.ref f_let_wait))) (l_let_wait : K.lookup f_let_wait = some ⟨oc_let_wait, od_let_wait, .func (PySem.W.fnOf "let_wait" "let_wait" (defArgs s_let_wait) (defBody s_let_wait) (defScope s_let_wait) .none kV_let_wait dc_let_wait pm_let_wait an_let_wait cd_let_wait ct_let_wait), sl_let_wait⟩) (c_let_wait : PySem.W.codeIn K cd_let_wait "let_wait" = true) (k_let_wait : PySem.W.keepIn K (.ref f_let_wait) = true)
    (a_take_post : PySem.W.nsIn K mainGlobals "take_post" = some (some (.ref f_take_post))) (l_take_post : K.lookup f_take_post = some ⟨oc_take_post, od_take_post, .func (PySem.W.fnOf "take_post" "take_post" (defArgs s_take_post) (defBody s_take_post) (defScope s_take_post) .none kV_take_post dc_take_post pm_take_post an_take_post cd_take_post ct_take_post), sl_take_post⟩) (c_take_post : PySem.W.codeIn K cd_take_post "take_post" = true) (k_take_post : PySem.W.keepIn K (.ref f_take_post) = true)
    (a_learn : PySem.W.nsIn K mainGlobals "learn" = some (some (.ref f_learn))) (l_learn : K.lookup f_learn = some ⟨oc_learn, od_learn, .func (PySem.W.fnOf "learn" "learn" (defArgs s_learn) (defBody s_learn) (defScope s_learn) .none kV_learn dc_learn pm_learn an_learn cd_learn ct_learn), sl_learn⟩) (c_learn : PySem.W.codeIn K cd_learn "learn" = true) (k_learn : PySem.W.keepIn K (.ref f_learn) = true)
    (a_take_letter : PySem.W.nsIn K mainGlobals "take_letter" = some (some (.ref f_take_letter))) (l_take_letter : K.lookup f_take_letter = some ⟨oc_take_letter, od_take_letter, .func (PySem.W.fnOf "take_letter" "take_letter" (defArgs s_take_letter) (defBody s_take_letter) (defScope s_take_letter) .none kV_take_letter dc_take_letter pm_take_letter an_take_letter cd_take_letter ct_take_letter), sl_take_letter⟩) (c_take_letter : PySem.W.codeIn K cd_take_letter "take_letter" = true) (k_take_letter : PySem.W.keepIn K (.ref f_take_letter) = true)
    (a_may_be_shown : PySem.W.nsIn K mainGlobals "may_be_shown" = some (some (.ref f_may_be_shown))) (l_may_be_shown : K.lookup f_may_be_shown = some ⟨oc_may_be_shown, od_may_be_shown, .func (PySem.W.fnOf "may_be_shown" "may_be_shown" (defArgs s_may_be_shown) (defBody s_may_be_shown) (defScope s_may_be_shown) .none kV_may_be_shown dc_may_be_shown pm_may_be_shown an_may_be_shown cd_may_be_shown ct_may_be_shown), sl_may_be_shown⟩) (c_may_be_shown : PySem.W.codeIn K cd_may_be_shown "may_be_shown" = true) (k_may_be_shown : PySem.W.keepIn K (.ref f_may_be_shown) = true)
    (a_next_author : PySem.W.nsIn K mainGlobals "next_author" = some (some (.ref f_next_author))) (l_next_author : K.lookup f_next_author = some ⟨oc_next_author, od_next_author, .func (PySem.W.fnOf "next_author" "next_author" (defArgs s_next_author) (defBody s_next_author) (defScope s_next_author) .none kV_next_author dc_next_author pm_next_author an_next_author cd_next_author ct_next_author), sl_next_author⟩) (c_next_author : PySem.W.codeIn K cd_next_author "next_author" = true) (k_next_author : PySem.W.keepIn K (.ref f_next_author) = true)
    (a_show_next : PySem.W.nsIn K mainGlobals "show_next" = some (some (.ref f_show_next))) (l_show_next : K.lookup f_show_next = some ⟨oc_show_next, od_show_next, .func (PySem.W.fnOf "show_next" "show_next" (defArgs s_show_next) (defBody s_show_next) (defScope s_show_next) .none kV_show_next dc_show_next pm_show_next an_show_next cd_show_next ct_show_next), sl_show_next⟩) (c_show_next : PySem.W.codeIn K cd_show_next "show_next" = true) (k_show_next : PySem.W.keepIn K (.ref f_show_next) = true)
    (a_send_again : PySem.W.nsIn K mainGlobals "send_again" = some (some (.ref f_send_again))) (l_send_again : K.lookup f_send_again = some ⟨oc_send_again, od_send_again, .func (PySem.W.fnOf "send_again" "send_again" (defArgs s_send_again) (defBody s_send_again) (defScope s_send_again) .none kV_send_again dc_send_again pm_send_again an_send_again cd_send_again ct_send_again), sl_send_again⟩) (c_send_again : PySem.W.codeIn K cd_send_again "send_again" = true) (k_send_again : PySem.W.keepIn K (.ref f_send_again) = true)
    (a_tell : PySem.W.nsIn K mainGlobals "tell" = some (some (.ref f_tell))) (l_tell : K.lookup f_tell = some ⟨oc_tell, od_tell, .func (PySem.W.fnOf "tell" "tell" (defArgs s_tell) (defBody s_tell) (defScope s_tell) .none kV_tell dc_tell pm_tell an_tell cd_tell ct_tell), sl_tell⟩) (c_tell : PySem.W.codeIn K cd_tell "tell" = true) (k_tell : PySem.W.keepIn K (.ref f_tell) = true)
    (mk_new_Reader : PySem.W.makesIn K CR = true) (ai_new_Reader : PySem.W.findIn K (.ref CR) "__init__" = some (some (.ref f_new_Reader))) (ii_new_Reader : PySem.W.isFn K (.ref f_new_Reader) = true) (kc_new_Reader : PySem.W.keepIn K (.ref CR) = true) (l_new_Reader : K.lookup f_new_Reader = some ⟨oc_new_Reader, od_new_Reader, .func (PySem.W.fnOf "__init__" "Reader.__init__" (defArgs s_new_Reader) (defBody s_new_Reader) (defScope s_new_Reader) .none kV_new_Reader dc_new_Reader pm_new_Reader an_new_Reader cd_new_Reader ct_new_Reader), sl_new_Reader⟩) (c_new_Reader : PySem.W.codeIn K cd_new_Reader "Reader.__init__" = true) (k_new_Reader : PySem.W.keepIn K (.ref f_new_Reader) = true)
    (a_m_is_done : PySem.W.findIn K (.ref CR) "is_done" = some (some (.ref f_m_is_done))) (i_m_is_done : PySem.W.isFn K (.ref f_m_is_done) = true) (l_m_is_done : K.lookup f_m_is_done = some ⟨oc_m_is_done, od_m_is_done, .func (PySem.W.fnOf "is_done" "Reader.is_done" (defArgs s_m_is_done) (defBody s_m_is_done) (defScope s_m_is_done) .none kV_m_is_done dc_m_is_done pm_m_is_done an_m_is_done cd_m_is_done ct_m_is_done), sl_m_is_done⟩) (c_m_is_done : PySem.W.codeIn K cd_m_is_done "Reader.is_done" = true) (k_m_is_done : PySem.W.keepIn K (.ref f_m_is_done) = true)
    (a_m_take_one : PySem.W.findIn K (.ref CR) "take_one" = some (some (.ref f_m_take_one))) (i_m_take_one : PySem.W.isFn K (.ref f_m_take_one) = true) (l_m_take_one : K.lookup f_m_take_one = some ⟨oc_m_take_one, od_m_take_one, .func (PySem.W.fnOf "take_one" "Reader.take_one" (defArgs s_m_take_one) (defBody s_m_take_one) (defScope s_m_take_one) .none kV_m_take_one dc_m_take_one pm_m_take_one an_m_take_one cd_m_take_one ct_m_take_one), sl_m_take_one⟩) (c_m_take_one : PySem.W.codeIn K cd_m_take_one "Reader.take_one" = true) (k_m_take_one : PySem.W.keepIn K (.ref f_m_take_one) = true)
    (a_m_take_some : PySem.W.findIn K (.ref CR) "take_some" = some (some (.ref f_m_take_some))) (i_m_take_some : PySem.W.isFn K (.ref f_m_take_some) = true) (l_m_take_some : K.lookup f_m_take_some = some ⟨oc_m_take_some, od_m_take_some, .func (PySem.W.fnOf "take_some" "Reader.take_some" (defArgs s_m_take_some) (defBody s_m_take_some) (defScope s_m_take_some) .none kV_m_take_some dc_m_take_some pm_m_take_some an_m_take_some cd_m_take_some ct_m_take_some), sl_m_take_some⟩) (c_m_take_some : PySem.W.codeIn K cd_m_take_some "Reader.take_some" = true) (k_m_take_some : PySem.W.keepIn K (.ref f_m_take_some) = true)
    (a_m_take_row : PySem.W.findIn K (.ref CR) "take_row" = some (some (.ref f_m_take_row))) (i_m_take_row : PySem.W.isFn K (.ref f_m_take_row) = true) (l_m_take_row : K.lookup f_m_take_row = some ⟨oc_m_take_row, od_m_take_row, .func (PySem.W.fnOf "take_row" "Reader.take_row" (defArgs s_m_take_row) (defBody s_m_take_row) (defScope s_m_take_row) .none kV_m_take_row dc_m_take_row pm_m_take_row an_m_take_row cd_m_take_row ct_m_take_row), sl_m_take_row⟩) (c_m_take_row : PySem.W.codeIn K cd_m_take_row "Reader.take_row" = true) (k_m_take_row : PySem.W.keepIn K (.ref f_m_take_row) = true)
    (a_bytes_of_posts : PySem.W.nsIn K mainGlobals "bytes_of_posts" = some (some (.ref f_bytes_of_posts))) (l_bytes_of_posts : K.lookup f_bytes_of_posts = some ⟨oc_bytes_of_posts, od_bytes_of_posts, .func (PySem.W.fnOf "bytes_of_posts" "bytes_of_posts" (defArgs s_bytes_of_posts) (defBody s_bytes_of_posts) (defScope s_bytes_of_posts) .none kV_bytes_of_posts dc_bytes_of_posts pm_bytes_of_posts an_bytes_of_posts cd_bytes_of_posts ct_bytes_of_posts), sl_bytes_of_posts⟩) (c_bytes_of_posts : PySem.W.codeIn K cd_bytes_of_posts "bytes_of_posts" = true) (k_bytes_of_posts : PySem.W.keepIn K (.ref f_bytes_of_posts) = true)
    (a_bytes_of_node : PySem.W.nsIn K mainGlobals "bytes_of_node" = some (some (.ref f_bytes_of_node))) (l_bytes_of_node : K.lookup f_bytes_of_node = some ⟨oc_bytes_of_node, od_bytes_of_node, .func (PySem.W.fnOf "bytes_of_node" "bytes_of_node" (defArgs s_bytes_of_node) (defBody s_bytes_of_node) (defScope s_bytes_of_node) .none kV_bytes_of_node dc_bytes_of_node pm_bytes_of_node an_bytes_of_node cd_bytes_of_node ct_bytes_of_node), sl_bytes_of_node⟩) (c_bytes_of_node : PySem.W.codeIn K cd_bytes_of_node "bytes_of_node" = true) (k_bytes_of_node : PySem.W.keepIn K (.ref f_bytes_of_node) = true)
    (a_read_post : PySem.W.nsIn K mainGlobals "read_post" = some (some (.ref f_read_post))) (l_read_post : K.lookup f_read_post = some ⟨oc_read_post, od_read_post, .func (PySem.W.fnOf "read_post" "read_post" (defArgs s_read_post) (defBody s_read_post) (defScope s_read_post) .none kV_read_post dc_read_post pm_read_post an_read_post cd_read_post ct_read_post), sl_read_post⟩) (c_read_post : PySem.W.codeIn K cd_read_post "read_post" = true) (k_read_post : PySem.W.keepIn K (.ref f_read_post) = true)
    (a_read_posts : PySem.W.nsIn K mainGlobals "read_posts" = some (some (.ref f_read_posts))) (l_read_posts : K.lookup f_read_posts = some ⟨oc_read_posts, od_read_posts, .func (PySem.W.fnOf "read_posts" "read_posts" (defArgs s_read_posts) (defBody s_read_posts) (defScope s_read_posts) .none kV_read_posts dc_read_posts pm_read_posts an_read_posts cd_read_posts ct_read_posts), sl_read_posts⟩) (c_read_posts : PySem.W.codeIn K cd_read_posts "read_posts" = true) (k_read_posts : PySem.W.keepIn K (.ref f_read_posts) = true)
    (a_is_known_so : PySem.W.nsIn K mainGlobals "is_known_so" = some (some (.ref f_is_known_so))) (l_is_known_so : K.lookup f_is_known_so = some ⟨oc_is_known_so, od_is_known_so, .func (PySem.W.fnOf "is_known_so" "is_known_so" (defArgs s_is_known_so) (defBody s_is_known_so) (defScope s_is_known_so) .none kV_is_known_so dc_is_known_so pm_is_known_so an_is_known_so cd_is_known_so ct_is_known_so), sl_is_known_so⟩) (c_is_known_so : PySem.W.codeIn K cd_is_known_so "is_known_so" = true) (k_is_known_so : PySem.W.keepIn K (.ref f_is_known_so) = true)
    (a_is_mine_so : PySem.W.nsIn K mainGlobals "is_mine_so" = some (some (.ref f_is_mine_so))) (l_is_mine_so : K.lookup f_is_mine_so = some ⟨oc_is_mine_so, od_is_mine_so, .func (PySem.W.fnOf "is_mine_so" "is_mine_so" (defArgs s_is_mine_so) (defBody s_is_mine_so) (defScope s_is_mine_so) .none kV_is_mine_so dc_is_mine_so pm_is_mine_so an_is_mine_so cd_is_mine_so ct_is_mine_so), sl_is_mine_so⟩) (c_is_mine_so : PySem.W.codeIn K cd_is_mine_so "is_mine_so" = true) (k_is_mine_so : PySem.W.keepIn K (.ref f_is_mine_so) = true)
    (a_is_waiting_so : PySem.W.nsIn K mainGlobals "is_waiting_so" = some (some (.ref f_is_waiting_so))) (l_is_waiting_so : K.lookup f_is_waiting_so = some ⟨oc_is_waiting_so, od_is_waiting_so, .func (PySem.W.fnOf "is_waiting_so" "is_waiting_so" (defArgs s_is_waiting_so) (defBody s_is_waiting_so) (defScope s_is_waiting_so) .none kV_is_waiting_so dc_is_waiting_so pm_is_waiting_so an_is_waiting_so cd_is_waiting_so ct_is_waiting_so), sl_is_waiting_so⟩) (c_is_waiting_so : PySem.W.codeIn K cd_is_waiting_so "is_waiting_so" = true) (k_is_waiting_so : PySem.W.keepIn K (.ref f_is_waiting_so) = true)
    (a_node_of_bytes : PySem.W.nsIn K mainGlobals "node_of_bytes" = some (some (.ref f_node_of_bytes))) (l_node_of_bytes : K.lookup f_node_of_bytes = some ⟨oc_node_of_bytes, od_node_of_bytes, .func (PySem.W.fnOf "node_of_bytes" "node_of_bytes" (defArgs s_node_of_bytes) (defBody s_node_of_bytes) (defScope s_node_of_bytes) .none kV_node_of_bytes dc_node_of_bytes pm_node_of_bytes an_node_of_bytes cd_node_of_bytes ct_node_of_bytes), sl_node_of_bytes⟩) (c_node_of_bytes : PySem.W.codeIn K cd_node_of_bytes "node_of_bytes" = true) (k_node_of_bytes : PySem.W.keepIn K (.ref f_node_of_bytes) = true)
    (a_begin : PySem.W.nsIn K mainGlobals "begin" = some (some (.ref f_begin))) (l_begin : K.lookup f_begin = some ⟨oc_begin, od_begin, .func (PySem.W.fnOf "begin" "begin" (defArgs s_begin) (defBody s_begin) (defScope s_begin) .none kV_begin dc_begin pm_begin an_begin cd_begin ct_begin), sl_begin⟩) (c_begin : PySem.W.codeIn K cd_begin "begin" = true) (k_begin : PySem.W.keepIn K (.ref f_begin) = true)
    (a_load : PySem.W.nsIn K mainGlobals "load" = some (some (.ref f_load))) (l_load : K.lookup f_load = some ⟨oc_load, od_load, .func (PySem.W.fnOf "load" "load" (defArgs s_load) (defBody s_load) (defScope s_load) .none kV_load dc_load pm_load an_load cd_load ct_load), sl_load⟩) (c_load : PySem.W.codeIn K cd_load "load" = true) (k_load : PySem.W.keepIn K (.ref f_load) = true)
    (a_next_answer : PySem.W.nsIn K mainGlobals "next_answer" = some (some (.ref f_next_answer))) (l_next_answer : K.lookup f_next_answer = some ⟨oc_next_answer, od_next_answer, .func (PySem.W.fnOf "next_answer" "next_answer" (defArgs s_next_answer) (defBody s_next_answer) (defScope s_next_answer) .none kV_next_answer dc_next_answer pm_next_answer an_next_answer cd_next_answer ct_next_answer), sl_next_answer⟩) (c_next_answer : PySem.W.codeIn K cd_next_answer "next_answer" = true) (k_next_answer : PySem.W.keepIn K (.ref f_next_answer) = true)
    (a_answers : PySem.W.nsIn K mainGlobals "answers" = some (some (.ref f_answers))) (l_answers : K.lookup f_answers = some ⟨oc_answers, od_answers, .func (PySem.W.fnOf "answers" "answers" (defArgs s_answers) (defBody s_answers) (defScope s_answers) .none kV_answers dc_answers pm_answers an_answers cd_answers ct_answers), sl_answers⟩) (c_answers : PySem.W.codeIn K cd_answers "answers" = true) (k_answers : PySem.W.keepIn K (.ref f_answers) = true)
    : ∃ fd : FuncData, (∀ (s : Shared) (us : List Value), us.length = (["calls"] : List Str).length → BindsTo s fd ⟨us, []⟩ ((["calls"] : List Str).zip us)) ∧ ∀ base : Heap, K.In base → base.Ns mainGlobals mg → FnOk P w K mg base CX0 8 fa fd ["calls"] (spAns K) := by
  have T : Txt K mg CN CP CR := ⟨⟨PySem.W.mg_none_of X G bt_len, PySem.W.mg_none_of X G bt_any, PySem.W.mg_none_of X G bt_all, PySem.W.mg_none_of X G bt_max, PySem.W.mg_none_of X G bt_min, PySem.W.mg_none_of X G bt_list, PySem.W.mg_none_of X G bt_range, PySem.W.mg_none_of X G bt_enumerate, PySem.W.mg_none_of X G bt_reversed⟩, ⟨pgNode, hdNode, poNode, saNode⟩, ⟨pgPost, hdPost, poPost, saPost⟩, ⟨pgReader, hdReader, poReader, saReader⟩, at_me, at_n, at_seen, at_known, at_mine, at_waits, at_stamp, at_text, at_numbers, at_place, ⟨t_LONGEST_TEXT, PySem.W.mg_of X G ct_LONGEST_TEXT⟩, ⟨t_TEXT_BYTES, PySem.W.mg_of X G ct_TEXT_BYTES⟩, ⟨t_NODES, PySem.W.mg_of X G ct_NODES⟩, ⟨t_NUMBER_BYTES, PySem.W.mg_of X G ct_NUMBER_BYTES⟩, ⟨t_STAMP_BYTES, PySem.W.mg_of X G ct_STAMP_BYTES⟩, ⟨t_HIGHEST, PySem.W.mg_of X G ct_HIGHEST⟩, ⟨t_ROOM, PySem.W.mg_of X G ct_ROOM⟩, ⟨t_POST, PySem.W.mg_of X G ct_POST⟩, ⟨t_SEEN, PySem.W.mg_of X G ct_SEEN⟩, ⟨t_HEAD_BYTES, PySem.W.mg_of X G ct_HEAD_BYTES⟩, ⟨t_SEEN_LETTER_BYTES, PySem.W.mg_of X G ct_SEEN_LETTER_BYTES⟩, ⟨t_POST_LETTER_BYTES, PySem.W.mg_of X G ct_POST_LETTER_BYTES⟩, ⟨t_BAD_ARGUMENTS, PySem.W.mg_of X G ct_BAD_ARGUMENTS⟩, ⟨t_BAD_BYTES, PySem.W.mg_of X G ct_BAD_BYTES⟩, ⟨t_NOTHING_TO_SHOW, PySem.W.mg_of X G ct_NOTHING_TO_SHOW⟩, ⟨t_NO_MORE, PySem.W.mg_of X G ct_NO_MORE⟩, ⟨t_TOO_LONG, PySem.W.mg_of X G ct_TOO_LONG⟩, ⟨t_LONGEST_LETTER, PySem.W.mg_of X G ct_LONGEST_LETTER⟩, ⟨t_HEAD_ZEROS, PySem.W.mg_of X G ct_HEAD_ZEROS⟩, ⟨t_SAVED_POST_BYTES, PySem.W.mg_of X G ct_SAVED_POST_BYTES⟩, ⟨t_OBJECTS, PySem.W.mg_of X G ct_OBJECTS⟩, ⟨t_PO_BEGIN, PySem.W.mg_of X G ct_PO_BEGIN⟩, ⟨t_PO_SAVE, PySem.W.mg_of X G ct_PO_SAVE⟩, ⟨t_PO_LOAD, PySem.W.mg_of X G ct_PO_LOAD⟩, ⟨t_PO_POST, PySem.W.mg_of X G ct_PO_POST⟩, ⟨t_PO_RECEIVE, PySem.W.mg_of X G ct_PO_RECEIVE⟩, ⟨t_PO_NEXT, PySem.W.mg_of X G ct_PO_NEXT⟩, ⟨t_PO_AGAIN, PySem.W.mg_of X G ct_PO_AGAIN⟩, ⟨t_PO_TELL, PySem.W.mg_of X G ct_PO_TELL⟩, ⟨t_PO_SEEN, PySem.W.mg_of X G ct_PO_SEEN⟩⟩
  have D_new_Post : IDef K mg CP "Post" "Post.__init__" s_new_Post := ⟨⟨f_new_Post, _, PySem.W.mg_of X G gPost, ⟨mk_new_Post, ai_new_Post, ii_new_Post, kc_new_Post⟩, fun_mk (st := s_new_Post) l_new_Post c_new_Post k_new_Post⟩⟩
  have D_padded_text : Def K mg "padded_text" s_padded_text := ⟨⟨f_padded_text, _, PySem.W.mg_of X G a_padded_text, fun_mk (st := s_padded_text) l_padded_text c_padded_text k_padded_text⟩⟩
  have D_is_padded_text : Def K mg "is_padded_text" s_is_padded_text := ⟨⟨f_is_padded_text, _, PySem.W.mg_of X G a_is_padded_text, fun_mk (st := s_is_padded_text) l_is_padded_text c_is_padded_text k_is_padded_text⟩⟩
  have D_counts_of : Def K mg "counts_of" s_counts_of := ⟨⟨f_counts_of, _, PySem.W.mg_of X G a_counts_of, fun_mk (st := s_counts_of) l_counts_of c_counts_of k_counts_of⟩⟩
  have D_empty_stamp : Def K mg "empty_stamp" s_empty_stamp := ⟨⟨f_empty_stamp, _, PySem.W.mg_of X G a_empty_stamp, fun_mk (st := s_empty_stamp) l_empty_stamp c_empty_stamp k_empty_stamp⟩⟩
  have D_bytes_of_number : Def K mg "bytes_of_number" s_bytes_of_number := ⟨⟨f_bytes_of_number, _, PySem.W.mg_of X G a_bytes_of_number, fun_mk (st := s_bytes_of_number) l_bytes_of_number c_bytes_of_number k_bytes_of_number⟩⟩
  have D_number_of_bytes : Def K mg "number_of_bytes" s_number_of_bytes := ⟨⟨f_number_of_bytes, _, PySem.W.mg_of X G a_number_of_bytes, fun_mk (st := s_number_of_bytes) l_number_of_bytes c_number_of_bytes k_number_of_bytes⟩⟩
  have D_bytes_of_stamp : Def K mg "bytes_of_stamp" s_bytes_of_stamp := ⟨⟨f_bytes_of_stamp, _, PySem.W.mg_of X G a_bytes_of_stamp, fun_mk (st := s_bytes_of_stamp) l_bytes_of_stamp c_bytes_of_stamp k_bytes_of_stamp⟩⟩
  have D_stamp_of_bytes : Def K mg "stamp_of_bytes" s_stamp_of_bytes := ⟨⟨f_stamp_of_bytes, _, PySem.W.mg_of X G a_stamp_of_bytes, fun_mk (st := s_stamp_of_bytes) l_stamp_of_bytes c_stamp_of_bytes k_stamp_of_bytes⟩⟩
  have D_is_stamp : Def K mg "is_stamp" s_is_stamp := ⟨⟨f_is_stamp, _, PySem.W.mg_of X G a_is_stamp, fun_mk (st := s_is_stamp) l_is_stamp c_is_stamp k_is_stamp⟩⟩
  have D_new_Node : IDef K mg CN "Node" "Node.__init__" s_new_Node := ⟨⟨f_new_Node, _, PySem.W.mg_of X G gNode, ⟨mk_new_Node, ai_new_Node, ii_new_Node, kc_new_Node⟩, fun_mk (st := s_new_Node) l_new_Node c_new_Node k_new_Node⟩⟩
  have D_may_be_node : Def K mg "may_be_node" s_may_be_node := ⟨⟨f_may_be_node, _, PySem.W.mg_of X G a_may_be_node, fun_mk (st := s_may_be_node) l_may_be_node c_may_be_node k_may_be_node⟩⟩
  have D_is_other : Def K mg "is_other" s_is_other := ⟨⟨f_is_other, _, PySem.W.mg_of X G a_is_other, fun_mk (st := s_is_other) l_is_other c_is_other k_is_other⟩⟩
  have D_others_of : Def K mg "others_of" s_others_of := ⟨⟨f_others_of, _, PySem.W.mg_of X G a_others_of, fun_mk (st := s_others_of) l_others_of c_others_of k_others_of⟩⟩
  have D_post_letter : Def K mg "post_letter" s_post_letter := ⟨⟨f_post_letter, _, PySem.W.mg_of X G a_post_letter, fun_mk (st := s_post_letter) l_post_letter c_post_letter k_post_letter⟩⟩
  have D_seen_letter : Def K mg "seen_letter" s_seen_letter := ⟨⟨f_seen_letter, _, PySem.W.mg_of X G a_seen_letter, fun_mk (st := s_seen_letter) l_seen_letter c_seen_letter k_seen_letter⟩⟩
  have D_is_seen : Def K mg "is_seen" s_is_seen := ⟨⟨f_is_seen, _, PySem.W.mg_of X G a_is_seen, fun_mk (st := s_is_seen) l_is_seen c_is_seen k_is_seen⟩⟩
  have D_sender_of : Def K mg "sender_of" s_sender_of := ⟨⟨f_sender_of, _, PySem.W.mg_of X G a_sender_of, fun_mk (st := s_sender_of) l_sender_of c_sender_of k_sender_of⟩⟩
  have D_stamp_in : Def K mg "stamp_in" s_stamp_in := ⟨⟨f_stamp_in, _, PySem.W.mg_of X G a_stamp_in, fun_mk (st := s_stamp_in) l_stamp_in c_stamp_in k_stamp_in⟩⟩
  have D_padded_text_in : Def K mg "padded_text_in" s_padded_text_in := ⟨⟨f_padded_text_in, _, PySem.W.mg_of X G a_padded_text_in, fun_mk (st := s_padded_text_in) l_padded_text_in c_padded_text_in k_padded_text_in⟩⟩
  have D_post_in : Def K mg "post_in" s_post_in := ⟨⟨f_post_in, _, PySem.W.mg_of X G a_post_in, fun_mk (st := s_post_in) l_post_in c_post_in k_post_in⟩⟩
  have D_is_from_another : Def K mg "is_from_another" s_is_from_another := ⟨⟨f_is_from_another, _, PySem.W.mg_of X G a_is_from_another, fun_mk (st := s_is_from_another) l_is_from_another c_is_from_another k_is_from_another⟩⟩
  have D_is_right_post : Def K mg "is_right_post" s_is_right_post := ⟨⟨f_is_right_post, _, PySem.W.mg_of X G a_is_right_post, fun_mk (st := s_is_right_post) l_is_right_post c_is_right_post k_is_right_post⟩⟩
  have D_is_right_seen : Def K mg "is_right_seen" s_is_right_seen := ⟨⟨f_is_right_seen, _, PySem.W.mg_of X G a_is_right_seen, fun_mk (st := s_is_right_seen) l_is_right_seen c_is_right_seen k_is_right_seen⟩⟩
  have D_is_right : Def K mg "is_right" s_is_right := ⟨⟨f_is_right, _, PySem.W.mg_of X G a_is_right, fun_mk (st := s_is_right) l_is_right c_is_right k_is_right⟩⟩
  have D_write_post : Def K mg "write_post" s_write_post := ⟨⟨f_write_post, _, PySem.W.mg_of X G a_write_post, fun_mk (st := s_write_post) l_write_post c_write_post k_write_post⟩⟩
  have D_tell_seen : Def K mg "tell_seen" s_tell_seen := ⟨⟨f_tell_seen, _, PySem.W.mg_of X G a_tell_seen, fun_mk (st := s_tell_seen) l_tell_seen c_tell_seen k_tell_seen⟩⟩
  have D_let_wait : Def K mg "let_wait" s_let_wait := ⟨⟨f_let_wait, _, PySem.W.mg_of X G a_let_wait, fun_mk (st := s_let_wait) l_let_wait c_let_wait k_let_wait⟩⟩
  have D_take_post : Def K mg "take_post" s_take_post := ⟨⟨f_take_post, _, PySem.W.mg_of X G a_take_post, fun_mk (st := s_take_post) l_take_post c_take_post k_take_post⟩⟩
  have D_learn : Def K mg "learn" s_learn := ⟨⟨f_learn, _, PySem.W.mg_of X G a_learn, fun_mk (st := s_learn) l_learn c_learn k_learn⟩⟩
  have D_take_letter : Def K mg "take_letter" s_take_letter := ⟨⟨f_take_letter, _, PySem.W.mg_of X G a_take_letter, fun_mk (st := s_take_letter) l_take_letter c_take_letter k_take_letter⟩⟩
  have D_may_be_shown : Def K mg "may_be_shown" s_may_be_shown := ⟨⟨f_may_be_shown, _, PySem.W.mg_of X G a_may_be_shown, fun_mk (st := s_may_be_shown) l_may_be_shown c_may_be_shown k_may_be_shown⟩⟩
  have D_next_author : Def K mg "next_author" s_next_author := ⟨⟨f_next_author, _, PySem.W.mg_of X G a_next_author, fun_mk (st := s_next_author) l_next_author c_next_author k_next_author⟩⟩
  have D_show_next : Def K mg "show_next" s_show_next := ⟨⟨f_show_next, _, PySem.W.mg_of X G a_show_next, fun_mk (st := s_show_next) l_show_next c_show_next k_show_next⟩⟩
  have D_send_again : Def K mg "send_again" s_send_again := ⟨⟨f_send_again, _, PySem.W.mg_of X G a_send_again, fun_mk (st := s_send_again) l_send_again c_send_again k_send_again⟩⟩
  have D_tell : Def K mg "tell" s_tell := ⟨⟨f_tell, _, PySem.W.mg_of X G a_tell, fun_mk (st := s_tell) l_tell c_tell k_tell⟩⟩
  have D_new_Reader : IDef K mg CR "Reader" "Reader.__init__" s_new_Reader := ⟨⟨f_new_Reader, _, PySem.W.mg_of X G gReader, ⟨mk_new_Reader, ai_new_Reader, ii_new_Reader, kc_new_Reader⟩, fun_mk (st := s_new_Reader) l_new_Reader c_new_Reader k_new_Reader⟩⟩
  have D_m_is_done : MDef K CR "is_done" "Reader.is_done" s_m_is_done := ⟨⟨f_m_is_done, _, ⟨a_m_is_done, i_m_is_done, k_m_is_done⟩, fun_mk (st := s_m_is_done) l_m_is_done c_m_is_done k_m_is_done⟩⟩
  have D_m_take_one : MDef K CR "take_one" "Reader.take_one" s_m_take_one := ⟨⟨f_m_take_one, _, ⟨a_m_take_one, i_m_take_one, k_m_take_one⟩, fun_mk (st := s_m_take_one) l_m_take_one c_m_take_one k_m_take_one⟩⟩
  have D_m_take_some : MDef K CR "take_some" "Reader.take_some" s_m_take_some := ⟨⟨f_m_take_some, _, ⟨a_m_take_some, i_m_take_some, k_m_take_some⟩, fun_mk (st := s_m_take_some) l_m_take_some c_m_take_some k_m_take_some⟩⟩
  have D_m_take_row : MDef K CR "take_row" "Reader.take_row" s_m_take_row := ⟨⟨f_m_take_row, _, ⟨a_m_take_row, i_m_take_row, k_m_take_row⟩, fun_mk (st := s_m_take_row) l_m_take_row c_m_take_row k_m_take_row⟩⟩
  have D_bytes_of_posts : Def K mg "bytes_of_posts" s_bytes_of_posts := ⟨⟨f_bytes_of_posts, _, PySem.W.mg_of X G a_bytes_of_posts, fun_mk (st := s_bytes_of_posts) l_bytes_of_posts c_bytes_of_posts k_bytes_of_posts⟩⟩
  have D_bytes_of_node : Def K mg "bytes_of_node" s_bytes_of_node := ⟨⟨f_bytes_of_node, _, PySem.W.mg_of X G a_bytes_of_node, fun_mk (st := s_bytes_of_node) l_bytes_of_node c_bytes_of_node k_bytes_of_node⟩⟩
  have D_read_post : Def K mg "read_post" s_read_post := ⟨⟨f_read_post, _, PySem.W.mg_of X G a_read_post, fun_mk (st := s_read_post) l_read_post c_read_post k_read_post⟩⟩
  have D_read_posts : Def K mg "read_posts" s_read_posts := ⟨⟨f_read_posts, _, PySem.W.mg_of X G a_read_posts, fun_mk (st := s_read_posts) l_read_posts c_read_posts k_read_posts⟩⟩
  have D_is_known_so : Def K mg "is_known_so" s_is_known_so := ⟨⟨f_is_known_so, _, PySem.W.mg_of X G a_is_known_so, fun_mk (st := s_is_known_so) l_is_known_so c_is_known_so k_is_known_so⟩⟩
  have D_is_mine_so : Def K mg "is_mine_so" s_is_mine_so := ⟨⟨f_is_mine_so, _, PySem.W.mg_of X G a_is_mine_so, fun_mk (st := s_is_mine_so) l_is_mine_so c_is_mine_so k_is_mine_so⟩⟩
  have D_is_waiting_so : Def K mg "is_waiting_so" s_is_waiting_so := ⟨⟨f_is_waiting_so, _, PySem.W.mg_of X G a_is_waiting_so, fun_mk (st := s_is_waiting_so) l_is_waiting_so c_is_waiting_so k_is_waiting_so⟩⟩
  have D_node_of_bytes : Def K mg "node_of_bytes" s_node_of_bytes := ⟨⟨f_node_of_bytes, _, PySem.W.mg_of X G a_node_of_bytes, fun_mk (st := s_node_of_bytes) l_node_of_bytes c_node_of_bytes k_node_of_bytes⟩⟩
  have D_begin : Def K mg "begin" s_begin := ⟨⟨f_begin, _, PySem.W.mg_of X G a_begin, fun_mk (st := s_begin) l_begin c_begin k_begin⟩⟩
  have D_load : Def K mg "load" s_load := ⟨⟨f_load, _, PySem.W.mg_of X G a_load, fun_mk (st := s_load) l_load c_load k_load⟩⟩
  have D_next_answer : Def K mg "next_answer" s_next_answer := ⟨⟨f_next_answer, _, PySem.W.mg_of X G a_next_answer, fun_mk (st := s_next_answer) l_next_answer c_next_answer k_next_answer⟩⟩
  have D_answers : Def K mg "answers" s_answers := ⟨⟨f_answers, _, PySem.W.mg_of X G a_answers, fun_mk (st := s_answers) l_answers c_answers k_answers⟩⟩
  exact all_mk hfa T D_new_Post D_padded_text D_is_padded_text D_counts_of D_empty_stamp D_bytes_of_number D_number_of_bytes D_bytes_of_stamp D_stamp_of_bytes D_is_stamp D_new_Node D_may_be_node D_is_other D_others_of D_post_letter D_seen_letter D_is_seen D_sender_of D_stamp_in D_padded_text_in D_post_in D_is_from_another D_is_right_post D_is_right_seen D_is_right D_write_post D_tell_seen D_let_wait D_take_post D_learn D_take_letter D_may_be_shown D_next_author D_show_next D_send_again D_tell D_new_Reader D_m_is_done D_m_take_one D_m_take_some D_m_take_row D_bytes_of_posts D_bytes_of_node D_read_post D_read_posts D_is_known_so D_is_mine_so D_is_waiting_so D_node_of_bytes D_begin D_load D_next_answer D_answers
end
end Po

open PySem PySem.W PyProof.Rows
set_option maxRecDepth 100000 in
set_option maxHeartbeats 0 in
theorem PySem.Challenge.cw_postorder_s01_answers_holds : PySem.Challenge.rw_postorder_s01_answers.Holds := by
  w_on; k_headS; (case hw => exact ⟨[.list [.int 0, .int 0, .int 0, .int 2]], by decide +kernel, by decide +kernel⟩)
  k_fillS
  refine L2.walk_specK (r := PySem.Challenge.rw_postorder_s01_answers) (k := 8) (CX := L2.CX0) (ps := ["calls"]) (sp := Po.spAns) (by decide +kernel) rfl rfl ⟨rfl, by decide, by decide⟩ (fun w h Y => PySem.W.kIn_of Y) ?F ?S (fun _ _ _ _ z => z)
  case F =>
    intro w mg fa h Y KX G hmg
    refine' Po.ends KX G hmg ?gNode ?gPost ?gReader ?pgNode ?hdNode ?poNode ?saNode ?pgPost ?hdPost ?poPost ?saPost ?pgReader ?hdReader ?poReader ?saReader ?at_me ?at_n ?at_seen ?at_known ?at_mine ?at_waits ?at_stamp ?at_text ?at_numbers ?at_place ?bt_len ?bt_any ?bt_all ?bt_max ?bt_min ?bt_list ?bt_range ?bt_enumerate ?bt_reversed ?ct_LONGEST_TEXT ?ct_TEXT_BYTES ?ct_NODES ?ct_NUMBER_BYTES ?ct_STAMP_BYTES ?ct_HIGHEST ?ct_ROOM ?ct_POST ?ct_SEEN ?ct_HEAD_BYTES ?ct_SEEN_LETTER_BYTES ?ct_POST_LETTER_BYTES ?ct_BAD_ARGUMENTS ?ct_BAD_BYTES ?ct_NOTHING_TO_SHOW ?ct_NO_MORE ?ct_TOO_LONG ?ct_LONGEST_LETTER ?ct_HEAD_ZEROS ?ct_SAVED_POST_BYTES ?ct_OBJECTS ?ct_PO_BEGIN ?ct_PO_SAVE ?ct_PO_LOAD ?ct_PO_POST ?ct_PO_RECEIVE ?ct_PO_NEXT ?ct_PO_AGAIN ?ct_PO_TELL ?ct_PO_SEEN ?mk_new_Post ?ai_new_Post ?ii_new_Post ?kc_new_Post ?l_new_Post ?c_new_Post ?k_new_Post ?a_padded_text ?l_padded_text ?c_padded_text ?k_padded_text ?a_is_padded_text ?l_is_padded_text ?c_is_padded_text ?k_is_padded_text ?a_counts_of ?l_counts_of ?c_counts_of ?k_counts_of ?a_empty_stamp ?l_empty_stamp ?c_empty_stamp ?k_empty_stamp ?a_bytes_of_number ?l_bytes_of_number ?c_bytes_of_number ?k_bytes_of_number ?a_number_of_bytes ?l_number_of_bytes ?c_number_of_bytes ?k_number_of_bytes ?a_bytes_of_stamp ?l_bytes_of_stamp ?c_bytes_of_stamp ?k_bytes_of_stamp ?a_stamp_of_bytes ?l_stamp_of_bytes ?c_stamp_of_bytes ?k_stamp_of_bytes ?a_is_stamp ?l_is_stamp ?c_is_stamp ?k_is_stamp ?mk_new_Node ?ai_new_Node ?ii_new_Node ?kc_new_Node ?l_new_Node ?c_new_Node ?k_new_Node ?a_may_be_node ?l_may_be_node ?c_may_be_node ?k_may_be_node ?a_is_other ?l_is_other ?c_is_other ?k_is_other ?a_others_of ?l_others_of ?c_others_of ?k_others_of ?a_post_letter ?l_post_letter ?c_post_letter ?k_post_letter ?a_seen_letter ?l_seen_letter ?c_seen_letter ?k_seen_letter ?a_is_seen ?l_is_seen ?c_is_seen ?k_is_seen ?a_sender_of ?l_sender_of ?c_sender_of ?k_sender_of ?a_stamp_in ?l_stamp_in ?c_stamp_in ?k_stamp_in ?a_padded_text_in ?l_padded_text_in ?c_padded_text_in ?k_padded_text_in ?a_post_in ?l_post_in ?c_post_in ?k_post_in ?a_is_from_another ?l_is_from_another ?c_is_from_another ?k_is_from_another ?a_is_right_post ?l_is_right_post ?c_is_right_post ?k_is_right_post ?a_is_right_seen ?l_is_right_seen ?c_is_right_seen ?k_is_right_seen ?a_is_right ?l_is_right ?c_is_right ?k_is_right ?a_write_post ?l_write_post ?c_write_post ?k_write_post ?a_tell_seen ?l_tell_seen ?c_tell_seen ?k_tell_seen ?a_let_wait ?l_let_wait ?c_let_wait ?k_let_wait ?a_take_post ?l_take_post ?c_take_post ?k_take_post ?a_learn ?l_learn ?c_learn ?k_learn ?a_take_letter ?l_take_letter ?c_take_letter ?k_take_letter ?a_may_be_shown ?l_may_be_shown ?c_may_be_shown ?k_may_be_shown ?a_next_author ?l_next_author ?c_next_author ?k_next_author ?a_show_next ?l_show_next ?c_show_next ?k_show_next ?a_send_again ?l_send_again ?c_send_again ?k_send_again ?a_tell ?l_tell ?c_tell ?k_tell ?mk_new_Reader ?ai_new_Reader ?ii_new_Reader ?kc_new_Reader ?l_new_Reader ?c_new_Reader ?k_new_Reader ?a_m_is_done ?i_m_is_done ?l_m_is_done ?c_m_is_done ?k_m_is_done ?a_m_take_one ?i_m_take_one ?l_m_take_one ?c_m_take_one ?k_m_take_one ?a_m_take_some ?i_m_take_some ?l_m_take_some ?c_m_take_some ?k_m_take_some ?a_m_take_row ?i_m_take_row ?l_m_take_row ?c_m_take_row ?k_m_take_row ?a_bytes_of_posts ?l_bytes_of_posts ?c_bytes_of_posts ?k_bytes_of_posts ?a_bytes_of_node ?l_bytes_of_node ?c_bytes_of_node ?k_bytes_of_node ?a_read_post ?l_read_post ?c_read_post ?k_read_post ?a_read_posts ?l_read_posts ?c_read_posts ?k_read_posts ?a_is_known_so ?l_is_known_so ?c_is_known_so ?k_is_known_so ?a_is_mine_so ?l_is_mine_so ?c_is_mine_so ?k_is_mine_so ?a_is_waiting_so ?l_is_waiting_so ?c_is_waiting_so ?k_is_waiting_so ?a_node_of_bytes ?l_node_of_bytes ?c_node_of_bytes ?k_node_of_bytes ?a_begin ?l_begin ?c_begin ?k_begin ?a_load ?l_load ?c_load ?k_load ?a_next_answer ?l_next_answer ?c_next_answer ?k_next_answer ?a_answers ?l_answers ?c_answers ?k_answers
    (case gNode => k_is)
    (case gPost => k_is)
    (case gReader => k_is)
    (case pgNode => k_is)
    (case hdNode => k_is)
    (case poNode => k_is)
    (case saNode => k_is)
    (case pgPost => k_is)
    (case hdPost => k_is)
    (case poPost => k_is)
    (case saPost => k_is)
    (case pgReader => k_is)
    (case hdReader => k_is)
    (case poReader => k_is)
    (case saReader => k_is)
    (case at_me => k_is)
    (case at_n => k_is)
    (case at_seen => k_is)
    (case at_known => k_is)
    (case at_mine => k_is)
    (case at_waits => k_is)
    (case at_stamp => k_is)
    (case at_text => k_is)
    (case at_numbers => k_is)
    (case at_place => k_is)
    (case bt_len => k_is)
    (case bt_any => k_is)
    (case bt_all => k_is)
    (case bt_max => k_is)
    (case bt_min => k_is)
    (case bt_list => k_is)
    (case bt_range => k_is)
    (case bt_enumerate => k_is)
    (case bt_reversed => k_is)
    (case ct_LONGEST_TEXT => k_is)
    (case ct_TEXT_BYTES => k_is)
    (case ct_NODES => k_is)
    (case ct_NUMBER_BYTES => k_is)
    (case ct_STAMP_BYTES => k_is)
    (case ct_HIGHEST => k_is)
    (case ct_ROOM => k_is)
    (case ct_POST => k_is)
    (case ct_SEEN => k_is)
    (case ct_HEAD_BYTES => k_is)
    (case ct_SEEN_LETTER_BYTES => k_is)
    (case ct_POST_LETTER_BYTES => k_is)
    (case ct_BAD_ARGUMENTS => k_is)
    (case ct_BAD_BYTES => k_is)
    (case ct_NOTHING_TO_SHOW => k_is)
    (case ct_NO_MORE => k_is)
    (case ct_TOO_LONG => k_is)
    (case ct_LONGEST_LETTER => k_is)
    (case ct_HEAD_ZEROS => k_is)
    (case ct_SAVED_POST_BYTES => k_is)
    (case ct_OBJECTS => k_is)
    (case ct_PO_BEGIN => k_is)
    (case ct_PO_SAVE => k_is)
    (case ct_PO_LOAD => k_is)
    (case ct_PO_POST => k_is)
    (case ct_PO_RECEIVE => k_is)
    (case ct_PO_NEXT => k_is)
    (case ct_PO_AGAIN => k_is)
    (case ct_PO_TELL => k_is)
    (case ct_PO_SEEN => k_is)
    (case mk_new_Post => k_is)
    (case ai_new_Post => k_is)
    (case ii_new_Post => k_is)
    (case kc_new_Post => k_is)
    (case l_new_Post => k_is)
    (case c_new_Post => k_is)
    (case k_new_Post => k_is)
    (case a_padded_text => k_is)
    (case l_padded_text => k_is)
    (case c_padded_text => k_is)
    (case k_padded_text => k_is)
    (case a_is_padded_text => k_is)
    (case l_is_padded_text => k_is)
    (case c_is_padded_text => k_is)
    (case k_is_padded_text => k_is)
    (case a_counts_of => k_is)
    (case l_counts_of => k_is)
    (case c_counts_of => k_is)
    (case k_counts_of => k_is)
    (case a_empty_stamp => k_is)
    (case l_empty_stamp => k_is)
    (case c_empty_stamp => k_is)
    (case k_empty_stamp => k_is)
    (case a_bytes_of_number => k_is)
    (case l_bytes_of_number => k_is)
    (case c_bytes_of_number => k_is)
    (case k_bytes_of_number => k_is)
    (case a_number_of_bytes => k_is)
    (case l_number_of_bytes => k_is)
    (case c_number_of_bytes => k_is)
    (case k_number_of_bytes => k_is)
    (case a_bytes_of_stamp => k_is)
    (case l_bytes_of_stamp => k_is)
    (case c_bytes_of_stamp => k_is)
    (case k_bytes_of_stamp => k_is)
    (case a_stamp_of_bytes => k_is)
    (case l_stamp_of_bytes => k_is)
    (case c_stamp_of_bytes => k_is)
    (case k_stamp_of_bytes => k_is)
    (case a_is_stamp => k_is)
    (case l_is_stamp => k_is)
    (case c_is_stamp => k_is)
    (case k_is_stamp => k_is)
    (case mk_new_Node => k_is)
    (case ai_new_Node => k_is)
    (case ii_new_Node => k_is)
    (case kc_new_Node => k_is)
    (case l_new_Node => k_is)
    (case c_new_Node => k_is)
    (case k_new_Node => k_is)
    (case a_may_be_node => k_is)
    (case l_may_be_node => k_is)
    (case c_may_be_node => k_is)
    (case k_may_be_node => k_is)
    (case a_is_other => k_is)
    (case l_is_other => k_is)
    (case c_is_other => k_is)
    (case k_is_other => k_is)
    (case a_others_of => k_is)
    (case l_others_of => k_is)
    (case c_others_of => k_is)
    (case k_others_of => k_is)
    (case a_post_letter => k_is)
    (case l_post_letter => k_is)
    (case c_post_letter => k_is)
    (case k_post_letter => k_is)
    (case a_seen_letter => k_is)
    (case l_seen_letter => k_is)
    (case c_seen_letter => k_is)
    (case k_seen_letter => k_is)
    (case a_is_seen => k_is)
    (case l_is_seen => k_is)
    (case c_is_seen => k_is)
    (case k_is_seen => k_is)
    (case a_sender_of => k_is)
    (case l_sender_of => k_is)
    (case c_sender_of => k_is)
    (case k_sender_of => k_is)
    (case a_stamp_in => k_is)
    (case l_stamp_in => k_is)
    (case c_stamp_in => k_is)
    (case k_stamp_in => k_is)
    (case a_padded_text_in => k_is)
    (case l_padded_text_in => k_is)
    (case c_padded_text_in => k_is)
    (case k_padded_text_in => k_is)
    (case a_post_in => k_is)
    (case l_post_in => k_is)
    (case c_post_in => k_is)
    (case k_post_in => k_is)
    (case a_is_from_another => k_is)
    (case l_is_from_another => k_is)
    (case c_is_from_another => k_is)
    (case k_is_from_another => k_is)
    (case a_is_right_post => k_is)
    (case l_is_right_post => k_is)
    (case c_is_right_post => k_is)
    (case k_is_right_post => k_is)
    (case a_is_right_seen => k_is)
    (case l_is_right_seen => k_is)
    (case c_is_right_seen => k_is)
    (case k_is_right_seen => k_is)
    (case a_is_right => k_is)
    (case l_is_right => k_is)
    (case c_is_right => k_is)
    (case k_is_right => k_is)
    (case a_write_post => k_is)
    (case l_write_post => k_is)
    (case c_write_post => k_is)
    (case k_write_post => k_is)
    (case a_tell_seen => k_is)
    (case l_tell_seen => k_is)
    (case c_tell_seen => k_is)
    (case k_tell_seen => k_is)
    (case a_let_wait => k_is)
    (case l_let_wait => k_is)
    (case c_let_wait => k_is)
    (case k_let_wait => k_is)
    (case a_take_post => k_is)
    (case l_take_post => k_is)
    (case c_take_post => k_is)
    (case k_take_post => k_is)
    (case a_learn => k_is)
    (case l_learn => k_is)
    (case c_learn => k_is)
    (case k_learn => k_is)
    (case a_take_letter => k_is)
    (case l_take_letter => k_is)
    (case c_take_letter => k_is)
    (case k_take_letter => k_is)
    (case a_may_be_shown => k_is)
    (case l_may_be_shown => k_is)
    (case c_may_be_shown => k_is)
    (case k_may_be_shown => k_is)
    (case a_next_author => k_is)
    (case l_next_author => k_is)
    (case c_next_author => k_is)
    (case k_next_author => k_is)
    (case a_show_next => k_is)
    (case l_show_next => k_is)
    (case c_show_next => k_is)
    (case k_show_next => k_is)
    (case a_send_again => k_is)
    (case l_send_again => k_is)
    (case c_send_again => k_is)
    (case k_send_again => k_is)
    (case a_tell => k_is)
    (case l_tell => k_is)
    (case c_tell => k_is)
    (case k_tell => k_is)
    (case mk_new_Reader => k_is)
    (case ai_new_Reader => k_is)
    (case ii_new_Reader => k_is)
    (case kc_new_Reader => k_is)
    (case l_new_Reader => k_is)
    (case c_new_Reader => k_is)
    (case k_new_Reader => k_is)
    (case a_m_is_done => k_is)
    (case i_m_is_done => k_is)
    (case l_m_is_done => k_is)
    (case c_m_is_done => k_is)
    (case k_m_is_done => k_is)
    (case a_m_take_one => k_is)
    (case i_m_take_one => k_is)
    (case l_m_take_one => k_is)
    (case c_m_take_one => k_is)
    (case k_m_take_one => k_is)
    (case a_m_take_some => k_is)
    (case i_m_take_some => k_is)
    (case l_m_take_some => k_is)
    (case c_m_take_some => k_is)
    (case k_m_take_some => k_is)
    (case a_m_take_row => k_is)
    (case i_m_take_row => k_is)
    (case l_m_take_row => k_is)
    (case c_m_take_row => k_is)
    (case k_m_take_row => k_is)
    (case a_bytes_of_posts => k_is)
    (case l_bytes_of_posts => k_is)
    (case c_bytes_of_posts => k_is)
    (case k_bytes_of_posts => k_is)
    (case a_bytes_of_node => k_is)
    (case l_bytes_of_node => k_is)
    (case c_bytes_of_node => k_is)
    (case k_bytes_of_node => k_is)
    (case a_read_post => k_is)
    (case l_read_post => k_is)
    (case c_read_post => k_is)
    (case k_read_post => k_is)
    (case a_read_posts => k_is)
    (case l_read_posts => k_is)
    (case c_read_posts => k_is)
    (case k_read_posts => k_is)
    (case a_is_known_so => k_is)
    (case l_is_known_so => k_is)
    (case c_is_known_so => k_is)
    (case k_is_known_so => k_is)
    (case a_is_mine_so => k_is)
    (case l_is_mine_so => k_is)
    (case c_is_mine_so => k_is)
    (case k_is_mine_so => k_is)
    (case a_is_waiting_so => k_is)
    (case l_is_waiting_so => k_is)
    (case c_is_waiting_so => k_is)
    (case k_is_waiting_so => k_is)
    (case a_node_of_bytes => k_is)
    (case l_node_of_bytes => k_is)
    (case c_node_of_bytes => k_is)
    (case k_node_of_bytes => k_is)
    (case a_begin => k_is)
    (case l_begin => k_is)
    (case c_begin => k_is)
    (case k_begin => k_is)
    (case a_load => k_is)
    (case l_load => k_is)
    (case c_load => k_is)
    (case k_load => k_is)
    (case a_next_answer => k_is)
    (case l_next_answer => k_is)
    (case c_next_answer => k_is)
    (case k_next_answer => k_is)
    (case a_answers => k_is)
    (case l_answers => k_is)
    (case c_answers => k_is)
    (case k_answers => k_is)
  case S =>
    intro K H xs a hO hwi hask hx
    cases hx with
    | cons h1 h2 =>
      cases h2
      cases h1 with
      | lst hs ha =>
        have e := L2.ints_dw a.1 _ ha
        subst e
        exact ⟨_, a.1, rfl, Po.scr_of hO hs, hask, fun H' p hp => .lst (L2.SqL.of hp) (L2.dw_ints _)⟩
#print axioms PySem.Challenge.cw_postorder_s01_answers_holds

