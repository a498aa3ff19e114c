import PyProof.Rows.All
import Wide.All
import OpenK.AllK
import Wide.FinOn
import Open.SpecLaws
import KE.OsGo
import KE.KDictZip
import KE.KItemsList
import HandS.ForSpec
import HandS.Comp
import HandS.Iter
import HandS.Walk
import HandS.Codes
import HandS.Flt
import HandS.Dict
import HandS.DictSub
import HandS.Words
import HandS.Style
import HandS.ListItems
import PySem.Challenge.RW_brushway_s01_answers
set_option Elab.async false
set_option linter.all false
set_option maxRecDepth 100000
set_option maxHeartbeats 2000000
namespace Bw
open Ie08
/-! rounding, ways -/
theorem near_int (t b : Nat) (hb : 0 < b) : (2 * (t : Int) + (b : Int) - 1) / (2 * (b : Int)) = ((near t b : Nat) : Int) := by
  unfold near
  have h : ((2 * t + b - 1 : Nat) : Int) = 2 * (t : Int) + (b : Int) - 1 := by omega
  rw [← h]
  push_cast
  rfl
theorem near_le (i g n : Nat) (hn : 0 < n) (hi : i ≤ n) : near (i * g) n ≤ g := by
  unfold near
  have h1 : i * g ≤ n * g := Nat.mul_le_mul_right g hi
  have h2 : (2 * (i * g) + n - 1) < (g + 1) * (2 * n) := by
    have : (g + 1) * (2 * n) = 2 * (n * g) + 2 * n := by
      rw [Nat.add_mul, Nat.one_mul, Nat.mul_comm g, Nat.mul_assoc]
    omega
  exact Nat.le_of_lt_succ ((Nat.div_lt_iff_lt_mul (by omega)).mpr h2)
theorem between_eq (a b n i : Nat) : between a b n i = if a ≤ b then a + near (i * (b - a)) n else a - near (i * (a - b)) n := by
  unfold between near
  simp only [Nat.mul_assoc]
/-- place_behind -/
theorem gap_abs (a b : Nat) : (if (b : Int) - (a : Int) < 0 then -((b : Int) - (a : Int)) else (b : Int) - (a : Int)) = ((gap a b : Nat) : Int) := by
  unfold gap
  split <;> omega
theorem place_up (a b n i : Nat) (h : a < b) : (a : Int) + ((near (i * gap a b) n : Nat) : Int) = ((between a b n i : Nat) : Int) := by
  rw [between_eq, if_pos (Nat.le_of_lt h)]
  have : gap a b = b - a := by unfold gap; omega
  rw [this]
  push_cast
  rfl
theorem near_zero (n : Nat) : near 0 n = 0 := by
  unfold near
  rcases Nat.eq_zero_or_pos n with h | h
  · subst h; rfl
  · exact Nat.div_eq_of_lt (by omega)
theorem place_down (a b n i : Nat) (hn : 0 < n) (hi : i ≤ n) (h : ¬ a < b) : (a : Int) - ((near (i * gap a b) n : Nat) : Int) = ((between a b n i : Nat) : Int) := by
  rw [between_eq]
  have e : gap a b = a - b := by unfold gap; omega
  rw [e]
  by_cases c : a ≤ b
  · have : a = b := by omega
    subst this
    simp [near_zero]
  · rw [if_neg c]
    have := near_le i (a - b) n hn hi
    omega
theorem between_lt (a b n i w : Nat) (hn : 0 < n) (hi : i ≤ n) (ha : a < w) (hb : b < w) : between a b n i < w := by
  rw [between_eq]
  split
  · have := near_le i (b - a) n hn hi
    omega
  · omega
theorem way_length (p q : Cell) : (way p q).length = max (gap p.1 q.1) (gap p.2 q.2) := by
  simp [way]
theorem way_get (p q : Cell) (i : Nat) (h : i < max (gap p.1 q.1) (gap p.2 q.2)) : (way p q)[i]? = some (between p.1 q.1 (max (gap p.1 q.1) (gap p.2 q.2)) (i + 1), between p.2 q.2 (max (gap p.1 q.1) (gap p.2 q.2)) (i + 1)) := by
  simp [way, h]
theorem way_in (p q : Cell) (w h : Nat) (hp : p.1 < w ∧ p.2 < h) (hq : q.1 < w ∧ q.2 < h) (c : Cell) (m : c ∈ way p q) : c.1 < w ∧ c.2 < h := by
  simp only [way, List.mem_map, List.mem_range] at m
  obtain ⟨i, hi, rfl⟩ := m
  exact ⟨between_lt _ _ _ _ _ (by omega) hi hp.1 hq.1, between_lt _ _ _ _ _ (by omega) hi hp.2 hq.2⟩
/-! the brush -/
structure BrushOk (k : Brush) : Prop where
  fn : k.full < k.none_
  n1 : k.none_ ≤ 1000
  s0 : 1 ≤ k.space
  s1 : k.space ≤ 100
  fl : k.flow ≤ 255
  op : k.opacity ≤ 255
  to : k.tone ≤ 255
  mi : k.mirror ≤ 3
def before (k : Brush) (d : Nat) : Nat := if d ≤ k.full then 255 else if k.none_ ≤ d then 0 else 255 * (k.none_ - d) / (k.none_ - k.full)
theorem at_eq (k : Brush) (d : Nat) : k.at_ d = before k d * k.flow / 255 := rfl
theorem before_le (k : Brush) (d : Nat) : before k d ≤ 255 := by
  unfold before
  split
  · omega
  · split
    · omega
    · rename_i h1 h2
      have : 255 * (k.none_ - d) ≤ 255 * (k.none_ - k.full) := Nat.mul_le_mul_left _ (by omega)
      exact Nat.div_le_of_le_mul (by rw [Nat.mul_comm (k.none_ - k.full)]; exact this)
theorem at_le {k : Brush} (h : k.flow ≤ 255) (d : Nat) : k.at_ d ≤ 255 := by
  rw [at_eq]
  have h1 := Nat.mul_le_mul (before_le k d) h
  exact Nat.div_le_of_le_mul h1
theorem before_int (k : Brush) (d : Nat) (h1 : ¬ d ≤ k.full) (h2 : ¬ k.none_ ≤ d) : 255 * ((k.none_ : Int) - (d : Int)) / ((k.none_ : Int) - (k.full : Int)) = ((before k d : Nat) : Int) := by
  unfold before
  rw [if_neg h1, if_neg h2]
  have e1 : ((k.none_ - d : Nat) : Int) = (k.none_ : Int) - (d : Int) := by omega
  have e2 : ((k.none_ - k.full : Nat) : Int) = (k.none_ : Int) - (k.full : Int) := by omega
  rw [← e1, ← e2, Int.natCast_ediv, Int.natCast_mul]
  rfl
theorem put_le (b : Bool) {o n : Nat} (ho : o ≤ 255) (hn : n ≤ 255) : put b o n ≤ 255 := by
  unfold put
  split
  · have : (255 - o) * n / 255 ≤ 255 - o := by
      refine Nat.div_le_of_le_mul ?_
      rw [Nat.mul_comm 255]
      exact Nat.mul_le_mul_left _ hn
    omega
  · omega
theorem put_int (o n : Nat) (ho : o ≤ 255) : (o : Int) + (255 - (o : Int)) * (n : Int) / 255 = ((put true o n : Nat) : Int) := by
  unfold put
  rw [if_pos rfl]
  have e1 : ((255 - o : Nat) : Int) = 255 - (o : Int) := by omega
  rw [← e1, Int.natCast_add, Int.natCast_ediv, Int.natCast_mul]
  rfl
/-! distances -/
theorem gap_sq (a b : Nat) : ((a : Int) - (b : Int)) ^ 2 = ((gap b a * gap b a : Nat) : Int) := by
  have h : (a : Int) - (b : Int) = ((gap b a : Nat) : Int) ∨ (a : Int) - (b : Int) = -((gap b a : Nat) : Int) := by
    unfold gap
    omega
  have e : ∀ z : Int, z ^ 2 = z * z := fun z => by rw [Int.pow_succ, Int.pow_succ, Int.pow_zero, Int.one_mul]
  rw [e]
  rcases h with h | h <;> rw [h]
  · push_cast; rfl
  · rw [Int.neg_mul_neg]; push_cast; rfl
/-! mirror images -/
def sidesN (a size : Nat) (mir : Bool) : List Nat := if mir = true ∧ size - 1 - a ≠ a then [a, size - 1 - a] else [a]
def imgs (w h m : Nat) (c : Cell) : List Cell := (sidesN c.2 h (m == 2 || m == 3)).flatMap fun r => (sidesN c.1 w (m == 1 || m == 3)).map fun k => (k, r)
theorem images_eq (w h m : Nat) (c : Cell) (hm : m ≤ 3) : images w h m c = imgs w h m c := by
  obtain ⟨x, y⟩ := c
  have h4 : m = 0 ∨ m = 1 ∨ m = 2 ∨ m = 3 := by omega
  rcases h4 with rfl | rfl | rfl | rfl
  · simp [images, imgs, sidesN, List.eraseDups_cons]
  · by_cases e1 : w - 1 - x = x <;> simp [images, imgs, sidesN, List.eraseDups_cons, e1]
  · by_cases e1 : h - 1 - y = y <;> simp [images, imgs, sidesN, List.eraseDups_cons, e1]
  · by_cases e1 : w - 1 - x = x <;> by_cases e2 : h - 1 - y = y <;> simp [images, imgs, sidesN, List.eraseDups_cons, e1, e2]
theorem sides_in {a size : Nat} {b : Bool} (h : a < size) : ∀ x ∈ sidesN a size b, x < size := by
  intro x hx
  unfold sidesN at hx
  split at hx
  · simp at hx; omega
  · simp at hx; omega
theorem imgs_in {w h m : Nat} {c : Cell} (h1 : c.1 < w) (h2 : c.2 < h) : ∀ q ∈ imgs w h m c, q.1 < w ∧ q.2 < h := by
  intro q hq
  simp only [imgs, List.mem_flatMap, List.mem_map] at hq
  obtain ⟨r, hr, k, hk, rfl⟩ := hq
  exact ⟨sides_in h1 k hk, sides_in h2 r hr⟩
theorem imgs_len (w h m : Nat) (c : Cell) : (imgs w h m c).length ≤ 4 := by
  unfold imgs sidesN
  split <;> split <;> simp
/-! masks -/
theorem stamp1_len (k : Brush) (w : Nat) (m : Mask) (c : Cell) : (stamp1 k w m c).length = m.length := by
  simp [stamp1]
theorem stamp1_le {k : Brush} (hk : k.flow ≤ 255) (w : Nat) {m : Mask} (c : Cell) (hm : ∀ x ∈ m, x ≤ 255) : ∀ x ∈ stamp1 k w m c, x ≤ 255 := by
  intro x hx
  simp only [stamp1, List.mem_map] at hx
  obtain ⟨q, hq, rfl⟩ := hx
  refine put_le _ (hm _ ?_) (at_le hk _)
  obtain ⟨a, i⟩ := q
  obtain ⟨j, e, rfl⟩ := List.mem_zipIdx_iff_getElem?.mp hq |> fun e => (⟨i, e, rfl⟩ : ∃ j, m[j]? = some a ∧ j = i)
  exact List.mem_of_getElem? e
theorem stampF_len (k : Brush) (w : Nat) : ∀ (l : List Cell) (m : Mask), (l.foldl (stamp1 k w) m).length = m.length
  | [], _ => rfl
  | c :: l, m => by rw [List.foldl_cons, stampF_len k w l, stamp1_len]
theorem stampF_le {k : Brush} (hk : k.flow ≤ 255) (w : Nat) : ∀ (l : List Cell) (m : Mask), (∀ x ∈ m, x ≤ 255) → ∀ x ∈ l.foldl (stamp1 k w) m, x ≤ 255
  | [], _, h => h
  | c :: l, m, h => by rw [List.foldl_cons]; exact stampF_le hk w l _ (stamp1_le hk w c h)
theorem stamp_len (k : Brush) (w h : Nat) (m : Mask) (c : Cell) : (stamp k w h m c).length = m.length := stampF_len k w _ m
theorem stamp_le {k : Brush} (hk : k.flow ≤ 255) (w h : Nat) {m : Mask} (c : Cell) (hm : ∀ x ∈ m, x ≤ 255) : ∀ x ∈ stamp k w h m c, x ≤ 255 := stampF_le hk w _ m hm
/-- one cell behind one image -/
def got1 (k : Brush) (w : Nat) (m i : Nat) (c : Cell) : Nat := put k.build m (k.at_ (far c (i % w, i / w)))
theorem stamp1_get (k : Brush) (w : Nat) (m : Mask) (c : Cell) : stamp1 k w m c = m.zipIdx.map fun q => got1 k w q.1 q.2 c := rfl
theorem stamp1_at {k : Brush} {w : Nat} {m : Mask} {c : Cell} {i x : Nat} (h : m[i]? = some x) : (stamp1 k w m c)[i]? = some (got1 k w x i c) := by
  rw [stamp1_get, List.getElem?_map, List.getElem?_zipIdx, h]
  simp
/-- so far is at most 242 -/
theorem far_le {w h x y i : Nat} (hx : x < w) (hy : y < h) (hw : w ≤ 12) (hh : h ≤ 12) (hi : i < w * h) : far (x, y) (i % w, i / w) ≤ 242 := by
  have h1 : i % w < w := Nat.mod_lt _ (by omega)
  have h2 : i / w < h := (Nat.div_lt_iff_lt_mul (by omega)).mpr (by rw [Nat.mul_comm]; exact hi)
  generalize i % w = a at *
  generalize i / w = b at *
  have g1 : gap x a ≤ 11 := by unfold gap; omega
  have g2 : gap y b ≤ 11 := by unfold gap; omega
  have a1 := Nat.mul_le_mul g1 g1
  have a2 := Nat.mul_le_mul g2 g2
  show gap x a * gap x a + gap y b * gap y b ≤ 242
  omega
theorem far_int (x y a b : Nat) : ((a : Int) - (x : Int)) ^ 2 + ((b : Int) - (y : Int)) ^ 2 = ((far (x, y) (a, b) : Nat) : Int) := by
  rw [gap_sq, gap_sq]
  show _ = ((gap x a * gap x a + gap y b * gap y b : Nat) : Int)
  omega
/-! shown -/
theorem toned_up (v t m o : Nat) (h : v < t) : (v : Int) + ((near (gap v t * m * o) 65025 : Nat) : Int) = ((toned v t (m * o) : Nat) : Int) := by
  unfold toned
  rw [if_pos (Nat.le_of_lt h)]
  have : gap v t = t - v := by unfold gap; omega
  rw [this, Nat.mul_assoc]
  omega
theorem near_tone {g m o : Nat} (hm : m ≤ 255) (ho : o ≤ 255) : near (g * (m * o)) 65025 ≤ g := by
  have h : m * o ≤ 65025 := Nat.mul_le_mul hm ho
  rw [Nat.mul_comm]
  exact near_le (m * o) g 65025 (by decide) h
theorem toned_down (v t m o : Nat) (hm : m ≤ 255) (ho : o ≤ 255) (h : ¬ v < t) : (v : Int) - ((near (gap v t * m * o) 65025 : Nat) : Int) = ((toned v t (m * o) : Nat) : Int) := by
  have e : gap v t = v - t := by unfold gap; omega
  rw [e, Nat.mul_assoc]
  have q := near_tone (g := v - t) hm ho
  unfold toned
  by_cases c : v ≤ t
  · have : v = t := by omega
    subst this
    rw [if_pos c, Nat.sub_self, Nat.zero_mul, near_zero]
    omega
  · rw [if_neg c]
    omega
theorem toned_le {v t m o : Nat} (hv : v ≤ 255) (ht : t ≤ 255) (hm : m ≤ 255) (ho : o ≤ 255) : toned v t (m * o) ≤ 255 := by
  unfold toned
  split
  · have q := near_tone (g := t - v) hm ho
    omega
  · omega
/-! strokes -/
structure StrokeOk (w h : Nat) (s : Stroke) : Prop where
  bo : BrushOk s.brush
  hx : s.at_.1 < w
  hy : s.at_.2 < h
  hw : w ≤ 12
  hh : h ≤ 12
  ml : s.mask.length = w * h
  m8 : ∀ x ∈ s.mask, x ≤ 255
theorem area_le {w h : Nat} (hw : w ≤ 12) (hh : h ≤ 12) : w * h ≤ 144 := Nat.mul_le_mul hw hh
theorem on1_ok {w h : Nat} {s : Stroke} {c : Cell} (ok : StrokeOk w h s) (hc : c.1 < w ∧ c.2 < h) : StrokeOk w h (on1 w h s c) := by
  unfold on1
  dsimp only
  split
  · exact ⟨ok.bo, hc.1, hc.2, ok.hw, ok.hh, (stamp_len _ _ _ _ _).trans ok.ml, stamp_le ok.bo.fl w h c ok.m8⟩
  · exact ⟨ok.bo, hc.1, hc.2, ok.hw, ok.hh, ok.ml, ok.m8⟩
theorem on1_len {w h : Nat} {s : Stroke} {c : Cell} : (on1 w h s c).stamps.length ≤ s.stamps.length + 1 := by
  unfold on1
  dsimp only
  split
  · show (s.stamps ++ [c]).length ≤ _
    rw [List.length_append]
    exact Nat.le_refl _
  · exact Nat.le_succ _
theorem way_short {p q : Cell} {w h : Nat} (hp : p.1 < w ∧ p.2 < h) (hq : q.1 < w ∧ q.2 < h) (hw : w ≤ 12) (hh : h ≤ 12) : (way p q).length ≤ 11 := by
  rw [way_length]
  unfold gap
  omega
theorem onF {w h : Nat} : ∀ (cs : List Cell) (s : Stroke), StrokeOk w h s → (∀ c ∈ cs, c.1 < w ∧ c.2 < h) → StrokeOk w h (cs.foldl (on1 w h) s) ∧ (cs.foldl (on1 w h) s).stamps.length ≤ s.stamps.length + cs.length
  | [], s, ok, _ => ⟨ok, Nat.le_refl _⟩
  | c :: cs, s, ok, hc => by
    rw [List.foldl_cons]
    have h1 := onF cs (on1 w h s c) (on1_ok ok (hc c List.mem_cons_self)) fun d hd => hc d (List.mem_cons_of_mem _ hd)
    have h2 := on1_len (w := w) (h := h) (s := s) (c := c)
    refine ⟨h1.1, ?_⟩
    rw [List.length_cons]
    omega
theorem on_ok {w h : Nat} {s : Stroke} {c : Cell} (ok : StrokeOk w h s) (hc : c.1 < w ∧ c.2 < h) : StrokeOk w h (on w h s c) ∧ (on w h s c).stamps.length ≤ s.stamps.length + 11 := by
  have h1 := onF (way s.at_ c) s ok (way_in s.at_ c w h ⟨ok.hx, ok.hy⟩ hc)
  have h2 := way_short ⟨ok.hx, ok.hy⟩ hc ok.hw ok.hh
  exact ⟨h1.1, Nat.le_trans h1.2 (Nat.add_le_add_left h2 _)⟩
theorem onsF {w h : Nat} : ∀ (cs : List Cell) (s : Stroke), StrokeOk w h s → (∀ c ∈ cs, c.1 < w ∧ c.2 < h) → StrokeOk w h (cs.foldl (on w h) s) ∧ (cs.foldl (on w h) s).stamps.length ≤ s.stamps.length + 11 * cs.length
  | [], s, ok, _ => ⟨ok, Nat.le_refl _⟩
  | c :: cs, s, ok, hc => by
    rw [List.foldl_cons]
    have h2 := on_ok ok (hc c List.mem_cons_self)
    have h1 := onsF cs (on w h s c) h2.1 fun d hd => hc d (List.mem_cons_of_mem _ hd)
    refine ⟨h1.1, ?_⟩
    rw [List.length_cons]
    omega
theorem born_ok {k : Brush} {w h : Nat} {c : Cell} (bo : BrushOk k) (hc : c.1 < w ∧ c.2 < h) (hw : w ≤ 12) (hh : h ≤ 12) : StrokeOk w h ⟨k, c, 0, stamp k w h (List.replicate (w * h) 0) c, [c]⟩ :=
  ⟨bo, hc.1, hc.2, hw, hh, (stamp_len _ _ _ _ _).trans List.length_replicate, stamp_le bo.fl w h c fun x hx => by rw [List.mem_replicate] at hx; omega⟩
/-! pages -/
structure StOk (n : Nat) (s : St) : Prop where
  w1 : 1 ≤ s.w
  w2 : s.w ≤ 12
  h1 : 1 ≤ s.h
  h2 : s.h ≤ 12
  cl : s.cells.length = s.w * s.h
  c8 : ∀ x ∈ s.cells, x ≤ 255
  bo : BrushOk s.brush
  so : ∀ t, s.stroke = some t → StrokeOk s.w s.h t ∧ t.stamps.length ≤ 11 * n + 1
  ol : s.old.length ≤ 8
  oc : ∀ o ∈ s.old, o.length = s.w * s.h ∧ ∀ x ∈ o, x ≤ 255
theorem shown_len {cs : List Nat} {t : Stroke} {w h : Nat} (ok : StrokeOk w h t) (hl : cs.length = w * h) : (shown cs t).length = w * h := by
  unfold shown
  rw [List.length_map, List.length_zip, ok.ml, hl, Nat.min_self]
theorem shown_le {cs : List Nat} {t : Stroke} {w h : Nat} (ok : StrokeOk w h t) (hc : ∀ x ∈ cs, x ≤ 255) : ∀ x ∈ shown cs t, x ≤ 255 := by
  intro x hx
  unfold shown at hx
  rw [List.mem_map] at hx
  obtain ⟨q, hq, rfl⟩ := hx
  obtain ⟨v, m⟩ := q
  have z := List.of_mem_zip hq
  exact toned_le (hc v z.1) ok.bo.to (ok.m8 m z.2) ok.bo.op
theorem init_ok : StOk 0 init := ⟨by decide, by decide, by decide, by decide, rfl, by decide, ⟨by decide, by decide, by decide, by decide, by decide, by decide, by decide, by decide⟩, (fun t e => nomatch e), by decide, fun o h => absurd h List.not_mem_nil⟩
theorem StOk.up {n m : Nat} {s : St} (ok : StOk n s) (h : n ≤ m) : StOk m s := ⟨ok.w1, ok.w2, ok.h1, ok.h2, ok.cl, ok.c8, ok.bo, fun t e => ⟨(ok.so t e).1, Nat.le_trans (ok.so t e).2 (by omega)⟩, ok.ol, ok.oc⟩
theorem lifted_ok {n : Nat} {s : St} {t : Stroke} (ok : StOk n s) (so : StrokeOk s.w s.h t) : StOk (n + 1) (lifted s t) := by
  refine ⟨ok.w1, ok.w2, ok.h1, ok.h2, shown_len so ok.cl, shown_le so ok.c8, ok.bo, (fun t e => nomatch e), ?_, ?_⟩
  · show ((s.cells :: s.old).take 8).length ≤ 8
    rw [List.length_take]
    omega
  · intro o ho
    have ho : o ∈ (s.cells :: s.old).take 8 := ho
    rcases List.mem_cons.mp (List.mem_of_mem_take ho) with rfl | ho
    · exact ⟨ok.cl, ok.c8⟩
    · exact ok.oc o ho
theorem has_iff {s : St} {c : Cell} : s.has c = true ↔ c.1 < s.w ∧ c.2 < s.h := by
  unfold St.has
  rw [Bool.and_eq_true, decide_eq_true_eq, decide_eq_true_eq]
theorem step_ok {n : Nat} {s : St} (ok : StOk n s) (c : Call) : StOk (n + 1) (step s c).1 := by
  have keep : StOk (n + 1) s := ok.up (Nat.le_succ n)
  cases c with
  | page w h v =>
    unfold step
    dsimp only
    split
    · exact keep
    · split
      · exact keep
      · rename_i a b
        refine ⟨?_, ?_, ?_, ?_, List.length_replicate, ?_, ok.bo, (fun t e => nomatch e), Nat.zero_le _, fun o h => absurd h List.not_mem_nil⟩
        · show 1 ≤ w
          omega
        · show w ≤ 12
          omega
        · show 1 ≤ h
          omega
        · show h ≤ 12
          omega
        · intro x hx
          have hx : x ∈ List.replicate (w * h) v := hx
          rw [List.mem_replicate] at hx
          omega
  | brush f z sp fl op tone b m =>
    unfold step
    dsimp only
    split
    · exact keep
    · rename_i a
      refine ⟨ok.w1, ok.w2, ok.h1, ok.h2, ok.cl, ok.c8, ⟨?_, ?_, ?_, ?_, ?_, ?_, ?_, ?_⟩, keep.so, ok.ol, ok.oc⟩ <;> dsimp only <;> omega
  | down x y =>
    unfold step
    dsimp only
    split
    · exact keep
    · split
      · exact keep
      · rename_i a b
        have hc := has_iff.mp (by simpa using b : s.has (x, y) = true)
        refine ⟨ok.w1, ok.w2, ok.h1, ok.h2, ok.cl, ok.c8, ok.bo, fun t e => ?_, ok.ol, ok.oc⟩
        cases e
        exact ⟨born_ok ok.bo hc ok.w2 ok.h2, by show 1 ≤ _; omega⟩
  | to x y =>
    unfold step
    dsimp only
    split
    · exact keep
    · rename_i t e
      split
      · exact keep
      · rename_i b
        have hc := has_iff.mp (by simpa using b : s.has (x, y) = true)
        have z := ok.so t e
        refine ⟨ok.w1, ok.w2, ok.h1, ok.h2, ok.cl, ok.c8, ok.bo, fun u eu => ?_, ok.ol, ok.oc⟩
        cases eu
        have y := on_ok z.1 hc
        exact ⟨y.1, by omega⟩
  | up =>
    unfold step
    dsimp only
    split
    · exact keep
    · rename_i t e
      exact lifted_ok ok (ok.so t e).1
  | cancel =>
    unfold step
    dsimp only
    split
    · exact keep
    · exact ⟨ok.w1, ok.w2, ok.h1, ok.h2, ok.cl, ok.c8, ok.bo, (fun t e => nomatch e), ok.ol, ok.oc⟩
  | draw l =>
    unfold step
    dsimp only
    split
    · exact keep
    · split
      · exact keep
      · exact keep
      · rename_i c r e
        split
        · exact keep
        · rename_i b
          have hb : (c :: r).all s.has = true := by simpa using b
          rw [List.all_eq_true] at hb
          have hc := has_iff.mp (hb c List.mem_cons_self)
          exact lifted_ok ok (onsF r _ (born_ok ok.bo hc ok.w2 ok.h2) fun d hd => has_iff.mp (hb d (List.mem_cons_of_mem _ hd))).1
  | undo =>
    unfold step
    dsimp only
    split
    · exact keep
    · split
      · exact keep
      · rename_i o r e
        have z := ok.oc
        have zl := ok.ol
        rw [e] at z zl
        exact ⟨ok.w1, ok.w2, ok.h1, ok.h2, (z o List.mem_cons_self).1, (z o List.mem_cons_self).2, ok.bo, keep.so, by rw [List.length_cons] at zl; show r.length ≤ 8; omega, fun q hq => z q (List.mem_cons_of_mem _ hq)⟩
  | cells => exact keep
  | mask => exact keep
  | stamps => exact keep
  | told => exact keep
end Bw
namespace Bw
open Ie08
/-! the list of numbers as the document's calls -/
def ns (l : List Nat) : List Int := l.map fun (n : Nat) => (n : Int)
/-- a call's own numbers -/
def nums : Call → List Nat
  | .page w h n => [0, w, h, n]
  | .brush f z s fl op t b m => [1, f, z, s, fl, op, t, b, m]
  | .down x y => [2, x, y]
  | .to x y => [3, x, y]
  | .up => [4]
  | .cancel => [5]
  | .draw l => 6 :: l
  | .undo => [7]
  | .cells => [8]
  | .mask => [9]
  | .stamps => [10]
  | .told => [11]
/-- a call as it stands in the list -/
def enc : Call → List Int
  | .draw l => 6 :: (l.length : Int) :: ns l
  | c => ns (nums c)
/-- what is handed in of a call -/
def Fits : Call → Prop
  | .draw l => l.length ≤ 400
  | _ => True
def run : St → List Call → List (List Int)
  | _, [] => []
  | s, c :: r => (step s c).2 :: run (step s c).1 r
def after : St → List Call → St
  | s, [] => s
  | s, c :: r => after (step s c).1 r
theorem calls_cons {sh : Int → Option (Nat × Nat)} {f : Nat} {p : Int} {r : List Int} {raw : List (List (List Int))} (h : PyFlat.calls sh f (p :: r) = some raw) :
    ∃ (g : Nat) (c : List (List Int)) (t : List Int) (raw' : List (List (List Int))), raw = c :: raw' ∧ PyFlat.call sh (p :: r) = some (c, t) ∧ PyFlat.calls sh g t = some raw' := by
  cases f with
  | zero => exact nomatch (show (none : Option (List (List (List Int)))) = some raw from h)
  | succ g =>
    unfold PyFlat.calls at h
    cases e : PyFlat.call sh (p :: r) with
    | none => rw [e] at h; exact nomatch h
    | some q =>
      obtain ⟨c, t⟩ := q
      rw [e] at h
      dsimp only at h
      cases e2 : PyFlat.calls sh g t with
      | none => rw [e2] at h; exact nomatch h
      | some raw' =>
        rw [e2] at h
        exact ⟨g, c, t, raw', (Option.some.inj h).symm, rfl, e2⟩
theorem call_plain {p : Int} {r : List Int} {k : Nat} {c : List (List Int)} {t : List Int} (hs : PyIe08.shape p = some (k, 0)) (h : PyFlat.call PyIe08.shape (p :: r) = some (c, t)) : ∃ xs : List Int, xs.length = k ∧ r = xs ++ t ∧ c = [p :: xs] := by
  unfold PyFlat.call at h
  dsimp only at h
  rw [hs] at h
  dsimp only at h
  by_cases hl : r.length < k
  · rw [if_pos hl] at h
    exact nomatch h
  · rw [if_neg hl] at h
    have e : (p :: r.take k, r.drop k) = (p :: r.take k, t) ∧ c = [p :: r.take k] := by
      have z := Option.some.inj h
      have z1 : [p :: r.take k] = c := congrArg Prod.fst z
      have z2 : r.drop k = t := congrArg Prod.snd z
      exact ⟨by rw [z2], z1.symm⟩
    refine ⟨r.take k, by rw [List.length_take]; omega, ?_, e.2⟩
    have z2 : r.drop k = t := congrArg Prod.snd e.1
    rw [← z2, List.take_append_drop]
theorem call_draw {r : List Int} {c : List (List Int)} {t : List Int} (h : PyFlat.call PyIe08.shape (6 :: r) = some (c, t)) : ∃ xs : List Int, r = (xs.length : Int) :: (xs ++ t) ∧ c = [[6], xs] := by
  have h : (if r.length < 0 then none else match PyFlat.rows 1 (r.drop 0) with | none => none | some (xs, t) => some ((6 :: r.take 0) :: xs, t)) = some (c, t) := h
  rw [if_neg (Nat.not_lt_zero _), List.drop_zero, List.take_zero] at h
  cases r with
  | nil => exact nomatch h
  | cons n r =>
    by_cases g : 0 ≤ n ∧ n.toNat ≤ r.length
    · have e : PyFlat.rows 1 (n :: r) = some ([r.take n.toNat], r.drop n.toNat) := by
        unfold PyFlat.rows PyFlat.row
        dsimp only
        rw [if_pos g]
        rfl
      rw [e] at h
      have z := Option.some.inj h
      have z1 : [[6], r.take n.toNat] = c := congrArg Prod.fst z
      have z2 : r.drop n.toNat = t := congrArg Prod.snd z
      refine ⟨r.take n.toNat, ?_, z1.symm⟩
      rw [← z2, List.take_append_drop, List.length_take, Nat.min_eq_left g.2]
      rw [Int.toNat_of_nonneg g.1]
    · have e : PyFlat.rows 1 (n :: r) = none := by
        unfold PyFlat.rows PyFlat.row
        dsimp only
        rw [if_neg g]
      rw [e] at h
      exact nomatch h
theorem ns_of {l : List Int} (h : l.all Ie08Neutral.nat = true) : ns (l.map Int.toNat) = l := by
  induction l with
  | nil => rfl
  | cons x l ih =>
    rw [List.all_cons, Bool.and_eq_true] at h
    have hx : 0 ≤ x := by
      have := h.1
      unfold Ie08Neutral.nat at this
      rw [Bool.and_eq_true, decide_eq_true_eq] at this
      exact this.1
    show ((x.toNat : Nat) : Int) :: ns (l.map Int.toNat) = x :: l
    rw [ih h.2, Int.toNat_of_nonneg hx]
theorem asked_in {l : List Int} (h : Ie08Neutral.asked1 l = true) : l.all Ie08Neutral.nat = true ∧ ∃ c, Ie08Neutral.callIn (l.map Int.toNat) = some c ∧ Ie08Neutral.callOf l = some c := by
  unfold Ie08Neutral.asked1 Ie08Neutral.callOf at h
  by_cases e : l.all Ie08Neutral.nat = false
  · rw [if_pos e] at h
    exact nomatch h
  · rw [if_neg e] at h
    have e' : l.all Ie08Neutral.nat = true := by simpa using e
    refine ⟨e', ?_⟩
    unfold Ie08Neutral.callOf
    rw [if_neg e]
    cases z : Ie08Neutral.callIn (l.map Int.toNat) with
    | none => rw [z] at h; exact nomatch h
    | some c => exact ⟨c, rfl, rfl⟩
/-- what callIn reads has just these numbers -/
theorem callIn_nums : ∀ {l : List Nat} {c : Call}, Ie08Neutral.callIn l = some c → l = nums c := by
  intro l c h
  unfold Ie08Neutral.callIn at h
  split at h <;> first | (cases h; rfl) | exact nomatch h
theorem toNat_nat (x : Int) (n : Nat) (h : 0 ≤ x) (e : x.toNat = n) : x = (n : Int) := by omega
/-- a call that is no draw: its numbers are what stands in the list -/
theorem one_plain {p : Int} {r : List Int} {k : Nat} {c : List (List Int)} {t : List Int} (hp : p ≠ 6) (hs : PyIe08.shape p = some (k, 0)) (h : PyFlat.call PyIe08.shape (p :: r) = some (c, t)) (hw : ∀ xs : List Int, xs.length = k → PyIe08.whole [p :: xs] = [p :: xs])
    (ha : Ie08Neutral.asked1 ((PyIe08.whole c).headD []) = true) : ∃ c', Fits c' ∧ p :: r = enc c' ++ t ∧ Ie08Neutral.callOf ((PyIe08.whole c).headD []) = some c' := by
  obtain ⟨xs, hl, rfl, rfl⟩ := call_plain hs h
  rw [hw xs hl] at ha ⊢
  have ha : Ie08Neutral.asked1 (p :: xs) = true := ha
  obtain ⟨h1, c', h2, h3⟩ := asked_in ha
  have e := callIn_nums h2
  have e2 := ns_of h1
  rw [e] at e2
  refine ⟨c', ?_, ?_, h3⟩
  · cases c' <;> first | trivial | skip
    have z : (6 : Int) = p := (List.cons.inj e2).1
    exact absurd z.symm hp
  · cases c' <;> first | (show p :: (xs ++ t) = ns (nums _) ++ t; rw [e2]; rfl) | skip
    have z : (6 : Int) = p := (List.cons.inj e2).1
    exact absurd z.symm hp
theorem one_draw {r : List Int} {c : List (List Int)} {t : List Int} (h : PyFlat.call PyIe08.shape (6 :: r) = some (c, t)) (hb : PyInside.call PyIe08.bound c = true)
    (ha : Ie08Neutral.asked1 ((PyIe08.whole c).headD []) = true) : ∃ c', Fits c' ∧ 6 :: r = enc c' ++ t ∧ Ie08Neutral.callOf ((PyIe08.whole c).headD []) = some c' := by
  obtain ⟨xs, rfl, rfl⟩ := call_draw h
  have ha : Ie08Neutral.asked1 (6 :: xs) = true := ha
  obtain ⟨h1, c', h2, h3⟩ := asked_in ha
  have e : Ie08Neutral.callIn ((6 :: xs).map Int.toNat) = some (.draw (xs.map Int.toNat)) := rfl
  have e2 : ns (xs.map Int.toNat) = xs := (List.cons.inj (ns_of h1)).2
  obtain rfl : c' = .draw (xs.map Int.toNat) := by
    rw [e] at h2
    exact (Option.some.inj h2).symm
  refine ⟨_, ?_, ?_, h3⟩
  · show (xs.map Int.toNat).length ≤ 400
    rw [List.length_map]
    have hb : (true && (decide (0 ≤ xs.length) && decide (xs.length ≤ 400) && xs.all (PyInside.within 0 4294967295) && true)) = true := hb
    simp only [Bool.and_eq_true, decide_eq_true_eq] at hb
    exact hb.2.1.1.2
  · show 6 :: (xs.length : Int) :: (xs ++ t) = 6 :: ((xs.map Int.toNat).length : Int) :: (ns (xs.map Int.toNat) ++ t)
    rw [e2, List.length_map]
theorem shape_in {p : Int} {q : Nat × Nat} (h : PyIe08.shape p = some q) : p = 0 ∨ p = 1 ∨ p = 2 ∨ p = 3 ∨ p = 4 ∨ p = 5 ∨ p = 6 ∨ p = 7 ∨ p = 8 ∨ p = 9 ∨ p = 10 ∨ p = 11 := by
  unfold PyIe08.shape at h
  by_cases a0 : p = 0
  · omega
  rw [if_neg a0] at h
  by_cases a1 : p = 1
  · omega
  rw [if_neg a1] at h
  by_cases a2 : p = 2
  · omega
  rw [if_neg a2] at h
  by_cases a3 : p = 3
  · omega
  rw [if_neg a3] at h
  by_cases a4 : p = 4
  · omega
  rw [if_neg a4] at h
  by_cases a5 : p = 5
  · omega
  rw [if_neg a5] at h
  by_cases a6 : p = 6
  · omega
  rw [if_neg a6] at h
  by_cases a7 : p = 7
  · omega
  rw [if_neg a7] at h
  by_cases a8 : p = 8
  · omega
  rw [if_neg a8] at h
  by_cases a9 : p = 9
  · omega
  rw [if_neg a9] at h
  by_cases a10 : p = 10
  · omega
  rw [if_neg a10] at h
  by_cases a11 : p = 11
  · omega
  rw [if_neg a11] at h
  exact nomatch h
theorem one {p : Int} {r : List Int} {c : List (List Int)} {t : List Int} (h : PyFlat.call PyIe08.shape (p :: r) = some (c, t)) (hb : PyInside.call PyIe08.bound c = true)
    (ha : Ie08Neutral.asked1 ((PyIe08.whole c).headD []) = true) : ∃ c', Fits c' ∧ p :: r = enc c' ++ t ∧ Ie08Neutral.callOf ((PyIe08.whole c).headD []) = some c' := by
  have hs : ∃ q, PyIe08.shape p = some q := by
    cases e : PyIe08.shape p with
    | none =>
      unfold PyFlat.call at h
      dsimp only at h
      rw [e] at h
      exact nomatch h
    | some q => exact ⟨q, rfl⟩
  obtain ⟨q, hs⟩ := hs
  rcases shape_in hs with rfl | rfl | rfl | rfl | rfl | rfl | rfl | rfl | rfl | rfl | rfl | rfl
  · exact one_plain (k := 3) (by decide) rfl h (fun xs hl => match xs, hl with | [_, _, _], _ => rfl) ha
  · exact one_plain (k := 8) (by decide) rfl h (fun xs hl => match xs, hl with | [_, _, _, _, _, _, _, _], _ => rfl) ha
  · exact one_plain (k := 2) (by decide) rfl h (fun xs hl => match xs, hl with | [_, _], _ => rfl) ha
  · exact one_plain (k := 2) (by decide) rfl h (fun xs hl => match xs, hl with | [_, _], _ => rfl) ha
  · exact one_plain (k := 0) (by decide) rfl h (fun xs hl => match xs, hl with | [], _ => rfl) ha
  · exact one_plain (k := 0) (by decide) rfl h (fun xs hl => match xs, hl with | [], _ => rfl) ha
  · exact one_draw h hb ha
  · exact one_plain (k := 0) (by decide) rfl h (fun xs hl => match xs, hl with | [], _ => rfl) ha
  · exact one_plain (k := 0) (by decide) rfl h (fun xs hl => match xs, hl with | [], _ => rfl) ha
  · exact one_plain (k := 0) (by decide) rfl h (fun xs hl => match xs, hl with | [], _ => rfl) ha
  · exact one_plain (k := 0) (by decide) rfl h (fun xs hl => match xs, hl with | [], _ => rfl) ha
  · exact one_plain (k := 0) (by decide) rfl h (fun xs hl => match xs, hl with | [], _ => rfl) ha
theorem step_of {l : List Int} {c : Call} (h : Ie08Neutral.callOf l = some c) (s : St) : Ie08Neutral.step s l = step s c := by
  unfold Ie08Neutral.step
  rw [h]
theorem dec : ∀ (raw : List (List (List Int))) (f : Nat) (l : List Int), PyFlat.calls PyIe08.shape f l = some raw → raw.all (PyInside.call PyIe08.bound) = true →
    ((raw.map PyIe08.whole).map fun c => c.headD []).all Ie08Neutral.asked1 = true → ∃ cs : List Call, cs.length = raw.length ∧ (∀ c ∈ cs, Fits c) ∧ l = cs.flatMap enc ∧
      (∀ s, PyFlat.played (fun s c => Ie08Neutral.step s (c.headD [])) s (raw.map PyIe08.whole) = run s cs) ∧ ∀ s, Ie08Neutral.many s ((raw.map PyIe08.whole).map fun c => c.headD []) = ((run s cs).map List.length).sum
  | raw, f, [], h, _, _ => by
    have e : raw = [] := by
      unfold PyFlat.calls at h
      exact (Option.some.inj h).symm
    subst e
    exact ⟨[], rfl, (fun c z => absurd z List.not_mem_nil), rfl, fun _ => rfl, fun _ => rfl⟩
  | [], f, p :: r, h, _, _ => by
    obtain ⟨_, _, _, _, z, _⟩ := calls_cons h
    exact nomatch z
  | c :: raw, f, p :: r, h, hb, ha => by
    obtain ⟨g, c0, t, raw', e, h1, h2⟩ := calls_cons h
    cases e
    rw [List.all_cons, Bool.and_eq_true] at hb
    rw [List.map_cons, List.map_cons, List.all_cons, Bool.and_eq_true] at ha
    obtain ⟨c', f1, e1, s1⟩ := one h1 hb.1 ha.1
    obtain ⟨cs, l1, f2, e2, p2, m2⟩ := dec raw g t h2 hb.2 ha.2
    refine ⟨c' :: cs, by rw [List.length_cons, List.length_cons, l1], ?_, ?_, fun s => ?_, fun s => ?_⟩
    · intro x hx
      rcases List.mem_cons.mp hx with rfl | hx
      · exact f1
      · exact f2 x hx
    · rw [List.flatMap_cons, ← e2]
      exact e1
    · show (Ie08Neutral.step s ((PyIe08.whole c).headD [])).2 :: PyFlat.played _ (Ie08Neutral.step s ((PyIe08.whole c).headD [])).1 (raw.map PyIe08.whole) = (step s c').2 :: run (step s c').1 cs
      rw [step_of s1, p2]
    · show (Ie08Neutral.step s ((PyIe08.whole c).headD [])).2.length + Ie08Neutral.many (Ie08Neutral.step s ((PyIe08.whole c).headD [])).1 ((raw.map PyIe08.whole).map fun c => c.headD []) = (((step s c').2 :: run (step s c').1 cs).map List.length).sum
      rw [step_of s1, m2, List.map_cons, List.sum_cons]
/-- what is asked: calls of the document, at most 40, and what is due is what they answer -/
theorem asked_calls {l : List Int} (h : PyIe08.answers_asked l = true) : ∃ cs : List Call, cs.length ≤ 40 ∧ (∀ c ∈ cs, Fits c) ∧ l = cs.flatMap enc ∧ PyIe08.answers l = PyFlat.told (run init cs) ∧ ((run init cs).map List.length).sum ≤ 1000000 := by
  unfold PyIe08.answers_asked at h
  cases e : PyFlat.calls PyIe08.shape l.length l with
  | none => rw [e] at h; exact nomatch h
  | some raw =>
    rw [e] at h
    dsimp only at h
    rw [Bool.and_eq_true, Bool.and_eq_true, Bool.and_eq_true, Bool.and_eq_true] at h
    obtain ⟨⟨⟨⟨_, h1⟩, h2⟩, h3⟩, _⟩ := h
    unfold Ie08Neutral.asked at h3
    rw [Bool.and_eq_true, Bool.and_eq_true, Bool.and_eq_true] at h3
    obtain ⟨cs, l1, f1, e1, p1, m1⟩ := dec raw l.length l e h2 h3.1
    refine ⟨cs, ?_, f1, e1, ?_, ?_⟩
    · rw [l1]
      exact of_decide_eq_true h1
    · unfold PyIe08.answers PyIe08.calls
      rw [e]
      dsimp only
      rw [p1]
      rfl
    · have z := of_decide_eq_true h3.2.2.2
      rw [m1] at z
      exact z
theorem run_append : ∀ (a b : List Call) (s : St), run s (a ++ b) = run s a ++ run (after s a) b
  | [], _, _ => rfl
  | c :: a, b, s => by
    show (step s c).2 :: run (step s c).1 (a ++ b) = (step s c).2 :: (run (step s c).1 a ++ run (after (step s c).1 a) b)
    rw [run_append a b]
theorem after_append : ∀ (a b : List Call) (s : St), after s (a ++ b) = after (after s a) b
  | [], _, _ => rfl
  | c :: a, b, s => after_append a b (step s c).1
theorem told_append (a b : List (List Int)) : PyFlat.told (a ++ b) = PyFlat.told a ++ PyFlat.told b := List.flatMap_append
theorem told_len : ∀ a : List (List Int), (PyFlat.told a).length = (a.map List.length).sum + a.length
  | [] => rfl
  | x :: a => by
    show ((x.length : Int) :: x ++ PyFlat.told a).length = _
    rw [List.length_append, List.length_cons, told_len a, List.map_cons, List.sum_cons, List.length_cons]
    omega
theorem run_len : ∀ (a : List Call) (s : St), (run s a).length = a.length
  | [], _ => rfl
  | c :: a, s => congrArg (· + 1) (run_len a (step s c).1)
end Bw
namespace Bw
open PySem PySem.Spec PyProof.Rows L2
open Ie08 (Cell near between gap)
/-! values -/
abbrev nV (n : Nat) : V := .int (n : Int)
def nVs (l : List Nat) : List V := l.map nV
/-- a list of whole numbers, tracked -/
def Ns (H : Hp) (a : Addr) (l : List Nat) : Prop := H a = some (.lst (nVs l))
/-- a list of pairs: each a tuple of its own -/
def Tups (H : Hp) : List V → List Cell → Prop
  | [], [] => True
  | v :: vs, c :: cs => (∃ r, v = .ref r ∧ H r = some (.tup [nV c.1, nV c.2])) ∧ Tups H vs cs
  | _, _ => False
theorem Tups.same {H H' : Hp} (e : ∀ b xs, H b = some (.tup xs) → H' b = some (.tup xs)) : ∀ {vs : List V} {cs : List Cell}, Tups H vs cs → Tups H' vs cs
  | [], [], _ => trivial
  | _ :: _, _ :: _, ⟨⟨r, e1, e2⟩, t⟩ => ⟨⟨r, e1, e r _ e2⟩, Tups.same e t⟩
  | [], _ :: _, h => h.elim
  | _ :: _, [], h => h.elim
theorem Tups.len {H : Hp} : ∀ {vs : List V} {cs : List Cell}, Tups H vs cs → vs.length = cs.length
  | [], [], _ => rfl
  | _ :: _, _ :: _, ⟨_, t⟩ => congrArg (· + 1) (Tups.len t)
  | [], _ :: _, h => h.elim
  | _ :: _, [], h => h.elim
theorem Tups.snoc {H : Hp} {r : Addr} {c : Cell} (h : H r = some (.tup [nV c.1, nV c.2])) : ∀ {vs : List V} {cs : List Cell}, Tups H vs cs → Tups H (vs ++ [.ref r]) (cs ++ [c])
  | [], [], _ => ⟨⟨r, rfl, h⟩, trivial⟩
  | _ :: _, _ :: _, ⟨e, t⟩ => ⟨e, Tups.snoc h t⟩
  | [], _ :: _, h => h.elim
  | _ :: _, [], h => h.elim
theorem Tups.get {H : Hp} : ∀ {vs : List V} {cs : List Cell} {i : Nat} {v : V}, Tups H vs cs → vs[i]? = some v → ∃ r c, v = .ref r ∧ cs[i]? = some c ∧ H r = some (.tup [nV c.1, nV c.2])
  | [], [], i, v, _, h => by simp at h
  | x :: _, c :: _, 0, v, ⟨⟨r, e1, e2⟩, _⟩, h => by
    have e : x = v := Option.some.inj h
    subst e
    exact ⟨r, c, e1, rfl, e2⟩
  | _ :: _, _ :: _, i + 1, v, ⟨_, t⟩, h => Tups.get (i := i) t h
  | [], _ :: _, _, _, h, _ => h.elim
  | _ :: _, [], _, _, h, _ => h.elim
/-! what the top has left -/
def DefAt (K : PySem.W.Frag) (mg : Str → Option Value) (x : Str) (st : Stmt) (ps : List Str) : Prop := ∃ (f : Addr) (fd : FuncData), C8.Def K mg x st f fd ∧ Binds K fd ps []
def MethAt (K : PySem.W.Frag) (C : Addr) (m qual : Str) (st : Stmt) (ps : List Str) : Prop := ∃ (f : Addr) (fd : FuncData), Cls K C ∧ Meth K C m f ∧ C8.Fun K m qual st f fd ∧ Binds K fd ps []
def MakAt (K : PySem.W.Frag) (mg : Str → Option Value) (x : Str) (C : Addr) (qual : Str) (st : Stmt) (ps : List Str) : Prop := ∃ (f : Addr) (fd : FuncData), Mk K C f ∧ mg x = some (.ref C) ∧ C8.Fun K "__init__" qual st f fd ∧ Binds K fd ps []
section
variable {P : Program} {w : World} {K : PySem.W.Frag} {mg : Str → Option Value} {base : Heap} {k : Nat} {sp : Sp} {N ps : List Str} {st : Stmt} {x qual : Str} {C : Addr}
theorem DefAt.cal (D : DefAt K mg x st ps) (S : FnScope N ps (C8.fnScope st)) (len : ∀ vs H Q E, sp vs H Q E → vs.length = ps.length)
    (hb : ∀ (cdv : Value) (f : Addr) (A : Around) (outer : List Env) (s : Shared) (H : Hp) (vs : List V) (Q : VK) (E : XK), Room k (A.deeper (envOfC x (C8.fnScope st) s.heap.objs.size f cdv)) → sp vs H Q E →
      ∃ t, PSs (cxOf C8.CX0 P w K mg base N x (C8.fnScope st) f cdv A outer s H E).nox (C8.fnBody st) t ∧ t ⟨fun _ H' => Q .non H', Q, fun _ _ => False, fun _ _ => False⟩ (start N vs) H) : C8.Cal P w K mg base (k + 1) x sp [] := by
  obtain ⟨f, fd, F, b⟩ := D
  exact C8.cal0 F b .nil S len fun cdv A outer s H vs Q E hr h => hb cdv f A outer s H vs Q E hr h
theorem MethAt.met (D : MethAt K C x qual st ps) (S : FnScope N ps (C8.fnScope st)) (len : ∀ vs H Q E, sp vs H Q E → vs.length = ps.length)
    (hb : ∀ (cdv : Value) (f : Addr) (A : Around) (outer : List Env) (s : Shared) (H : Hp) (vs : List V) (Q : VK) (E : XK), Room k (A.deeper (envOfC qual (C8.fnScope st) s.heap.objs.size f cdv)) → sp vs H Q E →
      ∃ t, PSs (cxOf C8.CX0 P w K mg base N qual (C8.fnScope st) f cdv A outer s H E).nox (C8.fnBody st) t ∧ t ⟨fun _ H' => Q .non H', Q, fun _ _ => False, fun _ _ => False⟩ (start N vs) H) : C8.Met P w K mg base (k + 1) C x sp [] := by
  obtain ⟨f, fd, c, me, F, b⟩ := D
  exact C8.met0 c me F b S len fun cdv A outer s H vs Q E hr h => hb cdv f A outer s H vs Q E hr h
theorem MakAt.mak (D : MakAt K mg x C qual st ps) (S : FnScope N ps (C8.fnScope st)) (len : ∀ vs H Q E, sp vs H Q E → vs.length = ps.length)
    (hb : ∀ (cdv : Value) (f : Addr) (A : Around) (outer : List Env) (s : Shared) (H : Hp) (vs : List V) (Q : VK) (E : XK), Room k (A.deeper (envOfC qual (C8.fnScope st) s.heap.objs.size f cdv)) → sp vs H Q E →
      ∃ t, PSs (cxOf C8.CX0 P w K mg base N qual (C8.fnScope st) f cdv A outer s H E).nox (C8.fnBody st) t ∧ t ⟨fun _ H' => Q .non H', Q, fun _ _ => False, fun _ _ => False⟩ (start N vs) H) : C8.Mak P w K mg base (k + 1) x C sp [] := by
  obtain ⟨f, fd, M, hm, F, b⟩ := D
  exact C8.mak0 M hm F b .nil S len fun cdv A outer s H vs Q E hr h => hb cdv f A outer s H vs Q E hr h
end
/-! heaps -/
theorem same_put {H H' : Hp} {a : Addr} {o : HO} (e : Same H H') (n : H a = none) : Same H (upd H' a o) := fun b u h => by
  rw [upd_ne (ne_of_none h n)]
  exact e b u h
theorem upd_free {H : Hp} {a b : Addr} {o : HO} (h : upd H a o b = none) : b ≠ a ∧ H b = none := by
  have n : b ≠ a := by
    intro e
    rw [e, upd_same] at h
    cases h
  rw [upd_ne n] at h
  exact ⟨n, h⟩
theorem nVs_get {l : List Nat} {i : Nat} {v : V} (h : (nVs l)[i]? = some v) : ∃ n, l[i]? = some n ∧ v = nV n := by
  unfold nVs at h
  rw [List.getElem?_map] at h
  cases e : l[i]? with
  | none =>
    rw [e] at h
    cases h
  | some n =>
    rw [e] at h
    exact ⟨n, rfl, (Option.some.inj h).symm⟩
theorem nVs_len (l : List Nat) : (nVs l).length = l.length := List.length_map ..
/-- tuples stay where a new thing is laid, and where something else is changed -/
theorem Tups.new {H : Hp} {a : Addr} {o : HO} (n : H a = none) {vs : List V} {cs : List Cell} (t : Tups H vs cs) : Tups (upd H a o) vs cs :=
  t.same fun b xs h => by
    rw [upd_ne (ne_of_none h n)]
    exact h
theorem Tups.lst {H : Hp} {a : Addr} {o : HO} {ys : List V} (n : H a = some (.lst ys)) {vs : List V} {cs : List Cell} (t : Tups H vs cs) : Tups (upd H a o) vs cs :=
  t.same fun b xs h => by
    rw [upd_ne (ne_of h n (by intro z; cases z))]
    exact h
theorem Tups.ins {H : Hp} {a C dx : Addr} {fs : List (Str × V)} {o : HO} (n : H a = some (.ins C dx fs)) {vs : List V} {cs : List Cell} (t : Tups H vs cs) : Tups (upd H a o) vs cs :=
  t.same fun b xs h => by
    rw [upd_ne (ne_of h n (by intro z; cases z))]
    exact h
theorem Tups.sm {H H' : Hp} (e : Same H H') {vs : List V} {cs : List Cell} (t : Tups H vs cs) : Tups H' vs cs := t.same fun b xs h => e b _ h
theorem take_snoc {α : Type} {l : List α} {i : Nat} {x : α} (h : l[i]? = some x) : l.take (i + 1) = l.take i ++ [x] := by
  rw [List.take_add_one, h]
  rfl
/-! an object's fields -/
theorem lk_here {k : Str} {v : V} {r : List (Str × V)} : List.lookup k ((k, v) :: r) = some v := by
  rw [List.lookup_cons, beq_self_eq_true]
theorem lk_past {k g : Str} {v : V} {r : List (Str × V)} (h : (k == g) = false) : List.lookup k ((g, v) :: r) = List.lookup k r := by
  rw [List.lookup_cons, h]
theorem pf_here {f : Str} {v x : V} {r : List (Str × V)} : putF f v ((f, x) :: r) = (f, v) :: r := if_pos rfl
theorem pf_past {f g : Str} {v x : V} {r : List (Str × V)} (h : ¬ g = f) : putF f v ((g, x) :: r) = (g, x) :: putF f v r := if_neg h
end Bw
namespace Bw
open PySem PySem.Spec PyProof.Rows L2
open Ie08 (Cell near between gap)
def topS (i : Nat) : Stmt := PySem.Challenge.pw_brushway_s01_answers.main.body.getD i (.Pass ⟨0, 0, 0, 0⟩)
abbrev sNear : Stmt := topS 7
abbrev sPlace : Stmt := topS 9
abbrev sWay : Stmt := topS 10
/-- names of Python's own that stand as they were -/
structure Own (mg : Str → Option Value) : Prop where
  abs : mg "abs" = none
  max : mg "max" = none
  range : mg "range" = none
  enum : mg "enumerate" = none
  zip : mg "zip" = none
  len : mg "len" = none
  list : mg "list" = none
  all : mg "all" = none
  sum : mg "sum" = none
theorem iteT' {c : Bool} {A B : Prop} (hc : c = true) (h : A) : if c = true then A else B := by
  rw [if_pos hc]
  exact h
theorem iteF' {c : Bool} {A B : Prop} (hc : c = false) (h : B) : if c = true then A else B := by
  rw [hc]
  exact h
theorem yes_then {σ : L2.St} {H : Hp} {A B : Hp → Prop} (h : A H) : tYes σ H fun b H3 => if b = true then A H3 else B H3 := by
  show (if true = true then A H else B H)
  rw [if_pos rfl]
  exact h
section
variable {P : Program} {w : World} {K : PySem.W.Frag} {mg : Str → Option Value} {base : Heap}
/-! nearest -/
def spNear : Sp := fun vs H Q _ => ∃ t b : Nat, vs = [nV t, nV b] ∧ 0 < b ∧ b ≤ 65025 ∧ Q (nV (near t b)) H
theorem scNear : FnScope ["top", "bottom"] ["top", "bottom"] (C8.fnScope sNear) := C8.fnScope_by (by decide +kernel)
theorem cal_near (D : DefAt K mg "nearest" sNear ["top", "bottom"]) : C8.Cal P w K mg base 1 "nearest" spNear [] := by
  refine D.cal scNear (fun vs H Q E h => ?_) fun cdv f A outer s H vs Q E hr h => ?_
  · obtain ⟨t, b, rfl, _⟩ := h
    rfl
  · obtain ⟨t, b, rfl, h1, h2, q⟩ := h
    refine ⟨_, pss_one (ps_ret (pe_op op_fdiv (pe_op op_sub (pe_op op_add (pe_op op_mul pe_int (pv 0)) (pv 1)) pe_int) (pe_op op_mul pe_int (pv 1)))), ?_⟩
    refine ⟨_, rfl, _, _, rfl, rfl, .inl ⟨by decide, by decide⟩, _, rfl, _, _, rfl, rfl, _, _, rfl, rfl, _, rfl, _, _, rfl, rfl, .inl ⟨by decide, by decide⟩, _, _, rfl, rfl, ⟨by omega, by omega⟩, ?_⟩
    show Q (.int ((2 * (t : Int) + (b : Int) - 1) / (2 * (b : Int)))) H
    rw [near_int t b h1]
    exact q
/-! place_behind -/
def spPlace : Sp := fun vs H Q _ => ∃ a b i n : Nat, vs = [nV a, nV b, nV i, nV n] ∧ 0 < n ∧ n ≤ 65025 ∧ i ≤ n ∧ Q (nV (between a b n i)) H
theorem scPlace : FnScope ["start", "end", "i", "n", "far"] ["start", "end", "i", "n"] (C8.fnScope sPlace) := C8.fnScope_by (by decide +kernel)
theorem cal_place (O : Own mg) (cN : C8.Cal P w K mg base 1 "nearest" spNear []) (D : DefAt K mg "place_behind" sPlace ["start", "end", "i", "n"]) : C8.Cal P w K mg base 2 "place_behind" spPlace [] := by
  refine D.cal scPlace (fun vs H Q E h => ?_) fun cdv f A outer s H vs Q E hr h => ?_
  · obtain ⟨a, b, i, n, rfl, _⟩ := h
    rfl
  · obtain ⟨a, b, i, n, rfl, h1, h2, h3, q⟩ := h
    refine ⟨_, pss_cons (ps_set (i := 4) scPlace.nd rfl (.inl rfl) (C8.pe_c cN hr (by decide) rfl (pa_cons (pe_op op_mul (pv 2) (pe_callB call_abs rfl O.abs (by decide +kernel) (pa_cons (pe_op op_sub (pv 1) (pv 0)) pa_nil))) (pa_cons (pv 3) pa_nil))))
      (pss_one (ps_ret (pe_ifExp (pt_cmpR op_gt (pv 1) (pv 0) (nomark _)) (pe_op op_add (pv 0) (pv 4)) (pe_op op_sub (pv 0) (pv 4))))), ?_⟩
    refine ⟨_, rfl, _, rfl, _, rfl, _, _, rfl, rfl, _, rfl, _, _, rfl, rfl, .inl ⟨by omega, by omega⟩, _, rfl, i * gap a b, n, ?_, h1, h2, ?_⟩
    · rw [gap_abs]
      show [V.int ((i : Int) * ((gap a b : Nat) : Int)), nV n] = _
      rw [← Int.natCast_mul]
    · refine ⟨_, rfl, _, rfl, _, _, rfl, rfl, _, rfl, ?_⟩
      by_cases c : a < b
      · refine iteT' (decide_eq_true (Int.ofNat_lt.mpr c)) ⟨_, rfl, _, rfl, _, _, rfl, rfl, ?_⟩
        show Q (.int ((a : Int) + ((near (i * gap a b) n : Nat) : Int))) H
        rw [place_up a b n i c]
        exact q
      · refine iteF' (decide_eq_false (fun z => c (Int.ofNat_lt.mp z))) ⟨_, rfl, _, rfl, _, _, rfl, rfl, ?_⟩
        show Q (.int ((a : Int) - ((near (i * gap a b) n : Nat) : Int))) H
        rw [place_down a b n i h1 h3 c]
        exact q
/-! way -/
def spWay : Sp := fun vs H Q _ => ∃ a b c d : Nat, vs = [nV a, nV b, nV c, nV d] ∧ a ≤ 1000 ∧ b ≤ 1000 ∧ c ≤ 1000 ∧ d ≤ 1000 ∧
  ∀ (H' : Hp) (p : Addr) (ws : List V), Same H H' → H p = none → H' p = some (.lst ws) → Tups H' ws (Ie08.way (a, b) (c, d)) → Q (.ref p) H'
theorem scWay : FnScope ["a", "b", "c", "d", "n", "i"] ["a", "b", "c", "d"] (C8.fnScope sWay) := C8.fnScope_by (by decide +kernel)
theorem cal_way (O : Own mg) (cP : C8.Cal P w K mg base 2 "place_behind" spPlace []) (D : DefAt K mg "way" sWay ["a", "b", "c", "d"]) : C8.Cal P w K mg base 3 "way" spWay [] := by
  refine D.cal scWay (fun vs H Q E h => ?_) fun cdv f A outer s H vs Q E hr h => ?_
  · obtain ⟨a, b, c, d, rfl, _⟩ := h
    rfl
  · obtain ⟨a, b, c, d, rfl, h1, h2, h3, h4, q⟩ := h
    refine ⟨_, pss_cons (ps_set (i := 4) scWay.nd rfl (.inr rfl) (pe_callB (call_max2 rfl) rfl O.max (by decide +kernel) (pa_cons (pe_callB call_abs rfl O.abs (by decide +kernel) (pa_cons (pe_op op_sub (pv 2) (pv 0)) pa_nil)) (pa_cons (pe_callB call_abs rfl O.abs (by decide +kernel) (pa_cons (pe_op op_sub (pv 3) (pv 1)) pa_nil)) pa_nil))))
      (pss_one (ps_ret (pe_lc (own := [("i", 5)]) (g := gName 5) (tt := tYes) rfl scWay.nd (pi_range2 rfl O.range (pa_cons pe_int (pa_cons (pe_op op_add (pv 4) pe_int) pa_nil)))
        (blkOk_by (N := ["a", "b", "c", "d", "n", "i"]) (sc := C8.fnScope sWay) (by decide +kernel)) (fun _ _ _ _ _ => pg_name (i := 5) scWay.nd rfl (.inl rfl)) (fun _ _ _ _ _ => pts_nil)
        (fun _ _ _ _ _ => pe_tup (pa_cons (C8.pe_c cP hr (by decide) rfl (pa_cons (pv 0) (pa_cons (pv 2) (pa_cons (pv 5) (pa_cons (pv 4) pa_nil))))) (pa_cons (C8.pe_c cP hr (by decide) rfl (pa_cons (pv 1) (pa_cons (pv 3) (pa_cons (pv 5) (pa_cons (pv 4) pa_nil))))) pa_nil)))))), ?_⟩
    refine ⟨_, rfl, _, rfl, _, _, rfl, rfl, _, rfl, _, rfl, _, rfl, _, _, rfl, rfl, _, rfl, _, _, rfl, ?_⟩
    have em : (if (if (d : Int) - (b : Int) < 0 then -((d : Int) - (b : Int)) else (d : Int) - (b : Int)) > (if (c : Int) - (a : Int) < 0 then -((c : Int) - (a : Int)) else (c : Int) - (a : Int)) then (if (d : Int) - (b : Int) < 0 then -((d : Int) - (b : Int)) else (d : Int) - (b : Int)) else (if (c : Int) - (a : Int) < 0 then -((c : Int) - (a : Int)) else (c : Int) - (a : Int))) = ((max (gap a c) (gap b d) : Nat) : Int) := by
      rw [gap_abs, gap_abs]
      split <;> omega
    rw [em]
    have hn : max (gap a c) (gap b d) ≤ 1000 := by unfold gap; omega
    have el : (Ie08.way (a, b) (c, d)).length = max (gap a c) (gap b d) := way_length (a, b) (c, d)
    have eg := fun i hi => way_get (a, b) (c, d) i hi
    dsimp only at eg
    generalize max (gap a c) (gap b d) = n at *
    refine ⟨_, rfl, _, _, rfl, rfl, 1, _, rfl, ⟨by decide, by decide, by omega, by omega⟩, ?_⟩
    rw [show (((n : Int) + 1) - 1).toNat = n by omega]
    intro D hD
    refine lc_range (fun i H' => Same H H' ∧ ∃ ws, H' D = some (.lst ws) ∧ Tups H' ws ((Ie08.way (a, b) (c, d)).take i)) ⟨?_, _, upd_same, trivial⟩ ?_ ?_
    · exact same_put (Same.refl H) hD
    · rintro i H' hi ⟨e, ws, hw, ht⟩
      refine ⟨rfl, yes_then ?_⟩
      refine ⟨_, rfl, _, rfl, _, rfl, _, rfl, a, c, i + 1, n, ?_, by omega, by omega, by omega, ?_⟩
      · show [nV a, nV c, V.int (1 + (i : Int)), nV n] = [nV a, nV c, nV (i + 1), nV n]
        rw [Int.add_comm]
        rfl
      refine ⟨_, rfl, _, rfl, _, rfl, _, rfl, b, d, i + 1, n, ?_, by omega, by omega, by omega, ?_⟩
      · show [nV b, nV d, V.int (1 + (i : Int)), nV n] = [nV b, nV d, nV (i + 1), nV n]
        rw [Int.add_comm]
        rfl
      refine ⟨(by show 2 ≤ sizeLine; decide), fun T hT => ⟨ws, ?_, ?_, ?_, _, upd_same, ?_⟩⟩
      · rw [upd_ne (ne_of_none hw hT)]
        exact hw
      · have z := ht.len
        rw [List.length_take] at z
        have : sizeLine = 16777216 := by decide
        omega
      · exact same_put (same_put e (e.free hT)) hD
      · rw [take_snoc (eg i hi)]
        have hw' : upd H' T (HO.tup [nV (between a c n (i + 1)), nV (between b d n (i + 1))]) D = some (.lst ws) := by
          rw [upd_ne (ne_of_none hw hT)]
          exact hw
        exact Tups.lst hw' (Tups.snoc (c := (between a c n (i + 1), between b d n (i + 1))) upd_same (ht.new hT))
    · rintro H' ⟨e, ws, hw, ht⟩
      rw [← el, List.take_length] at ht
      exact q H' D ws e hD hw ht
end
end Bw
namespace Bw
open PySem PySem.Spec PyProof.Rows L2
open Ie08 (Cell near between gap)
abbrev sBInit : Stmt := inClass (topS 1) 0
abbrev sFirst : Stmt := topS 2
abbrev sIsBrush : Stmt := topS 3
abbrev sBefore : Stmt := topS 4
abbrev sStrength : Stmt := topS 5
/-- a brush's fields -/
def bF (f n s fl op to bu mi : Nat) : List (Str × V) := [("full", nV f), ("none", nV n), ("space", nV s), ("flow", nV fl), ("opacity", nV op), ("tone", nV to), ("build", nV bu), ("mirror", nV mi)]
section
variable (f n s fl op to bu mi : Nat)
theorem bF_full : (bF f n s fl op to bu mi).lookup ("full" : Str) = some (nV f) := rfl
theorem bF_none : (bF f n s fl op to bu mi).lookup ("none" : Str) = some (nV n) := rfl
theorem bF_space : (bF f n s fl op to bu mi).lookup ("space" : Str) = some (nV s) := rfl
theorem bF_flow : (bF f n s fl op to bu mi).lookup ("flow" : Str) = some (nV fl) := rfl
theorem bF_opacity : (bF f n s fl op to bu mi).lookup ("opacity" : Str) = some (nV op) := rfl
theorem bF_tone : (bF f n s fl op to bu mi).lookup ("tone" : Str) = some (nV to) := rfl
theorem bF_build : (bF f n s fl op to bu mi).lookup ("build" : Str) = some (nV bu) := rfl
theorem bF_mirror : (bF f n s fl op to bu mi).lookup ("mirror" : Str) = some (nV mi) := rfl
theorem bF_mk : putF "mirror" (nV mi) (putF "build" (nV bu) (putF "tone" (nV to) (putF "opacity" (nV op) (putF "flow" (nV fl) (putF "space" (nV s) (putF "none" (nV n) (putF "full" (nV f) []))))))) = bF f n s fl op to bu mi := rfl
end
theorem max2 (a b : Nat) : nuMax2 (nV a) (nV b) = some (nV (max a b)) := by
  show some (if decide ((a : Int) < (b : Int)) = true then nV b else nV a) = some (nV (max a b))
  by_cases c : a < b
  · rw [decide_eq_true (Int.ofNat_lt.mpr c), if_pos rfl, Nat.max_eq_right (Nat.le_of_lt c)]
  · rw [decide_eq_false (fun z => c (Int.ofNat_lt.mp z)), if_neg Bool.false_ne_true, Nat.max_eq_left (Nat.le_of_not_lt c)]
theorem max3 (a b c : Nat) : nuMax3 (nV a) (nV b) (nV c) = some (nV (max (max a b) c)) := by
  show (nuMax2 (nV a) (nV b)).bind (fun m => nuMax2 m (nV c)) = _
  rw [max2 a b]
  exact max2 _ c
/-- the class Brush -/
structure BrushC (K : PySem.W.Frag) (mg : Str → Option Value) (C : Addr) : Prop where
  cl : Cls K C
  a1 : NoAttr K C "full"
  a2 : NoAttr K C "none"
  a3 : NoAttr K C "space"
  a4 : NoAttr K C "flow"
  a5 : NoAttr K C "opacity"
  a6 : NoAttr K C "tone"
  a7 : NoAttr K C "build"
  a8 : NoAttr K C "mirror"
def bN (b : Bool) : Nat := if b then 1 else 0
def kF (k : Ie08.Brush) : List (Str × V) := bF k.full k.none_ k.space k.flow k.opacity k.tone (bN k.build) k.mirror
def BrushAt (C : Addr) (H : Hp) (b : Addr) (k : Ie08.Brush) : Prop := ∃ dx, H b = some (.ins C dx (kF k))
/-- eight numbers are within what a brush may have -/
def fine (f n s fl op to bu mi : Nat) : Bool := decide (f < n ∧ n ≤ 1000 ∧ 1 ≤ s ∧ s ≤ 100 ∧ fl ≤ 255 ∧ op ≤ 255 ∧ to ≤ 255 ∧ bu ≤ 1 ∧ mi ≤ 3)
section
variable {P : Program} {w : World} {K : PySem.W.Frag} {mg : Str → Option Value} {base : Heap} {C : Addr}
/-! Brush.__init__ -/
def spBInit (C : Addr) : Sp := fun vs H Q _ => ∃ (p dx : Addr) (f n s fl op to bu mi : Nat), vs = [.ref p, nV f, nV n, nV s, nV fl, nV op, nV to, nV bu, nV mi] ∧ H p = some (.ins C dx []) ∧
  Q .non (upd H p (.ins C dx (bF f n s fl op to bu mi)))
theorem scBInit : FnScope ["self", "full", "none", "space", "flow", "opacity", "tone", "build", "mirror"] ["self", "full", "none", "space", "flow", "opacity", "tone", "build", "mirror"] (C8.fnScope sBInit) := C8.fnScope_by (by decide +kernel)
theorem mak_brush (T : BrushC K mg C) (D : MakAt K mg "Brush" C "Brush.__init__" sBInit ["self", "full", "none", "space", "flow", "opacity", "tone", "build", "mirror"]) : C8.Mak P w K mg base 1 "Brush" C (spBInit C) [] := by
  refine D.mak scBInit (fun vs H Q E h => ?_) fun cdv f A outer s H vs Q E hr h => ?_
  · obtain ⟨p, dx, _, _, _, _, _, _, _, _, rfl, _⟩ := h
    rfl
  · obtain ⟨p, dx, f, n, s, fl, op, to, bu, mi, rfl, hp, q⟩ := h
    refine ⟨_, pss_cons (ps_fld (pv 0) (pv 1) rfl) (pss_cons (ps_fld (pv 0) (pv 2) rfl) (pss_cons (ps_fld (pv 0) (pv 3) rfl) (pss_cons (ps_fld (pv 0) (pv 4) rfl) (pss_cons (ps_fld (pv 0) (pv 5) rfl)
      (pss_cons (ps_fld (pv 0) (pv 6) rfl) (pss_cons (ps_fld (pv 0) (pv 7) rfl) (pss_one (ps_fld (pv 0) (pv 8) rfl)))))))), ?_⟩
    refine ⟨_, rfl, _, rfl, p, C, dx, [], rfl, hp, T.cl, T.a1, (by decide), ?_⟩
    refine ⟨_, rfl, _, rfl, p, C, dx, _, rfl, upd_same, T.cl, T.a2, (by show 1 < 1000; decide), ?_⟩
    refine ⟨_, rfl, _, rfl, p, C, dx, _, rfl, upd_same, T.cl, T.a3, (by show 2 < 1000; decide), ?_⟩
    refine ⟨_, rfl, _, rfl, p, C, dx, _, rfl, upd_same, T.cl, T.a4, (by show 3 < 1000; decide), ?_⟩
    refine ⟨_, rfl, _, rfl, p, C, dx, _, rfl, upd_same, T.cl, T.a5, (by show 4 < 1000; decide), ?_⟩
    refine ⟨_, rfl, _, rfl, p, C, dx, _, rfl, upd_same, T.cl, T.a6, (by show 5 < 1000; decide), ?_⟩
    refine ⟨_, rfl, _, rfl, p, C, dx, _, rfl, upd_same, T.cl, T.a7, (by show 6 < 1000; decide), ?_⟩
    refine ⟨_, rfl, _, rfl, p, C, dx, _, rfl, upd_same, T.cl, T.a8, (by show 7 < 1000; decide), ?_⟩
    rw [upd_upd, upd_upd, upd_upd, upd_upd, upd_upd, upd_upd, upd_upd]
    exact q
/-! first_brush -/
def spFirst (C : Addr) : Sp := fun vs H Q _ => vs = [] ∧ ∀ (p dx : Addr), H p = none → H dx = none → dx ≠ p → Q (.ref p) (upd (upd H dx (.own p)) p (.ins C dx (kF Ie08.plain)))
theorem scFirst : FnScope [] [] (C8.fnScope sFirst) := C8.fnScope_by (by decide +kernel)
theorem cal_first (cB : C8.Mak P w K mg base 1 "Brush" C (spBInit C) []) (D : DefAt K mg "first_brush" sFirst []) : C8.Cal P w K mg base 3 "first_brush" (spFirst C) [] := by
  refine D.cal scFirst (fun vs H Q E h => ?_) fun cdv f A outer s H vs Q E hr h => ?_
  · obtain ⟨rfl, _⟩ := h
    rfl
  · obtain ⟨rfl, q⟩ := h
    refine ⟨_, pss_one (ps_ret (C8.pe_mk cB hr (by decide) rfl (pa_cons pe_int (pa_cons pe_int (pa_cons pe_int (pa_cons pe_int (pa_cons pe_int (pa_cons pe_int (pa_cons pe_int (pa_cons pe_int pa_nil)))))))))), ?_⟩
    intro p dx np nd ne
    refine ⟨p, dx, 0, 1, 1, 255, 255, 255, 0, 0, rfl, upd_same, rfl, ?_⟩
    rw [upd_upd]
    exact q p dx np nd ne
/-! before_flow, strength -/
def spBefore (C : Addr) : Sp := fun vs H Q _ => ∃ (b : Addr) (k : Ie08.Brush) (d : Nat), vs = [.ref b, nV d] ∧ BrushAt C H b k ∧ BrushOk k ∧ Q (nV (before k d)) H
theorem scBefore : FnScope ["brush", "d"] ["brush", "d"] (C8.fnScope sBefore) := C8.fnScope_by (by decide +kernel)
theorem cal_before (T : BrushC K mg C) (D : DefAt K mg "before_flow" sBefore ["brush", "d"]) : C8.Cal P w K mg base 1 "before_flow" (spBefore C) [] := by
  refine D.cal scBefore (fun vs H Q E h => ?_) fun cdv f A outer s H vs Q E hr h => ?_
  · obtain ⟨b, k, d, rfl, _⟩ := h
    rfl
  · obtain ⟨b, k, d, rfl, ⟨dx, hb⟩, ok, q⟩ := h
    refine ⟨_, pss_cons (ps_if (pt_cmpR op_le (pv 1) (pe_fld (pv 0) rfl) (nomark _)) (pss_one (ps_ret pe_int)) pss_nil)
      (pss_cons (ps_if (pt_cmpR op_ge (pv 1) (pe_fld (pv 0) rfl) (nomark _)) (pss_one (ps_ret pe_int)) pss_nil)
      (pss_one (ps_ret (pe_op op_fdiv (pe_op op_mul pe_int (pe_op op_sub (pe_fld (pv 0) rfl) (pv 1))) (pe_op op_sub (pe_fld (pv 0) rfl) (pe_fld (pv 0) rfl)))))), ?_⟩
    refine ⟨_, rfl, _, rfl, b, C, dx, _, _, rfl, hb, T.cl, T.a1, bF_full .., _, _, rfl, rfl, _, rfl, ?_⟩
    have e0 : before k d = if d ≤ k.full then 255 else if k.none_ ≤ d then 0 else 255 * (k.none_ - d) / (k.none_ - k.full) := rfl
    by_cases c1 : d ≤ k.full
    · refine iteT' (decide_eq_true (Int.ofNat_le.mpr c1)) ?_
      rw [e0, if_pos c1] at q
      exact q
    · refine iteF' (decide_eq_false fun z => c1 (Int.ofNat_le.mp z)) ?_
      refine ⟨_, rfl, _, rfl, b, C, dx, _, _, rfl, hb, T.cl, T.a2, bF_none .., _, _, rfl, rfl, _, rfl, ?_⟩
      by_cases c2 : k.none_ ≤ d
      · refine iteT' (decide_eq_true (Int.ofNat_le.mpr c2)) ?_
        rw [e0, if_neg c1, if_pos c2] at q
        exact q
      · refine iteF' (decide_eq_false fun z => c2 (Int.ofNat_le.mp z)) ?_
        have n1 := ok.n1
        have fn := ok.fn
        refine ⟨_, rfl, b, C, dx, _, _, rfl, hb, T.cl, T.a2, bF_none .., _, rfl, _, _, rfl, rfl, _, _, rfl, rfl, .inl ⟨by decide, by decide⟩, _, rfl, b, C, dx, _, _, rfl, hb, T.cl, T.a2, bF_none ..,
          _, rfl, b, C, dx, _, _, rfl, hb, T.cl, T.a1, bF_full .., _, _, rfl, rfl, _, _, rfl, rfl, ⟨by omega, by omega⟩, ?_⟩
        show Q (.int (255 * ((k.none_ : Int) - (d : Int)) / ((k.none_ : Int) - (k.full : Int)))) H
        rw [before_int k d c1 c2]
        exact q
def spStrength (C : Addr) : Sp := fun vs H Q _ => ∃ (b : Addr) (k : Ie08.Brush) (d : Nat), vs = [.ref b, nV d] ∧ BrushAt C H b k ∧ BrushOk k ∧ Q (nV (k.at_ d)) H
theorem scStrength : FnScope ["brush", "d"] ["brush", "d"] (C8.fnScope sStrength) := C8.fnScope_by (by decide +kernel)
theorem cal_strength (T : BrushC K mg C) (cB : C8.Cal P w K mg base 1 "before_flow" (spBefore C) []) (D : DefAt K mg "strength" sStrength ["brush", "d"]) : C8.Cal P w K mg base 2 "strength" (spStrength C) [] := by
  refine D.cal scStrength (fun vs H Q E h => ?_) fun cdv f A outer s H vs Q E hr h => ?_
  · obtain ⟨b, k, d, rfl, _⟩ := h
    rfl
  · obtain ⟨b, k, d, rfl, ⟨dx, hb⟩, ok, q⟩ := h
    refine ⟨_, pss_one (ps_ret (pe_op op_fdiv (pe_op op_mul (C8.pe_c cB hr (by decide) rfl (pa_cons (pv 0) (pa_cons (pv 1) pa_nil))) (pe_fld (pv 0) rfl)) pe_int)), ?_⟩
    have hl := before_le k d
    refine ⟨_, rfl, _, rfl, b, k, d, rfl, ⟨dx, hb⟩, ok, _, rfl, b, C, dx, _, _, rfl, hb, T.cl, T.a4, bF_flow .., _, _, rfl, rfl, .inl ⟨by omega, by omega⟩, _, _, rfl, rfl, ⟨by decide, by decide⟩, ?_⟩
    show Q (.int (((before k d : Nat) : Int) * ((k.flow : Nat) : Int) / 255)) H
    have e : ((k.at_ d : Nat) : Int) = ((before k d : Nat) : Int) * ((k.flow : Nat) : Int) / 255 := by
      rw [at_eq, Int.natCast_ediv, Int.natCast_mul]
      rfl
    rw [← e]
    exact q
/-! is_brush -/
def spIsBrush (C : Addr) : Sp := fun vs H Q _ => ∃ (b dx : Addr) (f n s fl op to bu mi : Nat), vs = [.ref b] ∧ H b = some (.ins C dx (bF f n s fl op to bu mi)) ∧ Q (.bl (fine f n s fl op to bu mi)) H
theorem scIsBrush : FnScope ["brush"] ["brush"] (C8.fnScope sIsBrush) := C8.fnScope_by (by decide +kernel)
theorem cal_isBrush (O : Own mg) (T : BrushC K mg C) (D : DefAt K mg "is_brush" sIsBrush ["brush"]) : C8.Cal P w K mg base 1 "is_brush" (spIsBrush C) [] := by
  refine D.cal scIsBrush (fun vs H Q E h => ?_) fun cdv f A outer s H vs Q E hr h => ?_
  · obtain ⟨b, dx, _, _, _, _, _, _, _, _, rfl, _⟩ := h
    rfl
  · obtain ⟨b, dx, f, n, s, fl, op, to, bu, mi, rfl, hb, q⟩ := h
    refine ⟨_, pss_cons (ps_if (pt_not (pt_chain op_lt op_le (pe_fld (pv 0) rfl) (pe_fld (pv 0) rfl) pe_int)) (pss_one (ps_ret pe_bl)) pss_nil)
      (pss_cons (ps_if (pt_not (pt_chain op_le op_le pe_int (pe_fld (pv 0) rfl) pe_int)) (pss_one (ps_ret pe_bl)) pss_nil)
      (pss_cons (ps_if (pt_cmpR op_gt (pe_callB (call_max3Nu rfl) rfl O.max (by decide +kernel) (pa_cons (pe_fld (pv 0) rfl) (pa_cons (pe_fld (pv 0) rfl) (pa_cons (pe_fld (pv 0) rfl) pa_nil)))) pe_int (nomark _)) (pss_one (ps_ret pe_bl)) pss_nil)
      (pss_one (ps_ret (pe_and (pe_cmpR op_le (pe_fld (pv 0) rfl) pe_int (nomark _)) (pe_one (pe_cmpR op_le (pe_fld (pv 0) rfl) pe_int (nomark _)))))))), ?_⟩
    have no : ∀ {p : Prop}, (¬ p) → (f < n ∧ n ≤ 1000 ∧ 1 ≤ s ∧ s ≤ 100 ∧ fl ≤ 255 ∧ op ≤ 255 ∧ to ≤ 255 ∧ bu ≤ 1 ∧ mi ≤ 3 → p) → Q (.bl false) H := fun np hp => by
      have e : fine f n s fl op to bu mi = false := decide_eq_false fun z => np (hp z)
      rw [e] at q
      exact q
    refine ⟨_, rfl, b, C, dx, _, _, rfl, hb, T.cl, T.a1, bF_full .., _, rfl, b, C, dx, _, _, rfl, hb, T.cl, T.a2, bF_none .., _, _, rfl, rfl, _, rfl, ?_⟩
    by_cases c1 : f < n
    · refine iteT' (decide_eq_true (Int.ofNat_lt.mpr c1)) ⟨_, _, rfl, rfl, _, rfl, ?_⟩
      by_cases c2 : n ≤ 1000
      · refine iteF' (by rw [decide_eq_true (show (n : Int) ≤ 1000 by omega)]; rfl) ?_
        refine ⟨_, rfl, b, C, dx, _, _, rfl, hb, T.cl, T.a3, bF_space .., _, _, rfl, rfl, _, rfl, ?_⟩
        by_cases c3 : 1 ≤ s
        · refine iteT' (decide_eq_true (show (1 : Int) ≤ (s : Int) by omega)) ⟨_, _, rfl, rfl, _, rfl, ?_⟩
          by_cases c4 : s ≤ 100
          · refine iteF' (by rw [decide_eq_true (show (s : Int) ≤ 100 by omega)]; rfl) ?_
            refine ⟨_, rfl, b, C, dx, _, _, rfl, hb, T.cl, T.a4, bF_flow .., _, rfl, b, C, dx, _, _, rfl, hb, T.cl, T.a5, bF_opacity .., _, rfl, b, C, dx, _, _, rfl, hb, T.cl, T.a6, bF_tone .., _, _, _, nV (max (max fl op) to), rfl, ?_, _, _, rfl, rfl, _, rfl, ?_⟩
            · exact max3 fl op to
            by_cases c5 : max (max fl op) to ≤ 255
            · refine iteF' (decide_eq_false (show ¬ (255 : Int) < ((max (max fl op) to : Nat) : Int) by omega)) ?_
              refine ⟨_, rfl, b, C, dx, _, _, rfl, hb, T.cl, T.a7, bF_build .., _, _, rfl, rfl, _, rfl, ?_⟩
              by_cases c6 : bu ≤ 1
              · refine iteT' (decide_eq_true (show (bu : Int) ≤ 1 by omega)) ?_
                refine ⟨_, rfl, b, C, dx, _, _, rfl, hb, T.cl, T.a8, bF_mirror .., _, _, rfl, rfl, ?_⟩
                have e : fine f n s fl op to bu mi = decide ((mi : Int) ≤ 3) := by
                  unfold fine
                  refine decide_eq_decide.mpr ⟨fun z => by omega, fun z => by omega⟩
                rw [e] at q
                exact q
              · refine iteF' (decide_eq_false (show ¬ (bu : Int) ≤ 1 by omega)) ?_
                exact no c6 fun z => z.2.2.2.2.2.2.2.1
            · refine iteT' (decide_eq_true (show (255 : Int) < ((max (max fl op) to : Nat) : Int) by omega)) ?_
              exact no c5 fun z => by omega
          · refine iteT' (by rw [decide_eq_false (show ¬ (s : Int) ≤ 100 by omega)]; rfl) ?_
            exact no c4 fun z => z.2.2.2.1
        · refine iteF' (decide_eq_false (show ¬ (1 : Int) ≤ (s : Int) by omega)) ⟨_, rfl, iteT ?_⟩
          exact no c3 fun z => z.2.2.1
      · refine iteT' (by rw [decide_eq_false (show ¬ (n : Int) ≤ 1000 by omega)]; rfl) ?_
        exact no c2 fun z => z.2.1
    · refine iteF' (decide_eq_false fun z => c1 (Int.ofNat_lt.mp z)) ⟨_, rfl, iteT ?_⟩
      exact no c1 fun z => z.1
end
end Bw
namespace Bw
open PySem PySem.Spec PyProof.Rows L2
open Ie08 (Cell near between gap)
abbrev sSides : Stmt := topS 12
abbrev sImages : Stmt := topS 13
abbrev sGrown : Stmt := topS 14
abbrev sShown : Stmt := topS 15
section
variable {P : Program} {w : World} {K : PySem.W.Frag} {mg : Str → Option Value} {base : Heap} {C : Addr}
/-! grown -/
def spGrown : Sp := fun vs H Q _ => ∃ (lm lg : Addr) (ms gs : List Nat) (b : Bool), vs = [.ref lm, .ref lg, nV (bN b)] ∧ H lm = some (.lst (nVs ms)) ∧ H lg = some (.lst (nVs gs)) ∧ ms.length = gs.length ∧ ms.length ≤ 144 ∧ (∀ m ∈ ms, m ≤ 255) ∧
  ∀ (H' : Hp) (p : Addr), Same H H' → H p = none → H' p = some (.lst (nVs (List.zipWith (Ie08.put b) ms gs))) → Q (.ref p) H'
theorem scGrown : FnScope ["mask", "gives", "build", "m", "g"] ["mask", "gives", "build"] (C8.fnScope sGrown) := C8.fnScope_by (by decide +kernel)
theorem zw_get {b : Bool} {ms gs : List Nat} {i m g : Nat} (h1 : ms[i]? = some m) (h2 : gs[i]? = some g) : (List.zipWith (Ie08.put b) ms gs)[i]? = some (Ie08.put b m g) := by
  rw [List.getElem?_zipWith, h1, h2]
theorem cal_grown (O : Own mg) (D : DefAt K mg "grown" sGrown ["mask", "gives", "build"]) : C8.Cal P w K mg base 1 "grown" spGrown [] := by
  refine D.cal scGrown (fun vs H Q E h => ?_) fun cdv f A outer s H vs Q E hr h => ?_
  · obtain ⟨lm, lg, ms, gs, b, rfl, _⟩ := h
    rfl
  · obtain ⟨lm, lg, ms, gs, b, rfl, hlm, hlg, hl, h144, hm8, q⟩ := h
    refine ⟨_, pss_cons (ps_if (pt_cmpR op_eq (pv 2) pe_int (nomark _))
        (pss_one (ps_ret (pe_lc (own := [("m", 3), ("g", 4)]) (g := gTup K 2 (gCons (gName 3) (gCons (gName 4) gNil))) (tt := tYes) rfl scGrown.nd (pi_zip rfl O.zip (pa_cons (pv 0) (pa_cons (pv 1) pa_nil)))
          (blkOk_by (N := ["mask", "gives", "build", "m", "g"]) (sc := C8.fnScope sGrown) (by decide +kernel))
          (fun _ _ _ _ _ => pg_tup rfl (pgs_cons (pg_name (i := 3) scGrown.nd rfl (.inl rfl)) (pgs_cons (pg_name (i := 4) scGrown.nd rfl (.inl rfl)) pgs_nil))) (fun _ _ _ _ _ => pts_nil)
          (fun _ _ _ _ _ => pe_op op_add (pv 3) (pe_op op_fdiv (pe_op op_mul (pe_op op_sub pe_int (pv 3)) (pv 4)) pe_int))))) pss_nil)
      (pss_one (ps_ret (pe_lc (own := [("m", 3), ("g", 4)]) (g := gTup K 2 (gCons (gName 3) (gCons (gName 4) gNil))) (tt := tYes) rfl scGrown.nd (pi_zip rfl O.zip (pa_cons (pv 0) (pa_cons (pv 1) pa_nil)))
          (blkOk_by (N := ["mask", "gives", "build", "m", "g"]) (sc := C8.fnScope sGrown) (by decide +kernel))
          (fun _ _ _ _ _ => pg_tup rfl (pgs_cons (pg_name (i := 3) scGrown.nd rfl (.inl rfl)) (pgs_cons (pg_name (i := 4) scGrown.nd rfl (.inl rfl)) pgs_nil))) (fun _ _ _ _ _ => pts_nil)
          (fun _ _ _ _ _ => pe_ifExp (pt_cmpR op_gt (pv 3) (pv 4) (nomark _)) (pv 3) (pv 4))))), ?_⟩
    have hz : sizeLine = 16777216 := by decide
    have ezl : (List.zipWith (Ie08.put b) ms gs).length = ms.length := by
      rw [List.length_zipWith, hl, Nat.min_self]
    refine ⟨_, rfl, rfl, _, rfl, ?_⟩
    cases b with
    | true =>
      refine iteT' rfl ?_
      refine ⟨_, rfl, _, rfl, lm, lg, _, _, rfl, SqL.of hlm, SqL.of hlg, fun D hD => ?_⟩
      refine lc_it (walk_zip (xs := nVs ms) (ys := nVs gs) (n := ms.length) (by rw [nVs_len, nVs_len]; omega)) (fun j H3 => Same H H3 ∧ H3 D = some (.lst (nVs ((List.zipWith (Ie08.put true) ms gs).take j)))) ⟨same_put (Same.refl _) hD, upd_same⟩ (fun j H3 _ ⟨z, _⟩ => ⟨SqL.of (z _ _ hlm), SqL.of (z _ _ hlg)⟩) ?_ ?_
      · rintro j x Ha Hb hj ⟨sA, dA⟩ ⟨T2, u, v, rfl, hT2, rfl, e1, e2⟩
        obtain ⟨m, hm, rfl⟩ := nVs_get e1
        obtain ⟨g, hg, rfl⟩ := nVs_get e2
        have m8 := hm8 m (List.mem_of_getElem? hm)
        have sB : ∀ a o, H a = some o → upd Ha T2 (HO.tup [nV m, nV g]) a = some o := fun a o e => by
          rw [upd_ne (ne_of_none (sA _ _ e) hT2)]
          exact sA _ _ e
        refine ⟨T2, _, rfl, SqT.of upd_same, rfl, _, _, rfl, _, _, rfl, rfl, rfl, yes_then ?_⟩
        refine ⟨_, rfl, _, rfl, _, _, rfl, rfl, _, rfl, _, _, rfl, rfl, .inl ⟨by omega, by omega⟩, _, _, rfl, rfl, ⟨by decide, by decide⟩, _, _, rfl, rfl, ?_⟩
        refine ⟨_, (by rw [upd_ne (ne_of_none dA hT2)]; exact dA), ?_, same_put sB hD, ?_⟩
        · rw [nVs_len, List.length_take]
          omega
        · rw [upd_same, take_snoc (zw_get hm hg)]
          unfold nVs
          rw [List.map_append]
          show some (HO.lst (_ ++ [V.int ((m : Int) + (255 - (m : Int)) * (g : Int) / 255)])) = _
          rw [put_int m g m8]
          rfl
      · rintro H3 ⟨z, dz⟩
        rw [← ezl, List.take_length] at dz
        exact q H3 D z hD dz
    | false =>
      refine iteF' rfl ?_
      refine ⟨_, rfl, _, rfl, lm, lg, _, _, rfl, SqL.of hlm, SqL.of hlg, fun D hD => ?_⟩
      refine lc_it (walk_zip (xs := nVs ms) (ys := nVs gs) (n := ms.length) (by rw [nVs_len, nVs_len]; omega)) (fun j H3 => Same H H3 ∧ H3 D = some (.lst (nVs ((List.zipWith (Ie08.put false) ms gs).take j)))) ⟨same_put (Same.refl _) hD, upd_same⟩ (fun j H3 _ ⟨z, _⟩ => ⟨SqL.of (z _ _ hlm), SqL.of (z _ _ hlg)⟩) ?_ ?_
      · rintro j x Ha Hb hj ⟨sA, dA⟩ ⟨T2, u, v, rfl, hT2, rfl, e1, e2⟩
        obtain ⟨m, hm, rfl⟩ := nVs_get e1
        obtain ⟨g, hg, rfl⟩ := nVs_get e2
        have sB : ∀ a o, H a = some o → upd Ha T2 (HO.tup [nV m, nV g]) a = some o := fun a o e => by
          rw [upd_ne (ne_of_none (sA _ _ e) hT2)]
          exact sA _ _ e
        refine ⟨T2, _, rfl, SqT.of upd_same, rfl, _, _, rfl, _, _, rfl, rfl, rfl, yes_then ?_⟩
        have fin : ∀ v : V, v = nV (Ie08.put false m g) → ∃ acc, upd Ha T2 (HO.tup [nV m, nV g]) D = some (.lst acc) ∧ acc.length < sizeLine ∧ (Same H (upd (upd Ha T2 (HO.tup [nV m, nV g])) D (.lst (acc ++ [v]))) ∧
            upd (upd Ha T2 (HO.tup [nV m, nV g])) D (.lst (acc ++ [v])) D = some (.lst (nVs ((List.zipWith (Ie08.put false) ms gs).take (j + 1))))) := fun v ev => by
          refine ⟨_, (by rw [upd_ne (ne_of_none dA hT2)]; exact dA), ?_, same_put sB hD, ?_⟩
          · rw [nVs_len, List.length_take]
            omega
          · rw [upd_same, take_snoc (zw_get hm hg), ev]
            unfold nVs
            rw [List.map_append]
            rfl
        refine ⟨_, rfl, _, rfl, _, _, rfl, rfl, _, rfl, ?_⟩
        by_cases c : g < m
        · refine iteT' (decide_eq_true (Int.ofNat_lt.mpr c)) ⟨_, rfl, fin _ ?_⟩
          show nV m = nV (max m g)
          rw [Nat.max_eq_left (Nat.le_of_lt c)]
        · refine iteF' (decide_eq_false (fun z => c (Int.ofNat_lt.mp z))) ⟨_, rfl, fin _ ?_⟩
          show nV g = nV (max m g)
          rw [Nat.max_eq_right (Nat.le_of_not_lt c)]
      · rintro H3 ⟨z, dz⟩
        rw [← ezl, List.take_length] at dz
        exact q H3 D z hD dz
/-! shown -/
def spShown (C : Addr) : Sp := fun vs H Q _ => ∃ (v m : Nat) (b : Addr) (k : Ie08.Brush), vs = [nV v, nV m, .ref b] ∧ BrushAt C H b k ∧ BrushOk k ∧ v ≤ 255 ∧ m ≤ 255 ∧ Q (nV (Ie08.toned v k.tone (m * k.opacity))) H
theorem scShown : FnScope ["v", "m", "brush", "far"] ["v", "m", "brush"] (C8.fnScope sShown) := C8.fnScope_by (by decide +kernel)
theorem cal_shown (O : Own mg) (T : BrushC K mg C) (cN : C8.Cal P w K mg base 1 "nearest" spNear []) (D : DefAt K mg "shown" sShown ["v", "m", "brush"]) : C8.Cal P w K mg base 2 "shown" (spShown C) [] := by
  refine D.cal scShown (fun vs H Q E h => ?_) fun cdv f A outer s H vs Q E hr h => ?_
  · obtain ⟨v, m, b, k, rfl, _⟩ := h
    rfl
  · obtain ⟨v, m, b, k, rfl, ⟨dx, hb⟩, ok, hv, hm, q⟩ := h
    have ht := ok.to
    have hop := ok.op
    refine ⟨_, pss_cons (ps_set (i := 3) scShown.nd rfl (.inl rfl) (C8.pe_c cN hr (by decide) rfl (pa_cons (pe_op op_mul (pe_op op_mul (pe_callB call_abs rfl O.abs (by decide +kernel) (pa_cons (pe_op op_sub (pe_fld (pv 2) rfl) (pv 0)) pa_nil)) (pv 1)) (pe_fld (pv 2) rfl)) (pa_cons pe_int pa_nil))))
      (pss_one (ps_ret (pe_ifExp (pt_cmpR op_gt (pe_fld (pv 2) rfl) (pv 0) (nomark _)) (pe_op op_add (pv 0) (pv 3)) (pe_op op_sub (pv 0) (pv 3))))), ?_⟩
    refine ⟨_, rfl, b, C, dx, _, _, rfl, hb, T.cl, T.a6, bF_tone .., _, rfl, _, _, rfl, rfl, _, rfl, _, rfl, _, _, rfl, rfl, .inr ⟨by omega, by omega⟩, _, rfl, b, C, dx, _, _, rfl, hb, T.cl, T.a5, bF_opacity .., _, _, rfl, rfl, .inr ⟨by omega, by omega⟩, gap v k.tone * m * k.opacity, 65025, ?_, by decide, by decide, ?_⟩
    · rw [gap_abs]
      show [V.int (((gap v k.tone : Nat) : Int) * (m : Int) * (k.opacity : Int)), nV 65025] = _
      rw [← Int.natCast_mul, ← Int.natCast_mul]
    · refine ⟨_, rfl, b, C, dx, _, _, rfl, hb, T.cl, T.a6, bF_tone .., _, rfl, _, _, rfl, rfl, _, rfl, ?_⟩
      by_cases c : v < k.tone
      · refine iteT' (decide_eq_true (Int.ofNat_lt.mpr c)) ⟨_, rfl, _, rfl, _, _, rfl, rfl, ?_⟩
        show Q (.int ((v : Int) + ((near (gap v k.tone * m * k.opacity) 65025 : Nat) : Int))) H
        rw [toned_up v k.tone m k.opacity c]
        exact q
      · refine iteF' (decide_eq_false (fun z => c (Int.ofNat_lt.mp z))) ⟨_, rfl, _, rfl, _, _, rfl, rfl, ?_⟩
        show Q (.int ((v : Int) - ((near (gap v k.tone * m * k.opacity) 65025 : Nat) : Int))) H
        rw [toned_down v k.tone m k.opacity hm hop c]
        exact q
/-! sides -/
def spSides : Sp := fun vs H Q _ => ∃ (a n : Nat) (b : Bool), vs = [nV a, nV n, .bl b] ∧ a < n ∧ ∀ p, H p = none → Q (.ref p) (upd H p (.lst (nVs (sidesN a n b))))
theorem scSides : FnScope ["at", "size", "mirrored", "other"] ["at", "size", "mirrored"] (C8.fnScope sSides) := C8.fnScope_by (by decide +kernel)
theorem cal_sides (D : DefAt K mg "sides" sSides ["at", "size", "mirrored"]) : C8.Cal P w K mg base 1 "sides" spSides [] := by
  refine D.cal scSides (fun vs H Q E h => ?_) fun cdv f A outer s H vs Q E hr h => ?_
  · obtain ⟨a, n, b, rfl, _⟩ := h
    rfl
  · obtain ⟨a, n, b, rfl, ha, q⟩ := h
    refine ⟨_, pss_cons (ps_set (i := 3) scSides.nd rfl (.inl rfl) (pe_op op_sub (pe_op op_sub (pv 1) pe_int) (pv 0)))
      (pss_one (ps_ret (pe_ifExp (PW.pt (pw_and (pt_val (pv 2)) (pw_and1 (pt_cmpR op_ne (pv 3) (pv 0) (nomark _))))) (pe_lst (pa_cons (pv 0) (pa_cons (pv 3) pa_nil))) (pe_lst (pa_cons (pv 0) pa_nil))))), ?_⟩
    refine ⟨_, rfl, _, _, rfl, rfl, _, rfl, _, _, rfl, rfl, ?_⟩
    have e : (n : Int) - 1 - (a : Int) = ((n - 1 - a : Nat) : Int) := by omega
    refine ⟨_, rfl, _, rfl, ?_⟩
    cases b with
    | false =>
      refine iteF' rfl (iteF' rfl ?_)
      refine ⟨_, rfl, (by show 1 ≤ sizeLine; decide), fun p hp => ?_⟩
      have z := q p hp
      rw [show sidesN a n false = [a] from if_neg fun z => Bool.false_ne_true z.1] at z
      exact z
    | true =>
      refine iteT' rfl ⟨_, rfl, _, rfl, rfl, _, rfl, ?_⟩
      by_cases c : n - 1 - a = a
      · refine iteF' (by rw [decide_eq_true (show V.int ((n : Int) - 1 - (a : Int)) = V.int (a : Int) by rw [e, c])]; rfl) ?_
        refine ⟨_, rfl, (by show 1 ≤ sizeLine; decide), fun p hp => ?_⟩
        have z := q p hp
        rw [show sidesN a n true = [a] from if_neg fun z => z.2 c] at z
        exact z
      · refine iteT' (by rw [decide_eq_false (show ¬ V.int ((n : Int) - 1 - (a : Int)) = V.int (a : Int) from fun z => c (by injection z with z; omega))]; rfl) ?_
        refine ⟨_, rfl, _, rfl, (by show 2 ≤ sizeLine; decide), fun p hp => ?_⟩
        have z := q p hp
        rw [show sidesN a n true = [a, n - 1 - a] from if_pos ⟨rfl, c⟩] at z
        show Q _ (upd H p (.lst [nV a, .int ((n : Int) - 1 - (a : Int))]))
        rw [e]
        exact z
/-! images -/
theorem in23 (m : Nat) : inV (nV m) [nV 2, nV 3] = (m == 2 || m == 3) := by
  show ((2 : Int) == (m : Int) || ((3 : Int) == (m : Int) || false)) = (m == 2 || m == 3)
  rw [Bool.or_false, Bool.eq_iff_iff]
  simp only [Bool.or_eq_true, beq_iff_eq]
  omega
theorem in13 (m : Nat) : inV (nV m) [nV 1, nV 3] = (m == 1 || m == 3) := by
  show ((1 : Int) == (m : Int) || ((3 : Int) == (m : Int) || false)) = (m == 1 || m == 3)
  rw [Bool.or_false, Bool.eq_iff_iff]
  simp only [Bool.or_eq_true, beq_iff_eq]
  omega
theorem flat_len (cols : List Nat) : ∀ l : List Nat, (l.flatMap fun r => cols.map fun k => ((k, r) : Cell)).length = l.length * cols.length
  | [] => by simp
  | r :: l => by
    rw [List.flatMap_cons, List.length_append, flat_len cols l, List.length_map, List.length_cons, Nat.succ_mul, Nat.add_comm]
def spImages : Sp := fun vs H Q _ => ∃ (x y w h m : Nat), vs = [nV x, nV y, nV w, nV h, nV m] ∧ x < w ∧ y < h ∧ m ≤ 3 ∧
  ∀ (H' : Hp) (p : Addr) (ws : List V), Same H H' → H p = none → H' p = some (.lst ws) → Tups H' ws (Ie08.images w h m (x, y)) → Q (.ref p) H'
theorem scImages : FnScope ["x", "y", "w", "h", "mirror", "places", "row", "column"] ["x", "y", "w", "h", "mirror"] (C8.fnScope sImages) := C8.fnScope_by (by decide +kernel)
theorem cal_images (cS : C8.Cal P w K mg base 1 "sides" spSides []) (D : DefAt K mg "images" sImages ["x", "y", "w", "h", "mirror"]) : C8.Cal P w K mg base 2 "images" spImages [] := by
  refine D.cal scImages (fun vs H Q E h => ?_) fun cdv f A outer s H vs Q E hr h => ?_
  · obtain ⟨x, y, w, h, m, rfl, _⟩ := h
    rfl
  · obtain ⟨x, y, w, h, m, rfl, hx, hy, hm, q⟩ := h
    refine ⟨_, pss_cons (ps_set (i := 5) scImages.nd rfl (.inl rfl) (pe_lst pa_nil))
      (pss_cons (ps_for PassesOwn.never rfl (pi_list (C8.pe_c cS hr (by decide) rfl (pa_cons (pv 1) (pa_cons (pv 3) (pa_cons (pe_cmpR op_in_seq (pv 4) (pe_tup (pa_cons pe_int (pa_cons pe_int pa_nil))) rfl) pa_nil))))) (pg_name (i := 6) scImages.nd rfl (.inl rfl))
        (pss_one (ps_for PassesOwn.never rfl (pi_list (C8.pe_c cS hr (by decide) rfl (pa_cons (pv 0) (pa_cons (pv 2) (pa_cons (pe_cmpR op_in_seq (pv 4) (pe_tup (pa_cons pe_int (pa_cons pe_int pa_nil))) rfl) pa_nil))))) (pg_name (i := 7) scImages.nd rfl (.inl rfl))
          (pss_one (ps_expr (pe_bm PySem.F.plainAttrs_list PySem.F.slot_list_append PySem.F.type_list_append mt_append (pv 5) (pa_cons (pe_tup (pa_cons (pv 7) (pa_cons (pv 6) pa_nil))) pa_nil)))))))
      (pss_one (ps_ret (pv 5)))), ?_⟩
    refine ⟨(by show 0 ≤ sizeLine; decide), fun pl hpl => ?_⟩
    refine ⟨_, rfl, _, rfl, _, rfl, (by show 2 ≤ sizeLine; decide), fun t1 ht1 => ?_⟩
    refine ⟨t1, _, rfl, .inr (SqT.of upd_same), rfl, rfl, y, h, (m == 2 || m == 3), ?_, hy, fun l1 hl1 => ?_⟩
    · show [nV y, nV h, .bl (inV (nV m) [nV 2, nV 3])] = _
      rw [in23]
    obtain ⟨n1, hl1⟩ := upd_free hl1
    obtain ⟨n2, hl1⟩ := upd_free hl1
    obtain ⟨n3, ht1⟩ := upd_free ht1
    generalize er : sidesN y h (m == 2 || m == 3) = rows
    generalize ec : sidesN x w (m == 1 || m == 3) = cols
    have lr : rows.length ≤ 2 := by
      rw [← er]
      unfold sidesN
      split <;> simp
    have lc : cols.length ≤ 2 := by
      rw [← ec]
      unfold sidesN
      split <;> simp
    have hi : Ie08.images w h m (x, y) = rows.flatMap fun r => cols.map fun k => (k, r) := by
      rw [images_eq w h m (x, y) hm, ← er, ← ec]
      rfl
    have hz : sizeLine = 16777216 := by decide
    refine ⟨l1, rfl, ⟨_, SqL.of upd_same⟩, for_list (K := K) (a := l1) (xs := nVs rows) (fun i σ H' => ∃ vr vc : Option V, σ = [some (nV x), some (nV y), some (nV w), some (nV h), some (nV m), some (.ref pl), vr, vc] ∧ Same H H' ∧ H' l1 = some (.lst (nVs rows)) ∧
      ∃ ws, H' pl = some (.lst ws) ∧ Tups H' ws ((rows.take i).flatMap fun r => cols.map fun k => (k, r))) ⟨none, none, rfl, ?_, upd_same, [], ?_, trivial⟩ (fun i σ H' _ ⟨_, _, _, _, e, _⟩ => SqL.of e) ?_ ?_⟩
    · exact same_put (same_put (same_put (Same.refl H) hpl) ht1) hl1
    · rw [upd_ne n2.symm, upd_ne n3.symm]
      exact upd_same
    · rintro i v σ H1 hv ⟨vr, vc, rfl, s1, k1, ws, hw, ht⟩
      obtain ⟨r, hr1, rfl⟩ := nVs_get hv
      refine ⟨_, rfl, _, rfl, _, rfl, (by show 2 ≤ sizeLine; decide), fun t2 ht2 => ?_⟩
      refine ⟨t2, _, rfl, .inr (SqT.of upd_same), rfl, rfl, x, w, (m == 1 || m == 3), ?_, hx, fun l2 hl2 => ?_⟩
      · show [nV x, nV w, .bl (inV (nV m) [nV 1, nV 3])] = _
        rw [in13]
      rw [ec]
      obtain ⟨n4, hl2⟩ := upd_free hl2
      have a1 : ∀ b o, H1 b = some o → (upd (upd H1 t2 (HO.tup [nV 1, nV 3])) l2 (HO.lst (nVs cols))) b = some o := fun b o e => by
        rw [upd_ne (ne_of_none e hl2), upd_ne (ne_of_none e ht2)]
        exact e
      refine ⟨l2, rfl, ⟨_, SqL.of upd_same⟩, for_list (K := K) (a := l2) (xs := nVs cols) (fun j σ H' => ∃ vc : Option V, σ = [some (nV x), some (nV y), some (nV w), some (nV h), some (nV m), some (.ref pl), some (nV r), vc] ∧ Same H H' ∧ H' l1 = some (.lst (nVs rows)) ∧ H' l2 = some (.lst (nVs cols)) ∧
        ∃ ws, H' pl = some (.lst ws) ∧ Tups H' ws (((rows.take i).flatMap fun r => cols.map fun k => (k, r)) ++ (cols.take j).map fun k => (k, r))) ⟨vc, rfl, Same.trans s1 a1, a1 _ _ k1, upd_same, ws, a1 _ _ hw, ?_⟩ (fun j σ H' _ ⟨_, _, _, _, e, _⟩ => SqL.of e) ?_ ?_⟩
      · rw [List.take_zero, List.map_nil, List.append_nil]
        exact ht.sm a1
      · rintro j v σ H2 hv ⟨vc, rfl, s2, k2, k3, ws2, hw2, ht2⟩
        obtain ⟨c, hc1, rfl⟩ := nVs_get hv
        refine ⟨_, rfl, .inl ⟨rfl, _, SqL.of hw2⟩, _, rfl, _, rfl, (by show 2 ≤ sizeLine; decide), fun T hT => ⟨pl, ws2, _, rfl, rfl, ?_, ?_, ?_⟩⟩
        · rw [upd_ne (ne_of_none hw2 hT)]
          exact hw2
        · have z := ht2.len
          rw [List.length_append, flat_len, List.length_map] at z
          have z1 : (rows.take i).length * cols.length ≤ 2 * 2 := Nat.mul_le_mul (by rw [List.length_take]; omega) lc
          have z2 : (cols.take j).length ≤ cols.length := by rw [List.length_take]; omega
          omega
        · refine ⟨_, rfl, same_put (same_put s2 (s2.free hT)) hpl, ?_, ?_, _, upd_same, ?_⟩
          · rw [upd_ne n2, upd_ne (ne_of_none k2 hT)]
            exact k2
          · rw [upd_ne (ne_of_none hw hl2).symm, upd_ne (ne_of_none k3 hT)]
            exact k3
          · rw [take_snoc hc1, List.map_append, ← List.append_assoc]
            have hw' : upd H2 T (HO.tup [nV c, nV r]) pl = some (.lst ws2) := by
              rw [upd_ne (ne_of_none hw2 hT)]
              exact hw2
            exact Tups.lst hw' (Tups.snoc (c := (c, r)) upd_same (ht2.new hT))
      · rintro σ H2 ⟨vc, rfl, s2, k2, k3, ws2, hw2, ht2⟩
        refine ⟨_, _, rfl, s2, k2, ws2, hw2, ?_⟩
        rw [nVs_len, List.take_length] at ht2
        rw [take_snoc hr1, List.flatMap_append, List.flatMap_cons, List.flatMap_nil, List.append_nil]
        exact ht2
    · rintro σ H1 ⟨vr, vc, rfl, s1, k1, ws, hw, ht⟩
      refine ⟨_, rfl, q H1 pl ws s1 hpl hw ?_⟩
      rw [nVs_len, List.take_length, ← hi] at ht
      exact ht
end
end Bw
namespace Bw
open PySem PySem.Spec PyProof.Rows L2
open Ie08 (Cell near between gap)
abbrev sSInit : Stmt := inClass (topS 16) 0
abbrev sStamp : Stmt := inClass (topS 16) 1
abbrev sGives : Stmt := inClass (topS 16) 2
abbrev sAt : Stmt := inClass (topS 16) 3
abbrev sLead : Stmt := inClass (topS 16) 4
abbrev sShownOn : Stmt := inClass (topS 16) 5
/-- a stroke's fields -/
def sF (b : Addr) (w h x y n : Nat) (ls lm kd : Addr) : List (Str × V) := [("brush", .ref b), ("w", nV w), ("h", nV h), ("x", nV x), ("y", nV y), ("steps", nV n), ("stamped", .ref ls), ("mask", .ref lm), ("known", .ref kd)]
section
variable (b : Addr) (w h x y n : Nat) (ls lm kd : Addr)
theorem sF_brush : (sF b w h x y n ls lm kd).lookup ("brush" : Str) = some (.ref b) := rfl
theorem sF_w : (sF b w h x y n ls lm kd).lookup ("w" : Str) = some (nV w) := rfl
theorem sF_h : (sF b w h x y n ls lm kd).lookup ("h" : Str) = some (nV h) := rfl
theorem sF_x : (sF b w h x y n ls lm kd).lookup ("x" : Str) = some (nV x) := rfl
theorem sF_y : (sF b w h x y n ls lm kd).lookup ("y" : Str) = some (nV y) := rfl
theorem sF_steps : (sF b w h x y n ls lm kd).lookup ("steps" : Str) = some (nV n) := rfl
theorem sF_stamped : (sF b w h x y n ls lm kd).lookup ("stamped" : Str) = some (.ref ls) := rfl
theorem sF_mask : (sF b w h x y n ls lm kd).lookup ("mask" : Str) = some (.ref lm) := rfl
theorem sF_known : (sF b w h x y n ls lm kd).lookup ("known" : Str) = some (.ref kd) := rfl
theorem sF_gives : (sF b w h x y n ls lm kd).lookup ("gives" : Str) = none := rfl
theorem sF_sat : (sF b w h x y n ls lm kd).lookup ("strength_at" : Str) = none := rfl
theorem sF_stamp : (sF b w h x y n ls lm kd).lookup ("stamp" : Str) = none := rfl
theorem sF_lead : (sF b w h x y n ls lm kd).lookup ("lead" : Str) = none := rfl
theorem sF_shown_on : (sF b w h x y n ls lm kd).lookup ("shown_on" : Str) = none := rfl
end
/-- the class Stroke -/
structure StrokeC (K : PySem.W.Frag) (mg : Str → Option Value) (C : Addr) : Prop where
  cl : Cls K C
  a1 : NoAttr K C "brush"
  a2 : NoAttr K C "w"
  a3 : NoAttr K C "h"
  a4 : NoAttr K C "x"
  a5 : NoAttr K C "y"
  a6 : NoAttr K C "steps"
  a7 : NoAttr K C "stamped"
  a8 : NoAttr K C "mask"
  a9 : NoAttr K C "known"
/-! what a stamp at a cell gives to each -/
def givesL (k : Ie08.Brush) (w h : Nat) (c : Cell) : List Nat := (List.range (w * h)).map fun i => k.at_ (Ie08.far c (i % w, i / w))
theorem givesL_len (k : Ie08.Brush) (w h : Nat) (c : Cell) : (givesL k w h c).length = w * h := by
  unfold givesL
  rw [List.length_map, List.length_range]
theorem givesL_get (k : Ie08.Brush) (w h : Nat) (c : Cell) {i : Nat} (hi : i < w * h) : (givesL k w h c)[i]? = some (k.at_ (Ie08.far c (i % w, i / w))) := by
  unfold givesL
  rw [List.getElem?_map, List.getElem?_range hi]
  rfl
theorem zip_gives (k : Ie08.Brush) (w h : Nat) (c : Cell) (mk : List Nat) (hl : mk.length = w * h) : List.zipWith (Ie08.put k.build) mk (givesL k w h c) = Ie08.stamp1 k w mk c := by
  refine List.ext_getElem? fun i => ?_
  cases e : mk[i]? with
  | none =>
    have h1 := List.getElem?_eq_none_iff.mp e
    rw [List.getElem?_eq_none (by rw [List.length_zipWith, givesL_len]; omega), List.getElem?_eq_none (by rw [stamp1_len]; exact h1)]
  | some m =>
    have hi : i < w * h := by
      rw [← hl]
      exact (List.getElem?_eq_some_iff.mp e).1
    rw [zw_get e (givesL_get k w h c hi), stamp1_at e]
    rfl
/-! what is known -/
def key (x y : Nat) : List Key := [.inl (x : Int), .inl (y : Int)]
theorem key_inj {x y a b : Nat} (h : key x y = key a b) : x = a ∧ y = b := by
  unfold key at h
  injection h with h1 h2
  injection h2 with h2 _
  injection h1 with h1
  injection h2 with h2
  exact ⟨Int.ofNat.inj h1, Int.ofNat.inj h2⟩
/-- lists that are none of the stroke's -/
def Lists (X : Addr → Prop) (H : Hp) : Prop := ∀ a, X a → ∃ xs, H a = some (.lst xs)
def Known (X : Addr → Prop) (H : Hp) (ls : Addr) (w h : Nat) (k : Ie08.Brush) (kvs : List (List Key × V)) : Prop :=
  ∀ (x y : Nat) (v : V), valV kvs (key x y) = some v → ∃ a, v = .ref a ∧ a ≠ ls ∧ ¬ X a ∧ H a = some (.lst (nVs (givesL k w h (x, y))))
theorem Known.same {X : Addr → Prop} {H H' : Hp} {ls : Addr} {w h : Nat} {k : Ie08.Brush} {kvs : List (List Key × V)} (e : ∀ a xs, H a = some (.lst xs) → a ≠ ls → ¬ X a → H' a = some (.lst xs)) (K : Known X H ls w h k kvs) : Known X H' ls w h k kvs := fun x y v hv => by
  obtain ⟨a, e1, e2, e3, e4⟩ := K x y v hv
  exact ⟨a, e1, e2, e3, e a _ e4 e2 e3⟩
theorem Lists.free {X : Addr → Prop} {H : Hp} {a : Addr} (L : Lists X H) (n : H a = none) : ¬ X a := fun x => by
  obtain ⟨xs, e⟩ := L a x
  rw [n] at e
  cases e
section
variable {P : Program} {w : World} {K : PySem.W.Frag} {mg : Str → Option Value} {base : Heap} {CB CS : Addr}
/-! strength_at -/
def spAt (CB CS : Addr) : Sp := fun vs H Q _ => ∃ (t dx b : Addr) (w h x0 y0 n : Nat) (ls lm kd : Addr) (k : Ie08.Brush) (i x y : Nat), vs = [.ref t, nV i, nV x, nV y] ∧ H t = some (.ins CS dx (sF b w h x0 y0 n ls lm kd)) ∧
  BrushAt CB H b k ∧ BrushOk k ∧ x < w ∧ y < h ∧ w ≤ 12 ∧ h ≤ 12 ∧ i < w * h ∧ Q (nV (k.at_ (Ie08.far (x, y) (i % w, i / w)))) H
theorem scAt : FnScope ["self", "at", "x", "y", "d"] ["self", "at", "x", "y"] (C8.fnScope sAt) := C8.fnScope_by (by decide +kernel)
theorem met_at (TS : StrokeC K mg CS) (cS : C8.Cal P w K mg base 2 "strength" (spStrength CB) []) (D : MethAt K CS "strength_at" "Stroke.strength_at" sAt ["self", "at", "x", "y"]) : C8.Met P w K mg base 3 CS "strength_at" (spAt CB CS) [] := by
  refine D.met scAt (fun vs H Q E h => ?_) fun cdv f A outer s H vs Q E hr h => ?_
  · obtain ⟨t, dx, b, w, h, x0, y0, n, ls, lm, kd, k, i, x, y, rfl, _⟩ := h
    rfl
  · obtain ⟨t, dx, b, w, h, x0, y0, n, ls, lm, kd, k, i, x, y, rfl, ht, ⟨db, hb⟩, ok, hx, hy, hw, hh, hi, q⟩ := h
    refine ⟨_, pss_cons (ps_set (i := 4) scAt.nd rfl (.inl rfl) (pe_op op_add (pe_op op_pow (pe_op op_sub (pe_op op_mod (pv 1) (pe_fld (pv 0) rfl)) (pv 2)) pe_int) (pe_op op_pow (pe_op op_sub (pe_op op_fdiv (pv 1) (pe_fld (pv 0) rfl)) (pv 3)) pe_int)))
      (pss_one (ps_ret (C8.pe_c cS hr (by decide) rfl (pa_cons (pe_fld (pv 0) rfl) (pa_cons (pv 4) pa_nil))))), ?_⟩
    have h1 : i % w < w := Nat.mod_lt _ (by omega)
    have h2 : i / w < h := (Nat.div_lt_iff_lt_mul (by omega)).mpr (by rw [Nat.mul_comm]; exact hi)
    have e1 : (i : Int) % (w : Int) = ((i % w : Nat) : Int) := (Int.natCast_emod i w).symm
    have e2 : (i : Int) / (w : Int) = ((i / w : Nat) : Int) := (Int.natCast_ediv i w).symm
    refine ⟨_, rfl, _, rfl, t, CS, dx, _, _, rfl, ht, TS.cl, TS.a2, sF_w .., _, _, rfl, rfl, by omega, _, rfl, _, _, rfl, rfl, _, _, rfl, rfl, ⟨by decide, by decide, ?_⟩,
      _, rfl, _, rfl, t, CS, dx, _, _, rfl, ht, TS.cl, TS.a2, sF_w .., _, _, rfl, rfl, ⟨by omega, by omega⟩, _, rfl, _, _, rfl, rfl, _, _, rfl, rfl, ⟨by decide, by decide, ?_⟩, _, _, rfl, rfl, ?_⟩
    · rw [e1]
      omega
    · rw [e2]
      clear e1 e2
      generalize i / w = z at h2 ⊢
      omega
    refine ⟨_, rfl, t, CS, dx, _, _, rfl, ht, TS.cl, TS.a1, sF_brush .., _, rfl, b, k, Ie08.far (x, y) (i % w, i / w), ?_, ⟨db, hb⟩, ok, q⟩
    show [V.ref b, V.int (((i : Int) % (w : Int) - (x : Int)) ^ 2 + ((i : Int) / (w : Int) - (y : Int)) ^ 2)] = _
    rw [e1, e2, far_int]
/-! gives -/
def spGives (CB CS : Addr) : Sp := fun vs H Q _ => ∃ (X : Addr → Prop) (t dx b : Addr) (w h x0 y0 n : Nat) (ls lm kd : Addr) (k : Ie08.Brush) (x y : Nat) (us ms : List V) (kvs : List (List Key × V)), vs = [.ref t, nV x, nV y] ∧ H t = some (.ins CS dx (sF b w h x0 y0 n ls lm kd)) ∧
  BrushAt CB H b k ∧ BrushOk k ∧ x < w ∧ y < h ∧ w ≤ 12 ∧ h ≤ 12 ∧ H ls = some (.lst us) ∧ H lm = some (.lst ms) ∧ ms.length = w * h ∧ H kd = some (.dT kvs) ∧ kvs.length < 8000000 ∧ Known X H ls w h k kvs ∧ Lists X H ∧
  ∀ (H' : Hp) (p : Addr) (kvs' : List (List Key × V)), H' kd = some (.dT kvs') → kvs'.length ≤ kvs.length + 1 → Known X H' ls w h k kvs' → H' p = some (.lst (nVs (givesL k w h (x, y)))) → (∀ a o, H a = some o → a ≠ kd → H' a = some o) → Q (.ref p) H'
theorem scGives : FnScope ["self", "x", "y", "at"] ["self", "x", "y"] (C8.fnScope sGives) := C8.fnScope_by (by decide +kernel)
theorem met_gives (O : Own mg) (TB : BrushC K mg CB) (TS : StrokeC K mg CS) (cA : C8.Met P w K mg base 3 CS "strength_at" (spAt CB CS) []) (D : MethAt K CS "gives" "Stroke.gives" sGives ["self", "x", "y"]) : C8.Met P w K mg base 4 CS "gives" (spGives CB CS) [] := by
  refine D.met scGives (fun vs H Q E h => ?_) fun cdv f A outer s H vs Q E hr h => ?_
  · obtain ⟨X, t, dx, b, w, h, x0, y0, n, ls, lm, kd, k, x, y, us, ms, kvs, rfl, _⟩ := h
    rfl
  · obtain ⟨X, t, dx, b, w, h, x0, y0, n, ls, lm, kd, k, x, y, us, ms, kvs, rfl, ht, ⟨db, hb⟩, ok, hx, hy, hw, hh, hls, hlm, hml, hkd, hkl, hkn, hX, q⟩ := h
    refine ⟨_, pss_cons (ps_if (pt_cmp (pc_dnotin (hu_of hr) (pe_tup (pa_cons (pv 1) (pa_cons (pv 2) pa_nil))) (pe_fld (pv 0) rfl)))
        (pss_one (ps_dput (hu_of hr) (pe_fld (pv 0) rfl) (pe_tup (pa_cons (pv 1) (pa_cons (pv 2) pa_nil)))
          (pe_lc (own := [("at", 3)]) (g := gName 3) (tt := tYes) rfl scGives.nd (pi_range1 rfl O.range (pa_cons (pe_callB call_len_seq rfl O.len (by decide +kernel) (pa_cons (pe_fld (pv 0) rfl) pa_nil)) pa_nil))
            (blkOk_by (N := ["self", "x", "y", "at"]) (sc := C8.fnScope sGives) (by decide +kernel)) (fun _ _ _ _ _ => pg_name (i := 3) scGives.nd rfl (.inl rfl)) (fun _ _ _ _ _ => pts_nil)
            (fun _ _ _ _ _ => C8.pe_mt cA hr (by decide) (pv 0) (pa_cons (pv 3) (pa_cons (pv 1) (pa_cons (pv 2) pa_nil))))) rfl)) pss_nil)
      (pss_one (ps_ret (pe_dget (hu_of hr) (pe_fld (pv 0) rfl) (pe_tup (pa_cons (pv 1) (pa_cons (pv 2) pa_nil))) (fun _ _ => rfl)))), ?_⟩
    have hz : sizeLine = 16777216 := by decide
    have har := area_le hw hh
    have nk : t ≠ kd := ne_of ht hkd (by intro z; cases z)
    refine ⟨_, rfl, _, rfl, (by show 2 ≤ sizeLine; decide), fun T hT => ?_⟩
    have sT : ∀ a o, H a = some o → upd H T (.tup [nV x, nV y]) a = some o := fun a o e => by
      rw [upd_ne (ne_of_none e hT)]
      exact e
    refine ⟨_, rfl, t, CS, dx, _, _, rfl, sT _ _ ht, TS.cl, TS.a9, sF_known .., kd, _, rfl, DGet.t (k := key x y) (sT _ _ hkd) upd_same, _, rfl, ?_⟩
    cases ev : valV kvs (key x y) with
    | some v =>
      refine iteF' rfl ?_
      obtain ⟨a, rfl, na, xa, ha⟩ := hkn x y v ev
      refine ⟨_, rfl, t, CS, dx, _, _, rfl, sT _ _ ht, TS.cl, TS.a9, sF_known .., _, rfl, _, rfl, (by show 2 ≤ sizeLine; decide), fun T2 hT2 => ?_⟩
      have sT2 : ∀ a o, H a = some o → upd (upd H T (.tup [nV x, nV y])) T2 (.tup [nV x, nV y]) a = some o := fun a o e => by
        rw [upd_ne (ne_of_none (sT _ _ e) hT2)]
        exact sT _ _ e
      refine ⟨kd, .ref a, rfl, ?_, q _ a kvs (sT2 _ _ hkd) (by omega) (hkn.same fun a xs e _ _ => sT2 _ _ e) (sT2 _ _ ha) fun a o e _ => sT2 a o e⟩
      have z := DGet.t (k := key x y) (sT2 _ _ hkd) (upd_same (H := upd H T (.tup [nV x, nV y])) (a := T2) (o := .tup [nV x, nV y]))
      rw [ev] at z
      exact z
    | none =>
      refine iteT' rfl ?_
      refine ⟨_, rfl, t, CS, dx, _, _, rfl, sT _ _ ht, TS.cl, TS.a8, sF_mask .., lm, _, rfl, .inl (SqL.of (sT _ _ hlm)), ?_⟩
      rw [hml]
      refine ⟨((w * h : Nat) : Int), rfl, by omega, by omega, ?_⟩
      rw [Int.toNat_natCast]
      intro D hD
      obtain ⟨nDT, hD0⟩ := upd_free hD
      have nDl : D ≠ ls := (ne_of_none hls hD0).symm
      have nDX : ¬ X D := hX.free hD0
      refine lc_range (fun i H' => Same (upd H T (.tup [nV x, nV y])) H' ∧ H' D = some (.lst (nVs ((givesL k w h (x, y)).take i)))) ⟨same_put (Same.refl _) hD, upd_same⟩ ?_ ?_
      · rintro i H' hi ⟨sA, dA⟩
        refine ⟨rfl, yes_then ?_⟩
        refine ⟨_, rfl, t, dx, _, rfl, sA _ _ (sT _ _ ht), sF_sat .., _, rfl, _, rfl, _, rfl, t, dx, b, w, h, _, _, _, ls, lm, kd, k, i, x, y, ?_, sA _ _ (sT _ _ ht), ⟨db, sA _ _ (sT _ _ hb)⟩, ok, hx, hy, hw, hh, hi, _, dA, ?_, same_put sA hD, ?_⟩
        · show [V.ref t, V.int (0 + (i : Int)), nV x, nV y] = [V.ref t, nV i, nV x, nV y]
          rw [Int.zero_add]
        · rw [nVs_len, List.length_take]
          omega
        · rw [upd_same, take_snoc (givesL_get k w h (x, y) hi)]
          unfold nVs
          rw [List.map_append]
          rfl
      · rintro H3 ⟨z, dz⟩
        rw [← givesL_len k w h (x, y), List.take_length] at dz
        refine ⟨_, rfl, t, CS, dx, _, _, rfl, z _ _ (sT _ _ ht), TS.cl, TS.a9, sF_known .., _, rfl, _, rfl, (by show 2 ≤ sizeLine; decide), fun T2 hT2 => ?_⟩
        have z2 : ∀ a o, H3 a = some o → upd H3 T2 (.tup [nV x, nV y]) a = some o := fun a o e => by
          rw [upd_ne (ne_of_none e hT2)]
          exact e
        have hk2 := z2 _ _ (z _ _ (sT _ _ hkd))
        refine ⟨kd, _, rfl, DPut.t (k := key x y) hk2 upd_same (by omega), ?_⟩
        have hkd4 : upd (upd H3 T2 (.tup [nV x, nV y])) kd (.dT (putK kvs (key x y) (.ref D))) kd = some (.dT (putK kvs (key x y) (.ref D))) := upd_same
        have z4 : ∀ a o, H3 a = some o → a ≠ kd → upd (upd H3 T2 (.tup [nV x, nV y])) kd (.dT (putK kvs (key x y) (.ref D))) a = some o := fun a o e ne => by
          rw [upd_ne ne]
          exact z2 a o e
        revert hkd4 z4
        generalize upd (upd H3 T2 (.tup [nV x, nV y])) kd (.dT (putK kvs (key x y) (.ref D))) = H4
        intro hkd4 z4
        have ht4 := z4 _ _ (z _ _ (sT _ _ ht)) nk
        have hD4 := z4 _ _ dz (ne_of dz (z _ _ (sT _ _ hkd)) (by intro y; cases y))
        have ev4 : valV (putK kvs (key x y) (V.ref D)) (key x y) = some (.ref D) := by
          rw [valV_put, if_pos rfl]
        refine ⟨_, rfl, t, CS, dx, _, _, rfl, ht4, TS.cl, TS.a9, sF_known .., _, rfl, _, rfl, (by show 2 ≤ sizeLine; decide), fun T5 hT5 => ?_⟩
        have z5 : ∀ a o, H4 a = some o → upd H4 T5 (.tup [nV x, nV y]) a = some o := fun a o e => by
          rw [upd_ne (ne_of_none e hT5)]
          exact e
        refine ⟨kd, .ref D, rfl, ?_, q _ D _ (z5 _ _ hkd4) (DSub.putK_len ..) ?_ (z5 _ _ hD4) fun a o e ne => z5 _ _ (z4 _ _ (z _ _ (sT _ _ e)) ne)⟩
        · have zz := DGet.t (k := key x y) (z5 _ _ hkd4) (upd_same (H := H4) (a := T5) (o := .tup [nV x, nV y]))
          rw [ev4] at zz
          exact zz
        · intro x2 y2 v hv
          rw [valV_put] at hv
          by_cases ck : key x2 y2 = key x y
          · rw [if_pos ck] at hv
            obtain ⟨rfl, rfl⟩ := key_inj ck
            obtain rfl := Option.some.inj hv
            exact ⟨D, rfl, nDl, nDX, z5 _ _ hD4⟩
          · rw [if_neg ck] at hv
            obtain ⟨a, e1, e2, e3, e4⟩ := hkn x2 y2 v hv
            exact ⟨a, e1, e2, e3, z5 _ _ (z4 _ _ (z _ _ (sT _ _ e4)) (ne_of e4 hkd (by intro y; cases y)))⟩
/-! how a stroke lies in the heap -/
def StrokeAt (CB CS : Addr) (X : Addr → Prop) (H : Hp) (t ls kd : Addr) (w h : Nat) (s : Ie08.Stroke) : Prop := ∃ (dx b lm : Addr) (vs : List V) (kvs : List (List Key × V)), H t = some (.ins CS dx (sF b w h s.at_.1 s.at_.2 s.steps ls lm kd)) ∧ BrushAt CB H b s.brush ∧
  H ls = some (.lst vs) ∧ ¬ X ls ∧ Tups H vs s.stamps ∧ H lm = some (.lst (nVs s.mask)) ∧ lm ≠ ls ∧ ¬ X lm ∧ H kd = some (.dT kvs) ∧ Known X H ls w h s.brush kvs ∧ kvs.length ≤ 4 * s.stamps.length ∧ Lists X H
theorem kF_ne_sF {C C' dx dx' : Addr} {k : Ie08.Brush} {b : Addr} {w h x y n : Nat} {ls lm kd : Addr} : HO.ins C dx (kF k) ≠ HO.ins C' dx' (sF b w h x y n ls lm kd) := by
  intro e
  injection e with _ _ e
  have z : (("full" : Str), nV k.full) = (("brush" : Str), V.ref b) := (List.cons.inj e).1
  have z1 : ("full" : Str) = "brush" := congrArg Prod.fst z
  exact absurd z1 (by decide +kernel)
/-! stamp -/
def spStamp (CB CS : Addr) : Sp := fun vs H Q _ => ∃ (X : Addr → Prop) (t ls kd : Addr) (w h : Nat) (s : Ie08.Stroke), vs = [.ref t] ∧ StrokeAt CB CS X H t ls kd w h s ∧ StrokeOk w h s ∧ s.stamps.length < 1000000 ∧
  ∀ H' : Hp, StrokeAt CB CS X H' t ls kd w h { s with mask := Ie08.stamp s.brush w h s.mask s.at_, stamps := s.stamps ++ [s.at_] } → (∀ a o, H a = some o → a ≠ t → a ≠ ls → a ≠ kd → H' a = some o) → Q .non H'
theorem scStamp : FnScope ["self", "x", "y"] ["self"] (C8.fnScope sStamp) := C8.fnScope_by (by decide +kernel)
theorem met_stamp (O : Own mg) (TB : BrushC K mg CB) (TS : StrokeC K mg CS) (cI : C8.Cal P w K mg base 2 "images" spImages []) (cG : C8.Cal P w K mg base 1 "grown" spGrown []) (cV : C8.Met P w K mg base 4 CS "gives" (spGives CB CS) []) (D : MethAt K CS "stamp" "Stroke.stamp" sStamp ["self"]) : C8.Met P w K mg base 5 CS "stamp" (spStamp CB CS) [] := by
  refine D.met scStamp (fun vs H Q E h => ?_) fun cdv f A outer s H vs Q E hr h => ?_
  · obtain ⟨X, t, ls, kd, w, h, s, rfl, _⟩ := h
    rfl
  · obtain ⟨X, t, ls, kd, w, h, s, rfl, ⟨dx, b, lm, vs, kvs, ht, ⟨db, hb⟩, hls, xls, hts, hlm, nlm, xlm, hkd, hkn, hkl, hX⟩, ok, hn, q⟩ := h
    refine ⟨_, pss_cons (ps_expr (pe_bm PySem.F.plainAttrs_list PySem.F.slot_list_append PySem.F.type_list_append mt_append (pe_fld (pv 0) rfl) (pa_cons (pe_tup (pa_cons (pe_fld (pv 0) rfl) (pa_cons (pe_fld (pv 0) rfl) pa_nil))) pa_nil)))
      (pss_one (ps_for PassesOwn.never rfl (pi_list (C8.pe_c cI hr (by decide) rfl (pa_cons (pe_fld (pv 0) rfl) (pa_cons (pe_fld (pv 0) rfl) (pa_cons (pe_fld (pv 0) rfl) (pa_cons (pe_fld (pv 0) rfl) (pa_cons (pe_fld (pe_fld (pv 0) rfl) rfl) pa_nil)))))))
        (pg_tup rfl (pgs_cons (pg_name (i := 1) scStamp.nd rfl (.inl rfl)) (pgs_cons (pg_name (i := 2) scStamp.nd rfl (.inl rfl)) pgs_nil)))
        (pss_one (ps_fld (pv 0) (C8.pe_c cG hr (by decide) rfl (pa_cons (pe_fld (pv 0) rfl) (pa_cons (C8.pe_mt cV hr (by decide) (pv 0) (pa_cons (pv 1) (pa_cons (pv 2) pa_nil))) (pa_cons (pe_fld (pe_fld (pv 0) rfl) rfl) pa_nil)))) rfl)))), ?_⟩
    have hz : sizeLine = 16777216 := by decide
    have lvs := hts.len
    refine ⟨_, rfl, t, CS, dx, _, _, rfl, ht, TS.cl, TS.a7, sF_stamped .., .inl ⟨rfl, _, SqL.of hls⟩, _, rfl, t, CS, dx, _, _, rfl, ht, TS.cl, TS.a4, sF_x .., _, rfl, t, CS, dx, _, _, rfl, ht, TS.cl, TS.a5, sF_y .., (by show 2 ≤ sizeLine; decide), fun T hT =>
      ⟨ls, vs, _, rfl, rfl, (by rw [upd_ne (ne_of_none hls hT)]; exact hls), (by omega), ?_⟩⟩
    have k0 : ∀ a o, H a = some o → a ≠ ls → (upd (upd H T (.tup [nV s.at_.1, nV s.at_.2])) ls (.lst (vs ++ [.ref T]))) a = some o := fun a o e ne => by
      rw [upd_ne ne, upd_ne (ne_of_none e hT)]
      exact e
    have hls1 : (upd (upd H T (.tup [nV s.at_.1, nV s.at_.2])) ls (.lst (vs ++ [.ref T]))) ls = some (.lst (vs ++ [.ref T])) := upd_same
    have hts1 : Tups (upd (upd H T (.tup [nV s.at_.1, nV s.at_.2])) ls (.lst (vs ++ [.ref T]))) (vs ++ [.ref T]) (s.stamps ++ [s.at_]) :=
      Tups.lst (ys := vs) (by rw [upd_ne (ne_of_none hls hT)]; exact hls) (Tups.snoc (c := s.at_) upd_same (hts.new hT))
    revert k0 hls1 hts1
    generalize upd (upd H T (.tup [nV s.at_.1, nV s.at_.2])) ls (.lst (vs ++ [.ref T])) = H1
    intro k0 hls1 hts1
    have nt : t ≠ ls := ne_of ht hls (by intro z; cases z)
    have nb : b ≠ ls := ne_of hb hls (by intro z; cases z)
    have nkl : kd ≠ ls := ne_of hkd hls (by intro z; cases z)
    have nkt : kd ≠ t := ne_of hkd ht (by intro z; cases z)
    have ht1 := k0 _ _ ht nt
    have hb1 := k0 _ _ hb nb
    have hlm1 := k0 _ _ hlm nlm
    have hkd1 := k0 _ _ hkd nkl
    have hkn1 : Known X H1 ls w h s.brush kvs := hkn.same fun a xs e ne _ => k0 a _ e ne
    have hX1 : Lists X H1 := fun a xa => by
      obtain ⟨xs, e⟩ := hX a xa
      exact ⟨xs, k0 a _ e fun z => xls (z ▸ xa)⟩
    refine ⟨_, rfl, t, CS, dx, _, _, rfl, ht1, TS.cl, TS.a4, sF_x .., _, rfl, t, CS, dx, _, _, rfl, ht1, TS.cl, TS.a5, sF_y .., _, rfl, t, CS, dx, _, _, rfl, ht1, TS.cl, TS.a2, sF_w .., _, rfl, t, CS, dx, _, _, rfl, ht1, TS.cl, TS.a3, sF_h ..,
      _, rfl, t, CS, dx, _, _, rfl, ht1, TS.cl, TS.a1, sF_brush .., b, CB, db, _, _, rfl, hb1, TB.cl, TB.a8, bF_mirror .., s.at_.1, s.at_.2, w, h, s.brush.mirror, rfl, ok.hx, ok.hy, ok.bo.mi, fun H2 li ws s12 hli hws htw => ?_⟩
    have hin : ∀ c ∈ Ie08.images w h s.brush.mirror s.at_, c.1 < w ∧ c.2 < h := fun c hc => by
      rw [images_eq w h _ _ ok.bo.mi] at hc
      exact imgs_in ok.hx ok.hy c hc
    have hil : (Ie08.images w h s.brush.mirror s.at_).length ≤ 4 := by
      rw [images_eq w h _ _ ok.bo.mi]
      exact imgs_len ..
    have htw : Tups H2 ws (Ie08.images w h s.brush.mirror s.at_) := htw
    have est : Ie08.stamp s.brush w h s.mask s.at_ = (Ie08.images w h s.brush.mirror s.at_).foldl (Ie08.stamp1 s.brush w) s.mask := rfl
    rw [est] at q
    generalize Ie08.images w h s.brush.mirror s.at_ = ims at *
    have ht2 := s12 _ _ ht1
    have hb2 := s12 _ _ hb1
    have hls2 := s12 _ _ hls1
    have hkd2 := s12 _ _ hkd1
    have nbt : b ≠ t := ne_of hb2 ht2 kF_ne_sF
    have nbk : b ≠ kd := ne_of hb2 hkd2 (by intro z; cases z)
    refine ⟨li, rfl, ⟨_, SqL.of hws⟩, for_list (K := K) (a := li) (xs := ws) (fun i σ H' => ∃ vx vy : Option V, σ = [some (.ref t), vx, vy] ∧ ∃ (l : Addr) (kv : List (List Key × V)), H' t = some (.ins CS dx (sF b w h s.at_.1 s.at_.2 s.steps ls l kd)) ∧
      H' l = some (.lst (nVs ((ims.take i).foldl (Ie08.stamp1 s.brush w) s.mask))) ∧ l ≠ ls ∧ ¬ X l ∧ H' kd = some (.dT kv) ∧ kv.length ≤ 4 * s.stamps.length + i ∧ Known X H' ls w h s.brush kv ∧ ∀ a o, H2 a = some o → a ≠ t → a ≠ kd → H' a = some o)
      ⟨none, none, rfl, lm, kvs, ht2, s12 _ _ hlm1, nlm, xlm, hkd2, by omega, hkn1.same fun a xs e _ _ => s12 a _ e, fun _ _ e _ _ => e⟩
      (fun i σ H' _ ⟨_, _, _, l, _, _, _, _, _, _, _, _, k⟩ => SqL.of (k _ _ hws (ne_of hws ht2 (by intro z; cases z)) (ne_of hws hkd2 (by intro z; cases z)))) ?_ ?_⟩
    · rintro i v σ H' hv ⟨vx, vy, rfl, l, kv, ht', hl', nl', xl', hkd', hkl', hkn', kp⟩
      obtain ⟨r, c, rfl, hc, hr'⟩ := htw.get hv
      have hr2 := kp _ _ hr' (ne_of hr' ht2 (by intro z; cases z)) (ne_of hr' hkd2 (by intro z; cases z))
      have hcin := hin c (List.mem_of_getElem? hc)
      have hilt : i < ims.length := (List.getElem?_eq_some_iff.mp hc).1
      have hb' := kp _ _ hb2 nbt nbk
      have hls' := kp _ _ hls2 nt.symm nkl.symm
      have ml : ((ims.take i).foldl (Ie08.stamp1 s.brush w) s.mask).length = w * h := by
        rw [stampF_len]
        exact ok.ml
      have m8 := stampF_le ok.bo.fl w (ims.take i) s.mask ok.m8
      have enx : (ims.take (i + 1)).foldl (Ie08.stamp1 s.brush w) s.mask = Ie08.stamp1 s.brush w ((ims.take i).foldl (Ie08.stamp1 s.brush w) s.mask) c := by
        rw [take_snoc hc, List.foldl_append]
        rfl
      generalize (ims.take i).foldl (Ie08.stamp1 s.brush w) s.mask = mk at *
      have har := area_le ok.hw ok.hh
      have hX' : Lists X H' := fun a xa => by
        obtain ⟨xs, e⟩ := hX1 a xa
        exact ⟨xs, kp a _ (s12 _ _ e) (ne_of e ht1 (by intro z; cases z)) (ne_of e hkd1 (by intro z; cases z))⟩
      refine ⟨r, _, rfl, SqT.of hr2, rfl, _, _, rfl, _, _, rfl, rfl, ?_⟩
      refine ⟨_, rfl, t, CS, dx, _, _, rfl, ht', TS.cl, TS.a8, sF_mask .., _, rfl, t, dx, _, rfl, ht', sF_gives .., _, rfl, _, rfl, X, t, dx, b, w, h, _, _, _, ls, l, kd, s.brush, c.1, c.2, _, _, kv, rfl, ht', ⟨db, hb'⟩, ok.bo, hcin.1, hcin.2, ok.hw, ok.hh, hls', hl', ?_, hkd', by omega, hkn', hX', fun H3 lg kv3 hkd3 hkl3 hkn3 hlg3 kp3 => ?_⟩
      · rw [nVs_len, ml]
      have nlk : l ≠ kd := ne_of hl' hkd' (by intro z; cases z)
      have ht3 := kp3 _ _ ht' nkt.symm
      have hb3 := kp3 _ _ hb' nbk
      have hl3 := kp3 _ _ hl' nlk
      refine ⟨_, rfl, t, CS, dx, _, _, rfl, ht3, TS.cl, TS.a1, sF_brush .., b, CB, db, _, _, rfl, hb3, TB.cl, TB.a7, bF_build .., l, lg, mk, givesL s.brush w h (c.1, c.2), s.brush.build, rfl, hl3, hlg3, ?_, by omega, m8, fun H4 p s34 hp hp4 => ?_⟩
      · rw [givesL_len, ml]
      rw [zip_gives s.brush w h _ mk ml] at hp4
      have ht4 := s34 _ _ ht3
      have hkd4 := s34 _ _ hkd3
      have hls3 := kp3 _ _ hls' nkl.symm
      have npt : p ≠ t := (ne_of_none ht3 hp).symm
      have hX3 : Lists X H3 := fun a xa => by
        obtain ⟨xs, e⟩ := hX' a xa
        exact ⟨xs, kp3 a _ e (ne_of e hkd' (by intro z; cases z))⟩
      refine ⟨_, rfl, t, CS, dx, _, rfl, ht4, TS.cl, TS.a8, (by show 9 < 1000; decide), _, _, rfl, p, kv3, upd_same, ?_, (ne_of_none hls3 hp).symm, hX3.free hp, ?_, by omega, ?_, ?_⟩
      · rw [upd_ne npt, hp4, enx]
      · rw [upd_ne nkt]
        exact hkd4
      · refine hkn3.same fun a xs e _ _ => ?_
        rw [upd_ne (ne_of e ht3 (by intro z; cases z))]
        exact s34 _ _ e
      · intro a o e n1 n2
        rw [upd_ne n1]
        exact s34 _ _ (kp3 _ _ (kp _ _ e n1 n2) n2)
    · rintro σ H' ⟨vx, vy, rfl, l, kv, ht', hl', nl', xl', hkd', hkl', hkn', kp⟩
      rw [htw.len] at hkl'
      rw [htw.len, List.take_length] at hl'
      refine q H' ⟨dx, b, l, vs ++ [.ref T], kv, ht', ⟨db, kp _ _ hb2 nbt nbk⟩, kp _ _ hls2 nt.symm nkl.symm, xls, ?_, hl', nl', xl', hkd', hkn', ?_, fun a xa => ?_⟩ fun a o e n1 n2 n3 => kp _ _ (s12 _ _ (k0 _ _ e n2)) n1 n3
      · exact (hts1.sm s12).same fun a xs e => kp _ _ e (ne_of e ht2 (by intro y; cases y)) (ne_of e hkd2 (by intro y; cases y))
      · rw [List.length_append, List.length_singleton]
        omega
      · obtain ⟨xs, e⟩ := hX1 a xa
        exact ⟨xs, kp a _ (s12 _ _ e) (ne_of e ht1 (by intro z; cases z)) (ne_of e hkd1 (by intro z; cases z))⟩
end
end Bw
namespace Bw
open PySem PySem.Spec PyProof.Rows L2
open Ie08 (Cell near between gap)
section
variable {P : Program} {w : World} {K : PySem.W.Frag} {mg : Str → Option Value} {base : Heap} {CB CS : Addr}
/-! __init__ -/
/-- a stroke as it begins, its stamp made -/
def born (k : Ie08.Brush) (w h : Nat) (c : Cell) : Ie08.Stroke := ⟨k, c, 0, Ie08.stamp k w h (List.replicate (w * h) 0) c, [c]⟩
def spSInit (CB CS : Addr) : Sp := fun vs H Q _ => ∃ (X : Addr → Prop) (p dx b : Addr) (k : Ie08.Brush) (w h x y : Nat), vs = [.ref p, .ref b, nV w, nV h, nV x, nV y] ∧ H p = some (.ins CS dx []) ∧ Lists X H ∧ BrushAt CB H b k ∧ BrushOk k ∧ x < w ∧ y < h ∧ w ≤ 12 ∧ h ≤ 12 ∧
  ∀ (H' : Hp) (ls kd : Addr), StrokeAt CB CS X H' p ls kd w h (born k w h (x, y)) → (∀ a o, H a = some o → a ≠ p → H' a = some o) → Q .non H'
theorem scSInit : FnScope ["self", "brush", "w", "h", "x", "y"] ["self", "brush", "w", "h", "x", "y"] (C8.fnScope sSInit) := C8.fnScope_by (by decide +kernel)
theorem rep_one (n : Nat) (v : V) : (List.replicate n [v]).flatten = List.replicate n v := List.flatten_replicate_singleton
theorem mak_stroke (TB : BrushC K mg CB) (TS : StrokeC K mg CS) (cS : C8.Met P w K mg base 5 CS "stamp" (spStamp CB CS) []) (D : MakAt K mg "Stroke" CS "Stroke.__init__" sSInit ["self", "brush", "w", "h", "x", "y"]) : C8.Mak P w K mg base 6 "Stroke" CS (spSInit CB CS) [] := by
  refine D.mak scSInit (fun vs H Q E h => ?_) fun cdv f A outer s H vs Q E hr h => ?_
  · obtain ⟨X, p, dx, b, k, w, h, x, y, rfl, _⟩ := h
    rfl
  · obtain ⟨X, p, dx, b, k, w, h, x, y, rfl, hp, hX, ⟨db, hb⟩, ok, hx, hy, hw, hh, q⟩ := h
    have har := area_le hw hh
    have hz : sizeLine = 16777216 := by decide
    refine ⟨_, pss_cons (ps_fld (pv 0) (pv 1) rfl) (pss_cons (ps_fld (pv 0) (pv 2) rfl) (pss_cons (ps_fld (pv 0) (pv 3) rfl) (pss_cons (ps_fld (pv 0) (pv 4) rfl) (pss_cons (ps_fld (pv 0) (pv 5) rfl) (pss_cons (ps_fld (pv 0) pe_int rfl)
      (pss_cons (ps_fld (pv 0) (pe_lst pa_nil) rfl) (pss_cons (ps_fld (pv 0) (pe_op op_rep (pe_lst (pa_cons pe_int pa_nil)) (pe_op op_mul (pv 2) (pv 3))) rfl) (pss_cons (ps_fld (pv 0) pe_dnewT rfl) (pss_one (ps_expr (C8.pe_mt0 cS hr (by decide) (pv 0)))))))))))), ?_⟩
    refine ⟨_, rfl, _, rfl, p, CS, dx, [], rfl, hp, TS.cl, TS.a1, (by decide), ?_⟩
    refine ⟨_, rfl, _, rfl, p, CS, dx, _, rfl, upd_same, TS.cl, TS.a2, (by show 1 < 1000; decide), ?_⟩
    refine ⟨_, rfl, _, rfl, p, CS, dx, _, rfl, upd_same, TS.cl, TS.a3, (by show 2 < 1000; decide), ?_⟩
    refine ⟨_, rfl, _, rfl, p, CS, dx, _, rfl, upd_same, TS.cl, TS.a4, (by show 3 < 1000; decide), ?_⟩
    refine ⟨_, rfl, _, rfl, p, CS, dx, _, rfl, upd_same, TS.cl, TS.a5, (by show 4 < 1000; decide), ?_⟩
    refine ⟨_, rfl, p, CS, dx, _, rfl, upd_same, TS.cl, TS.a6, (by show 5 < 1000; decide), ?_⟩
    rw [upd_upd, upd_upd, upd_upd, upd_upd, upd_upd]
    refine ⟨(by show 0 ≤ sizeLine; decide), fun ls hls => ?_⟩
    obtain ⟨n1, hls⟩ := upd_free hls
    refine ⟨_, rfl, p, CS, dx, _, rfl, (by rw [upd_ne n1.symm]; exact upd_same), TS.cl, TS.a7, (by show 6 < 1000; decide), ?_⟩
    refine ⟨(by show 1 ≤ sizeLine; decide), fun l0 hl0 => ?_⟩
    obtain ⟨n2, hl0⟩ := upd_free hl0
    obtain ⟨n3, hl0⟩ := upd_free hl0
    obtain ⟨_, hl0⟩ := upd_free hl0
    refine ⟨_, rfl, _, rfl, _, _, rfl, rfl, .inl ⟨by omega, by omega⟩, l0, ((w * h : Nat) : Int), _, rfl, ?_, upd_same, by omega, by omega, ?_, fun lm hlm => ?_⟩
    · show V.int ((w : Int) * (h : Int)) = _
      rw [Int.natCast_mul]
    · show 1 * ((w * h : Nat) : Int).toNat ≤ sizeLine
      rw [Int.toNat_natCast]
      omega
    rw [Int.toNat_natCast, rep_one]
    obtain ⟨n4, hlm⟩ := upd_free hlm
    obtain ⟨n5, hlm⟩ := upd_free hlm
    obtain ⟨n6, hlm⟩ := upd_free hlm
    obtain ⟨_, hlm⟩ := upd_free hlm
    refine ⟨_, rfl, p, CS, dx, _, rfl, (by rw [upd_ne n5.symm, upd_ne n2.symm]; exact upd_same), TS.cl, TS.a8, (by show 7 < 1000; decide), ?_⟩
    intro kd hkd
    obtain ⟨m1, hkd⟩ := upd_free hkd
    obtain ⟨m2, hkd⟩ := upd_free hkd
    obtain ⟨m3, hkd⟩ := upd_free hkd
    obtain ⟨_, hkd⟩ := upd_free hkd
    obtain ⟨m5, hkd⟩ := upd_free hkd
    obtain ⟨_, hkd⟩ := upd_free hkd
    refine ⟨_, rfl, p, CS, dx, _, rfl, (by rw [upd_ne m1.symm]; exact upd_same), TS.cl, TS.a9, (by show 8 < 1000; decide), ?_⟩
    generalize eF : upd (upd (upd (upd (upd (upd (upd (upd H p _) ls _) p _) l0 _) lm _) p _) kd _) p _ = HF
    have fr : ∀ a o, H a = some o → a ≠ p → HF a = some o := fun a o e ne => by
      rw [← eF, upd_ne ne, upd_ne (ne_of_none e hkd), upd_ne ne, upd_ne (ne_of_none e hlm), upd_ne (ne_of_none e hl0), upd_ne ne, upd_ne (ne_of_none e hls), upd_ne ne]
      exact e
    have fP : HF p = some (.ins CS dx (sF b w h x y 0 ls lm kd)) := by
      rw [← eF, upd_same]
      rfl
    have fL : HF ls = some (.lst []) := by
      rw [← eF, upd_ne n1, upd_ne m5.symm, upd_ne n1, upd_ne n6.symm, upd_ne n3.symm, upd_ne n1, upd_same]
    have fM : HF lm = some (.lst (nVs (List.replicate (w * h) 0))) := by
      rw [← eF, upd_ne n5, upd_ne m2.symm, upd_ne n5, upd_same]
      show some (HO.lst (List.replicate (w * h) (nV 0))) = some (HO.lst ((List.replicate (w * h) 0).map nV))
      rw [List.map_replicate]
    have fK : HF kd = some (.dT []) := by
      rw [← eF, upd_ne m1, upd_same]
    have fX : Lists X HF := fun a xa => by
      obtain ⟨xs, e⟩ := hX a xa
      exact ⟨xs, fr a _ e (ne_of e hp (by intro z; cases z))⟩
    refine ⟨_, rfl, p, dx, _, rfl, fP, sF_stamp .., X, p, ls, kd, w, h, ⟨k, (x, y), 0, List.replicate (w * h) 0, []⟩, rfl, ⟨dx, b, lm, [], [], fP, ⟨db, fr b _ hb (ne_of hb hp (by intro z; cases z))⟩, fL, hX.free hls, trivial, fM, n6, hX.free hlm, fK, (fun _ _ _ z => nomatch z), Nat.zero_le _, fX⟩,
      ⟨ok, hx, hy, hw, hh, List.length_replicate, ?_⟩, (by show 0 < 1000000; decide), fun H' sA fr2 => ?_⟩
    · intro z hz2
      rw [List.mem_replicate] at hz2
      omega
    · exact q H' ls kd sA fun a o e ne => fr2 a o (fr a o e ne) ne (ne_of_none e hls) (ne_of_none e hkd)
/-! lead -/
def spLead (CB CS : Addr) : Sp := fun vs H Q _ => ∃ (X : Addr → Prop) (t ls kd : Addr) (w h : Nat) (s : Ie08.Stroke) (x y : Nat), vs = [.ref t, nV x, nV y] ∧ StrokeAt CB CS X H t ls kd w h s ∧ StrokeOk w h s ∧ x < w ∧ y < h ∧ s.stamps.length + 1000 < 1000000 ∧
  ∀ H' : Hp, StrokeAt CB CS X H' t ls kd w h (Ie08.on w h s (x, y)) → (∀ a o, H a = some o → a ≠ t → a ≠ ls → a ≠ kd → H' a = some o) → Q .non H'
theorem scLead : FnScope ["self", "x", "y", "column", "row"] ["self", "x", "y"] (C8.fnScope sLead) := C8.fnScope_by (by decide +kernel)
theorem met_lead (TB : BrushC K mg CB) (TS : StrokeC K mg CS) (cW : C8.Cal P w K mg base 3 "way" spWay []) (cS : C8.Met P w K mg base 5 CS "stamp" (spStamp CB CS) []) (D : MethAt K CS "lead" "Stroke.lead" sLead ["self", "x", "y"]) : C8.Met P w K mg base 6 CS "lead" (spLead CB CS) [] := by
  refine D.met scLead (fun vs H Q E h => ?_) fun cdv f A outer s H vs Q E hr h => ?_
  · obtain ⟨X, t, ls, kd, w, h, s, x, y, rfl, _⟩ := h
    rfl
  · obtain ⟨X, t, ls, kd, w, h, s, x, y, rfl, hS, ok, hx, hy, hn, q⟩ := h
    refine ⟨_, pss_one (ps_for PassesOwn.never rfl (pi_list (C8.pe_c cW hr (by decide) rfl (pa_cons (pe_fld (pv 0) rfl) (pa_cons (pe_fld (pv 0) rfl) (pa_cons (pv 1) (pa_cons (pv 2) pa_nil))))))
        (pg_tup rfl (pgs_cons (pg_name (i := 3) scLead.nd rfl (.inl rfl)) (pgs_cons (pg_name (i := 4) scLead.nd rfl (.inl rfl)) pgs_nil)))
        (pss_cons (ps_fldaug (pv 0) pe_int in_add) (pss_cons (ps_fld (pv 0) (pv 3) rfl) (pss_cons (ps_fld (pv 0) (pv 4) rfl)
          (pss_one (ps_if (pt_cmpR op_eq (pe_op op_mod (pe_fld (pv 0) rfl) (pe_fld (pe_fld (pv 0) rfl) rfl)) pe_int (nomark _)) (pss_one (ps_expr (C8.pe_mt0 cS hr (by decide) (pv 0)))) pss_nil)))))), ?_⟩
    obtain ⟨dx, b, lm, vs, kvs, ht, hb, hls, xls, hts, hlm, nlm, xlm, hkd, hkn, hkl, hX⟩ := id hS
    have ohx := ok.hx
    have ohy := ok.hy
    have ohw := ok.hw
    have ohh := ok.hh
    refine ⟨_, rfl, t, CS, dx, _, _, rfl, ht, TS.cl, TS.a4, sF_x .., _, rfl, t, CS, dx, _, _, rfl, ht, TS.cl, TS.a5, sF_y .., _, rfl, _, rfl, s.at_.1, s.at_.2, x, y, rfl, by omega, by omega, by omega, by omega, fun H2 li ws s12 hli hws htw => ?_⟩
    have hwl : (Ie08.way s.at_ (x, y)).length ≤ 24 := by
      rw [way_length]
      unfold gap
      dsimp only
      omega
    have hin := way_in s.at_ (x, y) w h ⟨ohx, ohy⟩ ⟨hx, hy⟩
    have htw : Tups H2 ws (Ie08.way s.at_ (x, y)) := htw
    have eon : Ie08.on w h s (x, y) = (Ie08.way s.at_ (x, y)).foldl (Ie08.on1 w h) s := rfl
    rw [eon] at q
    generalize Ie08.way s.at_ (x, y) = cs at *
    have nli : li ≠ ls := (ne_of_none hls hli).symm
    have nlt : li ≠ t := (ne_of_none ht hli).symm
    have nlk : li ≠ kd := (ne_of_none hkd hli).symm
    refine ⟨li, rfl, ⟨_, SqL.of hws⟩, for_list (K := K) (a := li) (xs := ws) (fun i σ H' => ∃ vc vr : Option V, σ = [some (.ref t), some (nV x), some (nV y), vc, vr] ∧ StrokeAt CB CS X H' t ls kd w h ((cs.take i).foldl (Ie08.on1 w h) s) ∧
      StrokeOk w h ((cs.take i).foldl (Ie08.on1 w h) s) ∧ ((cs.take i).foldl (Ie08.on1 w h) s).stamps.length ≤ s.stamps.length + i ∧ ∀ a o, H2 a = some o → a ≠ t → a ≠ ls → a ≠ kd → H' a = some o)
      ⟨none, none, rfl, ⟨dx, b, lm, vs, kvs, s12 _ _ ht, ?_, s12 _ _ hls, xls, hts.sm s12, s12 _ _ hlm, nlm, xlm, s12 _ _ hkd, hkn.same (fun a xs e _ _ => s12 a _ e), hkl, fun a xa => (hX a xa).imp fun xs e => s12 _ _ e⟩, ok, Nat.le_refl _, fun _ _ e _ _ _ => e⟩ (fun i σ H' _ ⟨_, _, _, _, _, _, k⟩ => SqL.of (k _ _ hws nlt nli nlk)) ?_ ?_⟩
    · obtain ⟨db, hb⟩ := hb
      exact ⟨db, s12 _ _ hb⟩
    · rintro i v σ H' hv ⟨vc, vr, rfl, hS', ok', hn', kp⟩
      obtain ⟨r, c, rfl, hc, hr'⟩ := htw.get hv
      have hlt := (List.getElem?_eq_some_iff.mp hc).1
      have hcin := hin c (List.mem_of_getElem? hc)
      rw [take_snoc hc, List.foldl_append, List.foldl_cons, List.foldl_nil]
      generalize (cs.take i).foldl (Ie08.on1 w h) s = s' at *
      obtain ⟨dx', b', lm', vs', kv', ht', ⟨db', hb'⟩, hls', xls', hts', hlm', nlm', xlm', hkd', hkn', hkl', hX'⟩ := hS'
      have nrt : r ≠ t := ne_of hr' (s12 _ _ ht) (by intro z; cases z)
      have nrl : r ≠ ls := ne_of hr' (s12 _ _ hls) (by intro z; cases z)
      have nrk : r ≠ kd := ne_of hr' (s12 _ _ hkd) (by intro z; cases z)
      refine ⟨r, _, rfl, SqT.of (kp _ _ hr' nrt nrl nrk), rfl, _, _, rfl, _, _, rfl, rfl, ?_⟩
      refine ⟨_, rfl, t, CS, dx', _, _, rfl, ht', TS.cl, TS.a6, sF_steps .., _, _, rfl, rfl, dx', _, ht', (by show 9 < 1000; decide), ?_⟩
      refine ⟨_, rfl, _, rfl, t, CS, dx', _, rfl, upd_same, TS.cl, TS.a4, (by show 9 < 1000; decide), ?_⟩
      refine ⟨_, rfl, _, rfl, t, CS, dx', _, rfl, upd_same, TS.cl, TS.a5, (by show 9 < 1000; decide), ?_⟩
      rw [upd_upd, upd_upd]
      have nbt : b' ≠ t := ne_of hb' ht' kF_ne_sF
      have nls : ls ≠ t := ne_of hls' ht' (by intro z; cases z)
      have nlm2 : lm' ≠ t := ne_of hlm' ht' (by intro z; cases z)
      have nkd2 : kd ≠ t := ne_of hkd' ht' (by intro z; cases z)
      have lst2 : ∀ a xs, H' a = some (.lst xs) → upd H' t (.ins CS dx' (sF b' w h c.1 c.2 (s'.steps + 1) ls lm' kd)) a = some (.lst xs) := fun a xs e => by
        rw [upd_ne (ne_of e ht' (by intro z; cases z))]
        exact e
      have hS2 : StrokeAt CB CS X (upd H' t (.ins CS dx' (sF b' w h c.1 c.2 (s'.steps + 1) ls lm' kd))) t ls kd w h { s' with at_ := c, steps := s'.steps + 1 } :=
        ⟨dx', b', lm', vs', kv', upd_same, ⟨db', by rw [upd_ne nbt]; exact hb'⟩, lst2 _ _ hls', xls', hts'.ins ht', lst2 _ _ hlm', nlm', xlm', by rw [upd_ne nkd2]; exact hkd', hkn'.same (fun a xs e _ _ => lst2 a xs e), hkl', fun a xa => (hX' a xa).imp fun xs e => lst2 a xs e⟩
      have kp2 : ∀ a o, H2 a = some o → a ≠ t → a ≠ ls → a ≠ kd → upd H' t (.ins CS dx' (sF b' w h c.1 c.2 (s'.steps + 1) ls lm' kd)) a = some o := fun a o e n1 n2 n3 => by
        rw [upd_ne n1]
        exact kp a o e n1 n2 n3
      have ok2 := on1_ok ok' hcin
      have hn2 := on1_len (w := w) (h := h) (s := s') (c := c)
      refine ⟨_, rfl, t, CS, dx', _, _, rfl, upd_same, TS.cl, TS.a6, rfl, _, rfl, t, CS, dx', _, _, rfl, upd_same, TS.cl, TS.a1, rfl, b', CB, db', _, _, rfl, (by rw [upd_ne nbt]; exact hb'), TB.cl, TB.a3, bF_space .., _, _, rfl, rfl, ?_, rfl, _, rfl, ?_⟩
      · have := ok'.bo.s0
        omega
      have em : (((s'.steps : Nat) : Int) + 1) % ((s'.brush.space : Nat) : Int) = (((s'.steps + 1) % s'.brush.space : Nat) : Int) := by
        rw [Int.natCast_emod]
        rfl
      have okm : StrokeOk w h { s' with at_ := c, steps := s'.steps + 1 } := ⟨ok'.bo, hcin.1, hcin.2, ok'.hw, ok'.hh, ok'.ml, ok'.m8⟩
      by_cases cz : (s'.steps + 1) % s'.brush.space = 0
      · have e1 : Ie08.on1 w h s' c = { s' with at_ := c, steps := s'.steps + 1, mask := Ie08.stamp s'.brush w h s'.mask c, stamps := s'.stamps ++ [c] } := if_pos cz
        refine iteT' (decide_eq_true (show V.int ((((s'.steps : Nat) : Int) + 1) % ((s'.brush.space : Nat) : Int)) = V.int 0 by rw [em, cz]; rfl)) ?_
        refine ⟨_, rfl, t, dx', _, rfl, upd_same, rfl, X, t, ls, kd, w, h, { s' with at_ := c, steps := s'.steps + 1 }, rfl, hS2, okm, ?_, fun H3 sA fr => ⟨_, _, rfl, ?_, ok2, by omega, fun a o e n1 n2 n3 => fr a o (kp2 a o e n1 n2 n3) n1 n2 n3⟩⟩
        · show s'.stamps.length < 1000000
          omega
        · rw [e1]
          exact sA
      · have e1 : Ie08.on1 w h s' c = { s' with at_ := c, steps := s'.steps + 1 } := if_neg cz
        refine iteF' (decide_eq_false (show ¬ V.int ((((s'.steps : Nat) : Int) + 1) % ((s'.brush.space : Nat) : Int)) = V.int 0 from fun z => cz (by rw [em] at z; injection z with z; omega))) ?_
        refine ⟨_, _, rfl, ?_, ok2, by omega, kp2⟩
        rw [e1]
        exact hS2
    · rintro σ H' ⟨vc, vr, rfl, hS', ok', hn', kp⟩
      rw [htw.len, List.take_length] at hS'
      exact q H' hS' fun a o e n1 n2 n3 => kp a o (s12 _ _ e) n1 n2 n3
/-! shown_on -/
def spShownOn (CB CS : Addr) : Sp := fun vs H Q _ => ∃ (X : Addr → Prop) (t ls kd lc : Addr) (w h : Nat) (s : Ie08.Stroke) (cs : List Nat), vs = [.ref t, .ref lc] ∧ StrokeAt CB CS X H t ls kd w h s ∧ StrokeOk w h s ∧ H lc = some (.lst (nVs cs)) ∧ cs.length = w * h ∧ (∀ x ∈ cs, x ≤ 255) ∧
  ∀ (H' : Hp) (p : Addr), Same H H' → H p = none → H' p = some (.lst (nVs (Ie08.shown cs s))) → Q (.ref p) H'
theorem scShownOn : FnScope ["self", "cells", "v", "m"] ["self", "cells"] (C8.fnScope sShownOn) := C8.fnScope_by (by decide +kernel)
theorem shown_get {cs : List Nat} {s : Ie08.Stroke} {i v m : Nat} (h1 : cs[i]? = some v) (h2 : s.mask[i]? = some m) : (Ie08.shown cs s)[i]? = some (Ie08.toned v s.brush.tone (m * s.brush.opacity)) := by
  unfold Ie08.shown
  rw [List.getElem?_map, List.getElem?_zip_eq_some (z := (v, m)) |>.mpr ⟨h1, h2⟩] <;> rfl
theorem met_shownOn (O : Own mg) (TB : BrushC K mg CB) (TS : StrokeC K mg CS) (cS : C8.Cal P w K mg base 2 "shown" (spShown CB) []) (D : MethAt K CS "shown_on" "Stroke.shown_on" sShownOn ["self", "cells"]) : C8.Met P w K mg base 3 CS "shown_on" (spShownOn CB CS) [] := by
  refine D.met scShownOn (fun vs H Q E h => ?_) fun cdv f A outer s H vs Q E hr h => ?_
  · obtain ⟨X, t, ls, kd, lc, w, h, s, cs, rfl, _⟩ := h
    rfl
  · obtain ⟨X, t, ls, kd, lc, w, h, s, cs, rfl, ⟨dx, b, lm, vs, kvs, ht, ⟨db, hb⟩, hls, xls, hts, hlm, nlm, xlm, hkd, hkn, hkl, hX⟩, ok, hlc, hcl, hc8, q⟩ := h
    refine ⟨_, pss_one (ps_ret (pe_lc (own := [("v", 2), ("m", 3)]) (g := gTup K 2 (gCons (gName 2) (gCons (gName 3) gNil))) (tt := tYes) (te := tCall (spShown CB) [] C8.E0 (tCons (tVar 2) (tCons (tVar 3) (tCons (tFld K (tVar 0) "brush") tNil)))) rfl scShownOn.nd (pi_zip rfl O.zip (pa_cons (pv 1) (pa_cons (pe_fld (pv 0) rfl) pa_nil)))
          (blkOk_by (N := ["self", "cells", "v", "m"]) (sc := C8.fnScope sShownOn) (by decide +kernel))
          (fun _ _ _ _ _ => pg_tup rfl (pgs_cons (pg_name (i := 2) scShownOn.nd rfl (.inl rfl)) (pgs_cons (pg_name (i := 3) scShownOn.nd rfl (.inl rfl)) pgs_nil))) (fun _ _ _ _ _ => pts_nil)
          (fun _ _ _ _ _ => C8.pe_c cS hr (by decide) rfl (pa_cons (pv 2) (pa_cons (pv 3) (pa_cons (pe_fld (pv 0) rfl) pa_nil)))))), ?_⟩
    have ml := ok.ml
    have har := area_le ok.hw ok.hh
    have hz : sizeLine = 16777216 := by decide
    have esh : (Ie08.shown cs s).length = w * h := by
      unfold Ie08.shown
      rw [List.length_map, List.length_zip]
      omega
    refine ⟨_, rfl, _, rfl, t, CS, dx, _, _, rfl, ht, TS.cl, TS.a8, sF_mask .., lc, lm, _, _, rfl, SqL.of hlc, SqL.of hlm, fun D hD => ?_⟩
    refine lc_it (walk_zip (xs := nVs cs) (ys := nVs s.mask) (n := w * h) (by rw [nVs_len, nVs_len]; omega)) (fun j H3 => Same H H3 ∧ H3 D = some (.lst (nVs ((Ie08.shown cs s).take j)))) ⟨same_put (Same.refl _) hD, upd_same⟩ (fun j H3 _ ⟨z, _⟩ => ⟨SqL.of (z _ _ hlc), SqL.of (z _ _ hlm)⟩) ?_ ?_
    · rintro j x Ha Hb hj ⟨sA, dA⟩ ⟨T2, u, v, rfl, hT2, rfl, e1, e2⟩
      obtain ⟨c, hc, rfl⟩ := nVs_get e1
      obtain ⟨m, hm, rfl⟩ := nVs_get e2
      have sB : ∀ a o, H a = some o → upd Ha T2 (HO.tup [nV c, nV m]) a = some o := fun a o e => by
        rw [upd_ne (ne_of_none (sA _ _ e) hT2)]
        exact sA _ _ e
      refine ⟨T2, _, rfl, SqT.of upd_same, rfl, _, _, rfl, _, _, rfl, rfl, rfl, yes_then ?_⟩
      refine ⟨_, rfl, _, rfl, _, rfl, t, CS, dx, _, _, rfl, sB _ _ ht, TS.cl, TS.a1, sF_brush .., c, m, b, s.brush, rfl, ⟨db, sB _ _ hb⟩, ok.bo, hc8 c (List.mem_of_getElem? hc), ok.m8 m (List.mem_of_getElem? hm), ?_⟩
      refine ⟨_, (by rw [upd_ne (ne_of_none dA hT2)]; exact dA), ?_, same_put sB hD, ?_⟩
      · rw [nVs_len, List.length_take]
        omega
      · rw [upd_same, take_snoc (shown_get hc hm)]
        unfold nVs
        rw [List.map_append]
        rfl
    · rintro H3 ⟨z, dz⟩
      rw [← esh, List.take_length] at dz
      exact q H3 D z hD dz
end
end Bw
namespace Bw
open PySem PySem.Calls PySem.Spec PyProof.Rows L2
/-! list(zip(a, b)): the model's own tree -/
section
variable {prog : Program} {w : World} {A : Around} {E : Value → Shared → Prop} {s : Shared} {z TI TO i1 i2 l1 l2 S : Addr} {xs ys : Array Value}
/-- a zip that has given out i pairs; none of them was let go -/
def ZSt (z TI TO i1 i2 l1 l2 S : Addr) (xs ys : Array Value) (h : Heap) (i : Nat) : Prop :=
  (IsPair h TI (.ref i1) (.ref i2) ∧ h.IsListIter i1 l1 i ∧ h.IsListIter i2 l2 i ∧ h.IsList l1 xs ∧ h.IsList l2 ys) ∧
    ((IsZip h z TI TO .none ∧ ∃ a b, IsPair h TO a b) ∨ ∃ T f oT, IsZipHeld h z TI TO T f ∧ h.get? T = some oT ∧ T ≠ z ∧ T ≠ i1 ∧ T ≠ i2 ∧ T ≠ S)
structure ZOff (z TI TO i1 i2 l1 l2 S : Addr) : Prop where
  o1 : z ≠ S
  o2 : TI ≠ S
  o3 : TO ≠ S
  o4 : i1 ≠ S
  o5 : i2 ≠ S
  o6 : l1 ≠ S
  o7 : l2 ≠ S
theorem ZSt.keep (O : ZOff z TI TO i1 i2 l1 l2 S) {h h' : Heap} {i : Nat} (x : ZSt z TI TO i1 i2 l1 l2 S xs ys h i) (hk : ∀ b o, b ≠ S → h.get? b = some o → h'.get? b = some o) : ZSt z TI TO i1 i2 l1 l2 S xs ys h' i := by
  obtain ⟨⟨c1, c2, c3, c4, c5⟩, c6⟩ := x
  refine ⟨⟨hk _ _ O.o2 c1, c2.at fun o e => hk _ o O.o4 e, c3.at fun o e => hk _ o O.o5 e, c4.at fun o e => hk _ o O.o6 e, c5.at fun o e => hk _ o O.o7 e⟩, ?_⟩
  rcases c6 with ⟨hz, a, b, d⟩ | ⟨T, f, oT, hz, hT, r1, r2, r3, r4⟩
  · exact .inl ⟨hk _ _ O.o1 hz, a, b, hk _ _ O.o3 d⟩
  · exact .inr ⟨T, f, oT, hk _ _ O.o1 hz, hk _ _ r4 hT, r1, r2, r3, r4⟩
theorem zst_item (D : ZipApart z TI TO i1 i2 l1 l2) {i : Nat} {x y : Value} {Q : Option Value → Shared → Prop} (st : ZSt z TI TO i1 i2 l1 l2 S xs ys s.heap i) (hS : S < s.heap.objs.size) (ex : xs[i]? = some x) (ey : ys[i]? = some y)
    (hQ : ∀ h', ZSt z TI TO i1 i2 l1 l2 S xs ys h' (i + 1) → IsPair h' s.heap.objs.size x y → h'.objs.size = s.heap.objs.size + 1 → (∀ c o, c ≠ z → c ≠ TO → c ≠ i1 → c ≠ i2 → s.heap.get? c = some o → h'.get? c = some o) → Q (some (.ref s.heap.objs.size)) { s with heap := h' }) :
    wpAny (model prog w) A (pyNext (.ref z)) Q E s := by
  obtain ⟨⟨c1, c2, c3, c4, c5⟩, c6⟩ := st
  have lt : ∀ {c o}, s.heap.get? c = some o → s.heap.objs.size ≠ c := fun e => Nat.ne_of_gt (Heap.lt_size e)
  have n1 : s.heap.objs.size ≠ i1 := by
    obtain ⟨_, e, _⟩ := c2
    exact lt e
  have n2 : s.heap.objs.size ≠ i2 := by
    obtain ⟨_, e, _⟩ := c3
    exact lt e
  rcases c6 with ⟨hz, a, b, hTO⟩ | ⟨T, f, oT, hz, hT, r1, r2, r3, r4⟩
  · refine wpAny_pyNext_zip_item D hz c1 hTO c2 c3 c4 c5 ex ey fun h' a1 a2 a3 a4 a5 a6 hk => hQ h' ⟨⟨?_, a3, a4, ?_, ?_⟩, .inr ⟨_, false, _, a1, a5, lt hz, n1, n2, Nat.ne_of_gt hS⟩⟩ a5 a6 hk
    · exact hk _ _ D.TIz D.TITO D.TIi1 D.TIi2 c1
    · exact c4.at fun o e => hk _ o D.l1z D.l1TO D.l1i1 D.l1i2 e
    · exact c5.at fun o e => hk _ o D.l2z D.l2TO D.l2i1 D.l2i2 e
  · refine wpAny_pyNext_zip_item_held D hz hT c1 c2 c3 c4 c5 ex ey fun h' a1 a3 a4 a5 a6 hk => hQ h' ⟨⟨?_, a3, a4, ?_, ?_⟩, .inr ⟨T, true, oT, a1, hk _ _ r1 r2 r3 hT, r1, r2, r3, r4⟩⟩ a5 a6 fun c o h1 _ h3 h4 e => hk c o h1 h3 h4 e
    · exact hk _ _ D.TIz D.TIi1 D.TIi2 c1
    · exact c4.at fun o e => hk _ o D.l1z D.l1i1 D.l1i2 e
    · exact c5.at fun o e => hk _ o D.l2z D.l2i1 D.l2i2 e
theorem zst_done (hh : A.handled = none) (D : ZipApart z TI TO i1 i2 l1 l2) {i : Nat} {Q : Option Value → Shared → Prop} (st : ZSt z TI TO i1 i2 l1 l2 S xs ys s.heap i) (hx : xs[i]? = none)
    (hQ : ∀ h', (∀ c o, c ≠ z → c ≠ TO → c ≠ i1 → c ≠ i2 → s.heap.get? c = some o → h'.get? c = some o) → Q none { s with heap := h' }) : wpAny (model prog w) A (pyNext (.ref z)) Q E s := by
  obtain ⟨⟨c1, c2, c3, c4, c5⟩, c6⟩ := st
  rcases c6 with ⟨hz, a, b, hTO⟩ | ⟨T, f, oT, hz, hT, r1, r2, r3, r4⟩
  · exact wpAny_pyNext_zip_end hh D hz c1 hTO c2 c3 c4 c5 (.inl hx) fun h' hk => hQ h' hk
  · exact wpAny_pyNext_zip_end_held hh D hz hT c1 c2 c3 c4 c5 (.inl hx) fun h' hk => hQ h' fun c o h1 _ h3 h4 e => hk c o h1 h3 h4 e
/-- the pairs that were given out, each at an address of its own above lo -/
structure ZG (xs ys : Array Value) (lo : Addr) (h : Heap) (as : List Addr) : Prop where
  rise : as.Pairwise (· < ·)
  above : ∀ a ∈ as, lo < a
  pairs : ∀ (j : Nat) (a : Addr), as[j]? = some a → ∃ x y, xs[j]? = some x ∧ ys[j]? = some y ∧ IsPair h a x y
theorem zl_loop {R : Result → Shared → Prop} {h₁ : Heap} (hh : A.handled = none) (D : ZipApart z TI TO i1 i2 l1 l2) (O : ZOff z TI TO i1 i2 l1 l2 S) (lows : z < S ∧ TO < S ∧ i1 < S ∧ i2 < S) (hxy : xs.size = ys.size) (hn : xs.size ≤ sizeLine) (res : Value)
    (hR : ∀ h' tk acc c as, (∀ b o, b ≠ S → b ≠ z → b ≠ TO → b ≠ i1 → b ≠ i2 → h₁.get? b = some o → h'.get? b = some o) → h'.get? S = some { cls := .type "list", dict := none, data := .seq acc c, slots := #[] } →
      as.length = xs.size → ZG xs ys S h' as → acc.toList = as.map Value.ref → R (.ok (.ret res)) { s with heap := h', toks := tk }) :
    ∀ (k i : Nat) (h : Heap) (tk c : Nat) (acc : Array Value) (as : List Addr), xs.size - i = k → i ≤ xs.size → ZSt z TI TO i1 i2 l1 l2 S xs ys h i → (∀ b o, b ≠ S → b ≠ z → b ≠ TO → b ≠ i1 → b ≠ i2 → h₁.get? b = some o → h.get? b = some o) →
      h.get? S = some { cls := .type "list", dict := none, data := .seq acc c, slots := #[] } → acc.toList = as.map Value.ref → as.length = i → ZG xs ys S h as →
      codeAny (model prog w) A (.builtin "list.extend.loop" ⟨[.ref S, .ref z, res], []⟩) R { s with heap := h, toks := tk } := by
  intro k
  induction k with
  | zero =>
    intro i h tk c acc as hk hi st hkeep hS hacc hal hG
    refine codeAny_builtin PySem.F.entry_extend_loop ?_
    rw [Around.under_plainId PySem.F.plain_extend_loop _]
    show wpAny _ A.in1 (pyNext (.ref z) >>= _) _ _ _
    refine wpAny_bind (zst_done (s := { s with heap := h, toks := tk }) (A := A.in1) hh D st (Array.getElem?_eq_none (by omega)) fun h' he => ?_)
    have ab : ∀ a ∈ as, a ≠ z ∧ a ≠ TO ∧ a ≠ i1 ∧ a ≠ i2 := fun a ha => by
      have := hG.above a ha
      refine ⟨Nat.ne_of_gt (Nat.lt_trans lows.1 this), Nat.ne_of_gt (Nat.lt_trans lows.2.1 this), Nat.ne_of_gt (Nat.lt_trans lows.2.2.1 this), Nat.ne_of_gt (Nat.lt_trans lows.2.2.2 this)⟩
    refine wpAny_pure (hR h' tk acc c as (fun b o g1 g2 g3 g4 g5 e => he b o g2 g3 g4 g5 (hkeep b o g1 g2 g3 g4 g5 e)) (he S _ O.o1.symm O.o3.symm O.o4.symm O.o5.symm hS) (by omega) ⟨hG.rise, hG.above, fun j a hj => ?_⟩ hacc)
    obtain ⟨x, y, e1, e2, e3⟩ := hG.pairs j a hj
    obtain ⟨b1, b2, b3, b4⟩ := ab a (List.mem_of_getElem? hj)
    exact ⟨x, y, e1, e2, he a _ b1 b2 b3 b4 e3⟩
  | succ k ih =>
    intro i h tk c acc as hk hi st hkeep hS hacc hal hG
    have hlt : i < xs.size := by omega
    have hlt2 : i < ys.size := by omega
    have ex := Array.getElem?_eq_getElem hlt
    have ey := Array.getElem?_eq_getElem hlt2
    have hsz : acc.size = i := by rw [← Array.length_toList, hacc, List.length_map, hal]
    refine codeAny_builtin PySem.F.entry_extend_loop ?_
    rw [Around.under_plainId PySem.F.plain_extend_loop _]
    show wpAny _ A.in1 (pyNext (.ref z) >>= _) _ _ _
    refine wpAny_bind (zst_item (s := { s with heap := h, toks := tk }) (A := A.in1) D st (Heap.lt_size hS) ex ey fun h' st' ht hz hkp => ?_)
    dsimp only at ht hz hkp ⊢
    have hS' := hkp S _ O.o1.symm O.o3.symm O.o4.symm O.o5.symm hS
    have hSl : S < h.objs.size := Heap.lt_size hS
    have nT : h.objs.size ≠ S := Nat.ne_of_gt hSl
    show wpAny _ A.in1 (updateSeq S (·.push (Value.ref h.objs.size)) >>= _) _ _ _
    have up : ∀ b o, b ≠ S → h'.get? b = some o → (h'.update S (Obj.mapSeq (·.push (Value.ref h.objs.size)))).get? b = some o := fun b o hb e => (Heap.get?_update_other _ _ hb.symm).trans e
    have big : ∀ a, S < a → a ≠ S ∧ a ≠ z ∧ a ≠ TO ∧ a ≠ i1 ∧ a ≠ i2 := fun a this =>
      ⟨Nat.ne_of_gt this, Nat.ne_of_gt (Nat.lt_trans lows.1 this), Nat.ne_of_gt (Nat.lt_trans lows.2.1 this), Nat.ne_of_gt (Nat.lt_trans lows.2.2.1 this), Nat.ne_of_gt (Nat.lt_trans lows.2.2.2 this)⟩
    refine wpAny_bind (wpAny_updateSeq hS' rfl (wpAny_pure ⟨plainId_quiet PySem.F.plain_extend_loop _, ih (i + 1) _ tk _ (acc.push (Value.ref h.objs.size)) (as ++ [h.objs.size]) (by omega) hlt (st'.keep O up)
      (fun b o g1 g2 g3 g4 g5 e => up b o g1 (hkp b o g2 g3 g4 g5 (hkeep b o g1 g2 g3 g4 g5 e))) (Heap.get?_update_self _ hS' rfl) ?_ ?_ ⟨?_, ?_, ?_⟩⟩) ?_ ?_)
    · rw [Array.toList_push, hacc, List.map_append]
      rfl
    · rw [List.length_append, hal]
      rfl
    · refine List.pairwise_append.mpr ⟨hG.rise, List.pairwise_singleton _ _, fun a ha b hb => ?_⟩
      rw [List.mem_singleton.mp hb]
      obtain ⟨j, hj⟩ := List.mem_iff_getElem?.mp ha
      obtain ⟨_, _, _, _, e⟩ := hG.pairs j a hj
      exact Heap.lt_size e
    · intro a ha
      rcases List.mem_append.mp ha with g | g
      · exact hG.above a g
      · rw [List.mem_singleton.mp g]
        exact hSl
    · intro j b hj
      rcases Nat.lt_or_ge j as.length with g | g
      · rw [List.getElem?_append_left g] at hj
        obtain ⟨x', y', e1, e2, e3⟩ := hG.pairs j b hj
        obtain ⟨b0, b1, b2, b3, b4⟩ := big b (hG.above b (List.mem_of_getElem? hj))
        exact ⟨x', y', e1, e2, up b _ b0 (hkp b _ b1 b2 b3 b4 e3)⟩
      · rw [List.getElem?_append_right g] at hj
        have e0 : j - as.length = 0 := by
          cases hq : j - as.length with
          | zero => rfl
          | succ q =>
            rw [hq] at hj
            simp at hj
        rw [e0] at hj
        have eb : h.objs.size = b := by simpa using hj
        have ej : j = i := by omega
        subst eb ej
        exact ⟨_, _, ex, ey, up _ _ nT ht⟩
    · rw [hsz]
      omega
    · show (acc.push (Value.ref h.objs.size)).size ≤ sizeLine + 1
      rw [Array.size_push, hsz]
      omega
theorem zip_no_len : typeLookup (.type "zip") "__len__" = pure none := am_miss_of_fast (by decide +kernel)
theorem zip_no_hint : typeLookup (.type "zip") "__length_hint__" = pure none := am_miss_of_fast (by decide +kernel)
theorem zl_hint (hT : s.TypeIs (.ref z) "zip") {Q : Bool → Shared → Prop} (h : Q true s) : wpAny (model prog w) A (Builtin.List.listLengthHint (.ref z)) Q E s := by
  unfold Builtin.List.listLengthHint
  refine wpAny_bind (wpAny_specialOf hT zip_no_len ?_)
  show wpAny _ _ (specialOf (.ref z) "__length_hint__" >>= _) _ _ _
  exact wpAny_bind (wpAny_specialOf hT zip_no_hint (wpAny_pure h))
theorem ZG.low {lo lo' : Addr} {h : Heap} {as : List Addr} (g : ZG xs ys lo h as) (hl : lo' ≤ lo) : ZG xs ys lo' h as := ⟨g.rise, fun a ha => Nat.lt_of_le_of_lt hl (g.above a ha), g.pairs⟩
theorem zl_extend {R : Result → Shared → Prop} (hh : A.handled = none) (D : ZipApart z TI TO i1 i2 l1 l2) (O : ZOff z TI TO i1 i2 l1 l2 S) (lows : z < S ∧ TO < S ∧ i1 < S ∧ i2 < S) (hxy : xs.size = ys.size) (hn : xs.size ≤ sizeLine) (res : Value) (c₀ : Nat)
    (hz : IsZip s.heap z TI TO .none) (st : ZSt z TI TO i1 i2 l1 l2 S xs ys s.heap 0) (hS : s.heap.get? S = some { cls := .type "list", data := .seq #[] c₀ })
    (hR : ∀ h' tk acc c as, (∀ b o, b ≠ S → b ≠ z → b ≠ TO → b ≠ i1 → b ≠ i2 → s.heap.get? b = some o → h'.get? b = some o) → h'.get? S = some { cls := .type "list", dict := none, data := .seq acc c, slots := #[] } →
      as.length = xs.size → ZG xs ys S h' as → acc.toList = as.map Value.ref → R (.ok (.ret res)) { s with heap := h', toks := tk }) :
    wpAny (model prog w) A.in1 (Builtin.List.listExtendWith (.ref S) (.ref z) res)
      (fun fin s' => match fin with | .done f => R (.ok f) s' | .again c' => c'.quiet = true ∧ codeAny (model prog w) A c' R s') (fun e s' => R (.error e) s') s := by
  have hT : s.TypeIs (.ref z) "zip" := ⟨_, hz, rfl⟩
  unfold Builtin.List.listExtendWith
  refine wpAny_bind (wpAny_typeOf (T := "zip") hT ?_)
  have g1 : Builtin.List.listSameRef (.ref S) (.ref z) = false := by simp [Builtin.List.listSameRef, O.o1.symm]
  have g2 : (Value.type "zip" == Value.type "list") = false := by decide
  have g3 : (Value.type "zip" == Value.type "tuple") = false := by decide
  simp only [g1, g2, g3, Bool.or_false, Bool.false_eq_true, if_false]
  refine wpAny_bind (wpAny_pyIter_zip hz ?_)
  refine wpAny_bind (wpAny_holding (zl_hint hT ?_))
  simp only [Bool.true_or, if_true]
  refine wpAny_bind (wpAny_rule (wpAny_bind ?_))
  show wpAny _ _ (updateSeq S (·.push .none) >>= fun _ => updateSeq S (·.pop)) _ _ _
  refine wpAny_bind (wpAny_updateSeq hS rfl ?_)
  have hS₂ := Heap.get?_update_self (Obj.mapSeq (·.push Value.none)) hS rfl
  refine wpAny_updateSeq (hz := by seq_fits) hS₂ rfl ?_
  have hS₃ := Heap.get?_update_self (Obj.mapSeq (·.pop)) hS₂ rfl
  have oth : ∀ b o, b ≠ S → s.heap.get? b = some o → ((s.heap.update S (Obj.mapSeq (·.push Value.none))).update S (Obj.mapSeq (·.pop))).get? b = some o := fun b o hb e =>
    (Heap.get?_update_other _ _ hb.symm).trans ((Heap.get?_update_other _ _ hb.symm).trans e)
  exact wpAny_pure ⟨plainId_quiet PySem.F.plain_extend_loop _, zl_loop (s := s) (h₁ := s.heap) hh D O lows hxy hn res hR xs.size 0 _ _ _ #[] [] (Nat.sub_zero _) (Nat.zero_le _) (st.keep O oth) (fun b o g _ _ _ _ e => oth b o g e) hS₃ rfl rfl
    ⟨List.Pairwise.nil, (fun _ ha => nomatch ha), (fun j a hj => by simp at hj)⟩⟩
theorem zl_init {R : Result → Shared → Prop} (hh : A.handled = none) (D : ZipApart z TI TO i1 i2 l1 l2) (O : ZOff z TI TO i1 i2 l1 l2 S) (lows : z < S ∧ TO < S ∧ i1 < S ∧ i2 < S) (hxy : xs.size = ys.size) (hn : xs.size ≤ sizeLine)
    (hz : IsZip s.heap z TI TO .none) (st : ZSt z TI TO i1 i2 l1 l2 S xs ys s.heap 0) (hS : s.heap.get? S = some { cls := .type "list", data := .seq #[] })
    (hR : ∀ h' tk acc c as, (∀ b o, b ≠ S → b ≠ z → b ≠ TO → b ≠ i1 → b ≠ i2 → s.heap.get? b = some o → h'.get? b = some o) → h'.get? S = some { cls := .type "list", dict := none, data := .seq acc c, slots := #[] } →
      as.length = xs.size → ZG xs ys S h' as → acc.toList = as.map Value.ref → R (.ok (.ret .none)) { s with heap := h', toks := tk }) :
    wpAny (model prog w) A.in1 (Builtin.«list.__init__» ⟨[.ref S, .ref z], []⟩)
      (fun fin s' => match fin with | .done f => R (.ok f) s' | .again c' => c'.quiet = true ∧ codeAny (model prog w) A c' R s') (fun e s' => R (.error e) s') s := by
  show wpAny _ _ (do let old ← Builtin.List.listItems (.ref S); Builtin.List.listUpdate (.ref S) (fun _ => #[]); letGo old.toList.reverse; Builtin.List.listExtendWith (.ref S) (.ref z) .none) _ _ s
  refine wpAny_bind ?_
  unfold Builtin.List.listItems
  refine wpAny_bind (wpAny_seqItems hS rfl (wpAny_pure ?_))
  show wpAny _ _ (updateSeq S (fun _ => #[]) >>= fun _ => letGo (#[] : Array Value).toList.reverse >>= fun _ => Builtin.List.listExtendWith (.ref S) (.ref z) .none) _ _ s
  refine wpAny_bind (wpAny_updateSeq hS rfl ?_)
  have hS₂ := Heap.get?_update_self (Obj.mapSeq (fun _ => (#[] : Array Value))) hS rfl
  have oth : ∀ b o, b ≠ S → s.heap.get? b = some o → (s.heap.update S (Obj.mapSeq (fun _ => (#[] : Array Value)))).get? b = some o := fun b o hb e => (Heap.get?_update_other _ _ hb.symm).trans e
  refine wpAny_bind (wpAny_letGo ?_)
  exact zl_extend hh D O lows hxy hn .none _ (oth _ _ O.o1 hz) (st.keep O oth) hS₂ fun h' tk acc c as hk hS' hl hG hacc => hR h' tk acc c as (fun b o b0 b1 b2 b3 b4 e => hk b o b0 b1 b2 b3 b4 (oth b o b0 e)) hS' hl hG hacc
theorem zl_call {Q : Value → Shared → Prop} (hh : A.handled = none) (D : ZipApart z TI TO i1 i2 l1 l2) (hxy : xs.size = ys.size) (hn : xs.size ≤ sizeLine) (hz : IsZip s.heap z TI TO .none) (hTI : IsPair s.heap TI (.ref i1) (.ref i2)) {a b : Value} (hTO : IsPair s.heap TO a b)
    (h1 : s.heap.IsListIter i1 l1 0) (h2 : s.heap.IsListIter i2 l2 0) (hl1 : s.heap.IsList l1 xs) (hl2 : s.heap.IsList l2 ys)
    (hQ : ∀ h' tk acc c as, (∀ b o, b ≠ z → b ≠ TO → b ≠ i1 → b ≠ i2 → s.heap.get? b = some o → h'.get? b = some o) → h'.get? s.heap.objs.size = some { cls := .type "list", dict := none, data := .seq acc c, slots := #[] } →
      as.length = xs.size → ZG xs ys s.heap.objs.size h' as → acc.toList = as.map Value.ref → Q (.ref s.heap.objs.size) { s with heap := h', toks := tk }) :
    wpAny (model prog w) A (call (.type "list") [.ref z]) Q E s := by
  refine callType_codes (Q₁ := fun obj s₁ => obj = .ref s.heap.objs.size ∧ s₁ = { s with heap := s.heap.push { cls := .type "list", data := .seq #[] } }) PySem.F.called_list (PySem.F.typeCall_list_1 _) PySem.F.entry_list_init (code_list_new _ ⟨rfl, rfl⟩) fun obj s₁ e₁ => ?_
  obtain ⟨rfl, rfl⟩ := e₁
  have hS : (s.heap.push { cls := .type "list", data := .seq #[] }).get? s.heap.objs.size = some { cls := .type "list", data := .seq #[] } := Heap.get?_push_size _ rfl
  have pu : ∀ b o, s.heap.get? b = some o → (s.heap.push { cls := .type "list", data := .seq #[] }).get? b = some o := fun b o e => Heap.get?_push_of_some _ e
  have g1 : i1 < s.heap.objs.size := by
    obtain ⟨_, e, _⟩ := h1
    exact Heap.lt_size e
  have g2 : i2 < s.heap.objs.size := by
    obtain ⟨_, e, _⟩ := h2
    exact Heap.lt_size e
  have g3 : l1 < s.heap.objs.size := by
    obtain ⟨_, e, _⟩ := hl1
    exact Heap.lt_size e
  have g4 : l2 < s.heap.objs.size := by
    obtain ⟨_, e, _⟩ := hl2
    exact Heap.lt_size e
  have O : ZOff z TI TO i1 i2 l1 l2 s.heap.objs.size := ⟨Nat.ne_of_lt (Heap.lt_size hz), Nat.ne_of_lt (Heap.lt_size hTI), Nat.ne_of_lt (Heap.lt_size hTO), Nat.ne_of_lt g1, Nat.ne_of_lt g2, Nat.ne_of_lt g3, Nat.ne_of_lt g4⟩
  refine ⟨⟨_, hS, rfl⟩, PySem.F.args_list_init_2 _ _, zl_init (A := A.in1) hh D O ⟨Heap.lt_size hz, Heap.lt_size hTO, g1, g2⟩ hxy hn (pu _ _ hz)
    ⟨⟨pu _ _ hTI, h1.at fun o e => pu _ o e, h2.at fun o e => pu _ o e, hl1.at fun o e => pu _ o e, hl2.at fun o e => pu _ o e⟩, .inl ⟨pu _ _ hz, a, b, pu _ _ hTO⟩⟩ hS fun h' tk acc c as hk hS' hl hG hacc => ?_⟩
  exact ⟨rfl, hQ h' tk acc c as (fun b o b1 b2 b3 b4 e => hk b o (Nat.ne_of_lt (Heap.lt_size e)) b1 b2 b3 b4 (pu b o e)) hS' hl hG hacc⟩
end
end Bw
namespace Bw
open PySem PySem.Calls PySem.Spec PyProof.Rows L2
/-! list(zip(a, b)) as a rule -/
def putZ : Hp → List Addr → List (V × V) → Hp
  | H, a :: as, p :: ps => putZ (upd H a (.tup [p.1, p.2])) as ps
  | H, _, _ => H
theorem putZ_off {b : Addr} : ∀ (as : List Addr) (ps : List (V × V)) (H : Hp), b ∉ as → putZ H as ps b = H b
  | [], _, _, _ => rfl
  | _ :: _, [], _, _ => rfl
  | a :: as, p :: ps, H, h => by
    show putZ (upd H a (.tup [p.1, p.2])) as ps b = H b
    rw [putZ_off as ps _ (fun z => h (.tail _ z)), upd_ne (fun z => h (by rw [z]; exact .head _))]
theorem putZ_at : ∀ (as : List Addr) (ps : List (V × V)) (H : Hp), as.length = ps.length → as.Nodup → Paired (fun (t : Addr) (p : V × V) => putZ H as ps t = some (.tup [p.1, p.2])) as ps
  | [], [], _, _, _ => .nil
  | [], _ :: _, _, h, _ => by cases h
  | _ :: _, [], _, h, _ => by cases h
  | a :: as, p :: ps, H, h, hn => by
    obtain ⟨n1, n2⟩ := List.nodup_cons.mp hn
    refine .cons ?_ (putZ_at as ps (upd H a (.tup [p.1, p.2])) (Nat.succ.inj h) n2)
    show putZ (upd H a (.tup [p.1, p.2])) as ps a = some (.tup [p.1, p.2])
    rw [putZ_off as ps _ n1, upd_same]
theorem vals_get : ∀ {xs : List V} {us : List Value}, Vals xs us → ∀ {i : Nat} {x : V}, xs[i]? = some x → ∃ u, us[i]? = some u ∧ RelV x u := fun h _ _ e => LiI.paired_get h e
def tListZip (K : PySem.W.Frag) (ta : TA) : TE := fun σ H Q => ta σ H fun vs H1 => ∃ (a b : Addr) (xs ys : List V), vs = [.ref a, .ref b] ∧ SqL K H1 a xs ∧ SqL K H1 b ys ∧ xs.length = ys.length ∧
  ∀ (H' : Hp) (p : Addr) (ts : List Addr), Same H1 H' → H1 p = none → H' p = some (.lst (ts.map V.ref)) → Paired (fun (t : Addr) (q : V × V) => H' t = some (.tup [q.1, q.2])) ts (xs.zip ys) → Q (.ref p) H'
section
variable {X : Cx} {e e2 : Expr} {ta : TA} {p q zpos pos : Pos}
theorem zip_laid {pins : List (Addr × Obj)} {σ : L2.St} {H : Hp} {s : Shared} {h' : Heap} {tk : Nat} {xs ys : List V} {us vs : List Value} {acc : Array Value} {c : Nat} {as : List Addr} {S : Addr} (I : Inv X pins σ H s) (hz : xs.length ≤ sizeLine) (hxy : xs.length = ys.length) (rx : Vals xs us) (ry : Vals ys vs)
    (hS0 : s.heap.objs.size ≤ S) (hk : ∀ b o, s.heap.get? b = some o → h'.get? b = some o) (hS : h'.get? S = some { cls := .type "list", dict := none, data := .seq acc c, slots := #[] }) (hl : as.length = us.length) (hG : ZG us.toArray vs.toArray S h' as) (hacc : acc.toList = as.map Value.ref) :
    ∃ H' : Hp, Same H H' ∧ H S = none ∧ H' S = some (.lst (as.map V.ref)) ∧ Paired (fun (t : Addr) (q : V × V) => H' t = some (.tup [q.1, q.2])) as (xs.zip ys) ∧ Inv X pins σ H' { s with heap := h', toks := tk } := by
  have lx := rx.length
  have ly := ry.length
  have hSn : S ∉ as := fun z => Nat.lt_irrefl _ (hG.above _ z)
  have nd : as.Nodup := List.Pairwise.imp (fun {a b} (h : a < b) => Nat.ne_of_lt h) hG.rise
  have new : ∀ t ∈ as, H t = none := fun t ht => I.hok.fresh (Nat.le_trans hS0 (Nat.le_of_lt (hG.above t ht)))
  have newS : H S = none := I.hok.fresh hS0
  have zl : as.length = (xs.zip ys).length := by
    rw [List.length_zip]
    omega
  have atP := putZ_at as (xs.zip ys) (upd H S (.lst (as.map V.ref))) zl nd
  have off : ∀ b, b ∉ as → b ≠ S → putZ (upd H S (.lst (as.map V.ref))) as (xs.zip ys) b = H b := fun b g1 g2 => by rw [putZ_off as _ _ g1, upd_ne g2]
  have low : ∀ b o, s.heap.get? b = some o → b ∉ as ∧ b ≠ S := fun b o e => ⟨fun z => absurd (Heap.lt_size e) (Nat.not_lt.mpr (Nat.le_trans hS0 (Nat.le_of_lt (hG.above b z)))), Nat.ne_of_lt (Nat.lt_of_lt_of_le (Heap.lt_size e) hS0)⟩
  have kp : ∀ b u, H b = some u → (putZ (upd H S (.lst (as.map V.ref))) as (xs.zip ys)) b = some u := fun b u e => by
    rw [off b (fun z => by rw [new b z] at e; cases e) (fun z => by rw [z, newS] at e; cases e)]
    exact e
  have eS : putZ (upd H S (.lst (as.map V.ref))) as (xs.zip ys) S = some (.lst (as.map V.ref)) := by rw [putZ_off as _ _ hSn, upd_same]
  refine ⟨putZ (upd H S (.lst (as.map V.ref))) as (xs.zip ys), kp, newS, eS, atP, ?_⟩
  refine I.call' (ch := []) rfl ⟨fun b o g _ _ _ => hk b o g, fun b o g _ _ _ => ⟨o.slots, hk b o g⟩, fun b o g n _ => ?_, fun b o g _ => ⟨o, hk b o g⟩, fun b _ g => kp b _ g, fun b _ _ g => kp b _ g, fun b _ g => ⟨#[], by rw [kp b _ g]; simp⟩⟩ (fun b u g => ?_) I.bare fun b z => by simp at z
  · obtain ⟨z1, z2⟩ := low b o g
    rw [off b z1 z2]
    exact n
  · by_cases hb : b ∈ as
    · obtain ⟨j, pk, e1, e2, e3⟩ := LiI.paired_ix atP hb
      rw [e3] at g
      cases g
      obtain ⟨x, y, f1, f2, f3⟩ := hG.pairs j b e1
      obtain ⟨g1, g2⟩ := List.getElem?_zip_eq_some.mp e2
      obtain ⟨x', k1, k2⟩ := vals_get rx g1
      obtain ⟨y', k3, k4⟩ := vals_get ry g2
      rw [List.getElem?_toArray, k1] at f1
      rw [List.getElem?_toArray, k3] at f2
      cases f1
      cases f2
      exact ⟨by show 2 ≤ sizeLine; decide, [x, y], .cons k2 (.cons k4 .nil), ⟨_, f3, rfl, _, rfl⟩⟩
    · by_cases hb2 : b = S
      · rw [hb2] at g ⊢
        rw [eS] at g
        cases g
        refine ⟨by rw [List.length_map]; omega, acc.toList, c, by rw [hacc]; exact LiI.vals_refs as, ?_⟩
        rw [Array.toArray_toList]
        exact hS
      · rw [off b hb hb2] at g
        exact (I.hok b u g).stay (fun d v _ y => hk d v y) (fun d y => kp d _ y) fun d _ y => kp d _ y
theorem pe_listZip (hc : X.calm = true) (hgl : Gl X "list") (hml : X.mg "list" = none) (hv : bootBuiltins "list" = some (.type "list")) (hgz : Gl X "zip") (hmz : X.mg "zip" = none) (ha : PA X [e, e2] ta)
    (hs : starEach [e, e2] X.env = (false, eval e X.env) :: starEach [e2] X.env := by rfl) (hpl : (backTo zpos (starEach [e2] X.env)).any (·.1) = false := by rfl)
    (hs1 : starEach [.Call (.Name "zip" q) [e, e2] [] zpos] X.env = (false, eval (.Call (.Name "zip" q) [e, e2] [] zpos) X.env) :: starEach [] X.env := by rfl) :
    PE X (.Call (.Name "list" p) [.Call (.Name "zip" q) [e, e2] [] zpos] [] pos) (tListZip X.K ta) := by
  refine ⟨fun pins s σ H Q I h => ?_⟩
  refine Call_ (ld_blt I hgl hml hv (PyProof.Rows.callWith_type1 ?_ hs1 rfl))
  rw [hs1]
  show wpAny _ _ (spliced ((false, eval (.Call (.Name "zip" q) [e, e2] [] zpos) X.env) :: backTo pos (starEach [] X.env))) _ _ s
  refine Calls.spliced_cons ?_
  refine Call_ (ld_blt I hgz hmz PyProof.Rows.boot_zip (PyProof.Rows.callWith_type1 (thn (ha.run zpos pins s σ H _ I h) fun us s1 ⟨vs, H1, I1, r1, q1⟩ => ?_) hs hpl))
  obtain ⟨a, b, xs, ys, ex, hqx, hqy, hxy, qq⟩ := q1
  subst ex
  cases r1 with
  | cons r rr =>
    cases rr with
    | cons r' rr =>
      cases rr
      cases r
      cases r'
      obtain ⟨its, rv, p1, hz1⟩ := I1.list hqx
      obtain ⟨its2, rv2, p2, _⟩ := I1.list hqy
      have la : a < s1.heap.objs.size := p1.lt
      have lb : b < s1.heap.objs.size := p2.lt
      have l1 := rv.length
      have l2 := rv2.length
      refine call_zip_2 p1.isList p2.isList fun h' hz hTI hTO h1 h2 hsz hk => ?_
      refine Calls.spliced_nil ?_
      refine zl_call (s := { s1 with heap := h' }) (I1.ok.hd hc) (PySem.W.ktu_apart s1.heap.objs.size a b la lb) (by rw [List.size_toArray, List.size_toArray]; omega) (by rw [List.size_toArray]; omega) hz hTI hTO h1 h2 (p1.isList.at fun o e => hk _ o e) (p2.isList.at fun o e => hk _ o e) fun h2 tk acc c as hk2 hS hl hG hacc => ?_
      have hge : ∀ c o, s1.heap.get? c = some o → c < s1.heap.objs.size := fun c o e => Heap.lt_size e
      obtain ⟨H', k1, k2, k3, k4, J⟩ := zip_laid (tk := tk) I1 hz1 hxy rv rv2 (by show s1.heap.objs.size ≤ h'.objs.size; rw [hsz]; exact Nat.le_add_right _ _) (fun b o e => hk2 b o (Nat.ne_of_lt (Nat.lt_of_lt_of_le (hge b o e) (Nat.le_add_right _ 4))) (Nat.ne_of_lt (Nat.lt_of_lt_of_le (hge b o e) (Nat.le_add_right _ 3))) (Nat.ne_of_lt (hge b o e)) (Nat.ne_of_lt (Nat.lt_of_lt_of_le (hge b o e) (Nat.le_add_right _ 1))) (hk b o e)) hS (by rw [hl, List.size_toArray]) hG hacc
      exact ⟨.ref _, H', J, rfl, qq H' _ as k1 k2 k3 k4⟩
end
end Bw
namespace Bw
open PySem PySem.Calls PySem.Spec PyProof.Rows L2
/-! xs[a::2] -/
def pick2 {α : Type} (a : Nat) (xs : List α) : List α := (List.range ((xs.length - a + 1) / 2)).filterMap fun k => xs[a + 2 * k]?
theorem pick2_le {α : Type} (a : Nat) (xs : List α) : (pick2 a xs).length ≤ xs.length + 1 := by
  unfold pick2
  refine Nat.le_trans (List.length_filterMap_le ..) ?_
  rw [List.length_range]
  omega
theorem range2 (a n : Nat) (h : a ≤ n) : sliceRange (a : Int) (n : Int) 2 = (List.range ((n - a + 1) / 2)).map fun k => a + 2 * k := by
  unfold sliceRange
  rw [if_pos (show (2 : Int) > 0 by decide)]
  have e : (if (a : Int) < (n : Int) then ((n : Int) - (a : Int) + 2 - 1) / 2 else 0).toNat = (n - a + 1) / 2 := by
    split <;> omega
  simp only [e]
  refine List.map_congr_left fun k _ => ?_
  omega
theorem bounds2 (a n : Nat) (h : a ≤ n) : sliceBounds (some (a : Int)) none (some 2) n = ((a : Int), (n : Int), 2) := by
  have e : max (0 : Int) (min (a : Int) (n : Int)) = (a : Int) := by omega
  have e2 : ¬ ((a : Int) < 0) := by omega
  simp [sliceBounds, e, e2]
theorem slice2 (a : Nat) (us : List Value) (h : a ≤ us.length) : slicePick us.toArray (some (a : Int)) none (some 2) = (pick2 a us).toArray := by
  unfold slicePick
  rw [List.size_toArray, bounds2 a _ h]
  show ((sliceRange (a : Int) (us.length : Int) 2).filterMap (us.toArray[·]?)).toArray = _
  rw [range2 a _ h, List.filterMap_map]
  unfold pick2
  congr 1
  have e : ((fun x => us.toArray[x]?) ∘ fun k => a + 2 * k) = fun k => us[a + 2 * k]? := funext fun k => List.getElem?_toArray ..
  rw [e]
theorem vals_pick {xs : List V} {us : List Value} (r : Vals xs us) (f : Nat → Nat) : ∀ ks : List Nat, Vals (ks.filterMap fun k => xs[f k]?) (ks.filterMap fun k => us[f k]?)
  | [] => .nil
  | k :: ks => by
    have ih := vals_pick r f ks
    cases e : xs[f k]? with
    | none =>
      have e2 : us[f k]? = none := by
        rw [List.getElem?_eq_none_iff] at e ⊢
        rw [← r.length]
        exact e
      rw [List.filterMap_cons_none (f := fun k => xs[f k]?) e, List.filterMap_cons_none (f := fun k => us[f k]?) e2]
      exact ih
    | some x =>
      obtain ⟨u, e2, rr⟩ := vals_get r e
      rw [List.filterMap_cons_some (f := fun k => xs[f k]?) e, List.filterMap_cons_some (f := fun k => us[f k]?) e2]
      exact .cons rr ih
theorem vals_pick2 {xs : List V} {us : List Value} (r : Vals xs us) (a : Nat) : Vals (pick2 a xs) (pick2 a us) := by
  unfold pick2
  rw [r.length]
  exact vals_pick r _ _
def tStep (K : PySem.W.Frag) (a : Nat) (te : TE) : TE := fun σ H Q => te σ H fun x H1 => ∃ (l : Addr) (xs : List V), x = .ref l ∧ SqL K H1 l xs ∧ a ≤ xs.length ∧ xs.length < sizeLine ∧ ∀ p, H1 p = none → Q (.ref p) (upd H1 p (.lst (pick2 a xs)))
section
variable {X : Cx}
theorem pe_step {e : Expr} {te : TE} {a : Nat} {i : Int} {k k2 : Nat} {p1 p2 p3 pos : Pos} (ei : i = (a : Int)) (he : PE X e te) : PE X (.Subscript e (.Slice (some (.Constant (.int i) k p1)) none (some (.Constant (.int 2) k2 p2)) p3) pos) (tStep X.K a te) := by
  subst ei
  refine ⟨fun pins s σ H Q I h => Subscript_ (thn (he.run pins s σ H _ I h) fun v s1 ⟨x, H1, I1, r1, q1⟩ => ?_)⟩
  obtain ⟨l, xs, ex, hx, hax, hzx, q⟩ := q1
  subst ex
  cases r1
  have hlo : PO X (some (.Constant (.int (a : Int)) k p1)) (tPart (tC (.int (a : Int)))) := po_some pe_int
  have hst : PO X (some (.Constant (.int 2) k2 p2)) (tPart (tC (.int 2))) := po_some pe_int
  refine wpAny_Slice (thn (hlo.run pins s1 σ H1 (fun o H2 => o = some (a : Int) ∧ H2 = H1) I1 ⟨_, rfl, rfl, rfl⟩) fun vl s2 ⟨o1, H2, I2, pl, el, e2⟩ => ?_)
  subst el e2
  refine thn (po_none.run pins s2 σ H2 (fun o H3 => o = none ∧ H3 = H2) I2 ⟨rfl, rfl⟩) fun vu s3 ⟨o2, H3, I3, pu, eu, e3⟩ => ?_
  subst eu e3
  refine thn (hst.run pins s3 σ H3 (fun o H4 => o = some 2 ∧ H4 = H3) I3 ⟨_, rfl, rfl, rfl⟩) fun vs s4 ⟨o3, H4, I4, ps, eo, e4⟩ => ?_
  subst eo e4
  have I5 : Inv X pins σ H4 { s4 with heap := s4.heap.push { cls := .type "slice", data := .fields #[vl, vu, vs] } } := I4.kept (t' := s4.toks) fun b ob g => Heap.get?_push_of_some _ g
  obtain ⟨its, r, ht, hz⟩ := I5.list hx
  have hlen := r.length
  show wpAny (model X.prog X.w) X.A (subscriptTail e (.Slice (some (.Constant (.int (a : Int)) k p1)) none (some (.Constant (.int 2) k2 p2)) p3) (.ref l) (.ref s4.heap.objs.size)) (EP X pins σ Q) X.xe { s4 with heap := s4.heap.push { cls := .type "slice", data := .fields #[vl, vu, vs] } }
  refine tail_any (ops := [.ref l, .ref s4.heap.objs.size]) ht.isList.typeIs (PySem.slot_list_getitem.lookup) ?_ (by with_unfolding_all rfl)
  refine wpAny_getItem_list_slice ht.isList (Heap.IsSliceOf.new _ vl vu vs) pl pu ps (by decide) ?_ (by rw [List.size_toArray]; omega)
  rw [slice2 a its (by omega)]
  refine ⟨.ref _, _, I5.laid (t' := s4.toks) (o := .lst (pick2 a xs)) (fun b ob g => Heap.get?_push_of_some _ g) (Nat.le_refl _) ?_, rfl, q _ (I5.hok.fresh (Nat.le_refl _))⟩
  exact ⟨by have := pick2_le a xs; omega, _, 0, vals_pick2 r a, Heap.get?_push_size _ rfl⟩
end
end Bw
namespace Bw
open PySem PySem.Spec PyProof.Rows L2
open Ie08 (Cell near between gap)
abbrev sDInit : Stmt := inClass (topS 25) 0
abbrev sHas : Stmt := inClass (topS 25) 1
abbrev sPage : Stmt := inClass (topS 25) 2
abbrev sChoose : Stmt := inClass (topS 25) 3
abbrev sBegin : Stmt := inClass (topS 25) 4
abbrev sGo : Stmt := inClass (topS 25) 5
abbrev sLift : Stmt := inClass (topS 25) 6
abbrev sGiveUp : Stmt := inClass (topS 25) 7
abbrev sDraw : Stmt := inClass (topS 25) 8
abbrev sUndo : Stmt := inClass (topS 25) 9
/-- a drawing's fields -/
def dF (w h : Nat) (lc b : Addr) (sv : V) (le : Addr) : List (Str × V) := [("w", nV w), ("h", nV h), ("cells", .ref lc), ("brush", .ref b), ("stroke", sv), ("earlier", .ref le)]
section
variable (w h : Nat) (lc b : Addr) (sv : V) (le : Addr)
theorem dF_w : (dF w h lc b sv le).lookup ("w" : Str) = some (nV w) := rfl
theorem dF_h : (dF w h lc b sv le).lookup ("h" : Str) = some (nV h) := rfl
theorem dF_cells : (dF w h lc b sv le).lookup ("cells" : Str) = some (.ref lc) := rfl
theorem dF_brush : (dF w h lc b sv le).lookup ("brush" : Str) = some (.ref b) := rfl
theorem dF_stroke : (dF w h lc b sv le).lookup ("stroke" : Str) = some sv := rfl
theorem dF_earlier : (dF w h lc b sv le).lookup ("earlier" : Str) = some (.ref le) := rfl
theorem dF_has : (dF w h lc b sv le).lookup ("has_cell" : Str) = none := rfl
theorem dF_begin : (dF w h lc b sv le).lookup ("begin" : Str) = none := rfl
theorem dF_go : (dF w h lc b sv le).lookup ("go_on" : Str) = none := rfl
theorem dF_lift : (dF w h lc b sv le).lookup ("lift" : Str) = none := rfl
theorem dF_giveup : (dF w h lc b sv le).lookup ("give_up" : Str) = none := rfl
theorem dF_page : (dF w h lc b sv le).lookup ("new_page" : Str) = none := rfl
theorem dF_choose : (dF w h lc b sv le).lookup ("choose_brush" : Str) = none := rfl
theorem dF_draw : (dF w h lc b sv le).lookup ("draw" : Str) = none := rfl
theorem dF_undo : (dF w h lc b sv le).lookup ("undo" : Str) = none := rfl
end
/-- the class Drawing -/
structure DrawC (K : PySem.W.Frag) (mg : Str → Option Value) (C : Addr) : Prop where
  cl : Cls K C
  a1 : NoAttr K C "w"
  a2 : NoAttr K C "h"
  a3 : NoAttr K C "cells"
  a4 : NoAttr K C "brush"
  a5 : NoAttr K C "stroke"
  a6 : NoAttr K C "earlier"
/-! constants -/
def ConAt (mg : Str → Option Value) (x : Str) (v : V) : Prop := ∃ u, mg x = some u ∧ RelV v u
theorem pe_k {X : Cx} {x : Str} {v : V} {pos : Pos} (c : ConAt X.mg x v) (hg : Gl X x) (hd : (x == ("__debug__" : Str)) = false := by decide) : PE X (.Name x pos) (tC v) := by
  obtain ⟨u, e, r⟩ := c
  exact pe_glob hg e r hd
structure Cons (mg : Str → Option Value) : Prop where
  c1 : ConAt mg "NO_PLACE" (.int (-1))
  c2 : ConAt mg "NO_VALUE" (.int (-2))
  c3 : ConAt mg "NO_PAIRS" (.int (-3))
  c4 : ConAt mg "NOT_NOW" (.int (-4))
  c5 : ConAt mg "NOTHING_LEFT" (.int (-5))
  side : ConAt mg "MOST_SIDE" (.int 12)
  undone : ConAt mg "MOST_UNDONE" (.int 8)
/-! what stays where a drawing's own object is changed, or a list outside, or something new is laid -/
def NotD (o : HO) : Prop := ∀ (C dx : Addr) (w h : Nat) (lc b : Addr) (sv : V) (le : Addr), o ≠ .ins C dx (dF w h lc b sv le)
theorem notD_lst {xs : List V} : NotD (.lst xs) := fun _ _ _ _ _ _ _ _ e => nomatch e
theorem notD_tup {xs : List V} : NotD (.tup xs) := fun _ _ _ _ _ _ _ _ e => nomatch e
theorem notD_dT {kvs : List (List Key × V)} : NotD (.dT kvs) := fun _ _ _ _ _ _ _ _ e => nomatch e
theorem notD_kF {C dx : Addr} {k : Ie08.Brush} : NotD (.ins C dx (kF k)) := fun _ _ w h lc b sv le e => by
  injection e with _ _ e
  have z : (("full" : Str), nV k.full) = (("w" : Str), nV w) := (List.cons.inj e).1
  have z1 : ("full" : Str) = "w" := congrArg Prod.fst z
  exact absurd z1 (by decide +kernel)
theorem notD_sF {C dx b : Addr} {w h x y n : Nat} {ls lm kd : Addr} : NotD (.ins C dx (sF b w h x y n ls lm kd)) := fun _ _ w' _ _ _ _ _ e => by
  injection e with _ _ e
  have z : (("brush" : Str), V.ref b) = (("w" : Str), nV w') := (List.cons.inj e).1
  have z1 : ("brush" : Str) = "w" := congrArg Prod.fst z
  exact absurd z1 (by decide +kernel)
structure Keep (X : Addr → Prop) (H H' : Hp) : Prop where
  k : ∀ a o, H a = some o → ¬ X a → NotD o → H' a = some o
  l0 : Lists X H
  l : Lists X H'
theorem Lists.not {X : Addr → Prop} {H : Hp} {a : Addr} {o : HO} (L : Lists X H) (e : H a = some o) (n : ∀ xs, o ≠ .lst xs) : ¬ X a := fun x => by
  obtain ⟨xs, e2⟩ := L a x
  rw [e] at e2
  exact n xs (Option.some.inj e2)
theorem Keep.sm {X : Addr → Prop} {H H' : Hp} (s : Same H H') (L : Lists X H) : Keep X H H' := ⟨fun a o e _ _ => s a o e, L, fun a x => (L a x).imp fun xs e => s _ _ e⟩
theorem Keep.put {X : Addr → Prop} {H : Hp} {d C dx : Addr} {w h : Nat} {lc b : Addr} {sv : V} {le : Addr} {o' : HO} (hd : H d = some (.ins C dx (dF w h lc b sv le))) (L : Lists X H) : Keep X H (upd H d o') :=
  ⟨fun a o e _ n => by
      rw [upd_ne (ne_of e hd (n C dx w h lc b sv le))]
      exact e, L, fun a x => (L a x).imp fun xs e => by
      rw [upd_ne (ne_of e hd (by intro z; cases z))]
      exact e⟩
theorem Keep.trans {X : Addr → Prop} {H H' H'' : Hp} (a : Keep X H H') (b : Keep X H' H'') : Keep X H H'' := ⟨fun c o e x n => b.k c o (a.k c o e x n) x n, a.l0, b.l⟩
/-- a list outside is changed -/
theorem Keep.out {X : Addr → Prop} {H : Hp} {t : Addr} {ys : List V} (L : Lists X H) (x : X t) : Keep X H (upd H t (.lst ys)) :=
  ⟨fun a o e n _ => by
      have ne : a ≠ t := fun z => n (by rw [z]; exact x)
      rw [upd_ne ne]
      exact e, L, fun a xa => by
      by_cases c : a = t
      · rw [c]
        exact ⟨ys, upd_same⟩
      · rw [upd_ne c]
        exact L a xa⟩
theorem BrushAt.keep {X : Addr → Prop} {H H' : Hp} {CB b : Addr} {k : Ie08.Brush} (K : Keep X H H') : BrushAt CB H b k → BrushAt CB H' b k := fun ⟨db, hb⟩ => ⟨db, K.k _ _ hb (K.l0.not hb fun _ z => nomatch z) notD_kF⟩
theorem Tups.keep {X : Addr → Prop} {H H' : Hp} (K : Keep X H H') {vs : List V} {cs : List Cell} (t : Tups H vs cs) : Tups H' vs cs := t.same fun b xs e => K.k _ _ e (K.l0.not e fun _ z => nomatch z) notD_tup
theorem StrokeAt.keep {CB CS : Addr} {X : Addr → Prop} {H H' : Hp} {t ls kd : Addr} {w h : Nat} {s : Ie08.Stroke} (K : Keep X H H') : StrokeAt CB CS X H t ls kd w h s → StrokeAt CB CS X H' t ls kd w h s :=
  fun ⟨dx, b, lm, vs, kvs, ht, hb, hls, xls, hts, hlm, nlm, xlm, hkd, hkn, hkl, hX⟩ =>
    ⟨dx, b, lm, vs, kvs, K.k _ _ ht (hX.not ht fun _ z => nomatch z) notD_sF, hb.keep K, K.k _ _ hls xls notD_lst, xls, hts.keep K, K.k _ _ hlm xlm notD_lst, nlm, xlm, K.k _ _ hkd (hX.not hkd fun _ z => nomatch z) notD_dT, hkn.same (fun a xs e _ x => K.k _ _ e x notD_lst), hkl, K.l⟩
/-- pictures before, each a list of its own -/
def Olds (X : Addr → Prop) (H : Hp) (le : Addr) : List V → List (List Nat) → Prop
  | [], [] => True
  | v :: vs, o :: os => (∃ r, v = .ref r ∧ r ≠ le ∧ ¬ X r ∧ H r = some (.lst (nVs o))) ∧ Olds X H le vs os
  | _, _ => False
theorem Olds.imp {X : Addr → Prop} {H H' : Hp} {le le' : Addr} (e : ∀ r xs, r ≠ le → ¬ X r → H r = some (.lst xs) → r ≠ le' ∧ H' r = some (.lst xs)) : ∀ {vs : List V} {os : List (List Nat)}, Olds X H le vs os → Olds X H' le' vs os
  | [], [], _ => trivial
  | _ :: _, _ :: _, ⟨⟨r, e1, e2, e3, e4⟩, t⟩ => ⟨⟨r, e1, (e r _ e2 e3 e4).1, e3, (e r _ e2 e3 e4).2⟩, Olds.imp e t⟩
  | [], _ :: _, h => h.elim
  | _ :: _, [], h => h.elim
theorem Olds.impM {X : Addr → Prop} {H H' : Hp} {le : Addr} : ∀ {vs : List V} {os : List (List Nat)}, (∀ r xs, V.ref r ∈ vs → r ≠ le → ¬ X r → H r = some (.lst xs) → H' r = some (.lst xs)) → Olds X H le vs os → Olds X H' le vs os
  | [], [], _, _ => trivial
  | _ :: _, _ :: _, e, ⟨⟨r, e1, e2, e3, e4⟩, t⟩ => ⟨⟨r, e1, e2, e3, e r _ (by rw [e1]; exact .head _) e2 e3 e4⟩, Olds.impM (fun r xs m => e r xs (.tail _ m)) t⟩
  | [], _ :: _, _, h => h.elim
  | _ :: _, [], _, h => h.elim
theorem Olds.len {X : Addr → Prop} {H : Hp} {le : Addr} : ∀ {vs : List V} {os : List (List Nat)}, Olds X H le vs os → vs.length = os.length
  | [], [], _ => rfl
  | _ :: _, _ :: _, ⟨_, t⟩ => congrArg (· + 1) (Olds.len t)
  | [], _ :: _, h => h.elim
  | _ :: _, [], h => h.elim
theorem Olds.mem {X : Addr → Prop} {H : Hp} {le r : Addr} : ∀ {vs : List V} {os : List (List Nat)}, Olds X H le vs os → V.ref r ∈ vs → ∃ xs, r ≠ le ∧ ¬ X r ∧ H r = some (.lst xs)
  | _ :: _, _ :: _, ⟨⟨q, e1, e2, e3, e4⟩, t⟩, m => by
    rcases List.mem_cons.mp m with z | z
    · rw [e1] at z
      injection z with z
      subst z
      exact ⟨_, e2, e3, e4⟩
    · exact Olds.mem t z
  | [], [], _, m => absurd m List.not_mem_nil
  | [], _ :: _, h, _ => h.elim
  | _ :: _, [], h, _ => h.elim
theorem Olds.snoc {X : Addr → Prop} {H : Hp} {le r : Addr} {o : List Nat} (n : r ≠ le) (x : ¬ X r) (e : H r = some (.lst (nVs o))) : ∀ {vs : List V} {os : List (List Nat)}, Olds X H le vs os → Olds X H le (vs ++ [.ref r]) (os ++ [o])
  | [], [], _ => ⟨⟨r, rfl, n, x, e⟩, trivial⟩
  | _ :: _, _ :: _, ⟨h, t⟩ => ⟨h, Olds.snoc n x e t⟩
  | [], _ :: _, h => h.elim
  | _ :: _, [], h => h.elim
theorem Olds.drop {X : Addr → Prop} {H : Hp} {le : Addr} : ∀ (k : Nat) {vs : List V} {os : List (List Nat)}, Olds X H le vs os → Olds X H le (vs.drop k) (os.drop k)
  | 0, _, _, h => h
  | k + 1, [], [], _ => trivial
  | k + 1, _ :: _, _ :: _, ⟨_, t⟩ => Olds.drop k t
  | _ + 1, [], _ :: _, h => h.elim
  | _ + 1, _ :: _, [], h => h.elim
theorem Olds.last {X : Addr → Prop} {H : Hp} {le : Addr} {o : List Nat} : ∀ {vs : List V} {os : List (List Nat)}, Olds X H le vs (os ++ [o]) → ∃ r, vs[vs.length - 1]? = some (.ref r) ∧ r ≠ le ∧ ¬ X r ∧ H r = some (.lst (nVs o)) ∧ Olds X H le vs.dropLast os
  | [v], [], ⟨⟨r, e1, e2, e3, e4⟩, _⟩ => ⟨r, by rw [e1]; rfl, e2, e3, e4, trivial⟩
  | [], [], h => h.elim
  | [], _ :: _, h => h.elim
  | v :: v2 :: vs, [], ⟨_, h⟩ => h.elim
  | [v], o2 :: os, ⟨_, h⟩ => by
    exfalso
    cases os <;> exact h
  | v :: v2 :: vs, o2 :: os, ⟨h, t⟩ => by
    obtain ⟨r, e1, e2, e3, e4, e5⟩ := Olds.last (vs := v2 :: vs) (os := os) t
    exact ⟨r, e1, e2, e3, e4, h, e5⟩
def XS (X : Addr → Prop) (lc le : Addr) (es : List V) : Addr → Prop := fun a => X a ∨ a = lc ∨ a = le ∨ V.ref a ∈ es
theorem XS.lists {X : Addr → Prop} {H : Hp} {lc le : Addr} {cs es : List V} {os : List (List Nat)} (L : Lists X H) (hlc : H lc = some (.lst cs)) (hle : H le = some (.lst es)) (O : Olds X H le es os) : Lists (XS X lc le es) H := fun a x => by
  rcases x with x | x | x | x
  · exact L a x
  · rw [x]
    exact ⟨_, hlc⟩
  · rw [x]
    exact ⟨_, hle⟩
  · obtain ⟨xs, _, _, e⟩ := O.mem x
    exact ⟨xs, e⟩
theorem Olds.keep {X : Addr → Prop} {H H' : Hp} {le : Addr} {es : List V} {os : List (List Nat)} (K : Keep X H H') (O : Olds X H le es os) : Olds X H' le es os := O.imp fun r xs n x e => ⟨n, K.k _ _ e x notD_lst⟩
theorem Keep.up {X : Addr → Prop} {H H' : Hp} {lc le : Addr} {cs es : List V} {os : List (List Nat)} (K : Keep X H H') (hlc : H lc = some (.lst cs)) (xlc : ¬ X lc) (hle : H le = some (.lst es)) (xle : ¬ X le) (O : Olds X H le es os) : Keep (XS X lc le es) H H' :=
  ⟨fun a o e x n => K.k a o e (fun z => x (.inl z)) n, XS.lists K.l0 hlc hle O, XS.lists K.l (K.k _ _ hlc xlc notD_lst) (K.k _ _ hle xle notD_lst) (O.keep K)⟩
def StrokeOpt (CB CS : Addr) (X : Addr → Prop) (H : Hp) (w h : Nat) (sv : V) : Option Ie08.Stroke → Prop
  | none => sv = .non
  | some st => ∃ t ls kd, sv = .ref t ∧ StrokeAt CB CS X H t ls kd w h st
/-- how a drawing lies in the heap; X: lists that are none of its own -/
def DrawAt (CD CB CS : Addr) (X : Addr → Prop) (H : Hp) (d : Addr) (s : Ie08.St) : Prop := ∃ (dx lc b : Addr) (sv : V) (le : Addr) (es : List V), H d = some (.ins CD dx (dF s.w s.h lc b sv le)) ∧ H lc = some (.lst (nVs s.cells)) ∧ ¬ X lc ∧ BrushAt CB H b s.brush ∧
  H le = some (.lst es) ∧ ¬ X le ∧ Olds X H le es s.old.reverse ∧ Lists X H ∧ StrokeOpt CB CS (XS X lc le es) H s.w s.h sv s.stroke
theorem StrokeOpt.keep {CB CS : Addr} {X : Addr → Prop} {H H' : Hp} {w h : Nat} {sv : V} {o : Option Ie08.Stroke} (K : Keep X H H') : StrokeOpt CB CS X H w h sv o → StrokeOpt CB CS X H' w h sv o := by
  cases o with
  | none => exact fun h => h
  | some st => exact fun ⟨t, ls, kd, e, z⟩ => ⟨t, ls, kd, e, z.keep K⟩
theorem DrawAt.keep {CD CB CS : Addr} {X : Addr → Prop} {H H' : Hp} {d : Addr} {s : Ie08.St} (K : Keep X H H') (hd : ∀ o, H d = some o → H' d = some o) : DrawAt CD CB CS X H d s → DrawAt CD CB CS X H' d s :=
  fun ⟨dx, lc, b, sv, le, es, h1, h2, h3, h4, h5, h6, h7, h8, h9⟩ =>
    ⟨dx, lc, b, sv, le, es, hd _ h1, K.k _ _ h2 h3 notD_lst, h3, h4.keep K, K.k _ _ h5 h6 notD_lst, h6, h7.keep K, K.l, h9.keep (K.up h2 h3 h5 h6 h7)⟩
/-- tuples stay, and what is frozen -/
structure Fix (o : HO) : Prop where
  f1 : ∀ xs, o ≠ .lst xs
  f2 : ∀ C dx fs, o ≠ .ins C dx fs
  f3 : ∀ kvs, o ≠ .dT kvs
theorem fix_tup {xs : List V} : Fix (.tup xs) := ⟨(fun _ z => nomatch z), (fun _ _ _ z => nomatch z), (fun _ z => nomatch z)⟩
theorem fix_frz {u : Obj} {o : HO} : Fix (.frz u o) := ⟨(fun _ z => nomatch z), (fun _ _ _ z => nomatch z), (fun _ z => nomatch z)⟩
theorem Fix.nl {o : HO} {H : Hp} {a d : Addr} {xs : List V} (f : Fix o) (e : H a = some o) (hd : H d = some (.lst xs)) : a ≠ d := ne_of e hd (f.f1 xs)
theorem Fix.ni {o : HO} {H : Hp} {a d C dx : Addr} {fs : List (Str × V)} (f : Fix o) (e : H a = some o) (hd : H d = some (.ins C dx fs)) : a ≠ d := ne_of e hd (f.f2 C dx fs)
theorem Fix.nd {o : HO} {H : Hp} {a d : Addr} {kvs : List (List Key × V)} (f : Fix o) (e : H a = some o) (hd : H d = some (.dT kvs)) : a ≠ d := ne_of e hd (f.f3 kvs)
def TupK (H H' : Hp) : Prop := ∀ b o, H b = some o → Fix o → H' b = some o
theorem TupK.refl (H : Hp) : TupK H H := fun _ _ e _ => e
theorem TupK.sm {H H' : Hp} (s : Same H H') : TupK H H' := fun _ _ e _ => s _ _ e
theorem TupK.trans {H H' H'' : Hp} (a : TupK H H') (b : TupK H' H'') : TupK H H'' := fun _ _ e f => b _ _ (a _ _ e f) f
/-- what a call is due to leave, and to answer -/
def Goes (CD CB CS : Addr) (X : Addr → Prop) (H : Hp) (d : Addr) (s : Ie08.St) (c : Ie08.Call) (Q : VK) : Prop := ∀ H' : Hp, DrawAt CD CB CS X H' d (Ie08.step s c).1 → (∀ a, X a → H' a = H a) → TupK H H' → Q (.int ((Ie08.step s c).2.headD 0)) H'
theorem Goes.at {CD CB CS : Addr} {X : Addr → Prop} {H H' : Hp} {d : Addr} {s s' : Ie08.St} {c : Ie08.Call} {Q : VK} {r : Int} (q : Goes CD CB CS X H d s c Q) (e : Ie08.step s c = (s', [r])) (D : DrawAt CD CB CS X H' d s') (x : ∀ a, X a → H' a = H a) (y : TupK H H') : Q (.int r) H' := by
  have z := q H'
  rw [e] at z
  exact z D x y
end Bw
namespace Bw
open PySem PySem.Spec PyProof.Rows L2
open Ie08 (Cell near between gap)
section
variable {P : Program} {w : World} {K : PySem.W.Frag} {mg : Str → Option Value} {base : Heap} {CB CS CD : Addr}
/-! has_cell -/
def spHas (CD : Addr) : Sp := fun vs H Q _ => ∃ (d dx : Addr) (w h : Nat) (lc b : Addr) (sv : V) (le : Addr) (x y : Nat), vs = [.ref d, nV x, nV y] ∧ H d = some (.ins CD dx (dF w h lc b sv le)) ∧ Q (.bl (decide (x < w) && decide (y < h))) H
theorem scHas : FnScope ["self", "x", "y"] ["self", "x", "y"] (C8.fnScope sHas) := C8.fnScope_by (by decide +kernel)
theorem met_has (T : DrawC K mg CD) (D : MethAt K CD "has_cell" "Drawing.has_cell" sHas ["self", "x", "y"]) : C8.Met P w K mg base 1 CD "has_cell" (spHas CD) [] := by
  refine D.met scHas (fun vs H Q E h => ?_) fun cdv f A outer s H vs Q E hr h => ?_
  · obtain ⟨d, dx, w, h, lc, b, sv, le, x, y, rfl, _⟩ := h
    rfl
  · obtain ⟨d, dx, w, h, lc, b, sv, le, x, y, rfl, hd, q⟩ := h
    refine ⟨_, pss_one (ps_ret (pe_and (pe_cmpR op_lt (pv 1) (pe_fld (pv 0) rfl) (nomark _)) (pe_one (pe_cmpR op_lt (pv 2) (pe_fld (pv 0) rfl) (nomark _))))), ?_⟩
    refine ⟨_, rfl, _, rfl, d, CD, dx, _, _, rfl, hd, T.cl, T.a1, dF_w .., _, _, rfl, rfl, _, rfl, ?_⟩
    by_cases c : x < w
    · refine iteT' (decide_eq_true (Int.ofNat_lt.mpr c)) ⟨_, rfl, _, rfl, d, CD, dx, _, _, rfl, hd, T.cl, T.a2, dF_h .., _, _, rfl, rfl, ?_⟩
      have e : (decide (x < w) && decide (y < h)) = decide ((y : Int) < (h : Int)) := by
        rw [decide_eq_true c, Bool.true_and]
        exact decide_eq_decide.mpr Int.ofNat_lt.symm
      rw [e] at q
      exact q
    · refine iteF' (decide_eq_false fun z => c (Int.ofNat_lt.mp z)) ?_
      rw [decide_eq_false c, Bool.false_and] at q
      exact q
/-! new_page -/
def spPage (CD CB CS : Addr) : Sp := fun vs H Q _ => ∃ (X : Addr → Prop) (d : Addr) (s : Ie08.St) (w h n : Nat), vs = [.ref d, nV w, nV h, nV n] ∧ DrawAt CD CB CS X H d s ∧ Goes CD CB CS X H d s (.page w h n) Q
theorem scPage : FnScope ["self", "w", "h", "n"] ["self", "w", "h", "n"] (C8.fnScope sPage) := C8.fnScope_by (by decide +kernel)
theorem met_page (T : DrawC K mg CD) (cn : Cons mg) (D : MethAt K CD "new_page" "Drawing.new_page" sPage ["self", "w", "h", "n"]) : C8.Met P w K mg base 1 CD "new_page" (spPage CD CB CS) [] := by
  refine D.met scPage (fun vs H Q E h => ?_) fun cdv f A outer s H vs Q E hr h => ?_
  · obtain ⟨X, d, s, w, h, n, rfl, _⟩ := h
    rfl
  · obtain ⟨X, d, s, w, h, n, rfl, dA, q⟩ := h
    have hz : sizeLine = 16777216 := by decide
    refine ⟨_, pss_cons (ps_if (pt_not (PW.pt (pw_and (pt_chain op_le op_le pe_int (pv 1) (pe_k cn.side rfl)) (pw_and1 (pt_chain op_le op_le pe_int (pv 2) (pe_k cn.side rfl)))))) (pss_one (ps_ret (pe_k cn.c1 rfl))) pss_nil)
      (pss_cons (ps_if (pt_cmpR op_gt (pv 3) pe_int (nomark _)) (pss_one (ps_ret (pe_k cn.c2 rfl))) pss_nil)
      (pss_cons (ps_fld (pv 0) (pv 1) rfl) (pss_cons (ps_fld (pv 0) (pv 2) rfl) (pss_cons (ps_fld (pv 0) (pe_op op_rep (pe_lst (pa_cons (pv 3) pa_nil)) (pe_op op_mul (pv 1) (pv 2))) rfl)
      (pss_cons (ps_fld (pv 0) pe_non rfl) (pss_cons (ps_fld (pv 0) (pe_lst pa_nil) rfl) (pss_one (ps_ret pe_int)))))))), ?_⟩
    have no : ¬ (1 ≤ w ∧ w ≤ 12 ∧ 1 ≤ h ∧ h ≤ 12) → Q (.int (-1)) H := fun c => by
      have e : Ie08.step s (.page w h n) = (s, [-1]) := if_pos (by omega)
      exact q.at e dA (fun _ _ => rfl) (TupK.refl H)
    refine ⟨_, rfl, _, _, rfl, rfl, _, rfl, ?_⟩
    by_cases c1 : 1 ≤ w
    · refine iteT' (decide_eq_true (show (1 : Int) ≤ (w : Int) by omega)) ⟨_, _, rfl, rfl, _, rfl, ?_⟩
      by_cases c2 : w ≤ 12
      · refine iteT' (decide_eq_true (show (w : Int) ≤ 12 by omega)) ⟨_, rfl, _, _, rfl, rfl, _, rfl, ?_⟩
        by_cases c3 : 1 ≤ h
        · refine iteT' (decide_eq_true (show (1 : Int) ≤ (h : Int) by omega)) ⟨_, _, rfl, rfl, _, rfl, ?_⟩
          by_cases c4 : h ≤ 12
          · refine iteF' (by rw [decide_eq_true (show (h : Int) ≤ 12 by omega)]; rfl) ?_
            refine ⟨_, rfl, _, _, rfl, rfl, _, rfl, ?_⟩
            by_cases c5 : 255 < n
            · refine iteT' (decide_eq_true (show (255 : Int) < (n : Int) by omega)) ?_
              have e : Ie08.step s (.page w h n) = (s, [-2]) := (if_neg (by omega)).trans (if_pos c5)
              exact q.at e dA (fun _ _ => rfl) (TupK.refl H)
            · refine iteF' (decide_eq_false (show ¬ (255 : Int) < (n : Int) by omega)) ?_
              have e : Ie08.step s (.page w h n) = (⟨w, h, List.replicate (w * h) n, s.brush, none, []⟩, [0]) := (if_neg (by omega)).trans (if_neg c5)
              obtain ⟨dx, lc, b, sv, le, es, hd, hlc, xlc, hb, hle, xle, hO, hX, hS⟩ := dA
              have har := area_le c2 c4
              refine ⟨_, rfl, _, rfl, d, CD, dx, _, rfl, hd, T.cl, T.a1, (by show 6 < 1000; decide), ?_⟩
              refine ⟨_, rfl, _, rfl, d, CD, dx, _, rfl, upd_same, T.cl, T.a2, (by show 6 < 1000; decide), ?_⟩
              rw [upd_upd]
              refine ⟨_, rfl, (by show 1 ≤ sizeLine; decide), fun l0 hl0 => ?_⟩
              obtain ⟨n0, hl0⟩ := upd_free hl0
              refine ⟨_, rfl, _, rfl, _, _, rfl, rfl, .inl ⟨by omega, by omega⟩, l0, ((w * h : Nat) : Int), _, rfl, ?_, upd_same, by omega, by omega, ?_, fun lm hlm => ?_⟩
              · show V.int ((w : Int) * (h : Int)) = _
                rw [Int.natCast_mul]
              · show 1 * ((w * h : Nat) : Int).toNat ≤ sizeLine
                rw [Int.toNat_natCast]
                omega
              rw [Int.toNat_natCast, rep_one]
              obtain ⟨n1, hlm⟩ := upd_free hlm
              obtain ⟨n2, hlm⟩ := upd_free hlm
              refine ⟨_, rfl, d, CD, dx, _, rfl, (by rw [upd_ne n2.symm, upd_ne n0.symm]; exact upd_same), T.cl, T.a3, (by show 6 < 1000; decide), ?_⟩
              refine ⟨_, rfl, d, CD, dx, _, rfl, upd_same, T.cl, T.a5, (by show 6 < 1000; decide), ?_⟩
              rw [upd_upd]
              refine ⟨(by show 0 ≤ sizeLine; decide), fun ln hln => ?_⟩
              obtain ⟨n3, hln⟩ := upd_free hln
              obtain ⟨n4, hln⟩ := upd_free hln
              obtain ⟨n5, hln⟩ := upd_free hln
              obtain ⟨_, hln⟩ := upd_free hln
              refine ⟨_, rfl, d, CD, dx, _, rfl, (by rw [upd_ne n3.symm]; exact upd_same), T.cl, T.a6, (by show 6 < 1000; decide), ?_⟩
              generalize eF : upd (upd (upd (upd (upd (upd H d _) l0 _) lm _) d _) ln _) d _ = HF
              have fr : ∀ a o, H a = some o → a ≠ d → HF a = some o := fun a o e ne => by
                rw [← eF, upd_ne ne, upd_ne (ne_of_none e hln), upd_ne ne, upd_ne (ne_of_none e hlm), upd_ne (ne_of_none e hl0), upd_ne ne]
                exact e
              have fD : HF d = some (.ins CD dx (dF w h lm b .non ln)) := by
                rw [← eF, upd_same]
                rfl
              have fM : HF lm = some (.lst (nVs (List.replicate (w * h) n))) := by
                rw [← eF, upd_ne n2, upd_ne n4.symm, upd_ne n2, upd_same]
                show some (HO.lst (List.replicate (w * h) (nV n))) = some (HO.lst ((List.replicate (w * h) n).map nV))
                rw [List.map_replicate]
              have fL : HF ln = some (.lst []) := by
                rw [← eF, upd_ne n3, upd_same]
              have fX : ∀ a, X a → HF a = H a := fun a xa => by
                obtain ⟨xs, e⟩ := hX a xa
                rw [e]
                exact fr a _ e (ne_of e hd (by intro z; cases z))
              obtain ⟨db, hb⟩ := hb
              refine q.at e ⟨dx, lm, b, .non, ln, [], fD, fM, hX.free hlm, ⟨db, fr _ _ hb (ne_of hb hd (notD_kF _ _ _ _ _ _ _ _))⟩, fL, hX.free hln, trivial, (fun a xa => (hX a xa).imp fun xs e => (fX a xa).trans e), rfl⟩ fX fun b o e f => fr b _ e (f.ni e hd)
          · refine iteT' (by rw [decide_eq_false (show ¬ (h : Int) ≤ 12 by omega)]; rfl) (no fun z => c4 z.2.2.2)
        · refine iteF' (decide_eq_false (show ¬ (1 : Int) ≤ (h : Int) by omega)) ⟨_, rfl, iteT' rfl ?_⟩
          exact no fun z => c3 z.2.2.1
      · refine iteF' (decide_eq_false (show ¬ (w : Int) ≤ 12 by omega)) (iteT' rfl ?_)
        exact no fun z => c2 z.2.1
    · refine iteF' (decide_eq_false (show ¬ (1 : Int) ≤ (w : Int) by omega)) ⟨_, rfl, iteF' rfl (iteT' rfl ?_)⟩
      exact no fun z => c1 z.1
/-! choose_brush -/
def spChoose (CD CB CS : Addr) : Sp := fun vs H Q _ => ∃ (X : Addr → Prop) (d : Addr) (s : Ie08.St) (f n sp fl op to bu mi : Nat), vs = [.ref d, nV f, nV n, nV sp, nV fl, nV op, nV to, nV bu, nV mi] ∧ DrawAt CD CB CS X H d s ∧ Goes CD CB CS X H d s (.brush f n sp fl op to bu mi) Q
theorem scChoose : FnScope ["self", "full", "none", "space", "flow", "opacity", "tone", "build", "mirror", "brush"] ["self", "full", "none", "space", "flow", "opacity", "tone", "build", "mirror"] (C8.fnScope sChoose) := C8.fnScope_by (by decide +kernel)
theorem met_choose (T : DrawC K mg CD) (cn : Cons mg) (cB : C8.Mak P w K mg base 1 "Brush" CB (spBInit CB) []) (cI : C8.Cal P w K mg base 1 "is_brush" (spIsBrush CB) []) (D : MethAt K CD "choose_brush" "Drawing.choose_brush" sChoose ["self", "full", "none", "space", "flow", "opacity", "tone", "build", "mirror"]) :
    C8.Met P w K mg base 3 CD "choose_brush" (spChoose CD CB CS) [] := by
  refine D.met scChoose (fun vs H Q E h => ?_) fun cdv f A outer s H vs Q E hr h => ?_
  · obtain ⟨X, d, s, f, n, sp, fl, op, to, bu, mi, rfl, _⟩ := h
    rfl
  · obtain ⟨X, d, s, f, n, sp, fl, op, to, bu, mi, rfl, dA, q⟩ := h
    refine ⟨_, pss_cons (ps_set (i := 9) scChoose.nd rfl (.inl rfl) (C8.pe_mk cB hr (by decide) rfl (pa_cons (pv 1) (pa_cons (pv 2) (pa_cons (pv 3) (pa_cons (pv 4) (pa_cons (pv 5) (pa_cons (pv 6) (pa_cons (pv 7) (pa_cons (pv 8) pa_nil))))))))))
      (pss_cons (ps_if (pt_not (pt_val (C8.pe_c cI hr (by decide) rfl (pa_cons (pv 9) pa_nil)))) (pss_one (ps_ret (pe_k cn.c2 rfl))) pss_nil)
      (pss_cons (ps_fld (pv 0) (pv 9) rfl) (pss_one (ps_ret pe_int)))), ?_⟩
    refine ⟨_, rfl, _, rfl, _, rfl, _, rfl, _, rfl, _, rfl, _, rfl, _, rfl, fun b2 db2 hb2 hdb2 nb2 => ⟨b2, db2, f, n, sp, fl, op, to, bu, mi, rfl, upd_same, rfl, ?_⟩⟩
    rw [upd_upd]
    have s1 : Same H (upd (upd H db2 (.own b2)) b2 (.ins CB db2 (bF f n sp fl op to bu mi))) := same_put (same_put (Same.refl H) hdb2) hb2
    have hB : (upd (upd H db2 (.own b2)) b2 (.ins CB db2 (bF f n sp fl op to bu mi))) b2 = some (.ins CB db2 (bF f n sp fl op to bu mi)) := upd_same
    revert s1 hB
    generalize upd (upd H db2 (.own b2)) b2 (.ins CB db2 (bF f n sp fl op to bu mi)) = H1
    intro s1 hB
    obtain ⟨dx, lc, b, sv, le, es, hd, hlc, xlc, hb, hle, xle, hO, hX, hS⟩ := id dA
    have dA1 : DrawAt CD CB CS X H1 d s := dA.keep (Keep.sm s1 hX) fun o e => s1 _ _ e
    have fX1 : ∀ a, X a → H1 a = H a := fun a xa => by
      obtain ⟨xs, e⟩ := hX a xa
      rw [e]
      exact s1 _ _ e
    refine ⟨_, rfl, b2, db2, f, n, sp, fl, op, to, bu, mi, rfl, hB, _, rfl, ?_⟩
    by_cases c : f < n ∧ n ≤ 1000 ∧ 1 ≤ sp ∧ sp ≤ 100 ∧ fl ≤ 255 ∧ op ≤ 255 ∧ to ≤ 255 ∧ bu ≤ 1 ∧ mi ≤ 3
    · refine iteF' (by rw [show fine f n sp fl op to bu mi = true from decide_eq_true c]; rfl) ?_
      have e : Ie08.step s (.brush f n sp fl op to bu mi) = ({ s with brush := ⟨f, n, sp, fl, op, to, bu == 1, mi⟩ }, [0]) := if_neg (by omega)
      obtain ⟨dx1, lc1, b1, sv1, le1, es1, hd1, hlc1, xlc1, hb1, hle1, xle1, hO1, hX1, hS1⟩ := id dA1
      have ebu : bN (bu == 1) = bu := by
        have h2 := c.2.2.2.2.2.2.2.1
        rcases Nat.lt_or_ge 0 bu with z | z
        · have : bu = 1 := by omega
          subst this
          rfl
        · have : bu = 0 := by omega
          subst this
          rfl
      have K1 : Keep X H1 (upd H1 d (.ins CD dx1 (dF s.w s.h lc1 b2 sv1 le1))) := Keep.put hd1 hX1
      have hkB : H1 b2 = some (.ins CB db2 (kF ⟨f, n, sp, fl, op, to, bu == 1, mi⟩)) := by
        rw [hB]
        show _ = some (HO.ins CB db2 (bF f n sp fl op to (bN (bu == 1)) mi))
        rw [ebu]
      refine ⟨_, rfl, _, rfl, d, CD, dx1, _, rfl, hd1, T.cl, T.a4, (by show 6 < 1000; decide), ?_⟩
      refine q.at e ⟨dx1, lc1, b2, sv1, le1, es1, upd_same, K1.k _ _ hlc1 xlc1 notD_lst, xlc1, BrushAt.keep K1 ⟨db2, hkB⟩, K1.k _ _ hle1 xle1 notD_lst, xle1, hO1.keep K1, K1.l, hS1.keep (K1.up hlc1 xlc1 hle1 xle1 hO1)⟩ (fun a xa => ?_) fun b o e f => ?_
      · obtain ⟨xs, e⟩ := hX a xa
        rw [upd_ne (ne_of e hd (by intro z; cases z))]
        exact fX1 a xa
      · rw [upd_ne (f.ni e hd)]
        exact s1 _ _ e
    · refine iteT' (by rw [show fine f n sp fl op to bu mi = false from decide_eq_false c]; rfl) ?_
      have e : Ie08.step s (.brush f n sp fl op to bu mi) = (s, [-2]) := if_pos (by omega)
      exact q.at e dA1 fX1 (TupK.sm s1)
end
end Bw
namespace Bw
open PySem PySem.Spec PyProof.Rows L2
open Ie08 (Cell near between gap)
theorem cut8 (xs : List V) : cutV xs (some (-8)) none = xs.drop (xs.length - 8) := by
  have e : HT.sIx xs.length 0 (some (-8)) = xs.length - 8 := by
    show (if (-8 : Int) < 0 then ((-8 : Int) + (xs.length : Int)).toNat else min (-8 : Int).toNat xs.length) = xs.length - 8
    rw [if_pos (by decide)]
    omega
  unfold cutV
  rw [e, HT.sIx_none]
  exact List.take_of_length_le (by rw [List.length_drop]; exact Nat.le_refl _)
theorem Lists.of {X : Addr → Prop} {H H' : Hp} (L : Lists X H) (f : ∀ a, X a → H' a = H a) : Lists X H' := fun a xa => (L a xa).imp fun xs e => (f a xa).trans e
theorem nonT : (!decide (V.non = V.non)) = false := by
  rw [decide_eq_true rfl]
  rfl
theorem nonF (t : Addr) : (!decide (V.ref t = V.non)) = true := by
  rw [decide_eq_false (by intro z; cases z)]
  rfl
theorem isT : decide (V.non = V.non) = true := decide_eq_true rfl
theorem isF (t : Addr) : decide (V.ref t = V.non) = false := decide_eq_false (by intro z; cases z)
theorem has_eq (s : Ie08.St) (x y : Nat) : s.has (x, y) = (decide (x < s.w) && decide (y < s.h)) := rfl
theorem NotD.ne {o : HO} {H : Hp} {a d C dx : Addr} {w h : Nat} {lc b : Addr} {sv : V} {le : Addr} (n : NotD o) (e : H a = some o) (hd : H d = some (.ins C dx (dF w h lc b sv le))) : a ≠ d := ne_of e hd (n C dx w h lc b sv le)
section
variable {P : Program} {w : World} {K : PySem.W.Frag} {mg : Str → Option Value} {base : Heap} {CB CS CD : Addr}
/-! begin -/
def spBegin (CD CB CS : Addr) : Sp := fun vs H Q _ => ∃ (X : Addr → Prop) (d : Addr) (s : Ie08.St) (n x y : Nat), vs = [.ref d, nV x, nV y] ∧ DrawAt CD CB CS X H d s ∧ StOk n s ∧ Goes CD CB CS X H d s (.down x y) Q
theorem scBegin : FnScope ["self", "x", "y"] ["self", "x", "y"] (C8.fnScope sBegin) := C8.fnScope_by (by decide +kernel)
theorem met_begin (O : Own mg) (T : DrawC K mg CD) (TS : StrokeC K mg CS) (cn : Cons mg) (cH : C8.Met P w K mg base 1 CD "has_cell" (spHas CD) []) (cS : C8.Mak P w K mg base 6 "Stroke" CS (spSInit CB CS) []) (D : MethAt K CD "begin" "Drawing.begin" sBegin ["self", "x", "y"]) :
    C8.Met P w K mg base 8 CD "begin" (spBegin CD CB CS) [] := by
  refine D.met scBegin (fun vs H Q E h => ?_) fun cdv f A outer s H vs Q E hr h => ?_
  · obtain ⟨X, d, s, n, x, y, rfl, _⟩ := h
    rfl
  · obtain ⟨X, d, s, n, x, y, rfl, dA, ok, q⟩ := h
    refine ⟨_, pss_cons (ps_if (pt_cmpR op_notN (pe_fld (pv 0) rfl) pe_non (nomark _)) (pss_one (ps_ret (pe_k cn.c4 rfl))) pss_nil)
      (pss_cons (ps_if (pt_not (pt_val (C8.pe_mt cH hr (by decide) (pv 0) (pa_cons (pv 1) (pa_cons (pv 2) pa_nil))))) (pss_one (ps_ret (pe_k cn.c1 rfl))) pss_nil)
      (pss_cons (ps_fld (pv 0) (C8.pe_mk cS hr (by decide) rfl (pa_cons (pe_fld (pv 0) rfl) (pa_cons (pe_fld (pv 0) rfl) (pa_cons (pe_fld (pv 0) rfl) (pa_cons (pv 1) (pa_cons (pv 2) pa_nil)))))) rfl)
      (pss_one (ps_ret (pe_callB call_len_seq rfl O.len (by decide +kernel) (pa_cons (pe_fld (pe_fld (pv 0) rfl) rfl) pa_nil)))))), ?_⟩
    obtain ⟨dx, lc, b, sv, le, es, hd, hlc, xlc, hb, hle, xle, hO, hX, hS⟩ := id dA
    refine ⟨_, rfl, d, CD, dx, _, _, rfl, hd, T.cl, T.a5, dF_stroke .., rfl, _, rfl, ?_⟩
    cases es0 : s.stroke with
    | some st =>
      rw [es0] at hS
      obtain ⟨t, ls, kd, rfl, _⟩ := hS
      refine iteT' (nonF t) ?_
      exact q.at (s' := s) (r := -4) (if_pos (by rw [es0]; rfl)) dA (fun _ _ => rfl) (TupK.refl H)
    | none =>
      rw [es0] at hS
      obtain rfl : sv = .non := hS
      refine iteF' nonT ?_
      have e0 : ¬ s.stroke.isSome = true := by
        rw [es0]
        exact Bool.false_ne_true
      refine ⟨_, rfl, d, dx, _, rfl, hd, dF_has .., _, rfl, _, rfl, d, dx, s.w, s.h, lc, b, .non, le, x, y, rfl, hd, _, rfl, ?_⟩
      cases eh : s.has (x, y) with
      | false =>
        refine iteT' (by rw [has_eq] at eh; rw [eh]; rfl) ?_
        exact q.at (s' := s) (r := -1) ((if_neg e0).trans (if_pos eh)) dA (fun _ _ => rfl) (TupK.refl H)
      | true =>
        refine iteF' (by rw [has_eq] at eh; rw [eh]; rfl) ?_
        have e : Ie08.step s (.down x y) = ({ s with stroke := some (Ie08.begin_ s (x, y)) }, [1]) := (if_neg e0).trans (if_neg (by rw [eh]; exact Bool.noConfusion))
        obtain ⟨hx, hy⟩ := has_iff.mp eh
        refine ⟨_, rfl, d, CD, dx, _, _, rfl, hd, T.cl, T.a4, dF_brush .., _, rfl, d, CD, dx, _, _, rfl, hd, T.cl, T.a1, dF_w .., _, rfl, d, CD, dx, _, _, rfl, hd, T.cl, T.a2, dF_h .., _, rfl, _, rfl, fun p dp hp hdp np => ?_⟩
        have s1 : Same H (upd (upd H dp (.own p)) p (.ins CS dp [])) := same_put (same_put (Same.refl H) hdp) hp
        have LX : Lists (XS X lc le es) H := XS.lists hX hlc hle hO
        have LX1 : Lists (XS X lc le es) (upd (upd H dp (.own p)) p (.ins CS dp [])) := fun a xa => (LX a xa).imp fun xs e => s1 _ _ e
        have hp1 : (upd (upd H dp (.own p)) p (.ins CS dp [])) p = some (.ins CS dp []) := upd_same
        obtain ⟨db, hb0⟩ := hb
        refine ⟨XS X lc le es, p, dp, b, s.brush, s.w, s.h, x, y, rfl, hp1, LX1, ⟨db, s1 _ _ hb0⟩, ok.bo, hx, hy, ok.w2, ok.h2, fun H2 ls kd sA fr => ⟨rfl, ?_⟩⟩
        have s2 : Same H H2 := fun a o e => fr a o (s1 a o e) (ne_of_none e hp)
        have hd2 := s2 _ _ hd
        have K1 : Keep X H (upd H2 d (.ins CD dx (dF s.w s.h lc b (.ref p) le))) := (Keep.sm s2 hX).trans (Keep.put hd2 ((Keep.sm s2 hX).l))
        have KS : Keep (XS X lc le es) H2 (upd H2 d (.ins CD dx (dF s.w s.h lc b (.ref p) le))) := Keep.put hd2 ((Keep.sm s2 LX).l)
        have sB := sA.keep KS
        refine ⟨_, rfl, d, CD, dx, _, rfl, hd2, T.cl, T.a5, (by show 6 < 1000; decide), ?_⟩
        obtain ⟨dx3, b3, lm3, vs3, kv3, ht3, hb3, hls3, xls3, hts3, _⟩ := id sB
        refine ⟨_, rfl, d, CD, dx, _, _, rfl, upd_same, T.cl, T.a5, dF_stroke s.w s.h lc b (.ref p) le, p, CS, dx3, _, _, rfl, ht3, TS.cl, TS.a7, sF_stamped .., ls, _, rfl, .inl (SqL.of hls3), ?_⟩
        rw [hts3.len]
        refine q.at e ⟨dx, lc, b, .ref p, le, es, upd_same, K1.k _ _ hlc xlc notD_lst, xlc, BrushAt.keep K1 ⟨db, hb0⟩, K1.k _ _ hle xle notD_lst, xle, hO.keep K1, K1.l, p, ls, kd, rfl, sB⟩ (fun a xa => ?_) fun b o e f => ?_
        · obtain ⟨xs, e⟩ := hX a xa
          rw [upd_ne (ne_of e hd (by intro z; cases z)), e]
          exact s2 _ _ e
        · rw [upd_ne (f.ni e hd)]
          exact s2 _ _ e
/-! go_on -/
def spGo (CD CB CS : Addr) : Sp := fun vs H Q _ => ∃ (X : Addr → Prop) (d : Addr) (s : Ie08.St) (n x y : Nat), vs = [.ref d, nV x, nV y] ∧ DrawAt CD CB CS X H d s ∧ StOk n s ∧ n ≤ 10000 ∧ Goes CD CB CS X H d s (.to x y) Q
theorem scGo : FnScope ["self", "x", "y"] ["self", "x", "y"] (C8.fnScope sGo) := C8.fnScope_by (by decide +kernel)
theorem met_go (O : Own mg) (T : DrawC K mg CD) (TS : StrokeC K mg CS) (cn : Cons mg) (cH : C8.Met P w K mg base 1 CD "has_cell" (spHas CD) []) (cL : C8.Met P w K mg base 6 CS "lead" (spLead CB CS) []) (D : MethAt K CD "go_on" "Drawing.go_on" sGo ["self", "x", "y"]) :
    C8.Met P w K mg base 7 CD "go_on" (spGo CD CB CS) [] := by
  refine D.met scGo (fun vs H Q E h => ?_) fun cdv f A outer s H vs Q E hr h => ?_
  · obtain ⟨X, d, s, n, x, y, rfl, _⟩ := h
    rfl
  · obtain ⟨X, d, s, n, x, y, rfl, dA, ok, hn, q⟩ := h
    refine ⟨_, pss_cons (ps_if (pt_cmpR op_isN (pe_fld (pv 0) rfl) pe_non (nomark _)) (pss_one (ps_ret (pe_k cn.c4 rfl))) pss_nil)
      (pss_cons (ps_if (pt_not (pt_val (C8.pe_mt cH hr (by decide) (pv 0) (pa_cons (pv 1) (pa_cons (pv 2) pa_nil))))) (pss_one (ps_ret (pe_k cn.c1 rfl))) pss_nil)
      (pss_cons (ps_expr (C8.pe_mt cL hr (by decide) (pe_fld (pv 0) rfl) (pa_cons (pv 1) (pa_cons (pv 2) pa_nil))))
      (pss_one (ps_ret (pe_callB call_len_seq rfl O.len (by decide +kernel) (pa_cons (pe_fld (pe_fld (pv 0) rfl) rfl) pa_nil)))))), ?_⟩
    obtain ⟨dx, lc, b, sv, le, es, hd, hlc, xlc, hb, hle, xle, hO, hX, hS⟩ := id dA
    refine ⟨_, rfl, d, CD, dx, _, _, rfl, hd, T.cl, T.a5, dF_stroke .., rfl, _, rfl, ?_⟩
    cases es0 : s.stroke with
    | none =>
      rw [es0] at hS
      obtain rfl : sv = .non := hS
      refine iteT' isT ?_
      have e : Ie08.step s (.to x y) = (s, [-4]) := by
        show (match s.stroke with | none => (s, [-4]) | some t => _) = _
        rw [es0]
      exact q.at e dA (fun _ _ => rfl) (TupK.refl H)
    | some st =>
      rw [es0] at hS
      obtain ⟨t, ls, kd, rfl, sA⟩ := hS
      refine iteF' (isF t) ?_
      refine ⟨_, rfl, d, dx, _, rfl, hd, dF_has .., _, rfl, _, rfl, d, dx, s.w, s.h, lc, b, _, le, x, y, rfl, hd, _, rfl, ?_⟩
      have e0 : Ie08.step s (.to x y) = if s.has (x, y) = false then (s, [-1]) else ({ s with stroke := some (Ie08.on s.w s.h st (x, y)) }, Ie08.ints [(Ie08.on s.w s.h st (x, y)).stamps.length]) := by
        show (match s.stroke with | none => (s, [-4]) | some t => _) = _
        rw [es0]
      cases eh : s.has (x, y) with
      | false =>
        refine iteT' (by rw [has_eq] at eh; rw [eh]; rfl) ?_
        exact q.at (e0.trans (if_pos eh)) dA (fun _ _ => rfl) (TupK.refl H)
      | true =>
        refine iteF' (by rw [has_eq] at eh; rw [eh]; rfl) ?_
        obtain ⟨hx, hy⟩ := has_iff.mp eh
        obtain ⟨so, sn⟩ := ok.so st es0
        obtain ⟨dx2, b2, lm2, vs2, kv2, ht2, hb2, hls2, xls2, hts2, hlm2, nlm2, xlm2, hkd2, hkn2, hkl2, hX2⟩ := id sA
        refine ⟨_, rfl, d, CD, dx, _, _, rfl, hd, T.cl, T.a5, dF_stroke .., t, dx2, _, rfl, ht2, sF_lead .., _, rfl, _, rfl, XS X lc le es, t, ls, kd, s.w, s.h, st, x, y, rfl, sA, so, hx, hy, by omega, fun H2 sB fr => ?_⟩
        have fl : ∀ a xs, H a = some (.lst xs) → a ≠ ls → H2 a = some (.lst xs) := fun a xs e n => fr a _ e (ne_of e ht2 (by intro z; cases z)) n (ne_of e hkd2 (by intro z; cases z))
        have nls : ∀ a, XS X lc le es a → a ≠ ls := fun a xa z => xls2 (by rw [← z]; exact xa)
        have hd2 : H2 d = some (.ins CD dx (dF s.w s.h lc b (.ref t) le)) := fr d _ hd (Ne.symm (notD_sF.ne ht2 hd)) (ne_of hd hls2 (by intro z; cases z)) (ne_of hd hkd2 (by intro z; cases z))
        obtain ⟨db, hb0⟩ := hb
        have hbr : BrushAt CB H2 b s.brush := ⟨db, fr b _ hb0 (ne_of hb0 ht2 kF_ne_sF) (ne_of hb0 hls2 (by intro z; cases z)) (ne_of hb0 hkd2 (by intro z; cases z))⟩
        have fX : ∀ a, X a → H2 a = H a := fun a xa => by
          obtain ⟨xs, e⟩ := hX a xa
          rw [e]
          exact fl a xs e (nls a (.inl xa))
        obtain ⟨dx3, b3, lm3, vs3, kv3, ht3, hb3, hls3, xls3, hts3, _⟩ := id sB
        refine ⟨_, rfl, d, CD, dx, _, _, rfl, hd2, T.cl, T.a5, dF_stroke .., t, CS, dx3, _, _, rfl, ht3, TS.cl, TS.a7, sF_stamped .., ls, _, rfl, .inl (SqL.of hls3), ?_⟩
        rw [hts3.len]
        refine q.at (e0.trans (if_neg (by rw [eh]; exact Bool.noConfusion))) ⟨dx, lc, b, .ref t, le, es, hd2, fl _ _ hlc (nls _ (.inr (.inl rfl))), xlc, hbr, fl _ _ hle (nls _ (.inr (.inr (.inl rfl)))), xle, hO.impM (fun r xs m _ _ e => fl _ _ e (nls _ (.inr (.inr (.inr m))))), hX.of fX, t, ls, kd, rfl, sB⟩ fX fun b o e f => fr b _ e (f.ni e ht2) (f.nl e hls2) (f.nd e hkd2)
/-! lift -/
def spLift (CD CB CS : Addr) : Sp := fun vs H Q _ => ∃ (X : Addr → Prop) (d : Addr) (s : Ie08.St) (n : Nat), vs = [.ref d] ∧ DrawAt CD CB CS X H d s ∧ StOk n s ∧ Goes CD CB CS X H d s .up Q
theorem scLift : FnScope ["self", "lifted"] ["self"] (C8.fnScope sLift) := C8.fnScope_by (by decide +kernel)
theorem met_lift (O : Own mg) (T : DrawC K mg CD) (TS : StrokeC K mg CS) (cn : Cons mg) (cS : C8.Met P w K mg base 3 CS "shown_on" (spShownOn CB CS) []) (D : MethAt K CD "lift" "Drawing.lift" sLift ["self"]) : C8.Met P w K mg base 4 CD "lift" (spLift CD CB CS) [] := by
  refine D.met scLift (fun vs H Q E h => ?_) fun cdv f A outer s H vs Q E hr h => ?_
  · obtain ⟨X, d, s, n, rfl, _⟩ := h
    rfl
  · obtain ⟨X, d, s, n, rfl, dA, ok, q⟩ := h
    refine ⟨_, pss_cons (ps_if (pt_cmpR op_isN (pe_fld (pv 0) rfl) pe_non (nomark _)) (pss_one (ps_ret (pe_k cn.c4 rfl))) pss_nil)
      (pss_cons (ps_set (i := 1) scLift.nd rfl (.inl rfl) (pe_fld (pv 0) rfl))
      (pss_cons (ps_fld (pv 0) (pe_slice sl_list (pe_op op_cat (pe_fld (pv 0) rfl) (pe_lst (pa_cons (pe_fld (pv 0) rfl) pa_nil))) (po_some (pe_un un_neg (pe_k cn.undone rfl))) po_none) rfl)
      (pss_cons (ps_fld (pv 0) (C8.pe_mt cS hr (by decide) (pv 1) (pa_cons (pe_fld (pv 0) rfl) pa_nil)) rfl)
      (pss_cons (ps_fld (pv 0) pe_non rfl)
      (pss_one (ps_ret (pe_callB call_len_seq rfl O.len (by decide +kernel) (pa_cons (pe_fld (pv 1) rfl) pa_nil)))))))), ?_⟩
    have hz : sizeLine = 16777216 := by decide
    obtain ⟨dx, lc, b, sv, le, es, hd, hlc, xlc, hb, hle, xle, hO, hX, hS⟩ := id dA
    refine ⟨_, rfl, d, CD, dx, _, _, rfl, hd, T.cl, T.a5, dF_stroke .., rfl, _, rfl, ?_⟩
    cases es0 : s.stroke with
    | none =>
      rw [es0] at hS
      obtain rfl : sv = .non := hS
      refine iteT' isT ?_
      have e : Ie08.step s .up = (s, [-4]) := by
        show (match s.stroke with | none => (s, [-4]) | some t => _) = _
        rw [es0]
      exact q.at e dA (fun _ _ => rfl) (TupK.refl H)
    | some st =>
      rw [es0] at hS
      obtain ⟨t, ls, kd, rfl, sA⟩ := hS
      refine iteF' (isF t) ?_
      have e : Ie08.step s .up = (Ie08.lifted s st, Ie08.ints [st.stamps.length]) := by
        show (match s.stroke with | none => (s, [-4]) | some t => _) = _
        rw [es0]
      obtain ⟨so, sn⟩ := ok.so st es0
      have eol := hO.len
      have ol := ok.ol
      rw [List.length_reverse] at eol
      refine ⟨_, rfl, d, CD, dx, _, _, rfl, hd, T.cl, T.a5, dF_stroke .., ?_⟩
      refine ⟨_, rfl, d, CD, dx, _, _, rfl, hd, T.cl, T.a6, dF_earlier .., _, rfl, d, CD, dx, _, _, rfl, hd, T.cl, T.a3, dF_cells .., (by show 1 ≤ sizeLine; decide), fun l1 hl1 => ?_⟩
      refine ⟨le, l1, es, [.ref lc], rfl, rfl, (by rw [upd_ne (ne_of_none hle hl1)]; exact hle), upd_same, (by show es.length + 1 ≤ sizeLine; omega), fun l2 hl2 => ?_⟩
      refine ⟨8, rfl, -8, rfl, l2, _, rfl, SqL.of upd_same, fun l3 hl3 => ?_⟩
      obtain ⟨m2, hl2⟩ := upd_free hl2
      obtain ⟨m3, hl3⟩ := upd_free hl3
      obtain ⟨m4, hl3⟩ := upd_free hl3
      have e8 : cutV (es ++ [V.ref lc]) (some (-8)) none = (es ++ [V.ref lc]).drop ((es ++ [V.ref lc]).length - 8) := cut8 _
      rw [e8]
      clear e8
      generalize e2 : (es ++ [V.ref lc] : List V) = es2
      have s3 : Same H (upd (upd (upd H l1 (.lst [V.ref lc])) l2 (.lst es2)) l3 (.lst (es2.drop (es2.length - 8)))) := same_put (same_put (same_put (Same.refl H) hl1) hl2) hl3
      have h3 : (upd (upd (upd H l1 (.lst [V.ref lc])) l2 (.lst es2)) l3 (.lst (es2.drop (es2.length - 8)))) l3 = some (.lst (es2.drop (es2.length - 8))) := upd_same
      revert s3 h3
      generalize upd (upd (upd H l1 (.lst [V.ref lc])) l2 (.lst es2)) l3 (.lst (es2.drop (es2.length - 8))) = H3
      intro s3 h3
      have hd3 := s3 _ _ hd
      have LX := XS.lists hX hlc hle hO
      have L3 := (Keep.sm s3 LX).l
      refine ⟨_, rfl, d, CD, dx, _, rfl, hd3, T.cl, T.a6, (by show 6 < 1000; decide), ?_⟩
      have K4 : Keep (XS X lc le es) H (upd H3 d (.ins CD dx (dF s.w s.h lc b (.ref t) l3))) := (Keep.sm s3 LX).trans (Keep.put hd3 L3)
      have k4 : ∀ a o, H3 a = some o → a ≠ d → upd H3 d (.ins CD dx (dF s.w s.h lc b (.ref t) l3)) a = some o := fun a o e n => by
        rw [upd_ne n]
        exact e
      have hd4 : upd H3 d (.ins CD dx (dF s.w s.h lc b (.ref t) l3)) d = some (.ins CD dx (dF s.w s.h lc b (.ref t) l3)) := upd_same
      rw [show putF ("earlier" : Str) (V.ref l3) (dF s.w s.h lc b (V.ref t) le) = dF s.w s.h lc b (V.ref t) l3 from rfl]
      revert K4 k4 hd4
      generalize upd H3 d (.ins CD dx (dF s.w s.h lc b (.ref t) l3)) = H4
      intro K4 k4 hd4
      have sA4 := sA.keep K4
      obtain ⟨dx2, b2, lm2, vs2, kv2, ht2, hb2, hls2, xls2, hts2, _⟩ := id sA4
      have ndl : ∀ a xs, H3 a = some (.lst xs) → a ≠ d := fun a xs e => ne_of e hd3 (by intro z; cases z)
      have hlc4 := k4 _ _ (s3 _ _ hlc) (ndl _ _ (s3 _ _ hlc))
      refine ⟨_, rfl, t, dx2, _, rfl, ht2, sF_shown_on .., _, rfl, d, CD, dx, _, _, rfl, hd4, T.cl, T.a3, dF_cells .., XS X lc le es, t, ls, kd, lc, s.w, s.h, st, s.cells, rfl, sA4, so, hlc4, ok.cl, ok.c8, fun H5 p s45 hp hp5 => ?_⟩
      have hd5 := s45 _ _ hd4
      have ht5 := s45 _ _ ht2
      have hls5 := s45 _ _ hls2
      have ntd : t ≠ d := notD_sF.ne ht5 hd5
      have npd : p ≠ d := ne_of hp5 hd5 (by intro z; cases z)
      have nld : ls ≠ d := ne_of hls5 hd5 (by intro z; cases z)
      refine ⟨_, rfl, d, CD, dx, _, rfl, hd5, T.cl, T.a3, (by show 6 < 1000; decide), ?_⟩
      refine ⟨_, rfl, d, CD, dx, _, rfl, upd_same, T.cl, T.a5, (by show 6 < 1000; decide), ?_⟩
      rw [upd_upd]
      refine ⟨_, rfl, t, CS, dx2, _, _, rfl, (by rw [upd_ne ntd]; exact ht5), TS.cl, TS.a7, sF_stamped .., ls, _, rfl, .inl (SqL.of (by rw [upd_ne nld]; exact hls5)), ?_⟩
      rw [hts2.len]
      have kp : ∀ a o, H a = some o → a ≠ d → upd H5 d (.ins CD dx (dF s.w s.h p b .non l3)) a = some o := fun a o e n => by
        rw [upd_ne n]
        exact s45 _ _ (k4 _ _ (s3 _ _ e) n)
      have nl : ∀ a xs, H a = some (.lst xs) → a ≠ d := fun a xs e => ne_of e hd (by intro z; cases z)
      have fX : ∀ a, X a → upd H5 d (.ins CD dx (dF s.w s.h p b .non l3)) a = H a := fun a xa => by
        obtain ⟨xs, e⟩ := hX a xa
        rw [e]
        exact kp _ _ e (nl _ _ e)
      have x4 : Lists X H4 := fun a xa => K4.l a (.inl xa)
      obtain ⟨db, hb0⟩ := hb
      have eold : (Ie08.lifted s st).old.reverse = (s.old.reverse ++ [s.cells]).drop (es2.length - 8) := by
        show ((s.cells :: s.old).take 8).reverse = _
        rw [← e2, List.reverse_take, List.reverse_cons, List.length_cons, List.length_append, List.length_singleton, eol]
      have hO6 : Olds X (upd H5 d (.ins CD dx (dF s.w s.h p b .non l3))) l3 es s.old.reverse := hO.imp fun r xs _ _ e => ⟨ne_of_none e hl3, kp _ _ e (nl _ _ e)⟩
      refine q.at e ⟨dx, p, b, .non, l3, _, upd_same, (by rw [upd_ne npd]; exact hp5), x4.free hp, ⟨db, kp _ _ hb0 (notD_kF.ne hb0 hd)⟩, (by rw [upd_ne (ndl _ _ h3)]; exact s45 _ _ (k4 _ _ h3 (ndl _ _ h3))), hX.free hl3, ?_, hX.of fX, rfl⟩ fX fun b o e f => kp _ _ e (f.ni e hd)
      rw [eold, ← e2]
      exact (hO6.snoc (ne_of_none hlc hl3) xlc (kp _ _ hlc (nl _ _ hlc))).drop _
/-! give_up -/
def spGiveUp (CD CB CS : Addr) : Sp := fun vs H Q _ => ∃ (X : Addr → Prop) (d : Addr) (s : Ie08.St), vs = [.ref d] ∧ DrawAt CD CB CS X H d s ∧ Goes CD CB CS X H d s .cancel Q
theorem scGiveUp : FnScope ["self", "given_up"] ["self"] (C8.fnScope sGiveUp) := C8.fnScope_by (by decide +kernel)
theorem met_giveUp (O : Own mg) (T : DrawC K mg CD) (TS : StrokeC K mg CS) (cn : Cons mg) (D : MethAt K CD "give_up" "Drawing.give_up" sGiveUp ["self"]) : C8.Met P w K mg base 1 CD "give_up" (spGiveUp CD CB CS) [] := by
  refine D.met scGiveUp (fun vs H Q E h => ?_) fun cdv f A outer s H vs Q E hr h => ?_
  · obtain ⟨X, d, s, rfl, _⟩ := h
    rfl
  · obtain ⟨X, d, s, rfl, dA, q⟩ := h
    refine ⟨_, pss_cons (ps_if (pt_cmpR op_isN (pe_fld (pv 0) rfl) pe_non (nomark _)) (pss_one (ps_ret (pe_k cn.c4 rfl))) pss_nil)
      (pss_cons (ps_set (i := 1) scGiveUp.nd rfl (.inl rfl) (pe_fld (pv 0) rfl))
      (pss_cons (ps_fld (pv 0) pe_non rfl)
      (pss_one (ps_ret (pe_callB call_len_seq rfl O.len (by decide +kernel) (pa_cons (pe_fld (pv 1) rfl) pa_nil)))))), ?_⟩
    obtain ⟨dx, lc, b, sv, le, es, hd, hlc, xlc, hb, hle, xle, hO, hX, hS⟩ := id dA
    refine ⟨_, rfl, d, CD, dx, _, _, rfl, hd, T.cl, T.a5, dF_stroke .., rfl, _, rfl, ?_⟩
    cases es0 : s.stroke with
    | none =>
      rw [es0] at hS
      obtain rfl : sv = .non := hS
      refine iteT' isT ?_
      have e : Ie08.step s .cancel = (s, [-4]) := by
        show (match s.stroke with | none => (s, [-4]) | some t => _) = _
        rw [es0]
      exact q.at e dA (fun _ _ => rfl) (TupK.refl H)
    | some st =>
      rw [es0] at hS
      obtain ⟨t, ls, kd, rfl, sA⟩ := hS
      refine iteF' (isF t) ?_
      have e : Ie08.step s .cancel = ({ s with stroke := none }, Ie08.ints [st.stamps.length]) := by
        show (match s.stroke with | none => (s, [-4]) | some t => _) = _
        rw [es0]
      obtain ⟨dx2, b2, lm2, vs2, kv2, ht2, hb2, hls2, xls2, hts2, _⟩ := id sA
      have ntd : t ≠ d := notD_sF.ne ht2 hd
      have nld : ls ≠ d := ne_of hls2 hd (by intro z; cases z)
      refine ⟨_, rfl, d, CD, dx, _, _, rfl, hd, T.cl, T.a5, dF_stroke .., ?_⟩
      refine ⟨_, rfl, d, CD, dx, _, rfl, hd, T.cl, T.a5, (by show 6 < 1000; decide), ?_⟩
      refine ⟨_, rfl, t, CS, dx2, _, _, rfl, (by rw [upd_ne ntd]; exact ht2), TS.cl, TS.a7, sF_stamped .., ls, _, rfl, .inl (SqL.of (by rw [upd_ne nld]; exact hls2)), ?_⟩
      rw [hts2.len]
      have K1 : Keep X H (upd H d (.ins CD dx (dF s.w s.h lc b .non le))) := Keep.put hd hX
      refine q.at e ⟨dx, lc, b, .non, le, es, upd_same, K1.k _ _ hlc xlc notD_lst, xlc, hb.keep K1, K1.k _ _ hle xle notD_lst, xle, hO.keep K1, K1.l, rfl⟩ (fun a xa => ?_) fun b o e f => ?_
      · obtain ⟨xs, e⟩ := hX a xa
        rw [upd_ne (ne_of e hd (by intro z; cases z))]
      · rw [upd_ne (f.ni e hd)]
        exact e
/-! undo -/
def spUndo (CD CB CS : Addr) : Sp := fun vs H Q _ => ∃ (X : Addr → Prop) (d : Addr) (s : Ie08.St), vs = [.ref d] ∧ DrawAt CD CB CS X H d s ∧ Goes CD CB CS X H d s .undo Q
theorem scUndo : FnScope ["self"] ["self"] (C8.fnScope sUndo) := C8.fnScope_by (by decide +kernel)
theorem met_undo (O : Own mg) (T : DrawC K mg CD) (cn : Cons mg) (D : MethAt K CD "undo" "Drawing.undo" sUndo ["self"]) : C8.Met P w K mg base 1 CD "undo" (spUndo CD CB CS) [] := by
  refine D.met scUndo (fun vs H Q E h => ?_) fun cdv f A outer s H vs Q E hr h => ?_
  · obtain ⟨X, d, s, rfl, _⟩ := h
    rfl
  · obtain ⟨X, d, s, rfl, dA, q⟩ := h
    refine ⟨_, pss_cons (ps_if (pt_cmpR op_notN (pe_fld (pv 0) rfl) pe_non (nomark _)) (pss_one (ps_ret (pe_k cn.c4 rfl))) pss_nil)
      (pss_cons (ps_if (pt_cmpR op_eq (pe_callB call_len_seq rfl O.len (by decide +kernel) (pa_cons (pe_fld (pv 0) rfl) pa_nil)) pe_int (nomark _)) (pss_one (ps_ret (pe_k cn.c5 rfl))) pss_nil)
      (pss_cons (ps_fld (pv 0) (pe_bm0 PySem.F.plainAttrs_list PySem.F.slot_list_pop PySem.F.type_list_pop mt_pop (pe_fld (pv 0) rfl)) rfl)
      (pss_one (ps_ret (pe_callB call_len_seq rfl O.len (by decide +kernel) (pa_cons (pe_fld (pv 0) rfl) pa_nil)))))), ?_⟩
    obtain ⟨dx, lc, b, sv, le, es, hd, hlc, xlc, hb, hle, xle, hO, hX, hS⟩ := id dA
    refine ⟨_, rfl, d, CD, dx, _, _, rfl, hd, T.cl, T.a5, dF_stroke .., rfl, _, rfl, ?_⟩
    cases es0 : s.stroke with
    | some st =>
      rw [es0] at hS
      obtain ⟨t, ls, kd, rfl, _⟩ := hS
      refine iteT' (nonF t) ?_
      exact q.at (s' := s) (r := -4) (if_pos (by rw [es0]; rfl)) dA (fun _ _ => rfl) (TupK.refl H)
    | none =>
      rw [es0] at hS
      obtain rfl : sv = .non := hS
      refine iteF' nonT ?_
      have e0 : ¬ s.stroke.isSome = true := by
        rw [es0]
        exact Bool.false_ne_true
      have eol := hO.len
      rw [List.length_reverse] at eol
      refine ⟨_, rfl, d, CD, dx, _, _, rfl, hd, T.cl, T.a6, dF_earlier .., le, _, rfl, .inl (SqL.of hle), rfl, _, rfl, ?_⟩
      cases eo : s.old with
      | nil =>
        rw [eo] at eol
        refine iteT' (decide_eq_true (by rw [eol]; rfl)) ?_
        have e : Ie08.step s .undo = (s, [-5]) := (if_neg e0).trans (by rw [eo])
        exact q.at e dA (fun _ _ => rfl) (TupK.refl H)
      | cons o r =>
        rw [eo, List.length_cons] at eol
        refine iteF' (decide_eq_false (show ¬ V.int ((es.length : Nat) : Int) = V.int 0 from fun z => by injection z with z; omega)) ?_
        have e : Ie08.step s .undo = ({ s with cells := o, old := r }, Ie08.ints [r.length]) := (if_neg e0).trans (by rw [eo])
        rw [eo, List.reverse_cons] at hO
        obtain ⟨q1, g1, g2, g3, g4, g5⟩ := hO.last
        refine ⟨_, rfl, d, CD, dx, _, _, rfl, hd, T.cl, T.a6, dF_earlier .., .inl ⟨rfl, _, SqL.of hle⟩, le, es, _, rfl, rfl, hle, g1, ?_⟩
        have nde : d ≠ le := ne_of hd hle (by intro z; cases z)
        refine ⟨_, rfl, d, CD, dx, _, rfl, (by rw [upd_ne nde]; exact hd), T.cl, T.a3, (by show 6 < 1000; decide), ?_⟩
        have hle2 : upd (upd H le (.lst es.dropLast)) d (.ins CD dx (dF s.w s.h q1 b .non le)) le = some (.lst es.dropLast) := by
          rw [upd_ne nde.symm, upd_same]
        have kp : ∀ a o, H a = some o → a ≠ d → a ≠ le → upd (upd H le (.lst es.dropLast)) d (.ins CD dx (dF s.w s.h q1 b .non le)) a = some o := fun a o e n1 n2 => by
          rw [upd_ne n1, upd_ne n2]
          exact e
        have nl : ∀ a xs, H a = some (.lst xs) → a ≠ d := fun a xs e => ne_of e hd (by intro z; cases z)
        have fX : ∀ a, X a → upd (upd H le (.lst es.dropLast)) d (.ins CD dx (dF s.w s.h q1 b .non le)) a = H a := fun a xa => by
          obtain ⟨xs, e⟩ := hX a xa
          rw [e]
          exact kp _ _ e (nl _ _ e) fun z => xle (by rw [← z]; exact xa)
        refine ⟨_, rfl, d, CD, dx, _, _, rfl, upd_same, T.cl, T.a6, dF_earlier s.w s.h q1 b .non le, le, _, rfl, .inl (SqL.of hle2), ?_⟩
        have el : es.dropLast.length = r.length := by
          rw [List.length_dropLast]
          omega
        rw [el]
        obtain ⟨db, hb0⟩ := hb
        refine q.at e ⟨dx, q1, b, .non, le, es.dropLast, upd_same, kp _ _ g4 (nl _ _ g4) g2, g3, ⟨db, kp _ _ hb0 (notD_kF.ne hb0 hd) (ne_of hb0 hle (by intro z; cases z))⟩, hle2, xle, g5.imp (fun r xs n x e => ⟨n, kp _ _ e (nl _ _ e) n⟩), hX.of fX, ?_⟩ fX fun b o e f => kp _ _ e (f.ni e hd) (f.nl e hle)
        show StrokeOpt CB CS _ _ _ _ V.non s.stroke
        rw [es0]
        rfl
theorem pe_c00 {X : Cx} {k j : Nat} {x : Str} {sp : Sp} {dvs : List V} {p pos : Pos} (c : C8.Cal X.prog X.w X.K X.mg X.base k x sp dvs) (hr : Room j X.A) (hk : k ≤ j) (hg : Gl X x) (hdb : (x == ("__debug__" : Str)) = false := by decide) : PE X (.Call (.Name x p) [] [] pos) (tCall sp dvs C8.E0 tNil) := by
  obtain ⟨f, fd, ps, ds, F, hm, kp, b, d⟩ := c.ex
  exact pe_call0 F (hr.mono hk) hg hm kp b d pass0 hdb
theorem pe_mk00 {X : Cx} {k j : Nat} {C : Addr} {x : Str} {sp : Sp} {dvs : List V} {p pos : Pos} (c : C8.Mak X.prog X.w X.K X.mg X.base k x C sp dvs) (hr : Room j X.A) (hk : k + 1 ≤ j) (hg : Gl X x) (hdb : (x == ("__debug__" : Str)) = false := by decide) : PE X (.Call (.Name x p) [] [] pos) (tMake C sp dvs C8.E0 tNil) := by
  obtain ⟨f, fd, ps, ds, M, F, hm, b, d⟩ := c.ex
  exact pe_make0 M F (hr.mono hk) hg hm b d pass0 hdb
/-! __init__ -/
def spDInit (CD CB CS : Addr) : Sp := fun vs H Q _ => ∃ (X : Addr → Prop) (p dx : Addr), vs = [.ref p] ∧ H p = some (.ins CD dx []) ∧ Lists X H ∧ ∀ H' : Hp, DrawAt CD CB CS X H' p Ie08.init → (∀ a, X a → H' a = H a) → TupK H H' → Q .non H'
theorem scDInit : FnScope ["self"] ["self"] (C8.fnScope sDInit) := C8.fnScope_by (by decide +kernel)
theorem mak_draw (T : DrawC K mg CD) (cF : C8.Cal P w K mg base 3 "first_brush" (spFirst CB) []) (D : MakAt K mg "Drawing" CD "Drawing.__init__" sDInit ["self"]) : C8.Mak P w K mg base 4 "Drawing" CD (spDInit CD CB CS) [] := by
  refine D.mak scDInit (fun vs H Q E h => ?_) fun cdv f A outer s H vs Q E hr h => ?_
  · obtain ⟨X, p, dx, rfl, _⟩ := h
    rfl
  · obtain ⟨X, p, dx, rfl, hp, hX, q⟩ := h
    refine ⟨_, pss_cons (ps_fld (pv 0) pe_int rfl) (pss_cons (ps_fld (pv 0) pe_int rfl) (pss_cons (ps_fld (pv 0) (pe_lst (pa_cons pe_int pa_nil)) rfl) (pss_cons (ps_fld (pv 0) (pe_c00 cF hr (by decide) rfl) rfl) (pss_cons (ps_fld (pv 0) pe_non rfl) (pss_one (ps_fld (pv 0) (pe_lst pa_nil) rfl)))))), ?_⟩
    refine ⟨_, rfl, p, CD, dx, [], rfl, hp, T.cl, T.a1, (by decide), ?_⟩
    refine ⟨_, rfl, p, CD, dx, _, rfl, upd_same, T.cl, T.a2, (by show 1 < 1000; decide), ?_⟩
    rw [upd_upd]
    refine ⟨(by show 1 ≤ sizeLine; decide), fun lc hlc => ?_⟩
    obtain ⟨n1, hlc⟩ := upd_free hlc
    refine ⟨_, rfl, p, CD, dx, _, rfl, (by rw [upd_ne n1.symm]; exact upd_same), T.cl, T.a3, (by show 2 < 1000; decide), ?_⟩
    refine ⟨rfl, fun b db hb hdb nb => ?_⟩
    obtain ⟨n2, hb⟩ := upd_free hb
    obtain ⟨n3, hb⟩ := upd_free hb
    obtain ⟨_, hb⟩ := upd_free hb
    obtain ⟨n4, hdb⟩ := upd_free hdb
    obtain ⟨n5, hdb⟩ := upd_free hdb
    obtain ⟨_, hdb⟩ := upd_free hdb
    refine ⟨_, rfl, p, CD, dx, _, rfl, (by rw [upd_ne n2.symm, upd_ne n4.symm]; exact upd_same), T.cl, T.a4, (by show 3 < 1000; decide), ?_⟩
    refine ⟨_, rfl, p, CD, dx, _, rfl, upd_same, T.cl, T.a5, (by show 4 < 1000; decide), ?_⟩
    rw [upd_upd]
    refine ⟨(by show 0 ≤ sizeLine; decide), fun le hle => ?_⟩
    obtain ⟨n6, hle⟩ := upd_free hle
    obtain ⟨n7, hle⟩ := upd_free hle
    obtain ⟨n8, hle⟩ := upd_free hle
    obtain ⟨_, hle⟩ := upd_free hle
    obtain ⟨n9, hle⟩ := upd_free hle
    obtain ⟨_, hle⟩ := upd_free hle
    refine ⟨_, rfl, p, CD, dx, _, rfl, (by rw [upd_ne n6.symm]; exact upd_same), T.cl, T.a6, (by show 5 < 1000; decide), ?_⟩
    generalize eF : upd (upd (upd (upd (upd (upd (upd (upd H p _) lc _) p _) db _) b _) p _) le _) p _ = HF
    have fr : ∀ a o, H a = some o → a ≠ p → HF a = some o := fun a o e ne => by
      rw [← eF, upd_ne ne, upd_ne (ne_of_none e hle), upd_ne ne, upd_ne (ne_of_none e hb), upd_ne (ne_of_none e hdb), upd_ne ne, upd_ne (ne_of_none e hlc), upd_ne ne]
      exact e
    have fP : HF p = some (.ins CD dx (dF 1 1 lc b .non le)) := by
      rw [← eF, upd_same]
      rfl
    have fC : HF lc = some (.lst (nVs [0])) := by
      rw [← eF, upd_ne n1, upd_ne n9.symm, upd_ne n1, upd_ne n3.symm, upd_ne n5.symm, upd_ne n1, upd_same]
      rfl
    have fB : HF b = some (.ins CB db (kF Ie08.plain)) := by
      rw [← eF, upd_ne n2, upd_ne n7.symm, upd_ne n2, upd_same]
    have fL : HF le = some (.lst []) := by
      rw [← eF, upd_ne n6, upd_same]
    have fX : ∀ a, X a → HF a = H a := fun a xa => by
      obtain ⟨xs, e⟩ := hX a xa
      rw [e]
      exact fr a _ e (ne_of e hp (by intro z; cases z))
    exact q HF ⟨dx, lc, b, .non, le, [], fP, fC, hX.free hlc, ⟨db, fB⟩, fL, hX.free hle, trivial, hX.of fX, rfl⟩ fX fun b o e f => fr _ _ e (f.ni e hp)
end
end Bw
namespace Bw
open PySem PySem.Spec PyProof.Rows L2
open Ie08 (Cell near between gap)
/-! a list more outside; lists fewer -/
section
variable {CD CB CS : Addr} {X X' : Addr → Prop} {H H1 : Hp} {l : Addr} {ys : List V}
theorem Lists.more (hx : ∀ a, X' a → X a ∨ a = l) (s1 : Same H H1) (e : H1 l = some (.lst ys)) (L : Lists X H) : Lists X' H1 := fun a xa => by
  rcases hx a xa with z | z
  · exact (L a z).imp fun xs e => s1 _ _ e
  · rw [z]
    exact ⟨ys, e⟩
theorem not_more {a : Addr} {o : HO} (hx : ∀ a, X' a → X a ∨ a = l) (n : H l = none) (e : H a = some o) (x : ¬ X a) : ¬ X' a := fun z => by
  rcases hx a z with z | z
  · exact x z
  · exact ne_of_none e n z
theorem StrokeAt.more {t ls kd : Addr} {w h : Nat} {s : Ie08.Stroke} (hx : ∀ a, X' a → X a ∨ a = l) (s1 : Same H H1) (n : H l = none) (e : H1 l = some (.lst ys)) : StrokeAt CB CS X H t ls kd w h s → StrokeAt CB CS X' H1 t ls kd w h s :=
  fun ⟨dx, b, lm, vs, kvs, ht, ⟨db, hb⟩, hls, xls, hts, hlm, nlm, xlm, hkd, hkn, hkl, hX⟩ =>
    ⟨dx, b, lm, vs, kvs, s1 _ _ ht, ⟨db, s1 _ _ hb⟩, s1 _ _ hls, not_more hx n hls xls, hts.sm s1, s1 _ _ hlm, nlm, not_more hx n hlm xlm, s1 _ _ hkd, (fun x y v hv => by
      obtain ⟨a, e1, e2, e3, e4⟩ := hkn x y v hv
      exact ⟨a, e1, e2, not_more hx n e4 e3, s1 _ _ e4⟩), hkl, hX.more hx s1 e⟩
theorem Olds.more {le : Addr} (hx : ∀ a, X' a → X a ∨ a = l) (s1 : Same H H1) (n : H l = none) : ∀ {vs : List V} {os : List (List Nat)}, Olds X H le vs os → Olds X' H1 le vs os
  | [], [], _ => trivial
  | _ :: _, _ :: _, ⟨⟨r, e1, e2, e3, e4⟩, t⟩ => ⟨⟨r, e1, e2, not_more hx n e4 e3, s1 _ _ e4⟩, Olds.more hx s1 n t⟩
  | [], _ :: _, h => h.elim
  | _ :: _, [], h => h.elim
theorem DrawAt.more {d : Addr} {s : Ie08.St} (s1 : Same H H1) (n : H l = none) (e : H1 l = some (.lst ys)) : DrawAt CD CB CS X H d s → DrawAt CD CB CS (fun a => X a ∨ a = l) H1 d s :=
  fun ⟨dx, lc, b, sv, le, es, hd, hlc, xlc, ⟨db, hb⟩, hle, xle, hO, hX, hS⟩ => by
    refine ⟨dx, lc, b, sv, le, es, s1 _ _ hd, s1 _ _ hlc, not_more (fun _ z => z) n hlc xlc, ⟨db, s1 _ _ hb⟩, s1 _ _ hle, not_more (fun _ z => z) n hle xle, hO.more (fun _ z => z) s1 n, hX.more (fun _ z => z) s1 e, ?_⟩
    cases es0 : s.stroke with
    | none =>
      rw [es0] at hS
      exact hS
    | some st =>
      rw [es0] at hS
      obtain ⟨t, ls, kd, e1, sA⟩ := hS
      refine ⟨t, ls, kd, e1, sA.more (l := l) (fun a z => ?_) s1 n e⟩
      rcases z with (z | z) | z
      · exact .inl (.inl z)
      · exact .inr z
      · exact .inl (.inr z)
theorem StrokeAt.less {t ls kd : Addr} {w h : Nat} {s : Ie08.Stroke} (hx : ∀ a, X' a → X a) : StrokeAt CB CS X H t ls kd w h s → StrokeAt CB CS X' H t ls kd w h s :=
  fun ⟨dx, b, lm, vs, kvs, ht, hb, hls, xls, hts, hlm, nlm, xlm, hkd, hkn, hkl, hX⟩ =>
    ⟨dx, b, lm, vs, kvs, ht, hb, hls, (fun z => xls (hx _ z)), hts, hlm, nlm, (fun z => xlm (hx _ z)), hkd, (fun x y v hv => by
      obtain ⟨a, e1, e2, e3, e4⟩ := hkn x y v hv
      exact ⟨a, e1, e2, fun z => e3 (hx _ z), e4⟩), hkl, fun a z => hX a (hx a z)⟩
theorem Olds.less {le : Addr} (hx : ∀ a, X' a → X a) : ∀ {vs : List V} {os : List (List Nat)}, Olds X H le vs os → Olds X' H le vs os
  | [], [], _ => trivial
  | _ :: _, _ :: _, ⟨⟨r, e1, e2, e3, e4⟩, t⟩ => ⟨⟨r, e1, e2, fun z => e3 (hx _ z), e4⟩, Olds.less hx t⟩
  | [], _ :: _, h => h.elim
  | _ :: _, [], h => h.elim
theorem DrawAt.less {d : Addr} {s : Ie08.St} (hx : ∀ a, X' a → X a) : DrawAt CD CB CS X H d s → DrawAt CD CB CS X' H d s :=
  fun ⟨dx, lc, b, sv, le, es, hd, hlc, xlc, hb, hle, xle, hO, hX, hS⟩ => by
    refine ⟨dx, lc, b, sv, le, es, hd, hlc, (fun z => xlc (hx _ z)), hb, hle, (fun z => xle (hx _ z)), hO.less hx, (fun a z => hX a (hx a z)), ?_⟩
    cases es0 : s.stroke with
    | none =>
      rw [es0] at hS
      exact hS
    | some st =>
      rw [es0] at hS
      obtain ⟨t, ls, kd, e1, sA⟩ := hS
      exact ⟨t, ls, kd, e1, sA.less fun a z => z.imp (hx a) fun z => z⟩
end
/-! pairs -/
theorem pick0_cons {α : Type} (x y : α) (l : List α) : pick2 0 (x :: y :: l) = x :: pick2 0 l := by
  unfold pick2
  have e : ((x :: y :: l).length - 0 + 1) / 2 = (l.length - 0 + 1) / 2 + 1 := by
    rw [List.length_cons, List.length_cons]
    omega
  rw [e, List.range_succ_eq_map, List.filterMap_cons_some (f := fun k => (x :: y :: l)[0 + 2 * k]?) (b := x) rfl, List.filterMap_map]
  congr 1
theorem pick1_cons {α : Type} (x y : α) (l : List α) : pick2 1 (x :: y :: l) = y :: pick2 1 l := by
  unfold pick2
  have e : ((x :: y :: l).length - 1 + 1) / 2 = (l.length - 1 + 1) / 2 + 1 := by
    rw [List.length_cons, List.length_cons]
    omega
  rw [e, List.range_succ_eq_map, List.filterMap_cons_some (f := fun k => (x :: y :: l)[1 + 2 * k]?) (b := y) rfl, List.filterMap_map]
  congr 1
theorem pairs_odd : ∀ l : List Nat, l.length % 2 = 1 → Ie08.pairs l = none
  | [], h => by cases h
  | [_], _ => rfl
  | x :: y :: l, h => by
    show (Ie08.pairs l).map _ = none
    rw [pairs_odd l (by rw [List.length_cons, List.length_cons] at h; omega)]
    rfl
theorem pairs_even : ∀ l : List Nat, l.length % 2 = 0 → ∃ cs, Ie08.pairs l = some cs ∧ l.length = 2 * cs.length ∧ (pick2 0 (nVs l)).zip (pick2 1 (nVs l)) = cs.map (fun c => (nV c.1, nV c.2)) ∧ (pick2 0 (nVs l)).length = (pick2 1 (nVs l)).length
  | [], _ => ⟨[], rfl, rfl, rfl, rfl⟩
  | [_], h => by cases h
  | x :: y :: l, h => by
    obtain ⟨cs, e1, e2, e3, e4⟩ := pairs_even l (by rw [List.length_cons, List.length_cons] at h; omega)
    refine ⟨(x, y) :: cs, ?_, ?_, ?_, ?_⟩
    · show (Ie08.pairs l).map _ = _
      rw [e1]
      rfl
    · rw [List.length_cons, List.length_cons, List.length_cons, e2]
      omega
    · show (pick2 0 (nV x :: nV y :: nVs l)).zip (pick2 1 (nV x :: nV y :: nVs l)) = _
      rw [pick0_cons, pick1_cons, List.zip_cons_cons, e3]
      rfl
    · show (pick2 0 (nV x :: nV y :: nVs l)).length = (pick2 1 (nV x :: nV y :: nVs l)).length
      rw [pick0_cons, pick1_cons, List.length_cons, List.length_cons, e4]
theorem tups_of {H : Hp} : ∀ {ts : List Addr} {cs : List Cell}, Paired (fun (t : Addr) (q : V × V) => H t = some (.tup [q.1, q.2])) ts (cs.map fun c => (nV c.1, nV c.2)) → Tups H (ts.map V.ref) cs
  | [], [], _ => trivial
  | t :: ts, c :: cs, .cons e r => ⟨⟨t, rfl, e⟩, tups_of r⟩
theorem Tups.drop {H : Hp} : ∀ (k : Nat) {vs : List V} {cs : List Cell}, Tups H vs cs → Tups H (vs.drop k) (cs.drop k)
  | 0, _, _, h => h
  | k + 1, [], [], _ => trivial
  | k + 1, _ :: _, _ :: _, ⟨_, t⟩ => Tups.drop k t
  | _ + 1, [], _ :: _, h => h.elim
  | _ + 1, _ :: _, [], h => h.elim
theorem cut1 (xs : List V) (h : 1 ≤ xs.length) : cutV xs (some 1) none = xs.drop 1 := by
  have e : HT.sIx xs.length 0 (some 1) = 1 := by
    show (if (1 : Int) < 0 then ((1 : Int) + (xs.length : Int)).toNat else min (1 : Int).toNat xs.length) = 1
    rw [if_neg (by decide)]
    show min 1 xs.length = 1
    omega
  unfold cutV
  rw [e, HT.sIx_none]
  exact List.take_of_length_le (by rw [List.length_drop]; exact Nat.le_refl _)
theorem atI_nat {α : Type} {xs : List α} {i : Nat} {x : α} (h : xs[i]? = some x) : atI xs (i : Int) = some x := by
  have hi := (List.getElem?_eq_some_iff.mp h).1
  unfold atI ixN
  rw [if_pos (by omega), if_pos (by omega)]
  exact h
section
variable {P : Program} {w : World} {K : PySem.W.Frag} {mg : Str → Option Value} {base : Heap} {CB CS CD : Addr}
/-! draw -/
def spDraw (CD CB CS : Addr) : Sp := fun vs H Q _ => ∃ (X : Addr → Prop) (d lp : Addr) (s : Ie08.St) (n : Nat) (l : List Nat), vs = [.ref d, .ref lp] ∧ DrawAt CD CB CS X H d s ∧ StOk n s ∧ n ≤ 1000 ∧ H lp = some (.lst (nVs l)) ∧ l.length ≤ 400 ∧ Goes CD CB CS X H d s (.draw l) Q
theorem scDraw : FnScope ["self", "points", "places", "x", "y"] ["self", "points"] (C8.fnScope sDraw) := C8.fnScope_by (by decide +kernel)
theorem met_draw (O : Own mg) (T : DrawC K mg CD) (cn : Cons mg) (cH : C8.Met P w K mg base 1 CD "has_cell" (spHas CD) []) (cB : C8.Met P w K mg base 8 CD "begin" (spBegin CD CB CS) []) (cG : C8.Met P w K mg base 7 CD "go_on" (spGo CD CB CS) []) (cL : C8.Met P w K mg base 4 CD "lift" (spLift CD CB CS) [])
    (D : MethAt K CD "draw" "Drawing.draw" sDraw ["self", "points"]) : C8.Met P w K mg base 9 CD "draw" (spDraw CD CB CS) [] := by
  refine D.met scDraw (fun vs H Q E h => ?_) fun cdv f A outer s H vs Q E hr h => ?_
  · obtain ⟨X, d, lp, s, n, l, rfl, _⟩ := h
    rfl
  · obtain ⟨X, d, lp, s, n, l, rfl, dA, ok, hn, hlp, hl4, q⟩ := h
    refine ⟨_, pss_cons (ps_if (pt_cmpR op_notN (pe_fld (pv 0) rfl) pe_non (nomark _)) (pss_one (ps_ret (pe_k cn.c4 rfl))) pss_nil)
      (pss_cons (ps_if (PW.pt (pw_or (pt_cmpR op_eq (pe_callB call_len_seq rfl O.len (by decide +kernel) (pa_cons (pv 1) pa_nil)) pe_int (nomark _)) (pw_or1 (pt_cmpR op_eq (pe_op op_mod (pe_callB call_len_seq rfl O.len (by decide +kernel) (pa_cons (pv 1) pa_nil)) pe_int) pe_int (nomark _))))) (pss_one (ps_ret (pe_k cn.c3 rfl))) pss_nil)
      (pss_cons (ps_set (i := 2) scDraw.nd rfl (.inl rfl) (pe_listZip rfl rfl O.list (by decide +kernel) rfl O.zip (pa_cons (pe_step (a := 0) rfl (pv 1)) (pa_cons (pe_step (a := 1) rfl (pv 1)) pa_nil))))
      (pss_cons (ps_if (pt_not (pt_val (pe_callB (cr_all rfl) rfl O.all (by decide +kernel) (pa_cons (pe_lc (own := [("x", 3), ("y", 4)]) (g := gTup K 2 (gCons (gName 3) (gCons (gName 4) gNil))) (tt := tYes) rfl scDraw.nd (pi_list (pv 2))
          (blkOk_by (N := ["self", "points", "places", "x", "y"]) (sc := C8.fnScope sDraw) (by decide +kernel))
          (fun _ _ _ _ _ => pg_tup rfl (pgs_cons (pg_name (i := 3) scDraw.nd rfl (.inl rfl)) (pgs_cons (pg_name (i := 4) scDraw.nd rfl (.inl rfl)) pgs_nil))) (fun _ _ _ _ _ => pts_nil)
          (fun _ _ _ _ _ => C8.pe_mt cH hr (by decide) (pv 0) (pa_cons (pv 3) (pa_cons (pv 4) pa_nil)))) pa_nil)))) (pss_one (ps_ret (pe_k cn.c1 rfl))) pss_nil)
      (pss_cons (ps_expr (C8.pe_mt cB hr (by decide) (pv 0) (pa_cons (pe_ix ix_tup (pe_ix ix_list (pv 2) pe_int (fun _ _ => rfl)) pe_int (fun _ _ => rfl)) (pa_cons (pe_ix ix_tup (pe_ix ix_list (pv 2) pe_int (fun _ _ => rfl)) pe_int (fun _ _ => rfl)) pa_nil))))
      (pss_cons (ps_for PassesOwn.never rfl (pi_list (pe_slice sl_list (pv 2) (po_some pe_int) po_none)) (pg_tup rfl (pgs_cons (pg_name (i := 3) scDraw.nd rfl (.inl rfl)) (pgs_cons (pg_name (i := 4) scDraw.nd rfl (.inl rfl)) pgs_nil)))
          (pss_one (ps_expr (C8.pe_mt cG hr (by decide) (pv 0) (pa_cons (pv 3) (pa_cons (pv 4) pa_nil))))))
      (pss_one (ps_ret (C8.pe_mt0 cL hr (by decide) (pv 0))))))))), ?_⟩
    have hz : sizeLine = 16777216 := by decide
    obtain ⟨dx, lc, b, sv, le, es, hd, hlc, xlc, hb, hle, xle, hO, hX, hS⟩ := id dA
    refine ⟨_, rfl, d, CD, dx, _, _, rfl, hd, T.cl, T.a5, dF_stroke .., rfl, _, rfl, ?_⟩
    cases es0 : s.stroke with
    | some st =>
      rw [es0] at hS
      obtain ⟨t, ls, kd, rfl, _⟩ := hS
      refine iteT' (nonF t) ?_
      exact q.at (s' := s) (r := -4) (if_pos (by rw [es0]; rfl)) dA (fun _ _ => rfl) (TupK.refl H)
    | none =>
      rw [es0] at hS
      obtain rfl : sv = .non := hS
      refine iteF' nonT ?_
      have e0 : ¬ s.stroke.isSome = true := by
        rw [es0]
        exact Bool.false_ne_true
      refine ⟨_, rfl, lp, _, rfl, .inl (SqL.of hlp), rfl, _, rfl, ?_⟩
      rw [nVs_len]
      by_cases c0 : l.length = 0
      · refine iteT' (decide_eq_true (by rw [c0]; rfl)) (iteT' rfl ?_)
        have el : l = [] := List.eq_nil_of_length_eq_zero c0
        have e : Ie08.step s (.draw l) = (s, [-3]) := (if_neg e0).trans (by rw [el]; rfl)
        exact q.at e dA (fun _ _ => rfl) (TupK.refl H)
      · refine iteF' (decide_eq_false (show ¬ V.int ((l.length : Nat) : Int) = V.int 0 from fun z => by injection z with z; omega)) ?_
        refine ⟨_, rfl, lp, _, rfl, .inl (SqL.of hlp), _, _, rfl, rfl, (by show (0 : Int) < 2; decide), rfl, _, rfl, ?_⟩
        rw [nVs_len]
        have em : ((l.length : Nat) : Int) % 2 = ((l.length % 2 : Nat) : Int) := (Int.natCast_emod l.length 2).symm
        by_cases c1 : l.length % 2 = 1
        · refine iteT' (decide_eq_true (show V.int (((l.length : Nat) : Int) % 2) = V.int 1 by rw [em, c1]; rfl)) ?_
          have e : Ie08.step s (.draw l) = (s, [-3]) := (if_neg e0).trans (by rw [pairs_odd l c1])
          exact q.at e dA (fun _ _ => rfl) (TupK.refl H)
        · refine iteF' (decide_eq_false (show ¬ V.int (((l.length : Nat) : Int) % 2) = V.int 1 from fun z => by rw [em] at z; injection z with z; omega)) ?_
          obtain ⟨cs, ep, el, ez, ezl⟩ := pairs_even l (by omega)
          refine ⟨_, rfl, lp, _, rfl, SqL.of hlp, Nat.zero_le _, (by rw [nVs_len]; omega), fun l1 hl1 => ?_⟩
          have hlp1 : upd H l1 (.lst (pick2 0 (nVs l))) lp = some (.lst (nVs l)) := by
            rw [upd_ne (ne_of_none hlp hl1)]
            exact hlp
          refine ⟨_, rfl, lp, _, rfl, SqL.of hlp1, (by rw [nVs_len]; omega), (by rw [nVs_len]; omega), fun l2 hl2 => ?_⟩
          have n12 : l1 ≠ l2 := fun z => by
            rw [← z, upd_same] at hl2
            cases hl2
          have s2 : Same H (upd (upd H l1 (.lst (pick2 0 (nVs l)))) l2 (.lst (pick2 1 (nVs l)))) := same_put (same_put (Same.refl H) hl1) (upd_free hl2).2
          refine ⟨l1, l2, _, _, rfl, SqL.of (by rw [upd_ne n12]; exact upd_same), SqL.of upd_same, ezl, fun H3 pl ts s23 hpl hpl3 hpr => ?_⟩
          have s3 : Same H H3 := fun a o e => s23 _ _ (s2 _ _ e)
          have hplH : H pl = none := s2.free hpl
          rw [ez] at hpr
          have htp := tups_of hpr
          have ltp := htp.len
          revert hpl3 htp ltp
          generalize (ts.map V.ref : List V) = ws
          intro hpl3 htp ltp
          obtain ⟨c, r, rfl⟩ : ∃ c r, cs = c :: r := by
            cases cs with
            | nil =>
              exfalso
              rw [List.length_nil] at el
              omega
            | cons c r => exact ⟨c, r, rfl⟩
          have edr : Ie08.step s (.draw l) = if (c :: r).all s.has = false then (s, [-1]) else (Ie08.lifted s (r.foldl (Ie08.on s.w s.h) (Ie08.begin_ s c)), Ie08.ints [(r.foldl (Ie08.on s.w s.h) (Ie08.begin_ s c)).stamps.length]) := (if_neg e0).trans (by rw [ep])
          have hd3 := s3 _ _ hd
          refine ⟨_, rfl, pl, rfl, ⟨_, SqL.of hpl3⟩, fun D hD => ?_⟩
          refine lc_it (walk_list (xs := ws)) (fun j H4 => Same H3 H4 ∧ H4 D = some (.lst (((c :: r).take j).map fun q => V.bl (s.has q)))) ⟨same_put (Same.refl _) hD, upd_same⟩ (fun j H4 _ ⟨z, _⟩ => SqL.of (z _ _ hpl3)) ?_ ?_
          · rintro j x Ha Hb hj ⟨sA, dz⟩ ⟨rfl, hx⟩
            obtain ⟨rr, cc, rfl, hcc, hrr⟩ := htp.get hx
            refine ⟨rr, _, rfl, SqT.of (sA _ _ hrr), rfl, _, _, rfl, _, _, rfl, rfl, rfl, yes_then ?_⟩
            refine ⟨_, rfl, d, dx, _, rfl, sA _ _ hd3, dF_has .., _, rfl, _, rfl, d, dx, s.w, s.h, lc, b, .non, le, cc.1, cc.2, rfl, sA _ _ hd3, _, dz, ?_, same_put sA hD, ?_⟩
            · rw [List.length_map, List.length_take]
              omega
            · rw [upd_same, take_snoc hcc, List.map_append]
              rfl
          rintro H4 ⟨s34, dz⟩
          rw [ltp, List.take_length] at dz
          have ebs : ((c :: r).map fun q => V.bl (s.has q)) = ((c :: r).map s.has).map V.bl := by
            rw [List.map_map]
            rfl
          rw [ebs] at dz
          have s4 : Same H H4 := fun a o e => s34 _ _ (s3 _ _ e)
          have hd4 := s34 _ _ hd3
          have hpl4 := s34 _ _ hpl3
          have htp4 := htp.sm s34
          refine ⟨D, (c :: r).map s.has, rfl, SqL.of dz, _, rfl, ?_⟩
          have eall : ((c :: r).map s.has).all id = (c :: r).all s.has := by
            rw [List.all_map]
            rfl
          rw [eall]
          cases ea : (c :: r).all s.has with
          | false =>
            refine iteT' rfl ?_
            exact q.at (edr.trans (if_pos ea)) (dA.keep (Keep.sm s4 hX) fun o e => s4 _ _ e) (fun a xa => by
              obtain ⟨xs, e⟩ := hX a xa
              rw [e]
              exact s4 _ _ e) (TupK.sm s4)
          | true =>
            refine iteF' rfl ?_
            have edr2 := edr.trans (if_neg (by rw [ea]; exact Bool.noConfusion))
            have hall : ∀ x ∈ c :: r, s.has x = true := List.all_eq_true.mp ea
            obtain ⟨w0, ws', rfl⟩ : ∃ w0 ws', ws = w0 :: ws' := by
              cases ws with
              | nil => cases ltp
              | cons w0 ws' => exact ⟨w0, ws', rfl⟩
            obtain ⟨⟨rc, erc, hrc⟩, htr⟩ := id htp4
            have erc : w0 = .ref rc := erc
            subst erc
            refine ⟨_, rfl, d, dx, _, rfl, hd4, dF_begin .., _, rfl, pl, _, 0, .ref rc, rfl, rfl, SqL.of hpl4, atI_nat (i := 0) rfl, rc, _, 0, nV c.1, rfl, rfl, SqT.of hrc, rfl, _, rfl, pl, _, 0, .ref rc, rfl, rfl, SqL.of hpl4, atI_nat (i := 0) rfl, rc, _, 1, nV c.2, rfl, rfl, SqT.of hrc, rfl,
              (fun a => X a ∨ a = pl), d, s, n, c.1, c.2, rfl, dA.more s4 hplH hpl4, ok, fun H5 dA5 fX5 fT5 => ?_⟩
            have e1 : Ie08.step s (.down c.1 c.2) = ({ s with stroke := some (Ie08.begin_ s c) }, [1]) := (if_neg e0).trans (if_neg (by rw [show s.has (c.1, c.2) = true from hall c (.head _)]; exact Bool.noConfusion))
            rw [e1] at dA5
            have ok5 := step_ok ok (.down c.1 c.2)
            rw [e1] at ok5
            have hpl5 : H5 pl = some (.lst (V.ref rc :: ws')) := (fX5 pl (.inr rfl)).trans hpl4
            refine ⟨_, rfl, 1, rfl, pl, _, rfl, SqL.of hpl5, fun p2 hp2 => ?_⟩
            rw [cut1 _ (by rw [List.length_cons]; omega)]
            have dA6 := dA5.more (l := p2) (H1 := upd H5 p2 (.lst ((V.ref rc :: ws').drop 1))) (same_put (Same.refl _) hp2) hp2 upd_same
            have htp6 : Tups (upd H5 p2 (.lst ((V.ref rc :: ws').drop 1))) ((V.ref rc :: ws').drop 1) r := Tups.new hp2 ((Tups.drop 1 htp4).same fun b xs e => fT5 _ _ e fix_tup)
            have h6 : (upd H5 p2 (.lst ((V.ref rc :: ws').drop 1))) p2 = some (.lst ((V.ref rc :: ws').drop 1)) := upd_same
            have s56 : Same H5 (upd H5 p2 (.lst ((V.ref rc :: ws').drop 1))) := same_put (Same.refl _) hp2
            revert dA6 htp6 h6 s56
            generalize upd H5 p2 (.lst ((V.ref rc :: ws').drop 1)) = H6
            generalize ((V.ref rc :: ws').drop 1 : List V) = wr
            intro dA6 htp6 h6 s56
            refine ⟨p2, rfl, ⟨_, SqL.of h6⟩, for_list (K := K) (a := p2) (xs := wr) (fun i σ H' => ∃ vx vy : Option V, σ = [some (.ref d), some (.ref lp), some (.ref pl), vx, vy] ∧ DrawAt CD CB CS (fun a => (X a ∨ a = pl) ∨ a = p2) H' d { s with stroke := some ((r.take i).foldl (Ie08.on s.w s.h) (Ie08.begin_ s c)) } ∧
              StOk (n + 1 + i) { s with stroke := some ((r.take i).foldl (Ie08.on s.w s.h) (Ie08.begin_ s c)) } ∧ (∀ a, (X a ∨ a = pl) ∨ a = p2 → H' a = H6 a) ∧ TupK H6 H') ⟨_, _, rfl, dA6, ok5, fun _ _ => rfl, TupK.refl _⟩ (fun i σ H' _ ⟨_, _, _, _, _, k, _⟩ => SqL.of ((k p2 (.inr rfl)).trans h6)) ?_ ?_⟩
            · rintro i v σ H' hv ⟨vx, vy, rfl, dAi, oki, fXi, fTi⟩
              obtain ⟨rr, cc, rfl, hcc, hrr⟩ := htp6.get hv
              have hil := (List.getElem?_eq_some_iff.mp hcc).1
              have hcm := hall cc (.tail _ (List.mem_of_getElem? hcc))
              rw [take_snoc hcc, List.foldl_append, List.foldl_cons, List.foldl_nil]
              generalize (r.take i).foldl (Ie08.on s.w s.h) (Ie08.begin_ s c) = st at *
              obtain ⟨dx', lc', b', sv', le', es', hd', _⟩ := id dAi
              have eto : Ie08.step { s with stroke := some st } (.to cc.1 cc.2) = ({ s with stroke := some (Ie08.on s.w s.h st cc) }, Ie08.ints [(Ie08.on s.w s.h st cc).stamps.length]) := if_neg (by rw [show Ie08.St.has { s with stroke := some st } (cc.1, cc.2) = true from hcm]; exact Bool.noConfusion)
              have okn := step_ok oki (.to cc.1 cc.2)
              rw [eto] at okn
              refine ⟨rr, _, rfl, SqT.of (fTi _ _ hrr fix_tup), rfl, _, _, rfl, _, _, rfl, rfl, ?_⟩
              refine ⟨_, rfl, d, dx', _, rfl, hd', dF_go .., _, rfl, _, rfl, _, d, { s with stroke := some st }, n + 1 + i, cc.1, cc.2, rfl, dAi, oki, ?_, fun H7 dA7 fX7 fT7 => ⟨_, _, rfl, ?_, okn, fun a xa => (fX7 a xa).trans (fXi a xa), fTi.trans fT7⟩⟩
              · rw [List.length_cons] at el
                omega
              · rw [eto] at dA7
                exact dA7
            · rintro σ H' ⟨vx, vy, rfl, dAi, oki, fXi, fTi⟩
              rw [htp6.len, List.take_length] at dAi oki
              generalize r.foldl (Ie08.on s.w s.h) (Ie08.begin_ s c) = st at *
              obtain ⟨dx', lc', b', sv', le', es', hd', _⟩ := id dAi
              refine ⟨_, rfl, d, dx', _, rfl, hd', dF_lift .., _, d, { s with stroke := some st }, _, rfl, dAi, oki, fun H7 dA7 fX7 fT7 => ?_⟩
              refine q.at edr2 (DrawAt.less (fun a z => .inl (.inl z)) dA7) (fun a xa => ?_) ((TupK.sm s4).trans (fT5.trans ((TupK.sm s56).trans (fTi.trans fT7))))
              obtain ⟨xs, e⟩ := hX a xa
              have h5 : H5 a = some (.lst xs) := (fX5 a (.inl xa)).trans (s4 _ _ e)
              exact ((fX7 a (.inl (.inl xa))).trans ((fXi a (.inl (.inl xa))).trans (s56 _ _ h5))).trans e.symm
end
end Bw
namespace Bw
open PySem PySem.Spec PyProof.Rows L2
open Ie08 (Cell near between gap)
abbrev sCells : Stmt := topS 27
abbrev sMask : Stmt := topS 28
abbrev sStamps : Stmt := topS 29
abbrev sTold : Stmt := topS 30
theorem nVs_app (a b : List Nat) : nVs (a ++ b) = nVs a ++ nVs b := List.map_append
def iVs (l : List Int) : List V := l.map V.int
theorem iVs_ints (l : List Nat) : iVs (Ie08.ints l) = nVs l := by
  unfold iVs Ie08.ints nVs
  rw [List.map_map]
  rfl
theorem sum_ints : ∀ (l : List Nat) (a : Nat), (Ie08.ints l).sum + (a : Int) = ((l.foldl (fun a b => a + b) a : Nat) : Int)
  | [], a => by
    show (0 : Int) + (a : Int) = (a : Int)
    omega
  | x :: l, a => by
    show ((x : Int) + (Ie08.ints l).sum) + (a : Int) = ((l.foldl (fun a b => a + b) (a + x) : Nat) : Int)
    rw [← sum_ints l (a + x)]
    omega
/-- what a look is due to answer -/
def Shows (H : Hp) (zs : List Int) (Q : VK) : Prop := ∀ (H' : Hp) (p : Addr), Same H H' → H p = none → H' p = some (.lst (iVs zs)) → Q (.ref p) H'
theorem Shows.at {H H' : Hp} {zs ys : List Int} {Q : VK} {p : Addr} {vs : List V} (q : Shows H zs Q) (e : zs = ys) (s : Same H H') (n : H p = none) (h : H' p = some (.lst vs)) (ev : vs = iVs ys) : Q (.ref p) H' := by
  subst e ev
  exact q H' p s n h
section
variable {P : Program} {w : World} {K : PySem.W.Frag} {mg : Str → Option Value} {base : Heap} {CB CS CD : Addr}
/-! cells_shown -/
def spLook (CD CB CS : Addr) (c : Ie08.Call) : Sp := fun vs H Q _ => ∃ (X : Addr → Prop) (d : Addr) (s : Ie08.St) (n : Nat), vs = [.ref d] ∧ DrawAt CD CB CS X H d s ∧ StOk n s ∧ n ≤ 1000 ∧ Shows H (Ie08.step s c).2 Q
theorem scCells : FnScope ["drawing"] ["drawing"] (C8.fnScope sCells) := C8.fnScope_by (by decide +kernel)
theorem cal_cells (O : Own mg) (T : DrawC K mg CD) (cS : C8.Met P w K mg base 3 CS "shown_on" (spShownOn CB CS) []) (D : DefAt K mg "cells_shown" sCells ["drawing"]) : C8.Cal P w K mg base 4 "cells_shown" (spLook CD CB CS .cells) [] := by
  refine D.cal scCells (fun vs H Q E h => ?_) fun cdv f A outer s H vs Q E hr h => ?_
  · obtain ⟨X, d, s, n, rfl, _⟩ := h
    rfl
  · obtain ⟨X, d, s, n, rfl, dA, ok, hn, q⟩ := h
    refine ⟨_, pss_cons (ps_if (pt_cmpR op_isN (pe_fld (pv 0) rfl) pe_non (nomark _)) (pss_one (ps_ret (pe_callTy call_list_of rfl O.list (by decide +kernel) (pa_cons (pe_fld (pv 0) rfl) pa_nil)))) pss_nil)
      (pss_one (ps_ret (C8.pe_mt cS hr (by decide) (pe_fld (pv 0) rfl) (pa_cons (pe_fld (pv 0) rfl) pa_nil)))), ?_⟩
    obtain ⟨dx, lc, b, sv, le, es, hd, hlc, xlc, hb, hle, xle, hO, hX, hS⟩ := id dA
    refine ⟨_, rfl, d, CD, dx, _, _, rfl, hd, T.cl, T.a5, dF_stroke .., rfl, _, rfl, ?_⟩
    cases es0 : s.stroke with
    | none =>
      rw [es0] at hS
      obtain rfl : sv = .non := hS
      refine iteT' isT ?_
      have e : (Ie08.step s .cells).2 = Ie08.ints s.cells := by
        show Ie08.ints (match s.stroke with | none => s.cells | some t => _) = _
        rw [es0]
      refine ⟨_, rfl, d, CD, dx, _, _, rfl, hd, T.cl, T.a3, dF_cells .., lc, _, rfl, .inl (SqL.of hlc), fun p hp => ?_⟩
      exact q.at e (same_put (Same.refl H) hp) hp upd_same (iVs_ints _).symm
    | some st =>
      rw [es0] at hS
      obtain ⟨t, ls, kd, rfl, sA⟩ := hS
      refine iteF' (isF t) ?_
      have e : (Ie08.step s .cells).2 = Ie08.ints (Ie08.shown s.cells st) := by
        show Ie08.ints (match s.stroke with | none => s.cells | some t => _) = _
        rw [es0]
      obtain ⟨so, sn⟩ := ok.so st es0
      obtain ⟨dx2, b2, lm2, vs2, kv2, ht2, _⟩ := id sA
      refine ⟨_, rfl, d, CD, dx, _, _, rfl, hd, T.cl, T.a5, dF_stroke .., t, dx2, _, rfl, ht2, sF_shown_on .., _, rfl, d, CD, dx, _, _, rfl, hd, T.cl, T.a3, dF_cells .., _, t, ls, kd, lc, s.w, s.h, st, s.cells, rfl, sA, so, hlc, ok.cl, ok.c8, fun H' p s1 hp hp' => ?_⟩
      exact q.at e s1 hp hp' (iVs_ints _).symm
/-! mask_of_stroke -/
theorem scMask : FnScope ["drawing"] ["drawing"] (C8.fnScope sMask) := C8.fnScope_by (by decide +kernel)
theorem cal_mask (O : Own mg) (T : DrawC K mg CD) (TS : StrokeC K mg CS) (cn : Cons mg) (D : DefAt K mg "mask_of_stroke" sMask ["drawing"]) : C8.Cal P w K mg base 1 "mask_of_stroke" (spLook CD CB CS .mask) [] := by
  refine D.cal scMask (fun vs H Q E h => ?_) fun cdv f A outer s H vs Q E hr h => ?_
  · obtain ⟨X, d, s, n, rfl, _⟩ := h
    rfl
  · obtain ⟨X, d, s, n, rfl, dA, ok, hn, q⟩ := h
    refine ⟨_, pss_cons (ps_if (pt_cmpR op_isN (pe_fld (pv 0) rfl) pe_non (nomark _)) (pss_one (ps_ret (pe_lst (pa_cons (pe_k cn.c4 rfl) pa_nil)))) pss_nil)
      (pss_one (ps_ret (pe_callTy call_list_of rfl O.list (by decide +kernel) (pa_cons (pe_fld (pe_fld (pv 0) rfl) rfl) pa_nil)))), ?_⟩
    obtain ⟨dx, lc, b, sv, le, es, hd, hlc, xlc, hb, hle, xle, hO, hX, hS⟩ := id dA
    refine ⟨_, rfl, d, CD, dx, _, _, rfl, hd, T.cl, T.a5, dF_stroke .., rfl, _, rfl, ?_⟩
    cases es0 : s.stroke with
    | none =>
      rw [es0] at hS
      obtain rfl : sv = .non := hS
      refine iteT' isT ?_
      have e : (Ie08.step s .mask).2 = [-4] := by
        show (match s.stroke with | none => [-4] | some t => _) = _
        rw [es0]
      exact ⟨(by show 1 ≤ sizeLine; decide), fun p hp => q.at e (same_put (Same.refl H) hp) hp upd_same rfl⟩
    | some st =>
      rw [es0] at hS
      obtain ⟨t, ls, kd, rfl, sA⟩ := hS
      refine iteF' (isF t) ?_
      have e : (Ie08.step s .mask).2 = Ie08.ints st.mask := by
        show (match s.stroke with | none => [-4] | some t => _) = _
        rw [es0]
      obtain ⟨dx2, b2, lm2, vs2, kv2, ht2, hb2, hls2, xls2, hts2, hlm2, _⟩ := id sA
      refine ⟨_, rfl, d, CD, dx, _, _, rfl, hd, T.cl, T.a5, dF_stroke .., t, CS, dx2, _, _, rfl, ht2, TS.cl, TS.a8, sF_mask .., lm2, _, rfl, .inl (SqL.of hlm2), fun p hp => ?_⟩
      exact q.at e (same_put (Same.refl H) hp) hp upd_same (iVs_ints _).symm
/-! stamps_of_stroke -/
theorem scStamps : FnScope ["drawing", "stroke", "numbers", "x", "y"] ["drawing"] (C8.fnScope sStamps) := C8.fnScope_by (by decide +kernel)
theorem flat2_len : ∀ l : List Cell, (l.flatMap fun c => [c.1, c.2]).length = 2 * l.length
  | [] => rfl
  | c :: l => by
    rw [List.flatMap_cons, List.length_append, flat2_len l, List.length_cons, List.length_cons, List.length_cons, List.length_nil]
    omega
theorem cal_stamps (O : Own mg) (T : DrawC K mg CD) (TS : StrokeC K mg CS) (cn : Cons mg) (D : DefAt K mg "stamps_of_stroke" sStamps ["drawing"]) : C8.Cal P w K mg base 1 "stamps_of_stroke" (spLook CD CB CS .stamps) [] := by
  refine D.cal scStamps (fun vs H Q E h => ?_) fun cdv f A outer s H vs Q E hr h => ?_
  · obtain ⟨X, d, s, n, rfl, _⟩ := h
    rfl
  · obtain ⟨X, d, s, n, rfl, dA, ok, hn, q⟩ := h
    refine ⟨_, pss_cons (ps_set (i := 1) scStamps.nd rfl (.inl rfl) (pe_fld (pv 0) rfl))
      (pss_cons (ps_if (pt_cmpR op_isN (pv 1) pe_non (nomark _)) (pss_one (ps_ret (pe_lst (pa_cons (pe_k cn.c4 rfl) pa_nil)))) pss_nil)
      (pss_cons (ps_set (i := 2) scStamps.nd rfl (.inl rfl) (pe_lst (pa_cons (pe_fld (pv 1) rfl) (pa_cons (pe_fld (pv 1) rfl) (pa_cons (pe_fld (pv 1) rfl) (pa_cons (pe_callB call_len_seq rfl O.len (by decide +kernel) (pa_cons (pe_fld (pv 1) rfl) pa_nil)) pa_nil))))))
      (pss_cons (ps_for PassesOwn.never rfl (pi_list (pe_fld (pv 1) rfl)) (pg_tup rfl (pgs_cons (pg_name (i := 3) scStamps.nd rfl (.inl rfl)) (pgs_cons (pg_name (i := 4) scStamps.nd rfl (.inl rfl)) pgs_nil)))
        (pss_cons (ps_expr (pe_bm PySem.F.plainAttrs_list PySem.F.slot_list_append PySem.F.type_list_append mt_append (pv 2) (pa_cons (pv 3) pa_nil))) (pss_one (ps_expr (pe_bm PySem.F.plainAttrs_list PySem.F.slot_list_append PySem.F.type_list_append mt_append (pv 2) (pa_cons (pv 4) pa_nil))))))
      (pss_one (ps_ret (pv 2)))))), ?_⟩
    have hz : sizeLine = 16777216 := by decide
    obtain ⟨dx, lc, b, sv, le, es, hd, hlc, xlc, hb, hle, xle, hO, hX, hS⟩ := id dA
    refine ⟨_, rfl, d, CD, dx, _, _, rfl, hd, T.cl, T.a5, dF_stroke .., ?_⟩
    refine ⟨_, rfl, rfl, _, rfl, ?_⟩
    cases es0 : s.stroke with
    | none =>
      rw [es0] at hS
      obtain rfl : sv = .non := hS
      refine iteT' isT ?_
      have e : (Ie08.step s .stamps).2 = [-4] := by
        show (match s.stroke with | none => [-4] | some t => _) = _
        rw [es0]
      exact ⟨(by show 1 ≤ sizeLine; decide), fun p hp => q.at e (same_put (Same.refl H) hp) hp upd_same rfl⟩
    | some st =>
      rw [es0] at hS
      obtain ⟨t, ls, kd, rfl, sA⟩ := hS
      refine iteF' (isF t) ?_
      have e : (Ie08.step s .stamps).2 = Ie08.ints (st.steps :: st.at_.1 :: st.at_.2 :: st.stamps.length :: st.stamps.flatMap fun c => [c.1, c.2]) := by
        show (match s.stroke with | none => [-4] | some t => _) = _
        rw [es0]
      obtain ⟨so, sn⟩ := ok.so st es0
      obtain ⟨dx2, b2, lm2, vs2, kv2, ht2, hb2, hls2, xls2, hts2, hlm2, _⟩ := id sA
      refine ⟨_, rfl, t, CS, dx2, _, _, rfl, ht2, TS.cl, TS.a6, sF_steps .., _, rfl, t, CS, dx2, _, _, rfl, ht2, TS.cl, TS.a4, sF_x .., _, rfl, t, CS, dx2, _, _, rfl, ht2, TS.cl, TS.a5, sF_y .., _, rfl, t, CS, dx2, _, _, rfl, ht2, TS.cl, TS.a7, sF_stamped .., ls, _, rfl, .inl (SqL.of hls2), (by show 4 ≤ sizeLine; decide), fun p hp => ?_⟩
      rw [hts2.len]
      have s1 : Same H (upd H p (.lst (nVs [st.steps, st.at_.1, st.at_.2, st.stamps.length]))) := same_put (Same.refl H) hp
      have hls1 := s1 _ _ hls2
      have npl : ls ≠ p := ne_of_none hls2 hp
      refine ⟨_, rfl, t, CS, dx2, _, _, rfl, s1 _ _ ht2, TS.cl, TS.a7, sF_stamped .., ls, rfl, ⟨_, SqL.of hls1⟩, for_list (K := K) (a := ls) (xs := vs2) (fun i σ H' => ∃ vx vy : Option V, σ = [some (.ref d), some (.ref t), some (.ref p), vx, vy] ∧ Same H H' ∧
        H' p = some (.lst (nVs ([st.steps, st.at_.1, st.at_.2, st.stamps.length] ++ (st.stamps.take i).flatMap fun c => [c.1, c.2])))) ⟨none, none, rfl, s1, upd_same⟩ (fun i σ H' _ ⟨_, _, _, z, _⟩ => SqL.of (z _ _ hls2)) ?_ ?_⟩
      · rintro i v σ H' hv ⟨vx, vy, rfl, s2, hp2⟩
        obtain ⟨r, c, rfl, hc, hrr⟩ := hts2.get hv
        have hil := (List.getElem?_eq_some_iff.mp hc).1
        have hll : (nVs ([st.steps, st.at_.1, st.at_.2, st.stamps.length] ++ (st.stamps.take i).flatMap fun c => [c.1, c.2])).length ≤ 100000 := by
          rw [nVs_len, List.length_append, flat2_len, List.length_take]
          show 4 + _ ≤ _
          omega
        refine ⟨r, _, rfl, SqT.of (s2 _ _ hrr), rfl, _, _, rfl, _, _, rfl, rfl, ?_⟩
        refine ⟨_, rfl, .inl ⟨rfl, _, SqL.of hp2⟩, _, rfl, p, _, _, rfl, rfl, hp2, (by omega), ?_⟩
        refine ⟨_, rfl, .inl ⟨rfl, _, SqL.of upd_same⟩, _, rfl, p, _, _, rfl, rfl, upd_same, (by rw [List.length_append, List.length_singleton]; omega), ?_⟩
        rw [upd_upd]
        refine ⟨_, _, rfl, same_put s2 hp, ?_⟩
        rw [upd_same, take_snoc hc, List.flatMap_append, List.flatMap_cons, List.flatMap_nil, List.append_nil, ← List.append_assoc, nVs_app (_ ++ _) [c.1, c.2], List.append_assoc]
        rfl
      · rintro σ H' ⟨vx, vy, rfl, s2, hp2⟩
        refine ⟨_, rfl, ?_⟩
        rw [hts2.len, List.take_length] at hp2
        exact q.at e s2 hp hp2 (iVs_ints _).symm
/-! told_of -/
theorem scTold : FnScope ["drawing"] ["drawing"] (C8.fnScope sTold) := C8.fnScope_by (by decide +kernel)
theorem cal_told (O : Own mg) (T : DrawC K mg CD) (D : DefAt K mg "told_of" sTold ["drawing"]) : C8.Cal P w K mg base 1 "told_of" (spLook CD CB CS .told) [] := by
  refine D.cal scTold (fun vs H Q E h => ?_) fun cdv f A outer s H vs Q E hr h => ?_
  · obtain ⟨X, d, s, n, rfl, _⟩ := h
    rfl
  · obtain ⟨X, d, s, n, rfl, dA, ok, hn, q⟩ := h
    refine ⟨_, pss_one (ps_ret (pe_lst (pa_cons (pe_callB (cr_sum rfl) rfl O.sum (by decide +kernel) (pa_cons (pe_fld (pv 0) rfl) pa_nil)) (pa_cons (pe_ifExp (pt_cmpR op_isN (pe_fld (pv 0) rfl) pe_non (nomark _)) pe_int pe_int) (pa_cons (pe_callB call_len_seq rfl O.len (by decide +kernel) (pa_cons (pe_fld (pv 0) rfl) pa_nil)) pa_nil))))), ?_⟩
    obtain ⟨dx, lc, b, sv, le, es, hd, hlc, xlc, hb, hle, xle, hO, hX, hS⟩ := id dA
    have hlc2 : SqL K H lc ((Ie08.ints s.cells).map V.int) := by
      rw [show (Ie08.ints s.cells).map V.int = nVs s.cells from iVs_ints _]
      exact SqL.of hlc
    have esum := sum_ints s.cells 0
    have eol := hO.len
    rw [List.length_reverse] at eol
    refine ⟨_, rfl, d, CD, dx, _, _, rfl, hd, T.cl, T.a3, dF_cells .., lc, Ie08.ints s.cells, rfl, hlc2, _, rfl, d, CD, dx, _, _, rfl, hd, T.cl, T.a5, dF_stroke .., rfl, _, rfl, ?_⟩
    have fin : ∀ k : Nat, k = (if s.stroke.isSome then 1 else 0) → ∀ p, H p = none → Q (.ref p) (upd H p (.lst [V.int (Ie08.ints s.cells).sum, V.int (k : Int), V.int ((es.length : Nat) : Int)])) := fun k ek p hp => by
      refine q.at (ys := Ie08.ints [s.cells.foldl (fun a b => a + b) 0, k, s.old.length]) (by rw [ek]; rfl) (same_put (Same.refl H) hp) hp upd_same ?_
      rw [iVs_ints, eol]
      show _ = [V.int ((s.cells.foldl (fun a b => a + b) 0 : Nat) : Int), nV k, nV s.old.length]
      rw [← esum]
      show _ = [V.int ((Ie08.ints s.cells).sum + 0), nV k, nV s.old.length]
      rw [Int.add_zero]
    cases es0 : s.stroke with
    | none =>
      rw [es0] at hS
      obtain rfl : sv = .non := hS
      refine iteT' isT ?_
      exact ⟨_, rfl, d, CD, dx, _, _, rfl, hd, T.cl, T.a6, dF_earlier .., le, _, rfl, .inl (SqL.of hle), (by show 3 ≤ sizeLine; decide), fun p hp => fin 0 (by rw [es0]; rfl) p hp⟩
    | some st =>
      rw [es0] at hS
      obtain ⟨t, ls, kd, rfl, sA⟩ := hS
      refine iteF' (isF t) ?_
      exact ⟨_, rfl, d, CD, dx, _, _, rfl, hd, T.cl, T.a6, dF_earlier .., le, _, rfl, .inl (SqL.of hle), (by show 3 ≤ sizeLine; decide), fun p hp => fin 1 (by rw [es0]; rfl) p hp⟩
end
end Bw
namespace Bw
open PySem PySem.Spec PyProof.Rows L2
open Ie08 (Cell near between gap)
abbrev sChange : Stmt := topS 44
abbrev sLook : Stmt := topS 45
abbrev sAnswer : Stmt := topS 46
abbrev sFirstG : Stmt := topS 47
abbrev sHow : Stmt := topS 48
abbrev sAnswers : Stmt := topS 49
def code : Ie08.Call → Nat
  | .page .. => 0
  | .brush .. => 1
  | .down .. => 2
  | .to .. => 3
  | .up => 4
  | .cancel => 5
  | .draw _ => 6
  | .undo => 7
  | .cells => 8
  | .mask => 9
  | .stamps => 10
  | .told => 11
def args : Ie08.Call → List Nat
  | .page w h n => [w, h, n]
  | .brush f z s fl op t b m => [f, z, s, fl, op, t, b, m]
  | .down x y => [x, y]
  | .to x y => [x, y]
  | .draw l => l
  | _ => []
structure PCons (mg : Str → Option Value) : Prop where
  p0 : ConAt mg "PAGE" (.int 0)
  p1 : ConAt mg "BRUSH" (.int 1)
  p2 : ConAt mg "DOWN" (.int 2)
  p3 : ConAt mg "TO" (.int 3)
  p4 : ConAt mg "UP" (.int 4)
  p5 : ConAt mg "CANCEL" (.int 5)
  p6 : ConAt mg "DRAW" (.int 6)
  p7 : ConAt mg "UNDO" (.int 7)
  p8 : ConAt mg "CELLS" (.int 8)
  p9 : ConAt mg "MASK" (.int 9)
  p10 : ConAt mg "STAMPS" (.int 10)
theorem nV_ne {a : Nat} {b : Int} (h : (a : Int) ≠ b) : decide (nV a = V.int b) = false := decide_eq_false fun z => h (by injection z)
theorem nV_eq {a : Nat} {b : Int} (h : (a : Int) = b) : decide (nV a = V.int b) = true := decide_eq_true (congrArg V.int h)
section
variable {P : Program} {w : World} {K : PySem.W.Frag} {mg : Str → Option Value} {base : Heap} {CB CS CD : Addr}
/-! change -/
def spChange (CD CB CS : Addr) : Sp := fun vs H Q _ => ∃ (X : Addr → Prop) (d lg : Addr) (s : Ie08.St) (n : Nat) (c : Ie08.Call), vs = [.ref d, nV (code c), .ref lg] ∧ code c ≤ 7 ∧ Fits c ∧ DrawAt CD CB CS X H d s ∧ StOk n s ∧ n ≤ 1000 ∧ H lg = some (.lst (nVs (args c))) ∧ Goes CD CB CS X H d s c Q
theorem scChange : FnScope ["drawing", "call", "given"] ["drawing", "call", "given"] (C8.fnScope sChange) := C8.fnScope_by (by decide +kernel)
theorem cal_change (pc : PCons mg) (c0 : C8.Met P w K mg base 1 CD "new_page" (spPage CD CB CS) []) (c1 : C8.Met P w K mg base 3 CD "choose_brush" (spChoose CD CB CS) []) (c2 : C8.Met P w K mg base 8 CD "begin" (spBegin CD CB CS) []) (c3 : C8.Met P w K mg base 7 CD "go_on" (spGo CD CB CS) [])
    (c4 : C8.Met P w K mg base 4 CD "lift" (spLift CD CB CS) []) (c5 : C8.Met P w K mg base 1 CD "give_up" (spGiveUp CD CB CS) []) (c6 : C8.Met P w K mg base 9 CD "draw" (spDraw CD CB CS) []) (c7 : C8.Met P w K mg base 1 CD "undo" (spUndo CD CB CS) [])
    (D : DefAt K mg "change" sChange ["drawing", "call", "given"]) : C8.Cal P w K mg base 10 "change" (spChange CD CB CS) [] := by
  refine D.cal scChange (fun vs H Q E h => ?_) fun cdv f A outer s H vs Q E hr h => ?_
  · obtain ⟨X, d, lg, s, n, c, rfl, _⟩ := h
    rfl
  · obtain ⟨X, d, lg, s, n, c, rfl, hc, fits, dA, ok, hn, hlg, q⟩ := h
    refine ⟨_, pss_cons (ps_if (pt_cmpR op_eq (pv 1) (pe_k pc.p0 rfl) (nomark _)) (pss_one (ps_ret (C8.pe_mt c0 hr (by decide) (pv 0) (pa_cons (pe_ix ix_list (pv 2) pe_int (fun _ _ => rfl)) (pa_cons (pe_ix ix_list (pv 2) pe_int (fun _ _ => rfl)) (pa_cons (pe_ix ix_list (pv 2) pe_int (fun _ _ => rfl)) pa_nil)))))) pss_nil)
      (pss_cons (ps_if (pt_cmpR op_eq (pv 1) (pe_k pc.p1 rfl) (nomark _)) (pss_one (ps_ret (C8.pe_mt c1 hr (by decide) (pv 0) (pa_cons (pe_ix ix_list (pv 2) pe_int (fun _ _ => rfl)) (pa_cons (pe_ix ix_list (pv 2) pe_int (fun _ _ => rfl)) (pa_cons (pe_ix ix_list (pv 2) pe_int (fun _ _ => rfl)) (pa_cons (pe_ix ix_list (pv 2) pe_int (fun _ _ => rfl))
        (pa_cons (pe_ix ix_list (pv 2) pe_int (fun _ _ => rfl)) (pa_cons (pe_ix ix_list (pv 2) pe_int (fun _ _ => rfl)) (pa_cons (pe_ix ix_list (pv 2) pe_int (fun _ _ => rfl)) (pa_cons (pe_ix ix_list (pv 2) pe_int (fun _ _ => rfl)) pa_nil))))))))))) pss_nil)
      (pss_cons (ps_if (pt_cmpR op_eq (pv 1) (pe_k pc.p2 rfl) (nomark _)) (pss_one (ps_ret (C8.pe_mt c2 hr (by decide) (pv 0) (pa_cons (pe_ix ix_list (pv 2) pe_int (fun _ _ => rfl)) (pa_cons (pe_ix ix_list (pv 2) pe_int (fun _ _ => rfl)) pa_nil))))) pss_nil)
      (pss_cons (ps_if (pt_cmpR op_eq (pv 1) (pe_k pc.p3 rfl) (nomark _)) (pss_one (ps_ret (C8.pe_mt c3 hr (by decide) (pv 0) (pa_cons (pe_ix ix_list (pv 2) pe_int (fun _ _ => rfl)) (pa_cons (pe_ix ix_list (pv 2) pe_int (fun _ _ => rfl)) pa_nil))))) pss_nil)
      (pss_cons (ps_if (pt_cmpR op_eq (pv 1) (pe_k pc.p4 rfl) (nomark _)) (pss_one (ps_ret (C8.pe_mt0 c4 hr (by decide) (pv 0)))) pss_nil)
      (pss_cons (ps_if (pt_cmpR op_eq (pv 1) (pe_k pc.p5 rfl) (nomark _)) (pss_one (ps_ret (C8.pe_mt0 c5 hr (by decide) (pv 0)))) pss_nil)
      (pss_cons (ps_if (pt_cmpR op_eq (pv 1) (pe_k pc.p6 rfl) (nomark _)) (pss_one (ps_ret (C8.pe_mt c6 hr (by decide) (pv 0) (pa_cons (pv 2) pa_nil)))) pss_nil)
      (pss_one (ps_ret (C8.pe_mt0 c7 hr (by decide) (pv 0)))))))))), ?_⟩
    obtain ⟨dx, lc, b, sv, le, es, hd, _⟩ := id dA
    have ix : ∀ {i : Nat} {x : Nat}, (args c)[i]? = some x → atI (nVs (args c)) (i : Int) = some (nV x) := fun {i x} h => atI_nat (by unfold nVs; rw [List.getElem?_map, h]; rfl)
    cases c with
    | page pw ph pn =>
      refine ⟨_, rfl, rfl, _, rfl, iteT' (nV_eq rfl) ?_⟩
      exact ⟨_, rfl, d, dx, _, rfl, hd, dF_page .., _, rfl, lg, _, 0, nV pw, rfl, rfl, SqL.of hlg, ix (i := 0) rfl, _, rfl, lg, _, 1, nV ph, rfl, rfl, SqL.of hlg, ix (i := 1) rfl, _, rfl, lg, _, 2, nV pn, rfl, rfl, SqL.of hlg, ix (i := 2) rfl, X, d, s, pw, ph, pn, rfl, dA, q⟩
    | brush f z sp fl op t b m =>
      refine ⟨_, rfl, rfl, _, rfl, iteF' (nV_ne (by dsimp only [code]; decide)) ⟨_, rfl, rfl, _, rfl, iteT' (nV_eq rfl) ?_⟩⟩
      exact ⟨_, rfl, d, dx, _, rfl, hd, dF_choose .., _, rfl, lg, _, 0, nV f, rfl, rfl, SqL.of hlg, ix (i := 0) rfl, _, rfl, lg, _, 1, nV z, rfl, rfl, SqL.of hlg, ix (i := 1) rfl, _, rfl, lg, _, 2, nV sp, rfl, rfl, SqL.of hlg, ix (i := 2) rfl, _, rfl, lg, _, 3, nV fl, rfl, rfl, SqL.of hlg, ix (i := 3) rfl,
        _, rfl, lg, _, 4, nV op, rfl, rfl, SqL.of hlg, ix (i := 4) rfl, _, rfl, lg, _, 5, nV t, rfl, rfl, SqL.of hlg, ix (i := 5) rfl, _, rfl, lg, _, 6, nV b, rfl, rfl, SqL.of hlg, ix (i := 6) rfl, _, rfl, lg, _, 7, nV m, rfl, rfl, SqL.of hlg, ix (i := 7) rfl, X, d, s, f, z, sp, fl, op, t, b, m, rfl, dA, q⟩
    | down x y =>
      refine ⟨_, rfl, rfl, _, rfl, iteF' (nV_ne (by dsimp only [code]; decide)) ⟨_, rfl, rfl, _, rfl, iteF' (nV_ne (by dsimp only [code]; decide)) ⟨_, rfl, rfl, _, rfl, iteT' (nV_eq rfl) ?_⟩⟩⟩
      exact ⟨_, rfl, d, dx, _, rfl, hd, dF_begin .., _, rfl, lg, _, 0, nV x, rfl, rfl, SqL.of hlg, ix (i := 0) rfl, _, rfl, lg, _, 1, nV y, rfl, rfl, SqL.of hlg, ix (i := 1) rfl, X, d, s, n, x, y, rfl, dA, ok, q⟩
    | to x y =>
      refine ⟨_, rfl, rfl, _, rfl, iteF' (nV_ne (by dsimp only [code]; decide)) ⟨_, rfl, rfl, _, rfl, iteF' (nV_ne (by dsimp only [code]; decide)) ⟨_, rfl, rfl, _, rfl, iteF' (nV_ne (by dsimp only [code]; decide)) ⟨_, rfl, rfl, _, rfl, iteT' (nV_eq rfl) ?_⟩⟩⟩⟩
      exact ⟨_, rfl, d, dx, _, rfl, hd, dF_go .., _, rfl, lg, _, 0, nV x, rfl, rfl, SqL.of hlg, ix (i := 0) rfl, _, rfl, lg, _, 1, nV y, rfl, rfl, SqL.of hlg, ix (i := 1) rfl, X, d, s, n, x, y, rfl, dA, ok, by omega, q⟩
    | up =>
      refine ⟨_, rfl, rfl, _, rfl, iteF' (nV_ne (by dsimp only [code]; decide)) ⟨_, rfl, rfl, _, rfl, iteF' (nV_ne (by dsimp only [code]; decide)) ⟨_, rfl, rfl, _, rfl, iteF' (nV_ne (by dsimp only [code]; decide)) ⟨_, rfl, rfl, _, rfl, iteF' (nV_ne (by dsimp only [code]; decide)) ⟨_, rfl, rfl, _, rfl, iteT' (nV_eq rfl) ?_⟩⟩⟩⟩⟩
      exact ⟨_, rfl, d, dx, _, rfl, hd, dF_lift .., X, d, s, n, rfl, dA, ok, q⟩
    | cancel =>
      refine ⟨_, rfl, rfl, _, rfl, iteF' (nV_ne (by dsimp only [code]; decide)) ⟨_, rfl, rfl, _, rfl, iteF' (nV_ne (by dsimp only [code]; decide)) ⟨_, rfl, rfl, _, rfl, iteF' (nV_ne (by dsimp only [code]; decide)) ⟨_, rfl, rfl, _, rfl, iteF' (nV_ne (by dsimp only [code]; decide)) ⟨_, rfl, rfl, _, rfl, iteF' (nV_ne (by dsimp only [code]; decide)) ⟨_, rfl, rfl, _, rfl, iteT' (nV_eq rfl) ?_⟩⟩⟩⟩⟩⟩
      exact ⟨_, rfl, d, dx, _, rfl, hd, dF_giveup .., X, d, s, rfl, dA, q⟩
    | draw l =>
      refine ⟨_, rfl, rfl, _, rfl, iteF' (nV_ne (by dsimp only [code]; decide)) ⟨_, rfl, rfl, _, rfl, iteF' (nV_ne (by dsimp only [code]; decide)) ⟨_, rfl, rfl, _, rfl, iteF' (nV_ne (by dsimp only [code]; decide)) ⟨_, rfl, rfl, _, rfl, iteF' (nV_ne (by dsimp only [code]; decide)) ⟨_, rfl, rfl, _, rfl, iteF' (nV_ne (by dsimp only [code]; decide)) ⟨_, rfl, rfl, _, rfl, iteF' (nV_ne (by dsimp only [code]; decide)) ⟨_, rfl, rfl, _, rfl, iteT' (nV_eq rfl) ?_⟩⟩⟩⟩⟩⟩⟩
      exact ⟨_, rfl, d, dx, _, rfl, hd, dF_draw .., _, rfl, X, d, lg, s, n, l, rfl, dA, ok, hn, hlg, fits, q⟩
    | undo =>
      refine ⟨_, rfl, rfl, _, rfl, iteF' (nV_ne (by dsimp only [code]; decide)) ⟨_, rfl, rfl, _, rfl, iteF' (nV_ne (by dsimp only [code]; decide)) ⟨_, rfl, rfl, _, rfl, iteF' (nV_ne (by dsimp only [code]; decide)) ⟨_, rfl, rfl, _, rfl, iteF' (nV_ne (by dsimp only [code]; decide)) ⟨_, rfl, rfl, _, rfl, iteF' (nV_ne (by dsimp only [code]; decide)) ⟨_, rfl, rfl, _, rfl, iteF' (nV_ne (by dsimp only [code]; decide)) ⟨_, rfl, rfl, _, rfl, iteF' (nV_ne (by dsimp only [code]; decide)) ?_⟩⟩⟩⟩⟩⟩⟩
      exact ⟨_, rfl, d, dx, _, rfl, hd, dF_undo .., X, d, s, rfl, dA, q⟩
    | cells => exact absurd hc (by dsimp only [code]; decide)
    | mask => exact absurd hc (by dsimp only [code]; decide)
    | stamps => exact absurd hc (by dsimp only [code]; decide)
    | told => exact absurd hc (by dsimp only [code]; decide)
/-! look -/
def spLooks (CD CB CS : Addr) : Sp := fun vs H Q _ => ∃ (X : Addr → Prop) (d : Addr) (s : Ie08.St) (n : Nat) (c : Ie08.Call), vs = [.ref d, nV (code c)] ∧ 8 ≤ code c ∧ DrawAt CD CB CS X H d s ∧ StOk n s ∧ n ≤ 1000 ∧ Shows H (Ie08.step s c).2 Q
theorem scLook : FnScope ["drawing", "call"] ["drawing", "call"] (C8.fnScope sLook) := C8.fnScope_by (by decide +kernel)
theorem cal_look (pc : PCons mg) (c8 : C8.Cal P w K mg base 4 "cells_shown" (spLook CD CB CS .cells) []) (c9 : C8.Cal P w K mg base 1 "mask_of_stroke" (spLook CD CB CS .mask) []) (c10 : C8.Cal P w K mg base 1 "stamps_of_stroke" (spLook CD CB CS .stamps) []) (c11 : C8.Cal P w K mg base 1 "told_of" (spLook CD CB CS .told) [])
    (D : DefAt K mg "look" sLook ["drawing", "call"]) : C8.Cal P w K mg base 5 "look" (spLooks CD CB CS) [] := by
  refine D.cal scLook (fun vs H Q E h => ?_) fun cdv f A outer s H vs Q E hr h => ?_
  · obtain ⟨X, d, s, n, c, rfl, _⟩ := h
    rfl
  · obtain ⟨X, d, s, n, c, rfl, hc, dA, ok, hn, q⟩ := h
    refine ⟨_, pss_cons (ps_if (pt_cmpR op_eq (pv 1) (pe_k pc.p8 rfl) (nomark _)) (pss_one (ps_ret (C8.pe_c c8 hr (by decide) rfl (pa_cons (pv 0) pa_nil)))) pss_nil)
      (pss_cons (ps_if (pt_cmpR op_eq (pv 1) (pe_k pc.p9 rfl) (nomark _)) (pss_one (ps_ret (C8.pe_c c9 hr (by decide) rfl (pa_cons (pv 0) pa_nil)))) pss_nil)
      (pss_cons (ps_if (pt_cmpR op_eq (pv 1) (pe_k pc.p10 rfl) (nomark _)) (pss_one (ps_ret (C8.pe_c c10 hr (by decide) rfl (pa_cons (pv 0) pa_nil)))) pss_nil)
      (pss_one (ps_ret (C8.pe_c c11 hr (by decide) rfl (pa_cons (pv 0) pa_nil)))))), ?_⟩
    cases c with
    | cells => exact ⟨_, rfl, rfl, _, rfl, iteT' (nV_eq rfl) ⟨_, rfl, X, d, s, n, rfl, dA, ok, hn, q⟩⟩
    | mask => exact ⟨_, rfl, rfl, _, rfl, iteF' (nV_ne (by dsimp only [code]; decide)) ⟨_, rfl, rfl, _, rfl, iteT' (nV_eq rfl) ⟨_, rfl, X, d, s, n, rfl, dA, ok, hn, q⟩⟩⟩
    | stamps => exact ⟨_, rfl, rfl, _, rfl, iteF' (nV_ne (by dsimp only [code]; decide)) ⟨_, rfl, rfl, _, rfl, iteF' (nV_ne (by dsimp only [code]; decide)) ⟨_, rfl, rfl, _, rfl, iteT' (nV_eq rfl) ⟨_, rfl, X, d, s, n, rfl, dA, ok, hn, q⟩⟩⟩⟩
    | told => exact ⟨_, rfl, rfl, _, rfl, iteF' (nV_ne (by dsimp only [code]; decide)) ⟨_, rfl, rfl, _, rfl, iteF' (nV_ne (by dsimp only [code]; decide)) ⟨_, rfl, rfl, _, rfl, iteF' (nV_ne (by dsimp only [code]; decide)) ⟨_, rfl, X, d, s, n, rfl, dA, ok, hn, q⟩⟩⟩⟩
    | page => exact absurd hc (by dsimp only [code]; decide)
    | brush => exact absurd hc (by dsimp only [code]; decide)
    | down => exact absurd hc (by dsimp only [code]; decide)
    | to => exact absurd hc (by dsimp only [code]; decide)
    | up => exact absurd hc (by dsimp only [code]; decide)
    | cancel => exact absurd hc (by dsimp only [code]; decide)
    | draw => exact absurd hc (by dsimp only [code]; decide)
    | undo => exact absurd hc (by dsimp only [code]; decide)
end
end Bw
namespace Bw
open PySem PySem.Spec PyProof.Rows L2
open Ie08 (Cell near between gap)
theorem one_ans (s : Ie08.St) (c : Ie08.Call) (h : code c ≤ 7) : (Ie08.step s c).2 = [(Ie08.step s c).2.headD 0] := by
  have z : ∃ r, (Ie08.step s c).2 = [r] := by
    cases c with
    | cells => exact absurd h (by decide)
    | mask => exact absurd h (by decide)
    | stamps => exact absurd h (by decide)
    | told => exact absurd h (by decide)
    | _ =>
      simp only [Ie08.step]
      repeat' split
      all_goals exact ⟨_, rfl⟩
  obtain ⟨r, e⟩ := z
  rw [e]
  rfl
theorem look_stays (s : Ie08.St) (c : Ie08.Call) (h : 8 ≤ code c) : (Ie08.step s c).1 = s := by
  cases c with
  | cells => rfl
  | mask => rfl
  | stamps => rfl
  | told => rfl
  | _ => exact absurd h (by dsimp only [code]; decide)
/-! what is handed in: frozen, or an object of the module -/
def In (K : PySem.W.Frag) (H : Hp) (a : Addr) (xs : List V) : Prop := (∃ o, H a = some (.frz o (.lst xs))) ∨ ∃ (o : Obj) (its : Array Value) (n : Nat), K.lookup a = some o ∧ o.cls = .type "list" ∧ o.dict = none ∧ o.data = .seq its n ∧ its.size ≤ sizeLine ∧ Vals xs its.toList
theorem In.sq {K : PySem.W.Frag} {H : Hp} {a : Addr} {xs : List V} : In K H a xs → SqL K H a xs
  | .inl ⟨o, h⟩ => .inl (.inr ⟨o, h⟩)
  | .inr h => .inr h
theorem In.keep {K : PySem.W.Frag} {H H' : Hp} {a : Addr} {xs : List V} (t : TupK H H') : In K H a xs → In K H' a xs
  | .inl ⟨o, h⟩ => .inl ⟨o, t _ _ h fix_frz⟩
  | .inr h => .inr h
theorem In.of {K : PySem.W.Frag} {H : Hp} {a : Addr} {xs : List V} (f : OnlyF H) : SqL K H a xs → In K H a xs
  | .inl (.inl h) => by
    rcases f a with z | ⟨o, u, z⟩
    · rw [h] at z
      cases z
    · rw [h] at z
      cases z
  | .inl (.inr ⟨o, h⟩) => .inl ⟨o, h⟩
  | .inr h => .inr h
def counts : List Nat := [3, 8, 2, 2, 0, 0, 0, 0, 0, 0, 0, 0]
def CountsAt (K : PySem.W.Frag) (mg : Str → Option Value) : Prop := ∃ ca : Addr, ConAt mg "COUNTS" (.ref ca) ∧ ∀ H : Hp, SqT K H ca (nVs counts)
theorem iVs_get {zs : List Int} {i : Nat} {z : Int} (h : zs[i]? = some z) : (iVs zs)[i]? = some (.int z) := by
  unfold iVs
  rw [List.getElem?_map, h]
  rfl
theorem iVs_len (zs : List Int) : (iVs zs).length = zs.length := List.length_map ..
section
variable {P : Program} {w : World} {K : PySem.W.Frag} {mg : Str → Option Value} {base : Heap} {CB CS CD : Addr}
/-! answer -/
def spAnswer (CD CB CS : Addr) : Sp := fun vs H Q _ => ∃ (X : Addr → Prop) (d lg : Addr) (s : Ie08.St) (n : Nat) (c : Ie08.Call), vs = [.ref d, nV (code c), .ref lg] ∧ Fits c ∧ DrawAt CD CB CS X H d s ∧ StOk n s ∧ n ≤ 1000 ∧ H lg = some (.lst (nVs (args c))) ∧
  ∀ (H' : Hp) (p : Addr), DrawAt CD CB CS X H' d (Ie08.step s c).1 → (∀ a, X a → H' a = H a) → TupK H H' → ¬ X p → H' p = some (.lst (iVs (Ie08.step s c).2)) → Q (.ref p) H'
theorem scAnswer : FnScope ["drawing", "call", "given"] ["drawing", "call", "given"] (C8.fnScope sAnswer) := C8.fnScope_by (by decide +kernel)
theorem cal_answer (pc : PCons mg) (cC : C8.Cal P w K mg base 10 "change" (spChange CD CB CS) []) (cL : C8.Cal P w K mg base 5 "look" (spLooks CD CB CS) []) (D : DefAt K mg "answer" sAnswer ["drawing", "call", "given"]) : C8.Cal P w K mg base 11 "answer" (spAnswer CD CB CS) [] := by
  refine D.cal scAnswer (fun vs H Q E h => ?_) fun cdv f A outer s H vs Q E hr h => ?_
  · obtain ⟨X, d, lg, s, n, c, rfl, _⟩ := h
    rfl
  · obtain ⟨X, d, lg, s, n, c, rfl, fits, dA, ok, hn, hlg, q⟩ := h
    refine ⟨_, pss_cons (ps_if (pt_cmpR op_le (pv 1) (pe_k pc.p7 rfl) (nomark _)) (pss_one (ps_ret (pe_lst (pa_cons (C8.pe_c cC hr (by decide) rfl (pa_cons (pv 0) (pa_cons (pv 1) (pa_cons (pv 2) pa_nil)))) pa_nil)))) pss_nil)
      (pss_one (ps_ret (C8.pe_c cL hr (by decide) rfl (pa_cons (pv 0) (pa_cons (pv 1) pa_nil))))), ?_⟩
    refine ⟨_, rfl, _, _, rfl, rfl, _, rfl, ?_⟩
    obtain ⟨_, _, _, _, _, _, _, _, _, _, _, _, _, hX, _⟩ := id dA
    by_cases c7 : code c ≤ 7
    · refine iteT' (decide_eq_true (show ((code c : Nat) : Int) ≤ 7 by omega)) ?_
      refine ⟨_, rfl, _, rfl, _, rfl, X, d, lg, s, n, c, rfl, c7, fits, dA, ok, hn, hlg, fun H1 dA1 fX1 fT1 => ⟨(by show 1 ≤ sizeLine; decide), fun p hp => ?_⟩⟩
      have hX1 : Lists X H1 := hX.of fX1
      have s1 : Same H1 (upd H1 p (.lst [V.int ((Ie08.step s c).2.headD 0)])) := same_put (Same.refl _) hp
      refine q _ p (dA1.keep (Keep.sm s1 hX1) fun o e => s1 _ _ e) (fun a xa => ?_) (fT1.trans (TupK.sm s1)) (hX1.free hp) ?_
      · obtain ⟨xs, e⟩ := hX1 a xa
        rw [← fX1 a xa, e]
        exact s1 _ _ e
      · rw [one_ans s c c7]
        exact upd_same
    · refine iteF' (decide_eq_false (show ¬ ((code c : Nat) : Int) ≤ 7 by omega)) ?_
      refine ⟨_, rfl, _, rfl, X, d, s, n, c, rfl, by omega, dA, ok, hn, fun H' p s1 hp hp' => ?_⟩
      refine q H' p (by rw [look_stays s c (by omega)]; exact dA.keep (Keep.sm s1 hX) fun o e => s1 _ _ e) (fun a xa => ?_) (TupK.sm s1) (hX.free hp) hp'
      obtain ⟨xs, e⟩ := hX a xa
      rw [e]
      exact s1 _ _ e
/-! first_given, how_many_given -/
def spFG (K : PySem.W.Frag) : Sp := fun vs H Q _ => ∃ (la : Addr) (zs : List Int) (i k : Nat), vs = [.ref la, nV i] ∧ SqL K H la (iVs zs) ∧ zs[i]? = some (k : Int) ∧ Q (nV (if k = 6 then i + 2 else i + 1)) H
theorem scFG : FnScope ["calls", "at"] ["calls", "at"] (C8.fnScope sFirstG) := C8.fnScope_by (by decide +kernel)
theorem cal_fg (pc : PCons mg) (D : DefAt K mg "first_given" sFirstG ["calls", "at"]) : C8.Cal P w K mg base 1 "first_given" (spFG K) [] := by
  refine D.cal scFG (fun vs H Q E h => ?_) fun cdv f A outer s H vs Q E hr h => ?_
  · obtain ⟨la, zs, i, k, rfl, _⟩ := h
    rfl
  · obtain ⟨la, zs, i, k, rfl, hla, hk, q⟩ := h
    refine ⟨_, pss_one (ps_ret (pe_ifExp (pt_cmpR op_eq (pe_ix ix_list (pv 0) (pv 1) (fun _ _ => rfl)) (pe_k pc.p6 rfl) (nomark _)) (pe_op op_add (pv 1) pe_int) (pe_op op_add (pv 1) pe_int))), ?_⟩
    refine ⟨_, rfl, _, rfl, la, _, _, V.int (k : Int), rfl, rfl, hla, atI_nat (iVs_get hk), rfl, _, rfl, ?_⟩
    by_cases c6 : k = 6
    · refine iteT' (nV_eq (by rw [c6]; rfl)) ⟨_, rfl, _, _, rfl, rfl, ?_⟩
      rw [if_pos c6] at q
      exact q
    · refine iteF' (nV_ne (by omega)) ⟨_, rfl, _, _, rfl, rfl, ?_⟩
      rw [if_neg c6] at q
      exact q
def spHow (K : PySem.W.Frag) : Sp := fun vs H Q _ => ∃ (la : Addr) (zs : List Int) (i k m : Nat), vs = [.ref la, nV i] ∧ SqL K H la (iVs zs) ∧ zs[i]? = some (k : Int) ∧ (k = 6 → zs[i + 1]? = some (m : Int)) ∧ (k ≠ 6 → counts[k]? = some m) ∧ Q (nV m) H
theorem scHow : FnScope ["calls", "at"] ["calls", "at"] (C8.fnScope sHow) := C8.fnScope_by (by decide +kernel)
theorem cal_how (pc : PCons mg) (ct : CountsAt K mg) (D : DefAt K mg "how_many_given" sHow ["calls", "at"]) : C8.Cal P w K mg base 1 "how_many_given" (spHow K) [] := by
  refine D.cal scHow (fun vs H Q E h => ?_) fun cdv f A outer s H vs Q E hr h => ?_
  · obtain ⟨la, zs, i, k, m, rfl, _⟩ := h
    rfl
  · obtain ⟨la, zs, i, k, m, rfl, hla, hk, h6, hn6, q⟩ := h
    obtain ⟨ca, cc, hca⟩ := ct
    refine ⟨_, pss_one (ps_ret (pe_ifExp (pt_cmpR op_eq (pe_ix ix_list (pv 0) (pv 1) (fun _ _ => rfl)) (pe_k pc.p6 rfl) (nomark _)) (pe_ix ix_list (pv 0) (pe_op op_add (pv 1) pe_int) (fun _ _ => rfl)) (pe_ix ix_tup (pe_k cc rfl) (pe_ix ix_list (pv 0) (pv 1) (fun _ _ => rfl)) (fun _ _ => rfl)))), ?_⟩
    refine ⟨_, rfl, _, rfl, la, _, _, V.int (k : Int), rfl, rfl, hla, atI_nat (iVs_get hk), rfl, _, rfl, ?_⟩
    by_cases c6 : k = 6
    · refine iteT' (nV_eq (by rw [c6]; rfl)) ⟨_, rfl, _, rfl, _, _, rfl, rfl, la, _, ((i + 1 : Nat) : Int), V.int (m : Int), rfl, rfl, hla, atI_nat (iVs_get (h6 c6)), q⟩
    · refine iteF' (nV_ne (by omega)) ⟨_, rfl, _, rfl, la, _, _, V.int (k : Int), rfl, rfl, hla, atI_nat (iVs_get hk), ca, _, (k : Int), nV m, rfl, rfl, hca H, atI_nat ?_, q⟩
      unfold nVs
      rw [List.getElem?_map, hn6 c6]
      rfl
end
end Bw
namespace Bw
open PySem PySem.Spec PyProof.Rows L2
open Ie08 (Cell near between gap)
/-! a call as it stands in the list -/
def heads : Ie08.Call → List Int
  | .draw l => [6, (l.length : Int)]
  | c => [(code c : Int)]
theorem enc_eq (c : Ie08.Call) : enc c = heads c ++ ns (args c) := by
  cases c <;> rfl
theorem heads_len (c : Ie08.Call) : (heads c).length = if code c = 6 then 2 else 1 := by
  cases c <;> rfl
theorem heads_code (c : Ie08.Call) : (heads c)[0]? = some ((code c : Nat) : Int) := by
  cases c <;> rfl
theorem heads_count (c : Ie08.Call) (h : code c = 6) : (heads c)[1]? = some (((args c).length : Nat) : Int) := by
  cases c with
  | draw l => rfl
  | _ => exact absurd h (by dsimp only [code]; decide)
theorem counts_at (c : Ie08.Call) (h : code c ≠ 6) : counts[code c]? = some (args c).length := by
  cases c with
  | draw l => exact absurd rfl h
  | _ => rfl
theorem ns_len (l : List Nat) : (ns l).length = l.length := List.length_map ..
theorem iVs_ns (l : List Nat) : iVs (ns l) = nVs l := iVs_ints l
theorem iVs_app (a b : List Int) : iVs (a ++ b) = iVs a ++ iVs b := List.map_append
theorem get_mid {α : Type} {a b c : List α} {i : Nat} {x : α} (h : b[i]? = some x) : (a ++ (b ++ c))[a.length + i]? = some x := by
  have hi := (List.getElem?_eq_some_iff.mp h).1
  rw [List.getElem?_append_right (by omega), Nat.add_sub_cancel_left, List.getElem?_append_left hi]
  exact h
theorem cut_mid (a h b c : List V) (i j : Int) (ei : i = ((a.length + h.length : Nat) : Int)) (ej : j = ((a.length + h.length + b.length : Nat) : Int)) : cutV (a ++ ((h ++ b) ++ c)) (some i) (some j) = b := by
  subst ei ej
  unfold cutV
  rw [HT.sIx_nat, HT.sIx_nat]
  have l : (a ++ ((h ++ b) ++ c)).length = a.length + (h.length + b.length + c.length) := by
    rw [List.length_append, List.length_append, List.length_append]
  rw [l, Nat.min_eq_left (by omega), Nat.min_eq_left (by omega)]
  have e : a ++ ((h ++ b) ++ c) = (a ++ h) ++ (b ++ c) := by
    rw [List.append_assoc, List.append_assoc]
  rw [e, ← List.length_append, List.drop_left, List.length_append, Nat.add_sub_cancel_left, List.take_left]
theorem told_one (r : List Int) : PyFlat.told [r] = (r.length : Int) :: r := by
  show List.flatMap _ [r] = _
  rw [List.flatMap_cons, List.flatMap_nil, List.append_nil]
theorem told_snoc (s : Ie08.St) (a : List Ie08.Call) (c : Ie08.Call) : PyFlat.told (run s (a ++ [c])) = PyFlat.told (run s a) ++ (((Ie08.step (after s a) c).2.length : Int) :: (Ie08.step (after s a) c).2) := by
  rw [run_append, told_append]
  show _ ++ PyFlat.told [(Ie08.step (after s a) c).2] = _
  rw [told_one]
theorem after_snoc (s : Ie08.St) (a : List Ie08.Call) (c : Ie08.Call) : after s (a ++ [c]) = (Ie08.step (after s a) c).1 := by
  rw [after_append]
  rfl
def atOf : L2.St → Nat
  | [_, _, _, some (.int i), _, _, _] => i.toNat
  | _ => 0
section
variable {P : Program} {w : World} {K : PySem.W.Frag} {mg : Str → Option Value} {base : Heap} {CB CS CD : Addr}
def spAnswers (K : PySem.W.Frag) : Sp := fun vs H Q _ => ∃ (la : Addr) (cs : List Ie08.Call), vs = [.ref la] ∧ In K H la (iVs (cs.flatMap enc)) ∧ cs.length ≤ 40 ∧ (∀ c ∈ cs, Fits c) ∧ ((run Ie08.init cs).map List.length).sum ≤ 1000000 ∧
  ∀ (H' : Hp) (p : Addr), H' p = some (.lst (iVs (PyFlat.told (run Ie08.init cs)))) → Q (.ref p) H'
theorem scAnswers : FnScope ["calls", "drawing", "told", "at", "first", "behind", "numbers"] ["calls"] (C8.fnScope sAnswers) := C8.fnScope_by (by decide +kernel)
theorem fn_answers (O : Own mg) (T : DrawC K mg CD) (cD : C8.Mak P w K mg base 4 "Drawing" CD (spDInit CD CB CS) []) (cF : C8.Cal P w K mg base 1 "first_given" (spFG K) []) (cH : C8.Cal P w K mg base 1 "how_many_given" (spHow K) []) (cA : C8.Cal P w K mg base 11 "answer" (spAnswer CD CB CS) [])
    (cdv : Value) (f : Addr) (A : Around) (outer : List Env) (s : Shared) (H : Hp) (vs : List V) (Q : VK) (E : XK) (hr : Room 11 (A.deeper (envOfC "answers" (C8.fnScope sAnswers) s.heap.objs.size f cdv))) (h : spAnswers K vs H Q E) :
    ∃ t, PSs (cxOf C8.CX0 P w K mg base ["calls", "drawing", "told", "at", "first", "behind", "numbers"] "answers" (C8.fnScope sAnswers) f cdv A outer s H E).nox (C8.fnBody sAnswers) t ∧ t ⟨fun _ H' => Q .non H', Q, fun _ _ => False, fun _ _ => False⟩ (start ["calls", "drawing", "told", "at", "first", "behind", "numbers"] vs) H := by
  obtain ⟨la, cs, rfl, hla, h40, hfit, hsum, q⟩ := h
  refine ⟨_, pss_cons (ps_set (i := 1) scAnswers.nd rfl (.inl rfl) (pe_mk00 cD hr (by decide) rfl))
    (pss_cons (ps_set (i := 2) scAnswers.nd rfl (.inl rfl) (pe_lst pa_nil))
    (pss_cons (ps_set (i := 3) scAnswers.nd rfl (.inl rfl) pe_int)
    (pss_cons (ps_while PassesOwn.never (pt_cmpR op_lt (pv 3) (pe_callB call_len_seq rfl O.len (by decide +kernel) (pa_cons (pv 0) pa_nil)) (nomark _))
      (pss_cons (ps_set (i := 4) scAnswers.nd rfl (.inl rfl) (C8.pe_c cF hr (by decide) rfl (pa_cons (pv 0) (pa_cons (pv 3) pa_nil))))
      (pss_cons (ps_set (i := 5) scAnswers.nd rfl (.inl rfl) (pe_op op_add (pv 4) (C8.pe_c cH hr (by decide) rfl (pa_cons (pv 0) (pa_cons (pv 3) pa_nil)))))
      (pss_cons (ps_set (i := 6) scAnswers.nd rfl (.inl rfl) (C8.pe_c cA hr (by decide) rfl (pa_cons (pv 1) (pa_cons (pe_ix ix_list (pv 0) (pv 3) (fun _ _ => rfl)) (pa_cons (pe_slice sl_list (pv 0) (po_some (pv 4)) (po_some (pv 5))) pa_nil)))))
      (pss_cons (ps_expr (pe_bm PySem.F.plainAttrs_list PySem.F.slot_list_append PySem.F.type_list_append mt_append (pv 2) (pa_cons (pe_callB call_len_seq rfl O.len (by decide +kernel) (pa_cons (pv 6) pa_nil)) pa_nil)))
      (pss_cons (ps_expr (pe_bm PySem.F.plainAttrs_list PySem.F.slot_list_extend PySem.F.type_list_extend mt_extend (pv 2) (pa_cons (pv 6) pa_nil)))
      (pss_one (ps_set (i := 3) scAnswers.nd rfl (.inl rfl) (pv 5)))))))))
    (pss_one (ps_ret (pv 2)))))), ?_⟩
  have hz : sizeLine = 16777216 := by decide
  intro d dx hd hdx nd
  have s1 : Same H (upd (upd H dx (.own d)) d (.ins CD dx [])) := same_put (same_put (Same.refl H) hdx) hd
  refine ⟨fun _ => False, d, dx, rfl, upd_same, (fun _ z => z.elim), fun H1 dA1 _ fT1 => ⟨rfl, ?_⟩⟩
  have hla1 : In K H1 la (iVs (cs.flatMap enc)) := hla.keep ((TupK.sm s1).trans fT1)
  refine ⟨(by show 0 ≤ sizeLine; decide), fun tl htl => ?_⟩
  have dA2 := dA1.more (l := tl) (H1 := upd H1 tl (.lst [])) (same_put (Same.refl _) htl) htl upd_same
  have hla2 : In K (upd H1 tl (.lst [])) la (iVs (cs.flatMap enc)) := hla1.keep (TupK.sm (same_put (Same.refl _) htl))
  have htl2 : (upd H1 tl (.lst [])) tl = some (.lst []) := upd_same
  revert dA2 hla2 htl2
  generalize upd H1 tl (.lst []) = H2
  intro dA2 hla2 htl2
  refine while_by (fun σ H' => ∃ (done rest : List Ie08.Call) (v4 v5 v6 : Option V), cs = done ++ rest ∧ σ = [some (.ref la), some (.ref d), some (.ref tl), some (nV (done.flatMap enc).length), v4, v5, v6] ∧ DrawAt CD CB CS (fun a => False ∨ a = tl) H' d (after Ie08.init done) ∧
    StOk done.length (after Ie08.init done) ∧ H' tl = some (.lst (iVs (PyFlat.told (run Ie08.init done)))) ∧ In K H' la (iVs (cs.flatMap enc))) (fun σ _ => (cs.flatMap enc).length - atOf σ) ⟨[], cs, none, none, none, rfl, rfl, dA2, init_ok, htl2, hla2⟩ ?_ ?_
  · rintro σ H' ⟨done, rest, v4, v5, v6, rfl, rfl, dA, ok, ht, hl⟩
    refine ⟨_, rfl, _, rfl, la, _, rfl, .inl hl.sq, _, _, rfl, rfl, _, rfl, ?_⟩
    rw [iVs_len]
    cases rest with
    | nil =>
      rw [List.append_nil]
      refine iteF' (decide_eq_false (fun z => Nat.lt_irrefl _ (Int.ofNat_lt.mp z))) ?_
      refine ⟨_, rfl, ?_⟩
      rw [List.append_nil] at q
      exact q H' tl ht
    | cons c r =>
      have ezs : (done ++ c :: r).flatMap enc = done.flatMap enc ++ ((heads c ++ ns (args c)) ++ r.flatMap enc) := by
        rw [List.flatMap_append, List.flatMap_cons, enc_eq]
      have eds : (done ++ [c]).flatMap enc = done.flatMap enc ++ (heads c ++ ns (args c)) := by
        rw [List.flatMap_append, List.flatMap_cons, enc_eq, List.flatMap_nil, List.append_nil]
      have hfc : Fits c := hfit c (List.mem_append_right _ (.head _))
      have hhl := heads_len c
      have hh1 : 1 ≤ (heads c).length := by
        rw [hhl]
        split <;> omega
      have hnl := ns_len (args c)
      have hmax : (PyFlat.told (run Ie08.init (done ++ [c]))).length ≤ 1000040 := by
        have z : (PyFlat.told (run Ie08.init (done ++ c :: r))).length ≤ 1000040 := by
          rw [told_len, run_len]
          omega
        rw [show done ++ c :: r = (done ++ [c]) ++ r by rw [List.append_assoc]; rfl, run_append, told_append, List.length_append] at z
        omega
      have hdl : done.length ≤ 40 := by
        rw [List.length_append] at h40
        omega
      rw [told_snoc, List.length_append, List.length_cons] at hmax
      have g0 : ((done ++ c :: r).flatMap enc)[(done.flatMap enc).length]? = some ((code c : Nat) : Int) := by
        rw [ezs]
        refine get_mid (i := 0) ?_
        rw [List.getElem?_append_left hh1]
        exact heads_code c
      have g1 : code c = 6 → ((done ++ c :: r).flatMap enc)[(done.flatMap enc).length + 1]? = some (((args c).length : Nat) : Int) := fun h6 => by
        rw [ezs]
        refine get_mid (i := 1) ?_
        rw [List.getElem?_append_left (by rw [hhl, if_pos h6]; decide)]
        exact heads_count c h6
      have elen : ((done ++ c :: r).flatMap enc).length = (done.flatMap enc).length + ((heads c).length + (args c).length + (r.flatMap enc).length) := by
        rw [ezs, List.length_append, List.length_append, List.length_append, hnl]
      refine iteT' (decide_eq_true (Int.ofNat_lt.mpr (by omega))) ?_
      refine ⟨_, rfl, _, rfl, la, _, _, code c, rfl, hl.sq, g0, ?_⟩
      have eF : (if code c = 6 then (done.flatMap enc).length + 2 else (done.flatMap enc).length + 1) = (done.flatMap enc).length + (heads c).length := by
        rw [hhl]
        split <;> rfl
      rw [eF]
      refine ⟨_, rfl, _, rfl, _, rfl, la, _, _, code c, (args c).length, rfl, hl.sq, g0, g1, counts_at c, _, _, rfl, rfl, ?_⟩
      refine ⟨_, rfl, _, rfl, _, rfl, la, _, _, V.int ((code c : Nat) : Int), rfl, rfl, hl.sq, atI_nat (iVs_get g0), _, rfl, _, rfl, _, rfl, _, rfl, _, rfl, la, _, rfl, hl.sq, fun lg hlg => ?_⟩
      have ecut : cutV (iVs ((done ++ c :: r).flatMap enc)) (some (((done.flatMap enc).length + (heads c).length : Nat) : Int)) (some ((((done.flatMap enc).length + (heads c).length : Nat) : Int) + (((args c).length : Nat) : Int))) = nVs (args c) := by
        rw [ezs, iVs_app, iVs_app, iVs_app, iVs_ns]
        refine cut_mid _ _ _ _ _ _ ?_ ?_
        · rw [iVs_len, iVs_len]
        · rw [iVs_len, iVs_len, nVs_len]
          omega
      rw [ecut]
      have s3 : Same H' (upd H' lg (.lst (nVs (args c)))) := same_put (Same.refl _) hlg
      have hlg3 : upd H' lg (.lst (nVs (args c))) lg = some (.lst (nVs (args c))) := upd_same
      revert s3 hlg3
      generalize upd H' lg (.lst (nVs (args c))) = H3
      intro s3 hlg3
      have hX : Lists (fun a => False ∨ a = tl) H' := fun a z => by
        rcases z with z | z
        · exact z.elim
        · rw [z]
          exact ⟨_, ht⟩
      have dA3 := dA.keep (Keep.sm s3 hX) fun o e => s3 _ _ e
      refine ⟨fun a => False ∨ a = tl, d, lg, after Ie08.init done, done.length, c, rfl, hfc, dA3, ok, by omega, hlg3, fun H4 p dA4 fX4 fT4 xp hp4 => ?_⟩
      have ht4 : H4 tl = some (.lst (iVs (PyFlat.told (run Ie08.init done)))) := (fX4 tl (.inr rfl)).trans (s3 _ _ ht)
      have npt : p ≠ tl := fun z => xp (.inr z)
      have hX4 : Lists (fun a => False ∨ a = tl) H4 := fun a z => by
        rcases z with z | z
        · exact z.elim
        · rw [z]
          exact ⟨_, ht4⟩
      refine ⟨_, rfl, .inl ⟨rfl, _, SqL.of ht4⟩, _, rfl, p, _, rfl, .inl (SqL.of hp4), tl, _, _, rfl, rfl, ht4, (by rw [iVs_len]; omega), ?_⟩
      refine ⟨_, rfl, .inl ⟨rfl, _, SqL.of upd_same⟩, _, rfl, tl, p, _, _, rfl, rfl, upd_same, (by rw [upd_ne npt]; exact hp4), (by rw [List.length_append, List.length_singleton, iVs_len, iVs_len]; omega), ?_⟩
      rw [upd_upd]
      obtain ⟨dx4, _, _, _, _, _, hd4, _⟩ := id dA4
      have ndt : d ≠ tl := ne_of hd4 ht4 (by intro z; cases z)
      have eout : (iVs (PyFlat.told (run Ie08.init done)) ++ [V.int (((iVs (Ie08.step (after Ie08.init done) c).2).length : Nat) : Int)] ++ iVs (Ie08.step (after Ie08.init done) c).2) = iVs (PyFlat.told (run Ie08.init (done ++ [c]))) := by
        rw [told_snoc, iVs_app, iVs_len, List.append_assoc]
        rfl
      have eat : V.int ((((done.flatMap enc).length + (heads c).length : Nat) : Int) + (((args c).length : Nat) : Int)) = nV ((done ++ [c]).flatMap enc).length := by
        rw [eds, List.length_append, List.length_append, hnl]
        show V.int _ = V.int _
        congr 1
        omega
      refine ⟨_, rfl, ⟨done ++ [c], r, some (nV ((done.flatMap enc).length + (heads c).length)), some (V.int ((((done.flatMap enc).length + (heads c).length : Nat) : Int) + (((args c).length : Nat) : Int))), some (.ref p), (by rw [List.append_assoc]; rfl), ?_, ?_, ?_, ?_, ?_⟩, ?_⟩
      · rw [← eat]
        rfl
      · rw [after_snoc]
        exact dA4.keep (Keep.out hX4 (.inr rfl)) fun o e => by
          rw [upd_ne ndt]
          exact e
      · rw [after_snoc, List.length_append]
        exact step_ok ok c
      · rw [upd_same, eout]
      · refine hl.keep (((TupK.sm s3).trans fT4).trans fun b o e f => ?_)
        rw [upd_ne (f.nl e ht4)]
        exact e
      · show ((done ++ c :: r).flatMap enc).length - ((((done.flatMap enc).length + (heads c).length : Nat) : Int) + (((args c).length : Nat) : Int)).toNat < ((done ++ c :: r).flatMap enc).length - (((done.flatMap enc).length : Nat) : Int).toNat
        omega
  · rintro σ H' R R' f ⟨v, e1, u, e2, p, ys, e3, e4, i, j, e5, e6, b, e7, k⟩
    exact ⟨v, e1, u, e2, p, ys, e3, e4, i, j, e5, e6, b, e7, f _ _ k⟩
end
end Bw
namespace Bw
open PySem PySem.Spec PyProof.Rows L2
open Ie08 (Cell near between gap)
section
variable {P : Program} {w : World} {K : PySem.W.Frag} {h : Heap} {mg : Str → Option Value} {C f : Addr} {x m qual : Str} {st : Stmt} {ps : List Str} {oc kV dc pm cd ct : Value} {od an : Option Addr} {sl : Array (Option Value)}
theorem fun_at (l : K.lookup f = some ⟨oc, od, .func (PySem.W.fnOf m qual (C8.fnArgs st) (C8.fnBody st) (C8.fnScope st) .none kV dc pm an cd ct), sl⟩) (c : PySem.W.codeIn K cd qual = true) :
    C8.Fun K m qual st f (PySem.W.fnOf m qual (C8.fnArgs st) (C8.fnBody st) (C8.fnScope st) .none kV dc pm an cd ct) := ⟨⟨oc, od, .none, kV, dc, pm, an, cd, ct, sl, rfl, l, c⟩⟩
theorem def_at (X : K.In h) (G : h.Ns mainGlobals mg) (hb : ∀ (kV doc pm : Value) (an : Option Addr) (cdv ct : Value) (us : List Value), us.length = ps.length → bindArgs (PySem.W.fnOf x x (C8.fnArgs st) (C8.fnBody st) (C8.fnScope st) .none kV doc pm an cdv ct) ⟨us, []⟩ = pure (ps.zip us))
    (a : PySem.W.nsIn K mainGlobals x = some (some (.ref f))) (l : K.lookup f = some ⟨oc, od, .func (PySem.W.fnOf x x (C8.fnArgs st) (C8.fnBody st) (C8.fnScope st) .none kV dc pm an cd ct), sl⟩) (c : PySem.W.codeIn K cd x = true) (k : PySem.W.keepIn K (.ref f) = true) : DefAt K mg x st ps :=
  ⟨f, _, ⟨fun_at l c, PySem.W.mg_of X G a, k⟩, (fun_at l c).binds rfl hb⟩
theorem meth_at (T : Cls K C) (hb : ∀ (kV doc pm : Value) (an : Option Addr) (cdv ct : Value) (us : List Value), us.length = ps.length → bindArgs (PySem.W.fnOf m qual (C8.fnArgs st) (C8.fnBody st) (C8.fnScope st) .none kV doc pm an cdv ct) ⟨us, []⟩ = pure (ps.zip us))
    (a : PySem.W.findIn K (.ref C) m = some (some (.ref f))) (i : PySem.W.isFn K (.ref f) = true) (l : K.lookup f = some ⟨oc, od, .func (PySem.W.fnOf m qual (C8.fnArgs st) (C8.fnBody st) (C8.fnScope st) .none kV dc pm an cd ct), sl⟩) (c : PySem.W.codeIn K cd qual = true) (k : PySem.W.keepIn K (.ref f) = true) : MethAt K C m qual st ps :=
  ⟨f, _, T, ⟨a, i, k⟩, fun_at l c, (fun_at l c).binds rfl hb⟩
theorem mak_at (gC : mg x = some (.ref C)) (mk : PySem.W.makesIn K C = true) (kc : PySem.W.keepIn K (.ref C) = true) (hb : ∀ (kV doc pm : Value) (an : Option Addr) (cdv ct : Value) (us : List Value), us.length = ps.length → bindArgs (PySem.W.fnOf "__init__" qual (C8.fnArgs st) (C8.fnBody st) (C8.fnScope st) .none kV doc pm an cdv ct) ⟨us, []⟩ = pure (ps.zip us))
    (a : PySem.W.findIn K (.ref C) "__init__" = some (some (.ref f))) (i : PySem.W.isFn K (.ref f) = true) (l : K.lookup f = some ⟨oc, od, .func (PySem.W.fnOf "__init__" qual (C8.fnArgs st) (C8.fnBody st) (C8.fnScope st) .none kV dc pm an cd ct), sl⟩) (c : PySem.W.codeIn K cd qual = true) : MakAt K mg x C qual st ps :=
  ⟨f, _, ⟨mk, a, i, kc⟩, gC, fun_at l c, (fun_at l c).binds rfl hb⟩
theorem con_at {v : V} {u : Value} (X : K.In h) (G : h.Ns mainGlobals mg) (a : PySem.W.nsIn K mainGlobals x = some (some u)) (r : RelV v u) : ConAt mg x v := ⟨u, PySem.W.mg_of X G a, r⟩
theorem counts_mk {ca : Addr} {o : Obj} {its : Array Value} {n : Nat} (X : K.In h) (G : h.Ns mainGlobals mg) (a : PySem.W.nsIn K mainGlobals "COUNTS" = some (some (.ref ca))) (l : K.lookup ca = some o) (hc : o.cls = .type "tuple") (hd : o.data = .seq its n) (hz : its.size ≤ sizeLine) (hv : Vals (nVs counts) its.toList) : CountsAt K mg :=
  ⟨ca, ⟨_, PySem.W.mg_of X G a, rfl⟩, fun H => .inr ⟨o, its, n, l, hc, hd, hz, hv⟩⟩
end
section
variable {P : Program} {w : World} {K : PySem.W.Frag} {mg : Str → Option Value} {CB CS CD fa : Addr} {fd : FuncData}
theorem all_done (O : Own mg) (cn : Cons mg) (pc : PCons mg) (ct : CountsAt K mg) (TB : BrushC K mg CB) (TS : StrokeC K mg CS) (TD : DrawC K mg CD)
    (dB : MakAt K mg "Brush" CB "Brush.__init__" sBInit ["self", "full", "none", "space", "flow", "opacity", "tone", "build", "mirror"]) (dFirst : DefAt K mg "first_brush" sFirst []) (dIs : DefAt K mg "is_brush" sIsBrush ["brush"]) (dBefore : DefAt K mg "before_flow" sBefore ["brush", "d"]) (dStrength : DefAt K mg "strength" sStrength ["brush", "d"])
    (dNear : DefAt K mg "nearest" sNear ["top", "bottom"]) (dPlace : DefAt K mg "place_behind" sPlace ["start", "end", "i", "n"]) (dWay : DefAt K mg "way" sWay ["a", "b", "c", "d"])
    (dSides : DefAt K mg "sides" sSides ["at", "size", "mirrored"]) (dImages : DefAt K mg "images" sImages ["x", "y", "w", "h", "mirror"]) (dGrown : DefAt K mg "grown" sGrown ["mask", "gives", "build"]) (dShown : DefAt K mg "shown" sShown ["v", "m", "brush"])
    (dS : MakAt K mg "Stroke" CS "Stroke.__init__" sSInit ["self", "brush", "w", "h", "x", "y"]) (dStamp : MethAt K CS "stamp" "Stroke.stamp" sStamp ["self"]) (dGives : MethAt K CS "gives" "Stroke.gives" sGives ["self", "x", "y"]) (dAt : MethAt K CS "strength_at" "Stroke.strength_at" sAt ["self", "at", "x", "y"])
    (dLead : MethAt K CS "lead" "Stroke.lead" sLead ["self", "x", "y"]) (dShownOn : MethAt K CS "shown_on" "Stroke.shown_on" sShownOn ["self", "cells"])
    (dD : MakAt K mg "Drawing" CD "Drawing.__init__" sDInit ["self"]) (dHas : MethAt K CD "has_cell" "Drawing.has_cell" sHas ["self", "x", "y"]) (dPage : MethAt K CD "new_page" "Drawing.new_page" sPage ["self", "w", "h", "n"])
    (dChoose : MethAt K CD "choose_brush" "Drawing.choose_brush" sChoose ["self", "full", "none", "space", "flow", "opacity", "tone", "build", "mirror"]) (dBegin : MethAt K CD "begin" "Drawing.begin" sBegin ["self", "x", "y"]) (dGo : MethAt K CD "go_on" "Drawing.go_on" sGo ["self", "x", "y"])
    (dLift : MethAt K CD "lift" "Drawing.lift" sLift ["self"]) (dGiveUp : MethAt K CD "give_up" "Drawing.give_up" sGiveUp ["self"]) (dDraw : MethAt K CD "draw" "Drawing.draw" sDraw ["self", "points"]) (dUndo : MethAt K CD "undo" "Drawing.undo" sUndo ["self"])
    (dCells : DefAt K mg "cells_shown" sCells ["drawing"]) (dMask : DefAt K mg "mask_of_stroke" sMask ["drawing"]) (dStamps : DefAt K mg "stamps_of_stroke" sStamps ["drawing"]) (dTold : DefAt K mg "told_of" sTold ["drawing"])
    (dChange : DefAt K mg "change" sChange ["drawing", "call", "given"]) (dLook : DefAt K mg "look" sLook ["drawing", "call"]) (dAnswer : DefAt K mg "answer" sAnswer ["drawing", "call", "given"]) (dFG : DefAt K mg "first_given" sFirstG ["calls", "at"]) (dHow : DefAt K mg "how_many_given" sHow ["calls", "at"])
    (FA : C8.Fun K "answers" "answers" sAnswers fa fd) (base : Heap) : FnOk P w K mg base C8.CX0 12 fa fd ["calls"] (spAnswers K) := by
  have cNear : C8.Cal P w K mg base _ _ _ _ := cal_near dNear
  have cPlace : C8.Cal P w K mg base _ _ _ _ := cal_place O cNear dPlace
  have cWay : C8.Cal P w K mg base _ _ _ _ := cal_way O cPlace dWay
  have cB : C8.Mak P w K mg base _ _ _ _ _ := mak_brush TB dB
  have cFirst : C8.Cal P w K mg base _ _ _ _ := cal_first cB dFirst
  have cIs : C8.Cal P w K mg base _ _ (spIsBrush CB) _ := cal_isBrush O TB dIs
  have cBefore : C8.Cal P w K mg base _ _ (spBefore CB) _ := cal_before TB dBefore
  have cStrength : C8.Cal P w K mg base _ _ _ _ := cal_strength TB cBefore dStrength
  have cSides : C8.Cal P w K mg base _ _ _ _ := cal_sides dSides
  have cImages : C8.Cal P w K mg base _ _ _ _ := cal_images cSides dImages
  have cGrown : C8.Cal P w K mg base _ _ _ _ := cal_grown O dGrown
  have cShown : C8.Cal P w K mg base _ _ (spShown CB) _ := cal_shown O TB cNear dShown
  have mAt : C8.Met P w K mg base _ CS _ _ _ := met_at TS cStrength dAt
  have mGives : C8.Met P w K mg base _ CS _ _ _ := met_gives O TB TS mAt dGives
  have mStamp : C8.Met P w K mg base _ CS _ _ _ := met_stamp O TB TS cImages cGrown mGives dStamp
  have cS : C8.Mak P w K mg base _ _ _ _ _ := mak_stroke TB TS mStamp dS
  have mLead : C8.Met P w K mg base _ CS _ _ _ := met_lead TB TS cWay mStamp dLead
  have mShownOn : C8.Met P w K mg base _ CS _ _ _ := met_shownOn O TB TS cShown dShownOn
  have cD : C8.Mak P w K mg base _ _ _ (spDInit CD CB CS) _ := mak_draw TD cFirst dD
  have mHas : C8.Met P w K mg base _ CD _ _ _ := met_has TD dHas
  have mPage : C8.Met P w K mg base _ CD _ (spPage CD CB CS) _ := met_page TD cn dPage
  have mChoose : C8.Met P w K mg base _ CD _ (spChoose CD CB CS) _ := met_choose TD cn cB cIs dChoose
  have mBegin : C8.Met P w K mg base _ CD _ _ _ := met_begin O TD TS cn mHas cS dBegin
  have mGo : C8.Met P w K mg base _ CD _ _ _ := met_go O TD TS cn mHas mLead dGo
  have mLift : C8.Met P w K mg base _ CD _ _ _ := met_lift O TD TS cn mShownOn dLift
  have mGiveUp : C8.Met P w K mg base _ CD _ (spGiveUp CD CB CS) _ := met_giveUp O TD TS cn dGiveUp
  have mDraw : C8.Met P w K mg base _ CD _ _ _ := met_draw O TD cn mHas mBegin mGo mLift dDraw
  have mUndo : C8.Met P w K mg base _ CD _ (spUndo CD CB CS) _ := met_undo O TD cn dUndo
  have cCells : C8.Cal P w K mg base _ _ _ _ := cal_cells O TD mShownOn dCells
  have cMask : C8.Cal P w K mg base _ _ (spLook CD CB CS .mask) _ := cal_mask O TD TS cn dMask
  have cStamps : C8.Cal P w K mg base _ _ (spLook CD CB CS .stamps) _ := cal_stamps O TD TS cn dStamps
  have cTold : C8.Cal P w K mg base _ _ (spLook CD CB CS .told) _ := cal_told O TD dTold
  have cChange : C8.Cal P w K mg base _ _ _ _ := cal_change pc mPage mChoose mBegin mGo mLift mGiveUp mDraw mUndo dChange
  have cLook : C8.Cal P w K mg base _ _ _ _ := cal_look pc cCells cMask cStamps cTold dLook
  have cAnswer : C8.Cal P w K mg base _ _ _ _ := cal_answer pc cChange cLook dAnswer
  have cFG : C8.Cal P w K mg base _ _ _ _ := cal_fg pc dFG
  have cHow : C8.Cal P w K mg base _ _ _ _ := cal_how pc ct dHow
  refine C8.fn0 FA scAnswers (fun vs H Q E h => ?_) fun cdv A outer s H vs Q E hr h => fn_answers O TD cD cFG cHow cAnswer cdv fa A outer s H vs Q E hr h
  obtain ⟨la, cs, rfl, _⟩ := h
  rfl
theorem all_mk {h : Heap} {f : Addr} {oc kV dc pm cd co : Value} {od an : Option Addr} {sl : Array (Option Value)} (KX : K.In h) (G : h.Ns mainGlobals mg) (hfa : mg "answers" = some (.ref fa)) (gB : PySem.W.nsIn K mainGlobals "Brush" = some (some (.ref CB))) (gS : PySem.W.nsIn K mainGlobals "Stroke" = some (some (.ref CS))) (gD : PySem.W.nsIn K mainGlobals "Drawing" = some (some (.ref CD)))
    (O : Own mg) (cn : Cons mg) (pc : PCons mg) (ct : CountsAt K mg) (TB : BrushC K mg CB) (TS : StrokeC K mg CS) (TD : DrawC K mg CD)
    (dB : MakAt K mg "Brush" CB "Brush.__init__" sBInit ["self", "full", "none", "space", "flow", "opacity", "tone", "build", "mirror"]) (dFirst : DefAt K mg "first_brush" sFirst []) (dIs : DefAt K mg "is_brush" sIsBrush ["brush"]) (dBefore : DefAt K mg "before_flow" sBefore ["brush", "d"]) (dStrength : DefAt K mg "strength" sStrength ["brush", "d"])
    (dNear : DefAt K mg "nearest" sNear ["top", "bottom"]) (dPlace : DefAt K mg "place_behind" sPlace ["start", "end", "i", "n"]) (dWay : DefAt K mg "way" sWay ["a", "b", "c", "d"])
    (dSides : DefAt K mg "sides" sSides ["at", "size", "mirrored"]) (dImages : DefAt K mg "images" sImages ["x", "y", "w", "h", "mirror"]) (dGrown : DefAt K mg "grown" sGrown ["mask", "gives", "build"]) (dShown : DefAt K mg "shown" sShown ["v", "m", "brush"])
    (dS : MakAt K mg "Stroke" CS "Stroke.__init__" sSInit ["self", "brush", "w", "h", "x", "y"]) (dStamp : MethAt K CS "stamp" "Stroke.stamp" sStamp ["self"]) (dGives : MethAt K CS "gives" "Stroke.gives" sGives ["self", "x", "y"]) (dAt : MethAt K CS "strength_at" "Stroke.strength_at" sAt ["self", "at", "x", "y"])
    (dLead : MethAt K CS "lead" "Stroke.lead" sLead ["self", "x", "y"]) (dShownOn : MethAt K CS "shown_on" "Stroke.shown_on" sShownOn ["self", "cells"])
    (dD : MakAt K mg "Drawing" CD "Drawing.__init__" sDInit ["self"]) (dHas : MethAt K CD "has_cell" "Drawing.has_cell" sHas ["self", "x", "y"]) (dPage : MethAt K CD "new_page" "Drawing.new_page" sPage ["self", "w", "h", "n"])
    (dChoose : MethAt K CD "choose_brush" "Drawing.choose_brush" sChoose ["self", "full", "none", "space", "flow", "opacity", "tone", "build", "mirror"]) (dBegin : MethAt K CD "begin" "Drawing.begin" sBegin ["self", "x", "y"]) (dGo : MethAt K CD "go_on" "Drawing.go_on" sGo ["self", "x", "y"])
    (dLift : MethAt K CD "lift" "Drawing.lift" sLift ["self"]) (dGiveUp : MethAt K CD "give_up" "Drawing.give_up" sGiveUp ["self"]) (dDraw : MethAt K CD "draw" "Drawing.draw" sDraw ["self", "points"]) (dUndo : MethAt K CD "undo" "Drawing.undo" sUndo ["self"])
    (dCells : DefAt K mg "cells_shown" sCells ["drawing"]) (dMask : DefAt K mg "mask_of_stroke" sMask ["drawing"]) (dStamps : DefAt K mg "stamps_of_stroke" sStamps ["drawing"]) (dTold : DefAt K mg "told_of" sTold ["drawing"])
    (dChange : DefAt K mg "change" sChange ["drawing", "call", "given"]) (dLook : DefAt K mg "look" sLook ["drawing", "call"]) (dAnswer : DefAt K mg "answer" sAnswer ["drawing", "call", "given"]) (dFG : DefAt K mg "first_given" sFirstG ["calls", "at"]) (dHow : DefAt K mg "how_many_given" sHow ["calls", "at"])
    (aA : PySem.W.nsIn K mainGlobals "answers" = some (some (.ref f))) (lA : K.lookup f = some ⟨oc, od, .func (PySem.W.fnOf "answers" "answers" (C8.fnArgs sAnswers) (C8.fnBody sAnswers) (C8.fnScope sAnswers) .none kV dc pm an cd co), sl⟩) (cA : PySem.W.codeIn K cd "answers" = true) :
    ∃ fd : FuncData, (∀ (s : Shared) (us : List Value), us.length = (["calls"] : List Str).length → BindsTo s fd ⟨us, []⟩ ((["calls"] : List Str).zip us)) ∧ ∀ base : Heap, K.In base → base.Ns mainGlobals mg → FnOk P w K mg base C8.CX0 12 fa fd ["calls"] (spAnswers K) := by
  have e := hfa.symm.trans (PySem.W.mg_of KX G aA)
  cases e
  exact ⟨_, fun s us hu => match us, hu with | [_], _ => .of_eq rfl, fun base _ _ => all_done O cn pc ct TB TS TD dB dFirst dIs dBefore dStrength dNear dPlace dWay dSides dImages dGrown dShown dS dStamp dGives dAt dLead dShownOn dD dHas dPage dChoose dBegin dGo dLift dGiveUp dDraw dUndo dCells dMask dStamps dTold dChange dLook dAnswer dFG dHow (fun_at lA cA) base⟩
theorem asks {K : PySem.W.Frag} {H : Hp} {la : Addr} {l : List Int} {Q : VK} {E : XK} (hO : OnlyF H) (hs : SqL K H la (l.map V.int)) (hask : PyIe08.answers_asked l = true) (q : ∀ (H' : Hp) (p : Addr), H' p = some (.lst ((PyIe08.answers l).map V.int)) → Q (.ref p) H') : spAnswers K [.ref la] H Q E := by
  obtain ⟨cs, h1, h2, rfl, h4, h5⟩ := asked_calls hask
  refine ⟨la, cs, rfl, In.of hO hs, h1, h2, h5, fun H' p hp => q H' p ?_⟩
  rw [h4]
  exact hp
end
end Bw
open PySem PySem.W PyProof.Rows
set_option maxRecDepth 100000 in
set_option maxHeartbeats 0 in
theorem PySem.Challenge.cw_brushway_s01_answers_holds : PySem.Challenge.rw_brushway_s01_answers.Holds := by
  w_on; k_headS; (case hw => exact ⟨[.list [.int 4]], by decide +kernel, by decide +kernel⟩)
  k_fillS
  refine L2.walk_specK (r := PySem.Challenge.rw_brushway_s01_answers) (k := 12) (CX := C8.CX0) (ps := ["calls"]) (sp := Bw.spAnswers) (by decide +kernel) rfl rfl ⟨rfl, by decide, by decide⟩ (fun w h Y => PySem.W.kIn_of Y) ?F ?S (fun _ _ _ _ z => z)
  case F =>
    intro w mg fa h Y KX G hmg
    refine' Bw.all_mk KX G hmg ?gB ?gS ?gD ?O ?cn ?pc ?ct ?TB ?TS ?TD ?dB ?dFirst ?dIs ?dBefore ?dStrength ?dNear ?dPlace ?dWay ?dSides ?dImages ?dGrown ?dShown ?dS ?dStamp ?dGives ?dAt ?dLead ?dShownOn ?dD ?dHas ?dPage ?dChoose ?dBegin ?dGo ?dLift ?dGiveUp ?dDraw ?dUndo ?dCells ?dMask ?dStamps ?dTold ?dChange ?dLook ?dAnswer ?dFG ?dHow ?aA ?lA ?cA
    (case gB => k_is)
    (case gS => k_is)
    (case gD => k_is)
    (case O =>
      refine' ⟨PySem.W.mg_none_of KX G ?O0, PySem.W.mg_none_of KX G ?O1, PySem.W.mg_none_of KX G ?O2, PySem.W.mg_none_of KX G ?O3, PySem.W.mg_none_of KX G ?O4, PySem.W.mg_none_of KX G ?O5, PySem.W.mg_none_of KX G ?O6, PySem.W.mg_none_of KX G ?O7, PySem.W.mg_none_of KX G ?O8⟩
      (case O0 => k_is)
      (case O1 => k_is)
      (case O2 => k_is)
      (case O3 => k_is)
      (case O4 => k_is)
      (case O5 => k_is)
      (case O6 => k_is)
      (case O7 => k_is)
      (case O8 => k_is))
    (case cn =>
      refine' ⟨Bw.con_at KX G ?cn0 ?cr0, Bw.con_at KX G ?cn1 ?cr1, Bw.con_at KX G ?cn2 ?cr2, Bw.con_at KX G ?cn3 ?cr3, Bw.con_at KX G ?cn4 ?cr4, Bw.con_at KX G ?cn5 ?cr5, Bw.con_at KX G ?cn6 ?cr6⟩
      (case cn0 => k_is); (case cr0 => exact ⟨_, rfl⟩)
      (case cn1 => k_is); (case cr1 => exact ⟨_, rfl⟩)
      (case cn2 => k_is); (case cr2 => exact ⟨_, rfl⟩)
      (case cn3 => k_is); (case cr3 => exact ⟨_, rfl⟩)
      (case cn4 => k_is); (case cr4 => exact ⟨_, rfl⟩)
      (case cn5 => k_is); (case cr5 => exact ⟨_, rfl⟩)
      (case cn6 => k_is); (case cr6 => exact ⟨_, rfl⟩))
    (case pc =>
      refine' ⟨Bw.con_at KX G ?pc0 ?pr0, Bw.con_at KX G ?pc1 ?pr1, Bw.con_at KX G ?pc2 ?pr2, Bw.con_at KX G ?pc3 ?pr3, Bw.con_at KX G ?pc4 ?pr4, Bw.con_at KX G ?pc5 ?pr5, Bw.con_at KX G ?pc6 ?pr6, Bw.con_at KX G ?pc7 ?pr7, Bw.con_at KX G ?pc8 ?pr8, Bw.con_at KX G ?pc9 ?pr9, Bw.con_at KX G ?pc10 ?pr10⟩
      (case pc0 => k_is); (case pr0 => exact ⟨_, rfl⟩)
      (case pc1 => k_is); (case pr1 => exact ⟨_, rfl⟩)
      (case pc2 => k_is); (case pr2 => exact ⟨_, rfl⟩)
      (case pc3 => k_is); (case pr3 => exact ⟨_, rfl⟩)
      (case pc4 => k_is); (case pr4 => exact ⟨_, rfl⟩)
      (case pc5 => k_is); (case pr5 => exact ⟨_, rfl⟩)
      (case pc6 => k_is); (case pr6 => exact ⟨_, rfl⟩)
      (case pc7 => k_is); (case pr7 => exact ⟨_, rfl⟩)
      (case pc8 => k_is); (case pr8 => exact ⟨_, rfl⟩)
      (case pc9 => k_is); (case pr9 => exact ⟨_, rfl⟩)
      (case pc10 => k_is); (case pr10 => exact ⟨_, rfl⟩))
    (case ct =>
      refine' Bw.counts_mk KX G ?cta ?ctl ?ctc ?ctd ?ctz ?ctv
      (case cta => k_is); (case ctl => k_is); (case ctc => rfl); (case ctd => rfl); (case ctz => decide)
      (case ctv => exact .cons ⟨_, rfl⟩ (.cons ⟨_, rfl⟩ (.cons ⟨_, rfl⟩ (.cons ⟨_, rfl⟩ (.cons ⟨_, rfl⟩ (.cons ⟨_, rfl⟩ (.cons ⟨_, rfl⟩ (.cons ⟨_, rfl⟩ (.cons ⟨_, rfl⟩ (.cons ⟨_, rfl⟩ (.cons ⟨_, rfl⟩ (.cons ⟨_, rfl⟩ (.nil))))))))))))))
    (case TB =>
      refine' ⟨⟨?TBpg, ?TBhd, ?TBpo, ?TBsa⟩, ?TBn0, ?TBn1, ?TBn2, ?TBn3, ?TBn4, ?TBn5, ?TBn6, ?TBn7⟩
      (case TBpg => k_is); (case TBhd => k_is); (case TBpo => k_is); (case TBsa => k_is)
      (case TBn0 => (show PySem.W.findIn _ _ _ = _); k_is)
      (case TBn1 => (show PySem.W.findIn _ _ _ = _); k_is)
      (case TBn2 => (show PySem.W.findIn _ _ _ = _); k_is)
      (case TBn3 => (show PySem.W.findIn _ _ _ = _); k_is)
      (case TBn4 => (show PySem.W.findIn _ _ _ = _); k_is)
      (case TBn5 => (show PySem.W.findIn _ _ _ = _); k_is)
      (case TBn6 => (show PySem.W.findIn _ _ _ = _); k_is)
      (case TBn7 => (show PySem.W.findIn _ _ _ = _); k_is))
    (case TS =>
      refine' ⟨⟨?TSpg, ?TShd, ?TSpo, ?TSsa⟩, ?TSn0, ?TSn1, ?TSn2, ?TSn3, ?TSn4, ?TSn5, ?TSn6, ?TSn7, ?TSn8⟩
      (case TSpg => k_is); (case TShd => k_is); (case TSpo => k_is); (case TSsa => k_is)
      (case TSn0 => (show PySem.W.findIn _ _ _ = _); k_is)
      (case TSn1 => (show PySem.W.findIn _ _ _ = _); k_is)
      (case TSn2 => (show PySem.W.findIn _ _ _ = _); k_is)
      (case TSn3 => (show PySem.W.findIn _ _ _ = _); k_is)
      (case TSn4 => (show PySem.W.findIn _ _ _ = _); k_is)
      (case TSn5 => (show PySem.W.findIn _ _ _ = _); k_is)
      (case TSn6 => (show PySem.W.findIn _ _ _ = _); k_is)
      (case TSn7 => (show PySem.W.findIn _ _ _ = _); k_is)
      (case TSn8 => (show PySem.W.findIn _ _ _ = _); k_is))
    (case TD =>
      refine' ⟨⟨?TDpg, ?TDhd, ?TDpo, ?TDsa⟩, ?TDn0, ?TDn1, ?TDn2, ?TDn3, ?TDn4, ?TDn5⟩
      (case TDpg => k_is); (case TDhd => k_is); (case TDpo => k_is); (case TDsa => k_is)
      (case TDn0 => (show PySem.W.findIn _ _ _ = _); k_is)
      (case TDn1 => (show PySem.W.findIn _ _ _ = _); k_is)
      (case TDn2 => (show PySem.W.findIn _ _ _ = _); k_is)
      (case TDn3 => (show PySem.W.findIn _ _ _ = _); k_is)
      (case TDn4 => (show PySem.W.findIn _ _ _ = _); k_is)
      (case TDn5 => (show PySem.W.findIn _ _ _ = _); k_is))
    (case dFirst =>
      refine' Bw.def_at KX G (fun _ _ _ _ _ _ us hl => match us, hl with | [], _ => rfl) ?dFirsta ?dFirstl ?dFirstc ?dFirstk
      (case dFirsta => k_is); (case dFirstl => k_is); (case dFirstc => k_is); (case dFirstk => k_is))
    (case dIs =>
      refine' Bw.def_at KX G (fun _ _ _ _ _ _ us hl => match us, hl with | [_], _ => rfl) ?dIsa ?dIsl ?dIsc ?dIsk
      (case dIsa => k_is); (case dIsl => k_is); (case dIsc => k_is); (case dIsk => k_is))
    (case dBefore =>
      refine' Bw.def_at KX G (fun _ _ _ _ _ _ us hl => match us, hl with | [_, _], _ => rfl) ?dBeforea ?dBeforel ?dBeforec ?dBeforek
      (case dBeforea => k_is); (case dBeforel => k_is); (case dBeforec => k_is); (case dBeforek => k_is))
    (case dStrength =>
      refine' Bw.def_at KX G (fun _ _ _ _ _ _ us hl => match us, hl with | [_, _], _ => rfl) ?dStrengtha ?dStrengthl ?dStrengthc ?dStrengthk
      (case dStrengtha => k_is); (case dStrengthl => k_is); (case dStrengthc => k_is); (case dStrengthk => k_is))
    (case dNear =>
      refine' Bw.def_at KX G (fun _ _ _ _ _ _ us hl => match us, hl with | [_, _], _ => rfl) ?dNeara ?dNearl ?dNearc ?dNeark
      (case dNeara => k_is); (case dNearl => k_is); (case dNearc => k_is); (case dNeark => k_is))
    (case dPlace =>
      refine' Bw.def_at KX G (fun _ _ _ _ _ _ us hl => match us, hl with | [_, _, _, _], _ => rfl) ?dPlacea ?dPlacel ?dPlacec ?dPlacek
      (case dPlacea => k_is); (case dPlacel => k_is); (case dPlacec => k_is); (case dPlacek => k_is))
    (case dWay =>
      refine' Bw.def_at KX G (fun _ _ _ _ _ _ us hl => match us, hl with | [_, _, _, _], _ => rfl) ?dWaya ?dWayl ?dWayc ?dWayk
      (case dWaya => k_is); (case dWayl => k_is); (case dWayc => k_is); (case dWayk => k_is))
    (case dSides =>
      refine' Bw.def_at KX G (fun _ _ _ _ _ _ us hl => match us, hl with | [_, _, _], _ => rfl) ?dSidesa ?dSidesl ?dSidesc ?dSidesk
      (case dSidesa => k_is); (case dSidesl => k_is); (case dSidesc => k_is); (case dSidesk => k_is))
    (case dImages =>
      refine' Bw.def_at KX G (fun _ _ _ _ _ _ us hl => match us, hl with | [_, _, _, _, _], _ => rfl) ?dImagesa ?dImagesl ?dImagesc ?dImagesk
      (case dImagesa => k_is); (case dImagesl => k_is); (case dImagesc => k_is); (case dImagesk => k_is))
    (case dGrown =>
      refine' Bw.def_at KX G (fun _ _ _ _ _ _ us hl => match us, hl with | [_, _, _], _ => rfl) ?dGrowna ?dGrownl ?dGrownc ?dGrownk
      (case dGrowna => k_is); (case dGrownl => k_is); (case dGrownc => k_is); (case dGrownk => k_is))
    (case dShown =>
      refine' Bw.def_at KX G (fun _ _ _ _ _ _ us hl => match us, hl with | [_, _, _], _ => rfl) ?dShowna ?dShownl ?dShownc ?dShownk
      (case dShowna => k_is); (case dShownl => k_is); (case dShownc => k_is); (case dShownk => k_is))
    (case dCells =>
      refine' Bw.def_at KX G (fun _ _ _ _ _ _ us hl => match us, hl with | [_], _ => rfl) ?dCellsa ?dCellsl ?dCellsc ?dCellsk
      (case dCellsa => k_is); (case dCellsl => k_is); (case dCellsc => k_is); (case dCellsk => k_is))
    (case dMask =>
      refine' Bw.def_at KX G (fun _ _ _ _ _ _ us hl => match us, hl with | [_], _ => rfl) ?dMaska ?dMaskl ?dMaskc ?dMaskk
      (case dMaska => k_is); (case dMaskl => k_is); (case dMaskc => k_is); (case dMaskk => k_is))
    (case dStamps =>
      refine' Bw.def_at KX G (fun _ _ _ _ _ _ us hl => match us, hl with | [_], _ => rfl) ?dStampsa ?dStampsl ?dStampsc ?dStampsk
      (case dStampsa => k_is); (case dStampsl => k_is); (case dStampsc => k_is); (case dStampsk => k_is))
    (case dTold =>
      refine' Bw.def_at KX G (fun _ _ _ _ _ _ us hl => match us, hl with | [_], _ => rfl) ?dTolda ?dToldl ?dToldc ?dToldk
      (case dTolda => k_is); (case dToldl => k_is); (case dToldc => k_is); (case dToldk => k_is))
    (case dChange =>
      refine' Bw.def_at KX G (fun _ _ _ _ _ _ us hl => match us, hl with | [_, _, _], _ => rfl) ?dChangea ?dChangel ?dChangec ?dChangek
      (case dChangea => k_is); (case dChangel => k_is); (case dChangec => k_is); (case dChangek => k_is))
    (case dLook =>
      refine' Bw.def_at KX G (fun _ _ _ _ _ _ us hl => match us, hl with | [_, _], _ => rfl) ?dLooka ?dLookl ?dLookc ?dLookk
      (case dLooka => k_is); (case dLookl => k_is); (case dLookc => k_is); (case dLookk => k_is))
    (case dAnswer =>
      refine' Bw.def_at KX G (fun _ _ _ _ _ _ us hl => match us, hl with | [_, _, _], _ => rfl) ?dAnswera ?dAnswerl ?dAnswerc ?dAnswerk
      (case dAnswera => k_is); (case dAnswerl => k_is); (case dAnswerc => k_is); (case dAnswerk => k_is))
    (case dFG =>
      refine' Bw.def_at KX G (fun _ _ _ _ _ _ us hl => match us, hl with | [_, _], _ => rfl) ?dFGa ?dFGl ?dFGc ?dFGk
      (case dFGa => k_is); (case dFGl => k_is); (case dFGc => k_is); (case dFGk => k_is))
    (case dHow =>
      refine' Bw.def_at KX G (fun _ _ _ _ _ _ us hl => match us, hl with | [_, _], _ => rfl) ?dHowa ?dHowl ?dHowc ?dHowk
      (case dHowa => k_is); (case dHowl => k_is); (case dHowc => k_is); (case dHowk => k_is))
    (case dB =>
      refine' Bw.mak_at (PySem.W.mg_of KX G ?dBg) ?dBmk ?dBkc (fun _ _ _ _ _ _ us hl => match us, hl with | [_, _, _, _, _, _, _, _, _], _ => rfl) ?dBa ?dBi ?dBl ?dBc
      (case dBg => k_is); (case dBmk => k_is); (case dBkc => k_is); (case dBa => k_is); (case dBi => k_is); (case dBl => k_is); (case dBc => k_is))
    (case dS =>
      refine' Bw.mak_at (PySem.W.mg_of KX G ?dSg) ?dSmk ?dSkc (fun _ _ _ _ _ _ us hl => match us, hl with | [_, _, _, _, _, _], _ => rfl) ?dSa ?dSi ?dSl ?dSc
      (case dSg => k_is); (case dSmk => k_is); (case dSkc => k_is); (case dSa => k_is); (case dSi => k_is); (case dSl => k_is); (case dSc => k_is))
    (case dD =>
      refine' Bw.mak_at (PySem.W.mg_of KX G ?dDg) ?dDmk ?dDkc (fun _ _ _ _ _ _ us hl => match us, hl with | [_], _ => rfl) ?dDa ?dDi ?dDl ?dDc
      (case dDg => k_is); (case dDmk => k_is); (case dDkc => k_is); (case dDa => k_is); (case dDi => k_is); (case dDl => k_is); (case dDc => k_is))
    (case dStamp =>
      refine' Bw.meth_at ⟨?dStamppg, ?dStamphd, ?dStamppo, ?dStampsa⟩ (fun _ _ _ _ _ _ us hl => match us, hl with | [_], _ => rfl) ?dStampa ?dStampi ?dStampl ?dStampc ?dStampk
      (case dStamppg => k_is); (case dStamphd => k_is); (case dStamppo => k_is); (case dStampsa => k_is); (case dStampa => k_is); (case dStampi => k_is); (case dStampl => k_is); (case dStampc => k_is); (case dStampk => k_is))
    (case dGives =>
      refine' Bw.meth_at ⟨?dGivespg, ?dGiveshd, ?dGivespo, ?dGivessa⟩ (fun _ _ _ _ _ _ us hl => match us, hl with | [_, _, _], _ => rfl) ?dGivesa ?dGivesi ?dGivesl ?dGivesc ?dGivesk
      (case dGivespg => k_is); (case dGiveshd => k_is); (case dGivespo => k_is); (case dGivessa => k_is); (case dGivesa => k_is); (case dGivesi => k_is); (case dGivesl => k_is); (case dGivesc => k_is); (case dGivesk => k_is))
    (case dAt =>
      refine' Bw.meth_at ⟨?dAtpg, ?dAthd, ?dAtpo, ?dAtsa⟩ (fun _ _ _ _ _ _ us hl => match us, hl with | [_, _, _, _], _ => rfl) ?dAta ?dAti ?dAtl ?dAtc ?dAtk
      (case dAtpg => k_is); (case dAthd => k_is); (case dAtpo => k_is); (case dAtsa => k_is); (case dAta => k_is); (case dAti => k_is); (case dAtl => k_is); (case dAtc => k_is); (case dAtk => k_is))
    (case dLead =>
      refine' Bw.meth_at ⟨?dLeadpg, ?dLeadhd, ?dLeadpo, ?dLeadsa⟩ (fun _ _ _ _ _ _ us hl => match us, hl with | [_, _, _], _ => rfl) ?dLeada ?dLeadi ?dLeadl ?dLeadc ?dLeadk
      (case dLeadpg => k_is); (case dLeadhd => k_is); (case dLeadpo => k_is); (case dLeadsa => k_is); (case dLeada => k_is); (case dLeadi => k_is); (case dLeadl => k_is); (case dLeadc => k_is); (case dLeadk => k_is))
    (case dShownOn =>
      refine' Bw.meth_at ⟨?dShownOnpg, ?dShownOnhd, ?dShownOnpo, ?dShownOnsa⟩ (fun _ _ _ _ _ _ us hl => match us, hl with | [_, _], _ => rfl) ?dShownOna ?dShownOni ?dShownOnl ?dShownOnc ?dShownOnk
      (case dShownOnpg => k_is); (case dShownOnhd => k_is); (case dShownOnpo => k_is); (case dShownOnsa => k_is); (case dShownOna => k_is); (case dShownOni => k_is); (case dShownOnl => k_is); (case dShownOnc => k_is); (case dShownOnk => k_is))
    (case dHas =>
      refine' Bw.meth_at ⟨?dHaspg, ?dHashd, ?dHaspo, ?dHassa⟩ (fun _ _ _ _ _ _ us hl => match us, hl with | [_, _, _], _ => rfl) ?dHasa ?dHasi ?dHasl ?dHasc ?dHask
      (case dHaspg => k_is); (case dHashd => k_is); (case dHaspo => k_is); (case dHassa => k_is); (case dHasa => k_is); (case dHasi => k_is); (case dHasl => k_is); (case dHasc => k_is); (case dHask => k_is))
    (case dPage =>
      refine' Bw.meth_at ⟨?dPagepg, ?dPagehd, ?dPagepo, ?dPagesa⟩ (fun _ _ _ _ _ _ us hl => match us, hl with | [_, _, _, _], _ => rfl) ?dPagea ?dPagei ?dPagel ?dPagec ?dPagek
      (case dPagepg => k_is); (case dPagehd => k_is); (case dPagepo => k_is); (case dPagesa => k_is); (case dPagea => k_is); (case dPagei => k_is); (case dPagel => k_is); (case dPagec => k_is); (case dPagek => k_is))
    (case dChoose =>
      refine' Bw.meth_at ⟨?dChoosepg, ?dChoosehd, ?dChoosepo, ?dChoosesa⟩ (fun _ _ _ _ _ _ us hl => match us, hl with | [_, _, _, _, _, _, _, _, _], _ => rfl) ?dChoosea ?dChoosei ?dChoosel ?dChoosec ?dChoosek
      (case dChoosepg => k_is); (case dChoosehd => k_is); (case dChoosepo => k_is); (case dChoosesa => k_is); (case dChoosea => k_is); (case dChoosei => k_is); (case dChoosel => k_is); (case dChoosec => k_is); (case dChoosek => k_is))
    (case dBegin =>
      refine' Bw.meth_at ⟨?dBeginpg, ?dBeginhd, ?dBeginpo, ?dBeginsa⟩ (fun _ _ _ _ _ _ us hl => match us, hl with | [_, _, _], _ => rfl) ?dBegina ?dBegini ?dBeginl ?dBeginc ?dBegink
      (case dBeginpg => k_is); (case dBeginhd => k_is); (case dBeginpo => k_is); (case dBeginsa => k_is); (case dBegina => k_is); (case dBegini => k_is); (case dBeginl => k_is); (case dBeginc => k_is); (case dBegink => k_is))
    (case dGo =>
      refine' Bw.meth_at ⟨?dGopg, ?dGohd, ?dGopo, ?dGosa⟩ (fun _ _ _ _ _ _ us hl => match us, hl with | [_, _, _], _ => rfl) ?dGoa ?dGoi ?dGol ?dGoc ?dGok
      (case dGopg => k_is); (case dGohd => k_is); (case dGopo => k_is); (case dGosa => k_is); (case dGoa => k_is); (case dGoi => k_is); (case dGol => k_is); (case dGoc => k_is); (case dGok => k_is))
    (case dLift =>
      refine' Bw.meth_at ⟨?dLiftpg, ?dLifthd, ?dLiftpo, ?dLiftsa⟩ (fun _ _ _ _ _ _ us hl => match us, hl with | [_], _ => rfl) ?dLifta ?dLifti ?dLiftl ?dLiftc ?dLiftk
      (case dLiftpg => k_is); (case dLifthd => k_is); (case dLiftpo => k_is); (case dLiftsa => k_is); (case dLifta => k_is); (case dLifti => k_is); (case dLiftl => k_is); (case dLiftc => k_is); (case dLiftk => k_is))
    (case dGiveUp =>
      refine' Bw.meth_at ⟨?dGiveUppg, ?dGiveUphd, ?dGiveUppo, ?dGiveUpsa⟩ (fun _ _ _ _ _ _ us hl => match us, hl with | [_], _ => rfl) ?dGiveUpa ?dGiveUpi ?dGiveUpl ?dGiveUpc ?dGiveUpk
      (case dGiveUppg => k_is); (case dGiveUphd => k_is); (case dGiveUppo => k_is); (case dGiveUpsa => k_is); (case dGiveUpa => k_is); (case dGiveUpi => k_is); (case dGiveUpl => k_is); (case dGiveUpc => k_is); (case dGiveUpk => k_is))
    (case dDraw =>
      refine' Bw.meth_at ⟨?dDrawpg, ?dDrawhd, ?dDrawpo, ?dDrawsa⟩ (fun _ _ _ _ _ _ us hl => match us, hl with | [_, _], _ => rfl) ?dDrawa ?dDrawi ?dDrawl ?dDrawc ?dDrawk
      (case dDrawpg => k_is); (case dDrawhd => k_is); (case dDrawpo => k_is); (case dDrawsa => k_is); (case dDrawa => k_is); (case dDrawi => k_is); (case dDrawl => k_is); (case dDrawc => k_is); (case dDrawk => k_is))
    (case dUndo =>
      refine' Bw.meth_at ⟨?dUndopg, ?dUndohd, ?dUndopo, ?dUndosa⟩ (fun _ _ _ _ _ _ us hl => match us, hl with | [_], _ => rfl) ?dUndoa ?dUndoi ?dUndol ?dUndoc ?dUndok
      (case dUndopg => k_is); (case dUndohd => k_is); (case dUndopo => k_is); (case dUndosa => k_is); (case dUndoa => k_is); (case dUndoi => k_is); (case dUndol => k_is); (case dUndoc => k_is); (case dUndok => k_is))
    (case aA => k_is)
    (case lA => k_is)
    (case cA => k_is)
  case S =>
    intro K H xs a hO hwi hask hx
    cases hx with
    | cons h1 h2 =>
      cases h2
      cases h1 with
      | lst hs ha =>
        have e := L2.ints_dw a.1 _ ha
        subst e
        exact Bw.asks hO hs hask fun H' p hp => .lst (L2.SqL.of hp) (L2.dw_ints _)
