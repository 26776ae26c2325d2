import PyProof.Rows.All
import Wide.All
import OpenK.AllK
import Wide.FinOn
import HandS.ForMost
import HandS.DictComp
import HandS.Sort
import HandS.More
import HandS.ListItems
import HandS.ForExc
import HandS.Defaults
import KE.SortData
import KE.KDictItemsList
import HandS.DictTup
import HandS.Keys
import HandS.Evl
import HandS.SortKw
import HandS.Style
import HandS.ExcIs
import HandS.IsInst
import HandS.WordsExc
import HandS.Zip
import HandS.FStr
import HandS.ExcInit
import HandS.StrSplit
import HandS.Walk
import HandS.Star
import PySem.Challenge.RW_drawerdesk_k11_whole_lately_bounds
set_option Elab.async false
set_option linter.all false
set_option maxRecDepth 100000
namespace DK
open PySem L2 PyProof.Rows
/-! the drawers as a list of names with numbers -/
abbrev Dk := List (Str × Int)
def keys (l : Dk) : List Str := l.map (·.1)
def lk : Dk → Str → Option Int
  | [], _ => none
  | p :: r, n => if p.1 = n then some p.2 else lk r n
def put (l : Dk) (n : Str) (z : Int) : Dk := if (lk l n).isSome = true then l.map (fun p => if p.1 = n then (p.1, z) else p) else l ++ [(n, z)]
def low (l : Dk) (z : Int) : Dk := (l.filter fun p => decide (z < p.2)).map fun p => (p.1, p.2 - z)
def lss (l : Dk) (w : Int) : Int := l.foldl (fun a p => min a p.2) w
def enc (l : Dk) : List (Key × V) := l.map fun p => ((Sum.inr p.1 : Key), V.int p.2)
theorem enc_len (l : Dk) : (enc l).length = l.length := List.length_map _
theorem enc_val (n : Str) : ∀ l : Dk, valV (enc l) (Sum.inr n : Key) = (lk l n).map V.int
  | [] => rfl
  | p :: r => by
    show valV (((Sum.inr p.1 : Key), V.int p.2) :: enc r) (Sum.inr n : Key) = _
    by_cases e : p.1 = n
    · rw [valV_pos (p := ((Sum.inr p.1 : Key), V.int p.2)) (by rw [e])]
      simp [lk, e]
    · rw [valV_neg (p := ((Sum.inr p.1 : Key), V.int p.2)) (fun z => e (Sum.inr.inj z)), enc_val n r]
      simp [lk, e]
theorem enc_any (n : Str) (l : Dk) : ((enc l).any fun kv => decide (kv.1 = (Sum.inr n : Key))) = (lk l n).isSome := by
  rw [valV_any, enc_val]
  cases lk l n <;> rfl
theorem enc_put (l : Dk) (n : Str) (z : Int) : putK (enc l) (Sum.inr n : Key) (V.int z) = enc (put l n z) := by
  unfold putK put
  rw [enc_any]
  cases h : (lk l n).isSome with
  | true =>
    rw [if_pos rfl, if_pos rfl]
    unfold enc
    rw [List.map_map, List.map_map]
    refine List.map_congr_left fun p _ => ?_
    by_cases e : p.1 = n
    · simp [e]
    · simp [e]
  | false =>
    rw [if_neg Bool.false_ne_true, if_neg Bool.false_ne_true]
    unfold enc
    rw [List.map_append]
    rfl
theorem enc_append (l m : Dk) : enc (l ++ m) = enc l ++ enc m := List.map_append
theorem enc_keys (l : Dk) : (enc l).map (·.1) = (keys l).map Sum.inr := by
  unfold enc keys
  rw [List.map_map, List.map_map]
  rfl
theorem enc_vals (l : Dk) : (enc l).map (·.2) = (l.map (·.2)).map V.int := by
  unfold enc
  rw [List.map_map, List.map_map]
  rfl
theorem lk_none {n : Str} : ∀ {l : Dk}, lk l n = none ↔ n ∉ keys l
  | [] => by simp [lk, keys]
  | p :: r => by
    have ih := lk_none (n := n) (l := r)
    by_cases e : p.1 = n
    · simp [lk, keys, e]
    · have e' : ¬ n = p.1 := fun z => e z.symm
      simp only [lk, if_neg e, ih, keys, List.map_cons, List.mem_cons, not_or]
      exact ⟨fun h => ⟨e', h⟩, fun h => h.2⟩
theorem lk_mem {n : Str} {z : Int} : ∀ {l : Dk}, lk l n = some z → (n, z) ∈ l
  | [], h => by simp [lk] at h
  | p :: r, h => by
    by_cases e : p.1 = n
    · simp [lk, e] at h
      exact List.mem_cons.mpr (.inl (Prod.ext e.symm h.symm))
    · simp only [lk, if_neg e] at h
      exact List.mem_cons_of_mem _ (lk_mem h)
theorem lk_of_mem {n : Str} {z : Int} : ∀ {l : Dk}, (keys l).Nodup → (n, z) ∈ l → lk l n = some z
  | [], _, h => by simp at h
  | p :: r, nd, h => by
    have nd' := List.nodup_cons.mp (show (p.1 :: keys r).Nodup from nd)
    rcases List.mem_cons.mp h with e | h
    · simp [lk, ← e]
    · have e : ¬ p.1 = n := fun z => nd'.1 (by rw [z]; exact List.mem_map.mpr ⟨_, h, rfl⟩)
      simp only [lk, if_neg e]
      exact lk_of_mem nd'.2 h
theorem lk_map (n m : Str) (z : Int) : ∀ l : Dk, lk (l.map fun p => if p.1 = n then (p.1, z) else p) m = if m = n then (lk l m).map (fun _ => z) else lk l m
  | [] => by simp [lk]
  | p :: r => by
    have ih := lk_map n m z r
    rw [List.map_cons]
    by_cases e : p.1 = n
    · by_cases e2 : m = n
      · subst e2
        simp [lk, e]
      · have e3 : ¬ p.1 = m := fun q => e2 (q.symm.trans e)
        simp only [lk, if_pos e, if_neg e3, if_neg e2, ih]
    · by_cases e2 : m = n
      · have e3 : ¬ p.1 = m := fun q => e (q.trans e2)
        simp only [lk, if_neg e, if_neg e3, if_pos e2] at ih ⊢
        exact ih
      · simp only [lk, if_neg e, if_neg e2] at ih ⊢
        rw [ih]
theorem lk_append (l r : Dk) (m : Str) : lk (l ++ r) m = (lk l m).or (lk r m) := by
  induction l with
  | nil => rfl
  | cons p l ih =>
    rw [List.cons_append]
    by_cases e : p.1 = m
    · simp [lk, e]
    · simp only [lk, if_neg e, ih]
theorem lk_put (l : Dk) (n m : Str) (z : Int) : lk (put l n z) m = if m = n then some z else lk l m := by
  unfold put
  cases h : lk l n with
  | some y =>
    rw [Option.isSome_some, if_pos rfl, lk_map]
    by_cases e : m = n
    · rw [if_pos e, if_pos e, e, h]
      rfl
    · rw [if_neg e, if_neg e]
  | none =>
    rw [Option.isSome_none, if_neg Bool.false_ne_true, lk_append]
    by_cases e : m = n
    · rw [if_pos e, e, h]
      simp [lk]
    · have e' : ¬ n = m := fun q => e q.symm
      rw [if_neg e]
      simp [lk, e']
theorem keys_map (n : Str) (z : Int) (l : Dk) : keys (l.map fun p => if p.1 = n then (p.1, z) else p) = keys l := by
  unfold keys
  rw [List.map_map]
  refine List.map_congr_left fun p _ => ?_
  by_cases e : p.1 = n <;> simp [e]
theorem keys_put (l : Dk) (n : Str) (z : Int) : keys (put l n z) = if n ∈ keys l then keys l else keys l ++ [n] := by
  unfold put
  cases h : lk l n with
  | some y =>
    have hm : n ∈ keys l := List.mem_map.mpr ⟨_, lk_mem h, rfl⟩
    rw [Option.isSome_some, if_pos rfl, if_pos hm, keys_map]
  | none =>
    rw [Option.isSome_none, if_neg Bool.false_ne_true, if_neg (lk_none.mp h)]
    unfold keys
    rw [List.map_append]
    rfl
theorem nodup_put {l : Dk} (nd : (keys l).Nodup) (n : Str) (z : Int) : (keys (put l n z)).Nodup := by
  rw [keys_put]
  by_cases h : n ∈ keys l
  · rw [if_pos h]
    exact nd
  · rw [if_neg h]
    exact nd_snoc nd h
theorem put_len_le (l : Dk) (n : Str) (z : Int) : (put l n z).length ≤ l.length + 1 := by
  unfold put
  split
  · rw [List.length_map]
    omega
  · rw [List.length_append]
    exact Nat.le_refl _
theorem put_len_in {l : Dk} {n : Str} (z : Int) {y : Int} (h : lk l n = some y) : (put l n z).length = l.length := by
  unfold put
  rw [h, Option.isSome_some, if_pos rfl, List.length_map]
theorem put_new {l : Dk} {n : Str} (z : Int) (h : lk l n = none) : put l n z = l ++ [(n, z)] := by
  unfold put
  rw [h, Option.isSome_none, if_neg Bool.false_ne_true]
theorem put_pos {l : Dk} {n : Str} {z : Int} (hp : ∀ p ∈ l, 0 < p.2) (hz : 0 < z) : ∀ p ∈ put l n z, 0 < p.2 := by
  intro p h
  unfold put at h
  split at h
  · obtain ⟨q, hq, rfl⟩ := List.mem_map.mp h
    split
    · exact hz
    · exact hp q hq
  · rcases List.mem_append.mp h with h | h
    · exact hp p h
    · rw [List.mem_singleton.mp h]
      exact hz
theorem low_pos (l : Dk) (z : Int) : ∀ p ∈ low l z, 0 < p.2 := by
  intro p h
  obtain ⟨q, hq, rfl⟩ := List.mem_map.mp h
  have := of_decide_eq_true (List.mem_filter.mp hq).2
  show 0 < q.2 - z
  omega
theorem keys_low (l : Dk) (z : Int) : keys (low l z) = keys (l.filter fun p => decide (z < p.2)) := by
  unfold keys low
  rw [List.map_map]
  rfl
theorem nodup_low {l : Dk} (nd : (keys l).Nodup) (z : Int) : (keys (low l z)).Nodup := by
  rw [keys_low]
  exact nd.sublist (List.filter_sublist.map _)
theorem keys_low_sub {l : Dk} {z : Int} {n : Str} (h : n ∈ keys (low l z)) : n ∈ keys l := by
  rw [keys_low] at h
  exact (List.filter_sublist.map _).subset h
theorem low_len_le (l : Dk) (z : Int) : (low l z).length ≤ l.length := by
  unfold low
  rw [List.length_map]
  exact List.length_filter_le _ _
theorem filter_lt {α : Type} {f : α → Bool} : ∀ {l : List α} {x : α}, x ∈ l → f x = false → (l.filter f).length < l.length
  | [], _, h, _ => by simp at h
  | y :: r, x, h, hf => by
    rcases List.mem_cons.mp h with e | h
    · subst e
      rw [List.filter_cons, if_neg (by rw [hf]; exact Bool.false_ne_true), List.length_cons]
      exact Nat.lt_succ_of_le (List.length_filter_le _ _)
    · have ih := filter_lt h hf
      rw [List.filter_cons]
      split
      · rw [List.length_cons, List.length_cons]
        omega
      · rw [List.length_cons]
        omega
theorem low_len_lt {l : Dk} {p : Str × Int} {z : Int} (h : p ∈ l) (hz : p.2 ≤ z) : (low l z).length < l.length := by
  unfold low
  rw [List.length_map]
  exact filter_lt h (decide_eq_false (by omega))
/-! the least of the weight and all numbers -/
theorem lss_spec : ∀ (l : Dk) (w : Int), lss l w ≤ w ∧ (∀ p ∈ l, lss l w ≤ p.2) ∧ (lss l w = w ∨ ∃ p ∈ l, lss l w = p.2)
  | [], w => ⟨Int.le_refl _, fun _ h => by simp at h, .inl rfl⟩
  | p :: r, w => by
    obtain ⟨h1, h2, h3⟩ := lss_spec r (min w p.2)
    have e : lss (p :: r) w = lss r (min w p.2) := rfl
    rw [e]
    refine ⟨by omega, fun q hq => ?_, ?_⟩
    · rcases List.mem_cons.mp hq with rfl | hq
      · omega
      · exact h2 q hq
    · rcases h3 with h3 | ⟨q, hq, h3⟩
      · by_cases c : w ≤ p.2
        · exact .inl (by rw [h3]; omega)
        · exact .inr ⟨p, List.mem_cons_self, by rw [h3]; omega⟩
      · exact .inr ⟨q, List.mem_cons_of_mem _ hq, h3⟩
theorem lss_eq {l : Dk} {w m : Int} (h1 : ∀ p ∈ l, m ≤ p.2) (h2 : ∃ p ∈ l, m = p.2) : lss l w = min w m := by
  obtain ⟨a, b, c⟩ := lss_spec l w
  obtain ⟨p, hp, e⟩ := h2
  have := b p hp
  rcases c with c | ⟨q, hq, c⟩
  · omega
  · have := h1 q hq
    omega
/-- the desk's own state: its drawers' numbers, what is lost, all weight -/
structure DS where
  l : Dk
  g : Int
  t : Int
def comeM (k : Nat) (s : DS) (n : Str) (w : Int) : DS :=
  match lk s.l n with
  | some z => ⟨put s.l n (z + w), s.g, s.t + w⟩
  | none => if s.l.length < k then ⟨s.l ++ [(n, w)], s.g, s.t + w⟩
    else ⟨if lss s.l w < w then low s.l (lss s.l w) ++ [(n, w - lss s.l w)] else low s.l (lss s.l w), s.g + lss s.l w, s.t + w⟩
structure Ok (k : Nat) (l : Dk) : Prop where
  nd : (keys l).Nodup
  pos : ∀ p ∈ l, 0 < p.2
  len : l.length ≤ k
theorem ok_nil (k : Nat) : Ok k [] := ⟨List.nodup_nil, fun _ h => by simp at h, Nat.zero_le _⟩
theorem come_ok {k : Nat} {s : DS} {n : Str} {w : Int} (o : Ok k s.l) (hw : 0 < w) (hk : 0 < k) : Ok k (comeM k s n w).l := by
  obtain ⟨nd, pos, len⟩ := o
  unfold comeM
  cases h : lk s.l n with
  | some z =>
    have hz := pos _ (lk_mem h)
    exact ⟨nodup_put nd _ _, put_pos pos (by show 0 < z + w; have : 0 < z := hz; omega), by rw [put_len_in _ h]; exact len⟩
  | none =>
    have hn := lk_none.mp h
    dsimp only
    split
    · rename_i hl
      refine ⟨?_, fun p hp => ?_, by rw [List.length_append]; exact hl⟩
      · have e : keys (s.l ++ [(n, w)]) = keys s.l ++ [n] := List.map_append
        rw [e]
        exact nd_snoc nd hn
      · rcases List.mem_append.mp hp with hp | hp
        · exact pos p hp
        · rw [List.mem_singleton.mp hp]
          exact hw
    · rename_i hl
      obtain ⟨a, b, c⟩ := lss_spec s.l w
      dsimp only
      split
      · rename_i hlt
        refine ⟨?_, fun p hp => ?_, ?_⟩
        · have e : keys (low s.l (lss s.l w) ++ [(n, w - lss s.l w)]) = keys (low s.l (lss s.l w)) ++ [n] := List.map_append
          rw [e]
          exact nd_snoc (nodup_low nd _) fun z => hn (keys_low_sub z)
        · rcases List.mem_append.mp hp with hp | hp
          · exact low_pos _ _ p hp
          · rw [List.mem_singleton.mp hp]
            show 0 < w - lss s.l w
            omega
        · rcases c with c | ⟨p, hp, c⟩
          · omega
          · have := low_len_lt hp (z := lss s.l w) (by omega)
            rw [List.length_append]
            show (low s.l (lss s.l w)).length + 1 ≤ k
            omega
      · exact ⟨nodup_low nd _, low_pos _ _, Nat.le_trans (low_len_le _ _) len⟩
/-! the order of names -/
def kle (a b : Str) : Bool := decide (a.cps.toList ≤ b.cps.toList)
theorem kle_trans (a b c : Str) (h1 : kle a b = true) (h2 : kle b c = true) : kle a c = true :=
  decide_eq_true (List.le_trans (of_decide_eq_true h1) (of_decide_eq_true h2))
theorem kle_total (a b : Str) : (kle a b || kle b a) = true := by
  rcases List.le_total a.cps.toList b.cps.toList with h | h
  · simp [kle, h]
  · simp [kle, h]
theorem kle_anti {a b : Str} (h1 : kle a b = true) (h2 : kle b a = true) : a = b := by
  have e : a.cps.toList = b.cps.toList := List.le_antisymm (of_decide_eq_true h1) (of_decide_eq_true h2)
  cases a
  cases b
  congr 1
  exact Array.toList_inj.mp e
theorem keys_perm {l m : Dk} (p : l.Perm m) : (keys l).Perm (keys m) := p.map _
def srt (l : Dk) : Dk := l.mergeSort fun p q => kle p.1 q.1
theorem srt_perm (l : Dk) : (srt l).Perm l := List.mergeSort_perm _ _
theorem srt_pw (l : Dk) : (srt l).Pairwise fun p q => kle p.1 q.1 = true :=
  List.pairwise_mergeSort (le := fun p q : Str × Int => kle p.1 q.1) (fun a b c h1 h2 => kle_trans _ _ _ h1 h2) (fun a b => kle_total _ _) l
theorem pw_perm_eq {l m : List Str} (hl : l.Pairwise fun a b => kle a b = true) (hm : m.Pairwise fun a b => kle a b = true) (p : l.Perm m) : l = m :=
  p.eq_of_pairwise (fun a b _ _ h1 h2 => kle_anti h1 h2) hl hm
theorem srt_keys_pw (l : Dk) : (keys (srt l)).Pairwise fun a b => kle a b = true := List.pairwise_map.mpr (srt_pw l)
theorem pw_keys_eq {l m : Dk} (nd : (keys l).Nodup) (hl : l.Pairwise fun p q => kle p.1 q.1 = true) (hm : m.Pairwise fun p q => kle p.1 q.1 = true) (p : l.Perm m) : l = m := by
  refine p.eq_of_pairwise (fun a b ha hb h1 h2 => ?_) hl hm
  have e := kle_anti h1 h2
  have h3 := lk_of_mem nd (show (a.1, a.2) ∈ l from ha)
  have h4 := lk_of_mem nd (show (b.1, b.2) ∈ l from p.mem_iff.mpr hb)
  rw [e, h4] at h3
  exact Prod.ext e (Option.some.inj h3).symm
theorem srt_of_perm {l m : Dk} (nd : (keys l).Nodup) (p : l.Perm m) : srt l = srt m :=
  pw_keys_eq ((keys_perm (srt_perm l)).nodup_iff.mpr nd) (srt_pw l) (srt_pw m) (((srt_perm l).trans p).trans (srt_perm m).symm)
theorem lk_perm {l m : Dk} (nd : (keys l).Nodup) (p : l.Perm m) (n : Str) : lk l n = lk m n := by
  have nd' : (keys m).Nodup := (keys_perm p).nodup_iff.mp nd
  cases h : lk l n with
  | some z => exact (lk_of_mem nd' (p.mem_iff.mp (lk_mem h))).symm
  | none =>
    have h1 := lk_none.mp h
    exact (lk_none.mpr fun z => h1 ((keys_perm p).mem_iff.mpr z)).symm
theorem risingS_pw : ∀ (p : Str) (l : List Str), risingS p l = true → (∀ x ∈ l, kle p x = true) ∧ l.Pairwise fun a b => kle a b = true
  | p, [], _ => ⟨fun _ h => by simp at h, List.Pairwise.nil⟩
  | p, x :: r, h => by
    simp only [risingS, Bool.and_eq_true] at h
    obtain ⟨h1, h2⟩ := h
    obtain ⟨i1, i2⟩ := risingS_pw x r h2
    have hpx : kle p x = true := by
      rw [ltCps_eq] at h1
      unfold kle
      rw [← PySem.W.not_lt_str]
      exact h1
    refine ⟨fun y hy => ?_, List.pairwise_cons.mpr ⟨i1, i2⟩⟩
    rcases List.mem_cons.mp hy with rfl | hy
    · exact hpx
    · exact kle_trans _ _ _ hpx (i1 y hy)
theorem sortedS_pw : ∀ l : List Str, sortedS l = true → l.Pairwise fun a b => kle a b = true
  | [], _ => List.Pairwise.nil
  | x :: r, h => by
    obtain ⟨a, b⟩ := risingS_pw x r h
    exact List.pairwise_cons.mpr ⟨a, b⟩
theorem sorted_keys {l : Dk} {ys : List Str} (p : ys.Perm (keys l)) (h : sortedS ys = true) : ys = keys (srt l) :=
  pw_perm_eq (sortedS_pw ys h) (srt_keys_pw l) (p.trans (keys_perm (srt_perm l)).symm)
end DK
namespace DK
open PySem L2 PyProof.Rows
/-! what a loop over the drawers has made so far -/
theorem take_snoc {α : Type} {l : List α} {i : Nat} {x : α} (h : l[i]? = some x) : l.take (i + 1) = l.take i ++ [x] := by
  rw [List.take_succ, h]
  rfl
theorem take_fresh {l : Dk} (nd : (keys l).Nodup) {i : Nat} {p : Str × Int} (h : l[i]? = some p) : p.1 ∉ keys (l.take i) := by
  intro hm
  have e := take_snoc h
  have nd2 : (keys (l.take (i + 1))).Nodup := nd.sublist ((List.take_sublist _ _).map _)
  rw [e] at nd2
  have e2 : keys (l.take i ++ [p]) = keys (l.take i) ++ [p.1] := List.map_append
  rw [e2] at nd2
  exact (List.nodup_append.mp nd2).2.2 p.1 hm p.1 List.mem_cons_self rfl
theorem low_snoc (l : Dk) (p : Str × Int) (z : Int) : low (l ++ [p]) z = if z < p.2 then low l z ++ [(p.1, p.2 - z)] else low l z := by
  unfold low
  rw [List.filter_append, List.map_append]
  by_cases h : z < p.2
  · rw [if_pos h]
    simp [h]
  · rw [if_neg h]
    simp [h]
theorem lk_at {l : Dk} (nd : (keys l).Nodup) {i : Nat} {p : Str × Int} (h : l[i]? = some p) : lk l p.1 = some p.2 := lk_of_mem nd (List.mem_of_getElem? h)
def leastM (s : DS) (n : Str) : Int := (lk s.l n).getD 0
def maybeM (k : Nat) (s : DS) : List Str := (keys (srt s.l)).filter fun n => decide (s.t < (leastM s n + s.g) * ((k : Int) + 1))
def surelyM (k : Nat) (s : DS) : List Str := (keys (srt s.l)).filter fun n => decide (s.t < leastM s n * ((k : Int) + 1))
theorem filter_snoc {α : Type} (f : α → Bool) (l : List α) (x : α) : (l ++ [x]).filter f = if f x = true then l.filter f ++ [x] else l.filter f := by
  rw [List.filter_append]
  cases h : f x <;> simp [h]
end DK
namespace DK
open PySem L2 PyProof.Rows
theorem comeM_keys {k : Nat} {s : DS} {n : Str} {w : Int} {m : Str} (h : m ∈ keys (comeM k s n w).l) : m ∈ keys s.l ∨ m = n := by
  unfold comeM at h
  cases e : lk s.l n with
  | some z =>
    rw [e] at h
    dsimp only at h
    rw [keys_put] at h
    split at h
    · exact .inl h
    · rcases List.mem_append.mp h with h | h
      · exact .inl h
      · exact .inr (List.mem_singleton.mp h)
  | none =>
    rw [e] at h
    dsimp only at h
    have ha : ∀ (l : Dk) (z : Int), m ∈ keys (l ++ [(n, z)]) → m ∈ keys l ∨ m = n := fun l z hm => by
      have e2 : keys (l ++ [(n, z)]) = keys l ++ [n] := List.map_append
      rw [e2] at hm
      rcases List.mem_append.mp hm with h | h
      · exact .inl h
      · exact .inr (List.mem_singleton.mp h)
    split at h
    · exact ha _ _ h
    · dsimp only at h
      split at h
      · rcases ha _ _ h with h | h
        · exact .inl (keys_low_sub h)
        · exact .inr h
      · exact .inl (keys_low_sub h)
theorem srt_nil : srt [] = [] := by
  unfold srt
  simp
theorem maybeM_nil (k : Nat) (g t : Int) : maybeM k ⟨[], g, t⟩ = [] := by
  unfold maybeM
  rw [srt_nil]
  rfl
theorem surelyM_nil (k : Nat) (g t : Int) : surelyM k ⟨[], g, t⟩ = [] := by
  unfold surelyM
  rw [srt_nil]
  rfl
theorem maybeM_sub {k : Nat} {s : DS} {m : Str} (h : m ∈ maybeM k s) : m ∈ keys s.l := (keys_perm (srt_perm s.l)).mem_iff.mp (List.mem_filter.mp h).1
theorem surelyM_sub {k : Nat} {s : DS} {m : Str} (h : m ∈ surelyM k s) : m ∈ keys s.l := (keys_perm (srt_perm s.l)).mem_iff.mp (List.mem_filter.mp h).1
theorem maybeM_len (k : Nat) (s : DS) : (maybeM k s).length ≤ s.l.length := by
  refine Nat.le_trans (List.length_filter_le _ _) ?_
  unfold keys
  rw [List.length_map]
  exact Nat.le_of_eq (srt_perm s.l).length_eq
theorem surelyM_len (k : Nat) (s : DS) : (surelyM k s).length ≤ s.l.length := by
  refine Nat.le_trans (List.length_filter_le _ _) ?_
  unfold keys
  rw [List.length_map]
  exact Nat.le_of_eq (srt_perm s.l).length_eq
end DK
set_option Elab.async false
set_option linter.all false
set_option maxRecDepth 100000
set_option maxHeartbeats 2000000
/-! further rules: views of dicts as values, sorted pairs, copies, texts times ints, comprehensions over dicts -/
namespace DK
open PySem PySem.Spec PyProof.Rows L2
/-! ### views -/
def vwO (T : String) (p d : Addr) : HO := .ext fun h => h.get? p = some { cls := .type T, data := .fields #[.ref d] }
theorem vwO_ok {P : Program} {w : World} {H : Hp} {h : Heap} {T : String} {p d : Addr} (e : h.get? p = some { cls := .type T, data := .fields #[.ref d] }) : ObjOk P w H h p (vwO T p d) :=
  ⟨e, ⟨_, e⟩, fun _ _ x k => k _ x⟩
def rVw (T : String) : V → List V → Hp → VK → Prop := fun x xs H Q => ∃ d kvs, x = .ref d ∧ xs = [] ∧ H d = some (.dK kvs) ∧ ∀ p, H p = none → Q (.ref p) (upd H p (vwO T p d))
section
variable {X : Cx}
theorem mt_items : MtR X "dict.items" (rVw "dict_items") := by
  intro pins s σ H x xs v us Q I rx rxs h
  obtain ⟨d, kvs, rfl, rfl, hd, q⟩ := h
  obtain rfl : v = Value.ref d := rx
  obtain rfl := Vals.zero rxs
  obtain ⟨_, hsys, vs, rel, dof⟩ := dk_of I.hok hd
  refine call_meetsIn PySem.F.slot_dict_items dof.typeIs PySem.F.entry_dict_items (PySem.F.args_dict_items_1 _) (meets_dict_items (mixKind X.prog X.w) d hsys) ⟨⟨vs, dof⟩, ?_⟩
  exact ⟨.ref s.heap.objs.size, upd H s.heap.objs.size (vwO "dict_items" s.heap.objs.size d), I.laid (t' := s.toks) (fun b u e => Heap.get?_push_of_some _ e) (Nat.le_refl _) (vwO_ok (Heap.get?_push_size _ rfl)), rfl, q _ (I.hok.fresh (Nat.le_refl _))⟩
theorem mt_values : MtR X "dict.values" (rVw "dict_values") := by
  intro pins s σ H x xs v us Q I rx rxs h
  obtain ⟨d, kvs, rfl, rfl, hd, q⟩ := h
  obtain rfl : v = Value.ref d := rx
  obtain rfl := Vals.zero rxs
  obtain ⟨_, hsys, vs, rel, dof⟩ := dk_of I.hok hd
  refine call_meetsIn PySem.F.slot_dict_values dof.typeIs PySem.F.entry_dict_values (PySem.F.args_dict_values_1 _) (meets_dict_values (mixKind X.prog X.w) d hsys) ⟨⟨vs, dof⟩, ?_⟩
  exact ⟨.ref s.heap.objs.size, upd H s.heap.objs.size (vwO "dict_values" s.heap.objs.size d), I.laid (t' := s.toks) (fun b u e => Heap.get?_push_of_some _ e) (Nat.le_refl _) (vwO_ok (Heap.get?_push_size _ rfl)), rfl, q _ (I.hok.fresh (Nat.le_refl _))⟩
/-- sum(d.values()) -/
def rSumV : List V → Hp → VK → Prop := fun xs H Q => ∃ (p d : Addr) (is : List Int) (kvs : List (Key × V)), xs = [V.ref p] ∧ H p = some (vwO "dict_values" p d) ∧ H d = some (.dK kvs) ∧ kvs.map (·.2) = is.map V.int ∧ Q (.int is.sum) H
theorem preSum_list : ∀ (is : List Int) (k : Nat), k ≤ is.length → preSum (fun i => is.getD i 0) k = (is.take k).sum
  | is, 0, _ => by simp [preSum]
  | is, k + 1, h => by
    show preSum (fun i => is.getD i 0) k + is.getD k 0 = _
    have hk : k < is.length := h
    have e : is[k]? = some (is[k]) := List.getElem?_eq_getElem hk
    rw [preSum_list is k (by omega), sum_take e, List.getD_eq_getElem?_getD, e]
    rfl
theorem cr_sumV (hc : X.calm = true) : CallR X (.builtin "sum") rSumV := by
  intro pins s σ H xs us Q I r h
  obtain ⟨p, d, is, kvs, rfl, hp, hd, hv, q⟩ := h
  obtain rfl := Vals.ref1 r
  have hvw : s.heap.get? p = some { cls := .type "dict_values", data := .fields #[.ref d] } := (show ObjOk X.prog X.w H s.heap p (vwO "dict_values" p d) from I.hok p _ hp).1
  obtain ⟨_, hsys, vs, rel, dof⟩ := dk_of I.hok hd
  obtain ⟨ep, dat⟩ := dof.dictAt
  have K := PySem.W.kdl_values (prog := X.prog) (w := X.w) (knd := mixKind X.prog X.w) (r := p) (d := d) (kvs := vs) (ep := ep)
  have hok : s.heap.IsValuesView p d ∧ s.heap.DictAt (mixKind X.prog X.w) d vs ep := ⟨⟨_, hvw, rfl, rfl⟩, dat⟩
  have hlv : vs.length = is.length := by
    have e1 := congrArg List.length hv
    rw [List.length_map, List.length_map] at e1
    rw [← e1]
    exact (KV.length rel).symm
  have hval : ∀ (i : Nat) (v : Value), (∃ k, vs[i]? = some (k, v)) → ∃ t, v = Value.int (is.getD i 0) t := fun i v ⟨k, hk⟩ => by
    obtain ⟨x, h1, h2⟩ := KV.at' rel hk
    have e1 : (kvs.map (·.2))[i]? = some x := by rw [List.getElem?_map, h1] <;> rfl
    rw [hv, List.getElem?_map] at e1
    obtain ⟨j, hj, e2⟩ := Option.map_eq_some_iff.mp e1
    subst e2
    obtain ⟨t, e3⟩ := h2
    refine ⟨t, ?_⟩
    rw [e3, List.getD_eq_getElem?_getD, hj] <;> rfl
  have hh : X.A.handled = none := I.ok.hd hc
  refine call_sum_walkAnyS ?_
  obtain ⟨oI, St, hit, W, st⟩ := K.iter X.A.in1 s hh hok
  refine hit _ _ ⟨s.heap.objs.size, _, _, _, vs.length, _, _, fun i => is.getD i 0, rfl, W.toS, st, fun b hb => ?_, hval, fun s' t' hm => ?_⟩
  · show b < (s.heap.push oI).objs.size
    rw [size_push']
    rcases List.mem_cons.mp hb with e | hb
    · rw [e]; exact Nat.lt_succ_self _
    · rw [List.mem_singleton.mp hb]; exact Nat.lt_succ_of_lt (K.there _ hok).2
  · have hk : ∀ b o, s.heap.get? b = some o → s'.heap.get? b = some o := fun b o e =>
      hm.heap b o (fun hI => absurd (Heap.lt_size e) (by rw [List.mem_singleton.mp hI]; exact Nat.lt_irrefl _)) (Heap.get?_push_of_some _ e)
    rw [Moved.eq_with hm]
    have e : preSum (fun i => is.getD i 0) vs.length = is.sum := by rw [preSum_list is _ (by omega), List.take_of_length_le (by omega)]
    rw [e]
    exact ⟨.int is.sum, H, I.kept (t' := s'.toks) hk, ⟨t', rfl⟩, q⟩
/-! ### pairs of a dict as tuples -/
abbrev pairs (H : Hp) (ts : List Addr) (l : Dk) : Prop := Paired (fun (t : Addr) (q : Str × Int) => H t = some (.tup [.str q.1, .int q.2])) ts l
theorem pairs_of_enc {H : Hp} {ts : List Addr} {l : Dk} (h : Paired (fun (t : Addr) (q : Key × V) => H t = some (.tup [kV q.1, q.2])) ts (enc l)) : pairs H ts l := by
  induction l generalizing ts with
  | nil => cases h; exact .nil
  | cons p l ih =>
    cases h with
    | cons a b => exact .cons a (ih b)
/-- sorted(d.items()), d's keys texts, its values ints -/
def rSortV : List V → Hp → VK → Prop := fun xs H Q => ∃ p d l, xs = [V.ref p] ∧ H p = some (vwO "dict_items" p d) ∧ H d = some (.dK (enc l)) ∧ (keys l).Nodup ∧
  ∀ (H' : Hp) (q : Addr) (ts : List Addr), Same H H' → H q = none → H' q = some (.lst (ts.map V.ref)) → pairs H' ts (srt l) → Q (.ref q) H'
abbrev encP (q : Str × Int) : PyData := .tuple [.str q.1, .int q.2]
theorem sort_encP {l : Dk} (nd : (keys l).Nodup) : l.mergeSort (PySem.W.dataLe false encP) = srt l := by
  refine PySem.W.sort_congr fun a ha b hb => ?_
  show (!PySem.W.dataLt (encP b) (encP a)) = kle a.1 b.1
  rw [PySem.W.dataLt_pair (by simp [PySem.W.alike]) (by simp [PySem.W.alike]), PySem.W.dataLt_str]
  by_cases e : b.1 = a.1
  · have h1 := lk_of_mem nd (show (a.1, a.2) ∈ l from ha)
    have h2 := lk_of_mem nd (show (b.1, b.2) ∈ l from hb)
    rw [← e, h2] at h1
    have e2 : b.2 = a.2 := Option.some.inj h1
    simp only [PyData.eqv, e, e2, beq_self_eq_true, if_true]
    have := kle_total a.1 a.1
    simpa using this.symm
  · have hne : PyData.eqv (.str b.1) (.str a.1) = false := by
      simp only [PyData.eqv]
      exact beq_eq_false_iff_ne.mpr e
    rw [hne, if_neg Bool.false_ne_true]
    unfold kle
    by_cases h : b.1.cps.toList < a.1.cps.toList
    · have h' : ¬ a.1.cps.toList ≤ b.1.cps.toList := fun q => List.not_lt.mpr q h
      simp [h, h']
    · have h' : a.1.cps.toList ≤ b.1.cps.toList := List.not_lt.mp h
      simp [h, h']
theorem paired_of_each {α β : Type} {R : α → β → Prop} : ∀ {as : List α} {bs : List β}, PySem.W.EachIs R as bs → Paired R as bs
  | _, _, .nil => .nil
  | _, _, .cons h t => .cons h (paired_of_each t)
theorem each_of_idx {α β : Type} {R : α → β → Prop} : ∀ {as : List α} {bs : List β}, as.length = bs.length → (∀ (j : Nat) (a : α) (b : β), as[j]? = some a → bs[j]? = some b → R a b) → PySem.W.EachIs R as bs
  | [], [], _, _ => .nil
  | [], _ :: _, h, _ => by simp at h
  | _ :: _, [], h, _ => by simp at h
  | a :: as, b :: bs, h, f => .cons (f 0 a b rfl rfl) (each_of_idx (by simpa using h) fun j a' b' h1 h2 => f (j + 1) a' b' (by simpa using h1) (by simpa using h2))
theorem cr_sortedV (hc : X.calm = true) (hu : X.A.units + 64 < cLine) : CallR X (.builtin "sorted") rSortV := by
  intro pins s σ H xs us Q I r h
  obtain ⟨p, d, l, rfl, hp, hd, nd, q⟩ := h
  obtain rfl := Vals.ref1 r
  have hvw : s.heap.get? p = some { cls := .type "dict_items", data := .fields #[.ref d] } := (show ObjOk X.prog X.w H s.heap p (vwO "dict_items" p d) from I.hok p _ hp).1
  obtain ⟨hz, hsys, vs, rel, dof⟩ := dk_of I.hok hd
  obtain ⟨ep, dat⟩ := dof.dictAt
  have hh : X.A.handled = none := I.ok.hd hc
  have lv : vs.length = l.length := by rw [← KV.length rel, enc_len]
  rw [enc_len] at hz
  refine Calls.call_function_entry PyProof.Rows.kind_sorted PyProof.Rows.plain_sorted PyProof.Rows.entry_sorted (PyProof.Rows.args_sorted1 _) ?_
  unfold Builtin.«sorted»
  refine wpAny_bind (m := checkCount "sorted" 1 1 _) (wpAny_pure ?_)
  refine wpAny_bind (PySem.W.kdx_collect (A := X.A.in1) (knd := mixKind X.prog X.w) (kvs := vs) (ep := ep) hh ⟨_, hvw, rfl, rfl⟩ dat (by omega) fun h' tk as hk hl hG => ?_)
  have lak : as.length = l.length := by omega
  have ndA : as.Nodup := List.Pairwise.imp (fun {a b} (h : a < b) => Nat.ne_of_lt h) hG.rise
  have pr : ∀ (j : Nat) (b : Addr), as[j]? = some b → ∃ (e : Str × Int) (t u : Tok), l[j]? = some e ∧ h'.get? b = some { cls := .type "tuple", data := .seq #[Value.str e.1 t, Value.int e.2 u] } := by
    intro j b hj
    obtain ⟨key, k, x, h1, h2, h3⟩ := hG.pairs j b hj
    obtain ⟨y, g1, g2⟩ := KV.at' rel h1
    unfold enc at g1
    rw [List.getElem?_map] at g1
    obtain ⟨e, he, ee⟩ := Option.map_eq_some_iff.mp g1
    have ek : (Sum.inr e.1 : Key) = k := congrArg Prod.fst ee
    have ex : V.int e.2 = y := congrArg Prod.snd ee
    subst ek ex
    obtain ⟨u, rfl⟩ := g2
    obtain ⟨t, rfl⟩ := relV_key (show keyIs (Sum.inr e.1) key = true from h2)
    exact ⟨e, t, u, he, h3⟩
  refine wpAny_bind (wpAny_newList ?_ (by rw [List.length_map]; omega))
  have hob : (h'.push { cls := .type "list", data := .seq (as.map Value.ref).toArray }).get? h'.objs.size = some (seqObj "list" (as.map Value.ref).toArray 0) := Heap.get?_push_size _ rfl
  have I0 : Inv X pins σ H { s with heap := h', toks := tk } := I.kept (t' := tk) hk
  have hn0 : H h'.objs.size = none := I0.hok.fresh (Nat.le_refl _)
  have hfp : FpOk X pins H h'.objs.size := I0.fpOk (Nat.le_refl _) hn0
  generalize hh2 : h'.push { cls := .type "list", data := .seq (as.map Value.ref).toArray } = h2 at hob ⊢
  have ka : ∀ b o, h'.get? b = some o → h2.get? b = some o := fun b o e => by rw [← hh2]; exact Heap.get?_push_of_some _ e
  have ne0 : ∀ b o, h'.get? b = some o → b ≠ h'.objs.size := fun b o e => Nat.ne_of_lt (Heap.lt_size e)
  have eR : PySem.W.EachIs (fun v e => ∃ (j : Nat) (b : Addr), v = Value.ref b ∧ as[j]? = some b ∧ l[j]? = some e) (as.map Value.ref) l := by
    refine each_of_idx (by rw [List.length_map, lak]) fun j v e h1 h2 => ?_
    rw [List.getElem?_map] at h1
    obtain ⟨b, hb, rfl⟩ := Option.map_eq_some_iff.mp h1
    exact ⟨j, b, rfl, hb, h2⟩
  have eD : PySem.W.EachIs (fun v e => ∃ as', Reads h2 v (encP e) as' ∧ h'.objs.size ∉ as') (as.map Value.ref) l := by
    refine eR.mono fun v e ⟨j, b, ev, hb, he⟩ => ?_
    subst ev
    obtain ⟨e', t, u, he', hg⟩ := pr j b hb
    have ee : e' = e := Option.some.inj (he'.symm.trans he)
    subst ee
    exact ⟨_, Reads.tuple (ka _ _ hg) rfl rfl (ReadsAll.cons (Reads.str _ t) (ReadsAll.cons (Reads.int _ u) ReadsAll.nil)), by simp⟩
  refine wpAny_bind (wpAny_holding (PySem.W.list_sort_data (A := X.A.in1) (s := { s with heap := h2, toks := tk }) (vs := as.map Value.ref) (bs := l) (enc := encP) hob eR eD
    (PySem.W.AllAlike.of fun _ _ => by simp [PySem.W.alike, PySem.W.alikeAll]) (PySem.W.Sortable.tuples fun b => ⟨_, _, rfl⟩) (by omega) (fun b _ => by
      show X.A.units + 1 + 1 + (encP b).depth < cLine
      simp only [encP, PyData.depth, PyData.depthAll]
      omega) fun out ho eo => ?_))
  refine wpAny_pure ⟨_, rfl, ?_⟩
  rw [sort_encP nd] at eo
  have kF : ∀ b o, b ≠ h'.objs.size → h2.get? b = some o → (sortedHeap h2 h'.objs.size (as.map Value.ref) out.toArray).get? b = some o := fun b o hb e => (PyProof.Rows.sortedHeap_old hb (Heap.lt_size e)).trans e
  have kS : ∀ b o, s.heap.get? b = some o → (sortedHeap h2 h'.objs.size (as.map Value.ref) out.toArray).get? b = some o := fun b o e => kF b o (ne0 _ _ (hk b o e)) (ka _ _ (hk b o e))
  obtain ⟨eF, heF⟩ := PyProof.Rows.sortedHeap_at (vs := as.map Value.ref) (out := out.toArray) hob
  have I1 : Inv X pins σ H { s with heap := sortedHeap h2 h'.objs.size (as.map Value.ref) out.toArray, toks := tk } := I.kept (t' := tk) kS
  obtain ⟨ts, ets⟩ : ∃ ts : List Addr, out = ts.map Value.ref := by
    have key : ∀ (o : List Value) (m : Dk), PySem.W.EachIs (fun v e => ∃ (j : Nat) (b : Addr), v = Value.ref b ∧ as[j]? = some b ∧ l[j]? = some e) o m → ∃ ts : List Addr, o = ts.map Value.ref := by
      intro o m h
      induction h with
      | nil => exact ⟨[], rfl⟩
      | cons h t ih =>
        obtain ⟨j, b, rfl, _, _⟩ := h
        obtain ⟨ts, rfl⟩ := ih
        exact ⟨b :: ts, rfl⟩
    exact key _ _ eo
  have lts : ts.length = l.length := by rw [← ho, ets, List.length_map]
  have I2 : Inv X pins σ (upd H h'.objs.size (.lst (ts.map V.ref))) { s with heap := sortedHeap h2 h'.objs.size (as.map Value.ref) out.toArray, toks := tk } :=
    I1.take (h' := sortedHeap h2 h'.objs.size (as.map Value.ref) out.toArray) (t' := tk) (fun b ob _ e => e) hfp ⟨by rw [List.length_map]; omega, out, eF, by rw [ets]; exact LiI.vals_refs ts, heF⟩
  obtain ⟨H2, I3, g, qt⟩ := L2.DX.takeT (P := fun b ws => ∃ (j : Nat) (e : Str × Int), as[j]? = some b ∧ l[j]? = some e ∧ ws = [.str e.1, .int e.2]) I as _ I2 ndA fun b hb => by
    obtain ⟨j, hj⟩ := List.mem_iff_getElem?.mp hb
    obtain ⟨e, t, u, he, hg⟩ := pr j b hj
    have hbl : s.heap.objs.size ≤ b := Nat.le_of_lt (hG.above b hb)
    refine ⟨hbl, ?_, [.str e.1, .int e.2], ⟨j, e, hj, he, rfl⟩, fun H3 => ⟨(by rw [sizeLine_eq]; show 2 ≤ 16777216; omega), [Value.str e.1 t, Value.int e.2 u], .cons ⟨t, rfl⟩ (.cons ⟨u, rfl⟩ .nil), ⟨_, kF _ _ (ne0 _ _ hg) (ka _ _ hg), rfl, 0, rfl⟩⟩⟩
    rw [upd_ne (ne0 _ _ hg)]
    exact I.hok.fresh hbl
  have gr : Same H H2 := fun b o e => g b o (by rw [upd_ne (ne_of_none e hn0)]; exact e)
  refine ⟨.ref h'.objs.size, H2, I3, rfl, q H2 h'.objs.size ts gr hn0 (g _ _ upd_same) ?_⟩
  have key : ∀ (o : List Value) (m : Dk), PySem.W.EachIs (fun v e => ∃ (j : Nat) (b : Addr), v = Value.ref b ∧ as[j]? = some b ∧ l[j]? = some e) o m → ∀ ts : List Addr, o = ts.map Value.ref → pairs H2 ts m := by
    intro o m h
    induction h with
    | nil =>
      intro ts e
      cases ts with
      | nil => exact .nil
      | cons _ _ => simp at e
    | cons h t ih =>
      intro ts e
      cases ts with
      | nil => simp at e
      | cons c ts =>
        rw [List.map_cons] at e
        injection e with e1 e2
        obtain ⟨j, b, e3, hb, he⟩ := h
        rw [e1] at e3
        have ebc : c = b := Value.ref.inj e3
        subst ebc
        refine .cons ?_ (ih ts e2)
        obtain ⟨ws, ⟨j2, e', j1', j2', ew⟩, hH⟩ := qt c (List.mem_of_getElem? hb)
        have eij : j = j2 := (List.getElem?_inj (List.getElem?_eq_some_iff.mp hb).1 ndA).mp (hb.trans j1'.symm)
        subst eij
        have ee : e' = _ := Option.some.inj (j2'.symm.trans he)
        subst ee
        rw [ew] at hH
        exact hH
  exact key out _ eo ts ets
/-- list(d.items()) -/
def rListV : List V → Hp → VK → Prop := fun xs H Q => ∃ p d l, xs = [V.ref p] ∧ H p = some (vwO "dict_items" p d) ∧ H d = some (.dK (enc l)) ∧
  ∀ (H' : Hp) (q : Addr) (ts : List Addr), Same H H' → H q = none → H' q = some (.lst (ts.map V.ref)) → pairs H' ts l → Q (.ref q) H'
theorem cr_listV (hc : X.calm = true) : CallR X (.type "list") rListV := by
  intro pins s σ H xs us Q I r h
  obtain ⟨p, d, l, rfl, hp, hd, q⟩ := h
  obtain rfl := Vals.ref1 r
  have hvw : s.heap.get? p = some { cls := .type "dict_items", data := .fields #[.ref d] } := (show ObjOk X.prog X.w H s.heap p (vwO "dict_items" p d) from I.hok p _ hp).1
  obtain ⟨hz, hsys, vs, rel, dof⟩ := dk_of I.hok hd
  obtain ⟨ep, dat⟩ := dof.dictAt
  refine PySem.W.kdx_call (knd := mixKind X.prog X.w) (kvs := vs) (ep := ep) (I.ok.hd hc) ⟨_, hvw, rfl, rfl⟩ dat (by rw [← KV.length rel]; exact hz) fun h' tk acc c as hk hS hl hG hacc => ?_
  obtain ⟨H', k1, k2, k3, k4, k5, k6, J⟩ := LiI.items_laid (tk := tk) I hz rel hk hS hl hG hacc
  exact ⟨.ref _, H', J, rfl, q H' _ as k1 k2 k5 (pairs_of_enc k6)⟩
/-! ### texts times ints -/
theorem op_mulS : OpR X (binaryOp .Mult) (fun x y H Q => ∃ z k, x = .str z ∧ y = .int k ∧ z.length ≤ 8 ∧ 0 ≤ k ∧ k ≤ 64 ∧ Q (.str (PySem.Txt.mul z k)) H) := by
  intro pins s σ H x y v u Q I rx ry h
  obtain ⟨z, k, rfl, rfl, hz, h0, h1, q⟩ := h
  obtain ⟨t, rfl⟩ := rx
  obtain ⟨t2, rfl⟩ := ry
  exact PySem.SB.mul (PyProof.Rows.mulOk_of 8 64 hz (by omega) (by omega) (by omega) (by omega)) fun t' k' => ⟨.str (PySem.Txt.mul z k), H, I.tok k', ⟨t', rfl⟩, q⟩
end
/-! ### loops -/
theorem for_enum {K : PySem.W.Frag} {a : Addr} {xs : List V} {g : TG} {tb : TS} {D : Ends} {σ : L2.St} {H : Hp} (Pv : Nat → L2.St → Hp → Prop) (h0 : Pv 0 σ H) (hq : ∀ i σ H, Pv i σ H → SqL K H a xs)
    (hs : ∀ (i : Nat) (x : V) (T : Addr) (σ : L2.St) (H : Hp), xs[i]? = some x → Pv i σ H → H T = none → g (.ref T) σ (upd H T (.tup [.int (i : Nat), x])) fun σ2 H2 => tb { D with nx := Pv (i + 1), ct := Pv (i + 1), bk := D.nx } σ2 H2) (hd : ∀ σ H, Pv xs.length σ H → D.nx σ H) :
    ∃ W : Nat → Nat → L2.St → Hp → Prop, (∃ m, W 0 m σ H) ∧ ∀ i m σ H, W i m σ H →
      ((Ite K a).stop i H ∧ D.nx σ H) ∨ ((Ite K a).go i H ∧ ∃ N : L2.St → Hp → Prop, (∀ σ' H', N σ' H' → ∃ m', m' < m ∧ W (i + 1) m' σ' H') ∧ ∀ v H', (Ite K a).yld i H v H' → g v σ H' fun σ2 H2 => tb { D with nx := N, ct := N, bk := D.nx } σ2 H2) := by
  refine ⟨fun i m σ H => m = xs.length - i ∧ i ≤ xs.length ∧ Pv i σ H, ⟨xs.length, rfl, Nat.zero_le _, h0⟩, ?_⟩
  rintro i m σ H ⟨rfl, hi, p⟩
  have qx := hq i σ H p
  by_cases hlt : i < xs.length
  · have hx : xs[i]? = some xs[i] := List.getElem?_eq_getElem hlt
    refine .inr ⟨⟨xs, _, qx, hx⟩, Pv (i + 1), fun σ' H' p' => ⟨xs.length - (i + 1), by omega, rfl, hlt, p'⟩, fun v H' y => ?_⟩
    obtain ⟨T, x', rfl, hT, rfl, f1⟩ := y
    exact hs i x' T σ H (f1 xs qx) p hT
  · have e : i = xs.length := by omega
    subst e
    exact .inl ⟨⟨xs, qx, Nat.le_refl _⟩, hd σ H p⟩
/-- over the keys of a locked dict -/
theorem for_keys {d : Addr} {od : Obj} {l : Dk} {g : TG} {tb : TS} {D : Ends} {σ : L2.St} {H : Hp} (Pv : Nat → L2.St → Hp → Prop) (h0 : Pv 0 σ H) (hq : ∀ i σ H, Pv i σ H → H d = some (.frz od (.dK (enc l))))
    (hs : ∀ (i : Nat) (p : Str × Int) (σ : L2.St) (H : Hp), l[i]? = some p → Pv i σ H → g (.str p.1) σ H fun σ2 H2 => tb { D with nx := Pv (i + 1), ct := Pv (i + 1), bk := D.nx } σ2 H2) (hd : ∀ σ H, Pv l.length σ H → D.nx σ H) :
    ∃ W : Nat → Nat → L2.St → Hp → Prop, (∃ m, W 0 m σ H) ∧ ∀ i m σ H, W i m σ H →
      ((Itk d od (enc l)).stop i H ∧ D.nx σ H) ∨ ((Itk d od (enc l)).go i H ∧ ∃ N : L2.St → Hp → Prop, (∀ σ' H', N σ' H' → ∃ m', m' < m ∧ W (i + 1) m' σ' H') ∧ ∀ v H', (Itk d od (enc l)).yld i H v H' → g v σ H' fun σ2 H2 => tb { D with nx := N, ct := N, bk := D.nx } σ2 H2) := by
  refine ⟨fun i m σ H => m = l.length - i ∧ i ≤ l.length ∧ Pv i σ H, ⟨l.length, rfl, Nat.zero_le _, h0⟩, ?_⟩
  rintro i m σ H ⟨rfl, hi, p⟩
  have qx := hq i σ H p
  by_cases hlt : i < l.length
  · have hx : l[i]? = some l[i] := List.getElem?_eq_getElem hlt
    refine .inr ⟨⟨qx, by rw [enc_len]; exact hlt⟩, Pv (i + 1), fun σ' H' p' => ⟨l.length - (i + 1), by omega, rfl, hlt, p'⟩, fun v H' y => ?_⟩
    obtain ⟨rfl, k, w, e1, rfl⟩ := y
    unfold enc at e1
    rw [List.getElem?_map, hx] at e1
    have e2 : (Sum.inr (l[i]).1 : Key) = k := congrArg Prod.fst (Option.some.inj e1)
    subst e2
    exact hs i _ σ _ hx p
  · have e : i = l.length := by omega
    subst e
    exact .inl ⟨⟨qx, by rw [enc_len]; exact Nat.le_refl _⟩, hd σ H p⟩
/-- {k: v for k in d}: D the new dict; the body's reading is asked at each key -/
theorem dc_keys {d : Addr} {od : Obj} {l : Dk} {g : TG} {tt : TT} {tk tv : TE} {vs : List Nat} {σ : L2.St} {H1 : Hp} {D : Addr} {Qd : Hp → Prop} (Pv : Nat → Hp → Prop) (h0 : Pv 0 (upd H1 D (.dK []))) (hq : ∀ i H, Pv i H → H d = some (.frz od (.dK (enc l))))
    (hs : ∀ (i : Nat) (p : Str × Int) H, l[i]? = some p → Pv i H → g (.str p.1) (wipe σ vs) H fun σ2 H2 => wipe σ2 vs = wipe σ vs ∧ tt σ2 H2 fun b H3 =>
      if b = true then tk σ2 H3 fun y H4 => tv σ2 H4 fun z H5 => ∃ kvs k, y = kV k ∧ H5 D = some (.dK kvs) ∧ kvs.length < sizeLine ∧ Pv (i + 1) (upd H5 D (.dK (putK kvs k z))) else Pv (i + 1) H3) (hd : ∀ H, Pv l.length H → Qd H) :
    ∃ W : Nat → Nat → Hp → Prop, (∃ m, W 0 m (upd H1 D (.dK []))) ∧ ∀ i m H, W i m H →
      ((Itk d od (enc l)).stop i H ∧ Qd H) ∨ ((Itk d od (enc l)).go i H ∧ ∃ Nx : Hp → Prop, (∀ H', Nx H' → ∃ m', m' < m ∧ W (i + 1) m' H') ∧ ∀ x H', (Itk d od (enc l)).yld i H x H' → g x (wipe σ vs) H' fun σ2 H2 => wipe σ2 vs = wipe σ vs ∧ tt σ2 H2 fun b H3 =>
        if b = true then tk σ2 H3 fun y H4 => tv σ2 H4 fun z H5 => ∃ kvs k, y = kV k ∧ H5 D = some (.dK kvs) ∧ kvs.length < sizeLine ∧ Nx (upd H5 D (.dK (putK kvs k z))) else Nx H3) := by
  refine ⟨fun i m H => m = l.length - i ∧ i ≤ l.length ∧ Pv i H, ⟨l.length, by simp, Nat.zero_le _, h0⟩, ?_⟩
  rintro i m H ⟨rfl, hi, p⟩
  have qx := hq i H p
  by_cases hlt : i < l.length
  · have hx : l[i]? = some l[i] := List.getElem?_eq_getElem hlt
    refine .inr ⟨⟨qx, by rw [enc_len]; exact hlt⟩, Pv (i + 1), fun H' p' => ⟨l.length - (i + 1), by omega, rfl, hlt, p'⟩, fun x H' y => ?_⟩
    obtain ⟨rfl, k, w, e1, rfl⟩ := y
    unfold enc at e1
    rw [List.getElem?_map, hx] at e1
    have e2 : (Sum.inr (l[i]).1 : Key) = k := congrArg Prod.fst (Option.some.inj e1)
    subst e2
    exact hs i _ _ hx p
  · have e : i = l.length := by omega
    subst e
    exact .inl ⟨⟨qx, by rw [enc_len]; exact Nat.le_refl _⟩, hd H p⟩
/-- {k: v for k in xs}, xs a list that stays -/
theorem dc_list {K : PySem.W.Frag} {a : Addr} {xs : List V} {g : TG} {tt : TT} {tk tv : TE} {vs : List Nat} {σ : L2.St} {H1 : Hp} {D : Addr} {Qd : Hp → Prop} (Pv : Nat → Hp → Prop) (h0 : Pv 0 (upd H1 D (.dK []))) (hl : ∀ i H, i ≤ xs.length → Pv i H → SqL K H a xs)
    (hs : ∀ i x H, xs[i]? = some x → Pv i H → g x (wipe σ vs) H fun σ2 H2 => wipe σ2 vs = wipe σ vs ∧ tt σ2 H2 fun b H3 =>
      if b = true then tk σ2 H3 fun y H4 => tv σ2 H4 fun z H5 => ∃ kvs k, y = kV k ∧ H5 D = some (.dK kvs) ∧ kvs.length < sizeLine ∧ Pv (i + 1) (upd H5 D (.dK (putK kvs k z))) else Pv (i + 1) H3) (hd : ∀ H, Pv xs.length H → Qd H) :
    ∃ W : Nat → Nat → Hp → Prop, (∃ m, W 0 m (upd H1 D (.dK []))) ∧ ∀ i m H, W i m H →
      ((Itl K a).stop i H ∧ Qd H) ∨ ((Itl K a).go i H ∧ ∃ Nx : Hp → Prop, (∀ H', Nx H' → ∃ m', m' < m ∧ W (i + 1) m' H') ∧ ∀ x H', (Itl K a).yld i H x H' → g x (wipe σ vs) H' fun σ2 H2 => wipe σ2 vs = wipe σ vs ∧ tt σ2 H2 fun b H3 =>
        if b = true then tk σ2 H3 fun y H4 => tv σ2 H4 fun z H5 => ∃ kvs k, y = kV k ∧ H5 D = some (.dK kvs) ∧ kvs.length < sizeLine ∧ Nx (upd H5 D (.dK (putK kvs k z))) else Nx H3) := by
  refine ⟨fun i m H => m = xs.length - i ∧ i ≤ xs.length ∧ Pv i H, ⟨xs.length, by simp, Nat.zero_le _, h0⟩, ?_⟩
  rintro i m H ⟨rfl, hi, p⟩
  have q := hl i H hi p
  by_cases hlt : i < xs.length
  · refine .inr ⟨⟨xs, xs[i], q, by simp [hlt]⟩, Pv (i + 1), fun H' p' => ⟨xs.length - (i + 1), by omega, rfl, hlt, p'⟩, fun x H' y => ?_⟩
    obtain ⟨e, y⟩ := y
    subst e
    exact hs i x _ (y xs q) p
  · have e : i = xs.length := by omega
    subst e
    exact .inl ⟨⟨xs, q, Nat.le_refl _⟩, hd H p⟩
end DK
set_option Elab.async false
set_option linter.all false
set_option maxRecDepth 100000
set_option maxHeartbeats 2000000
/-! names: texts of 1 to 8 letters -/
namespace DK
open PySem PySem.Spec PyProof.Rows L2
def okC (L : List Nat) : Bool := decide (1 ≤ L.length) && decide (L.length ≤ 8) && L.all fun c => decide (97 ≤ c) && decide (c ≤ 122)
def nmOk (n : Str) : Bool := okC n.cps.toList
def isNm (v : V) : Bool := match v with
  | .str n => nmOk n
  | _ => false
def isNum (v : V) (m : Int) : Bool := match v with
  | .int i => decide (1 ≤ i) && decide (i ≤ m)
  | _ => false
theorem okC_iff {L : List Nat} : okC L = true ↔ 1 ≤ L.length ∧ L.length ≤ 8 ∧ ∀ c ∈ L, 97 ≤ c ∧ c ≤ 122 := by
  unfold okC
  simp only [Bool.and_eq_true, decide_eq_true_eq, List.all_eq_true]
  exact ⟨fun ⟨⟨a, b⟩, c⟩ => ⟨a, b, c⟩, fun ⟨a, b, c⟩ => ⟨⟨a, b⟩, c⟩⟩
theorem nmOk_len {n : Str} (h : nmOk n = true) : n.length ≤ 8 := by
  have := (okC_iff.mp h).2.1
  rwa [Array.length_toList] at this
abbrev abc : Str := "abcdefghijklmnopqrstuvwxyz"
theorem abc_get : ∀ j : Fin 26, abc.cps.toList[(j : Nat)]? = some (97 + (j : Nat)) := by decide +kernel
theorem abc_len : abc.length = 26 := by decide +kernel
theorem abc_at {i : Int} (h0 : 0 ≤ i) (h1 : i < 26) : ∃ c : Nat, 97 ≤ c ∧ c ≤ 122 ∧ atI abc.cps.toList i = some c := by
  obtain ⟨j, rfl⟩ := Int.eq_ofNat_of_zero_le h0
  have hj : j < 26 := by omega
  exact ⟨97 + j, by omega, by omega, atI_nat (abc_get ⟨j, hj⟩)⟩
theorem abc_mem (c : Nat) : decide (c ∈ abc.cps.toList) = (decide (97 ≤ c) && decide (c ≤ 122)) := by
  have e : abc.cps.toList = [97, 98, 99, 100, 101, 102, 103, 104, 105, 106, 107, 108, 109, 110, 111, 112, 113, 114, 115, 116, 117, 118, 119, 120, 121, 122] := by decide +kernel
  rw [e]
  by_cases h : 97 ≤ c ∧ c ≤ 122
  · obtain ⟨h1, h2⟩ := h
    have : c ∈ [97, 98, 99, 100, 101, 102, 103, 104, 105, 106, 107, 108, 109, 110, 111, 112, 113, 114, 115, 116, 117, 118, 119, 120, 121, 122] := by
      simp only [List.mem_cons, List.not_mem_nil, or_false]
      omega
    rw [decide_eq_true this, decide_eq_true h1, decide_eq_true h2]
    rfl
  · have : ¬ c ∈ [97, 98, 99, 100, 101, 102, 103, 104, 105, 106, 107, 108, 109, 110, 111, 112, 113, 114, 115, 116, 117, 118, 119, 120, 121, 122] := by
      simp only [List.mem_cons, List.not_mem_nil, or_false]
      omega
    rw [decide_eq_false this]
    by_cases h1 : 97 ≤ c
    · have h2 : ¬ c ≤ 122 := fun z => h ⟨h1, z⟩
      simp [h1, h2]
    · simp [h1]
/-! texts by their signs -/
theorem cps_add (a b : Str) : (a ++ b).cps.toList = a.cps.toList ++ b.cps.toList := by
  show (a.cps ++ b.cps).toList = _
  rw [Array.toList_append]
theorem len_cps (a : Str) : a.length = a.cps.toList.length := (Array.length_toList).symm
theorem cps_to (a : Str) (n : Nat) : (cutS a none (some (n : Int))).cps.toList = a.cps.toList.take n := by
  unfold cutS
  dsimp only
  have e := len_cps a
  rw [HT.sIx_none, HT.sIx_nat, List.drop_zero, Nat.sub_zero, List.take_eq_take_iff]
  omega
theorem cps_from (a : Str) (n : Nat) : (cutS a (some (n : Int)) none).cps.toList = a.cps.toList.drop n := by
  unfold cutS
  dsimp only
  rw [HT.sIx_none, HT.sIx_nat, len_cps a]
  by_cases h : n ≤ a.cps.toList.length
  · rw [Nat.min_eq_left h, List.take_of_length_le (by rw [List.length_drop]; omega)]
  · rw [Nat.min_eq_right (by omega), Nat.sub_self, List.take_zero, List.drop_eq_nil_of_le (by omega)]
theorem mul_cps (c : Nat) {k : Int} (h1 : 1 ≤ k) : (PySem.Txt.mul ⟨#[c]⟩ k).cps.toList = List.replicate k.toNat c := by
  have key : ∀ (n : Nat) (acc : Array Nat), ((List.replicate n #[c]).foldl (· ++ ·) acc).toList = acc.toList ++ List.replicate n c := by
    intro n
    induction n with
    | zero => intro acc; simp
    | succ n ih =>
      intro acc
      rw [List.replicate_succ, List.foldl_cons, ih, Array.toList_append, List.replicate_succ, List.append_assoc]
      rfl
  unfold PySem.Txt.mul
  rw [if_neg (by omega)]
  by_cases e : k = 1
  · subst e
    rfl
  · have e2 : (k == 1 || (⟨#[c]⟩ : Str).length == 0) = false := by
      have : (⟨#[c]⟩ : Str).length = 1 := rfl
      simp [e, this]
    rw [if_neg (by rw [e2]; exact Bool.false_ne_true)]
    rw [key]
    rfl
theorem okC_rep {c : Nat} {n : Nat} (h1 : 97 ≤ c) (h2 : c ≤ 122) (h3 : 1 ≤ n) (h4 : n ≤ 8) : okC (List.replicate n c) = true :=
  okC_iff.mpr ⟨by rw [List.length_replicate]; exact h3, by rw [List.length_replicate]; exact h4, fun x hx => by rw [List.eq_of_mem_replicate hx]; exact ⟨h1, h2⟩⟩
theorem okC_swap {L : List Nat} {a c : Nat} (h : okC L = true) (ha : a < L.length) (h1 : 97 ≤ c) (h2 : c ≤ 122) : okC (L.take a ++ [c] ++ L.drop (a + 1)) = true := by
  obtain ⟨l1, l2, l3⟩ := okC_iff.mp h
  have e : (L.take a ++ [c] ++ L.drop (a + 1)).length = L.length := by
    rw [List.length_append, List.length_append, List.length_take, List.length_drop, List.length_singleton]
    omega
  refine okC_iff.mpr ⟨by omega, by omega, fun x hx => ?_⟩
  rcases List.mem_append.mp hx with hx | hx
  · rcases List.mem_append.mp hx with hx | hx
    · exact l3 x (List.mem_of_mem_take hx)
    · rw [List.mem_singleton.mp hx]
      exact ⟨h1, h2⟩
  · exact l3 x (List.mem_of_mem_drop hx)
theorem okC_take2 {L : List Nat} {n : Nat} (h : okC L = true) (h1 : 1 ≤ n) (h2 : n ≤ 8) : okC ((L ++ L).take n) = true := by
  obtain ⟨l1, l2, l3⟩ := okC_iff.mp h
  refine okC_iff.mpr ⟨by rw [List.length_take, List.length_append]; omega, by rw [List.length_take]; omega, fun x hx => ?_⟩
  rcases List.mem_append.mp (List.mem_of_mem_take hx) with hx | hx
  · exact l3 x hx
  · exact l3 x hx
theorem okC_take {L : List Nat} {n : Nat} (h : okC L = true) (h1 : 1 ≤ n) : okC (L.take n) = true := by
  obtain ⟨l1, l2, l3⟩ := okC_iff.mp h
  exact okC_iff.mpr ⟨by rw [List.length_take]; omega, by rw [List.length_take]; omega, fun x hx => l3 x (List.mem_of_mem_take hx)⟩
/-! small lists of ints at an open place -/
theorem at3 {a b c : Int} {i : Int} (h0 : 0 ≤ i) (h1 : i < 3) : ∃ v : Int, (v = a ∨ v = b ∨ v = c) ∧ atI [V.int a, V.int b, V.int c] i = some (.int v) := by
  rcases (show i = 0 ∨ i = 1 ∨ i = 2 by omega) with rfl | rfl | rfl
  · exact ⟨a, .inl rfl, rfl⟩
  · exact ⟨b, .inr (.inl rfl), rfl⟩
  · exact ⟨c, .inr (.inr rfl), rfl⟩
theorem at4 {a b c d : Int} {i : Int} (h0 : 0 ≤ i) (h1 : i < 4) : ∃ v : Int, (v = a ∨ v = b ∨ v = c ∨ v = d) ∧ atI [V.int a, V.int b, V.int c, V.int d] i = some (.int v) := by
  rcases (show i = 0 ∨ i = 1 ∨ i = 2 ∨ i = 3 by omega) with rfl | rfl | rfl | rfl
  · exact ⟨a, .inl rfl, rfl⟩
  · exact ⟨b, .inr (.inl rfl), rfl⟩
  · exact ⟨c, .inr (.inr (.inl rfl)), rfl⟩
  · exact ⟨d, .inr (.inr (.inr rfl)), rfl⟩
theorem emod_bd (z : Int) {n : Int} (h : 0 < n) : 0 ≤ z % n ∧ z % n < n := ⟨Int.emod_nonneg _ (by omega), Int.emod_lt_of_pos _ h⟩
theorem last_at {ns : List Int} (h : ns ≠ []) : ∃ z : Int, atI (ns.map V.int) (-1) = some (.int z) := by
  have e : ns.dropLast ++ [ns.getLast h] = ns := List.dropLast_concat_getLast h
  refine ⟨ns.getLast h, ?_⟩
  conv => lhs; rw [← e]
  rw [List.map_append]
  exact atI_last _ _
/-- a type's name, of what is no text, no whole number -/
theorem ty_str {K : PySem.W.Frag} {H : Hp} {v : V} {T : String} (t : TyB K H v T) : T = "str" ↔ ∃ x, v = .str x := by
  cases t <;> simp
theorem ty_int {K : PySem.W.Frag} {H : Hp} {v : V} {T : String} (t : TyB K H v T) : T = "int" ↔ ∃ x, v = .int x := by
  cases t <;> simp
theorem for_str {x : Str} {g : TG} {tb : TS} {D : Ends} {σ : L2.St} {H : Hp} (Pv : Nat → L2.St → Hp → Prop) (h0 : Pv 0 σ H)
    (hs : ∀ (i : Nat) (c : Nat) (σ : L2.St) (H : Hp), x.cps.toList[i]? = some c → Pv i σ H → g (.str ⟨#[c]⟩) σ H fun σ2 H2 => tb { D with nx := Pv (i + 1), ct := Pv (i + 1), bk := D.nx } σ2 H2) (hd : ∀ σ H, Pv x.cps.toList.length σ H → D.nx σ H) :
    ∃ W : Nat → Nat → L2.St → Hp → Prop, (∃ m, W 0 m σ H) ∧ ∀ i m σ H, W i m σ H →
      ((Its x).stop i H ∧ D.nx σ H) ∨ ((Its x).go i H ∧ ∃ N : L2.St → Hp → Prop, (∀ σ' H', N σ' H' → ∃ m', m' < m ∧ W (i + 1) m' σ' H') ∧ ∀ v H', (Its x).yld i H v H' → g v σ H' fun σ2 H2 => tb { D with nx := N, ct := N, bk := D.nx } σ2 H2) := by
  have es : x.cps.toList.length = x.cps.size := Array.length_toList
  refine ⟨fun i m σ H => m = x.cps.size - i ∧ i ≤ x.cps.size ∧ Pv i σ H, ⟨x.cps.size, by simp, Nat.zero_le _, h0⟩, ?_⟩
  rintro i m σ H ⟨rfl, hi, p⟩
  by_cases hlt : i < x.cps.size
  · refine .inr ⟨hlt, Pv (i + 1), fun σ' H' p' => ⟨x.cps.size - (i + 1), by omega, rfl, hlt, p'⟩, fun v H' y => ?_⟩
    obtain ⟨rfl, c, hc, rfl⟩ := y
    exact hs i c σ _ (by rw [Array.getElem?_toList]; exact hc) p
  · have e : i = x.cps.size := by omega
    subst e
    exact .inl ⟨Nat.le_refl _, hd σ H (by rw [es]; exact p)⟩
end DK
set_option Elab.async false
set_option linter.all false
set_option maxRecDepth 100000
set_option maxHeartbeats 2000000
/-! data compared -/
namespace DK
open PySem PySem.Spec PyProof.Rows L2
def Ns (xs : List Str) : Prop := ∀ n ∈ xs, nmOk n = true
theorem str_ok {n : Str} (h : nmOk n = true) : PyData.strOk n = true := by
  unfold PyData.strOk
  rw [← Array.all_toList, List.all_eq_true]
  intro c hc
  have := (okC_iff.mp h).2.2 c hc
  exact decide_eq_true (by omega)
theorem lay_strs : ∀ xs : List Str, Ns xs → PyData.canLayAll0 (xs.map PyData.str) = true
  | [], _ => by simp [PyData.canLayAll0]
  | x :: xs, h => by
    have ih := lay_strs xs fun n hn => h n (List.mem_cons_of_mem _ hn)
    have hx := str_ok (h x List.mem_cons_self)
    rw [List.map_cons]
    simp [PyData.canLayAll0, PyData.canLay0, ih, hx]
theorem dep_strs : ∀ xs : List Str, PyData.depthAll (xs.map PyData.str) = 0
  | [] => by simp [PyData.depthAll]
  | x :: xs => by
    have ih := dep_strs xs
    rw [List.map_cons]
    simp [PyData.depthAll, PyData.depth, ih]
theorem lay_ps : ∀ l : Dk, Ns (keys l) → PyData.canLayAll0 (l.map encP) = true
  | [], _ => by simp [PyData.canLayAll0]
  | x :: xs, h => by
    have ih := lay_ps xs fun n hn => h n (List.mem_cons_of_mem _ hn)
    have hx := str_ok (h x.1 List.mem_cons_self)
    rw [List.map_cons]
    simp [PyData.canLayAll0, PyData.canLay0, encP, ih, hx]
theorem dep_ps : ∀ l : Dk, PyData.depthAll (l.map encP) ≤ 1
  | [] => by simp [PyData.depthAll]
  | x :: xs => by
    have ih := dep_ps xs
    rw [List.map_cons]
    simp [PyData.depthAll, PyData.depth, encP]
    omega
theorem shaped_strs {xs : List Str} (h : Ns xs) : SeqAt.shaped (.list (xs.map PyData.str)) = true := by
  unfold SeqAt.shaped
  simp [PyData.canLay0, PyData.depth, lay_strs xs h, dep_strs]
theorem shaped_ps {l : Dk} (h : Ns (keys l)) : SeqAt.shaped (.list (l.map encP)) = true := by
  have e : PyData.depth (.list (l.map encP)) = PyData.depthAll (l.map encP) + 1 := by simp only [PyData.depth]
  have e2 : PyData.canLay0 (.list (l.map encP)) = true := by simp only [PyData.canLay0, lay_ps l h]
  have e3 : PyData.depth (.list (l.map encP)) ≤ 64 := by
    rw [e]
    exact Nat.le_trans (Nat.succ_le_succ (dep_ps l)) (show 2 ≤ 64 by decide)
  unfold SeqAt.shaped
  rw [e2, decide_eq_true e3]
  rfl
theorem shaped_is (a b c : Int) : SeqAt.shaped (.tuple [.int a, .int b, .int c]) = true := by
  unfold SeqAt.shaped
  simp [PyData.canLay0, PyData.depth, PyData.canLayAll0, PyData.depthAll]
section
variable {K : PySem.W.Frag} {H : Hp}
theorem dpa_strs : ∀ xs : List Str, DpAll K H (xs.map V.str) (xs.map PyData.str)
  | [] => .nil
  | x :: xs => .cons (.str x) (dpa_strs xs)
theorem dp_strs {a : Addr} {xs : List Str} (h : SqL K H a (xs.map V.str)) : Dp K H (.ref a) (.list (xs.map PyData.str)) := .lst h (dpa_strs xs)
theorem dpa_ps : ∀ {ts : List Addr} {l : Dk}, pairs H ts l → DpAll K H (ts.map V.ref) (l.map encP)
  | _, _, .nil => .nil
  | _, _, .cons h t => .cons (.tup (SqT.of h) (.cons (.str _) (.cons (.int _) .nil))) (dpa_ps t)
theorem dp_ps {a : Addr} {ts : List Addr} {l : Dk} (h : H a = some (.lst (ts.map V.ref))) (p : pairs H ts l) : Dp K H (.ref a) (.list (l.map encP)) := .lst (SqL.of h) (dpa_ps p)
theorem dp_is {a : Addr} {x y z : Int} (h : H a = some (.tup [.int x, .int y, .int z])) : Dp K H (.ref a) (.tuple [.int x, .int y, .int z]) := .tup (SqT.of h) (.cons (.int _) (.cons (.int _) (.cons (.int _) .nil)))
/-- equal lists of texts are not told apart -/
theorem ne_strs {Q : VK} {a b : Addr} {xs : List Str} (hn : Ns xs) (h1 : SqL K H a (xs.map V.str)) (h2 : SqL K H b (xs.map V.str)) (q : Q (.bl false) H) : rNeD K (.ref a) (.ref b) H Q :=
  ⟨_, _, dp_strs h1, dp_strs h2, shaped_strs hn, shaped_strs hn, by rw [SeqAt.eqv_refl _ (SeqAt.canLay_of_shaped (shaped_strs hn))]; exact q⟩
theorem ne_ps {Q : VK} {a b : Addr} {ts us : List Addr} {l : Dk} (hn : Ns (keys l)) (h1 : H a = some (.lst (ts.map V.ref))) (p1 : pairs H ts l) (h2 : H b = some (.lst (us.map V.ref))) (p2 : pairs H us l) (q : Q (.bl false) H) : rNeD K (.ref a) (.ref b) H Q :=
  ⟨_, _, dp_ps h1 p1, dp_ps h2 p2, shaped_ps hn, shaped_ps hn, by rw [SeqAt.eqv_refl _ (SeqAt.canLay_of_shaped (shaped_ps hn))]; exact q⟩
theorem eq_is {Q : VK} {a b : Addr} {x y z : Int} (h1 : H a = some (.tup [.int x, .int y, .int z])) (h2 : H b = some (.tup [.int x, .int y, .int z])) (q : Q (.bl true) H) : rEqD K (.ref a) (.ref b) H Q :=
  ⟨_, _, dp_is h1, dp_is h2, shaped_is x y z, shaped_is x y z, by rw [SeqAt.eqv_refl _ (SeqAt.canLay_of_shaped (shaped_is x y z))]; exact q⟩
end
theorem pairs_same {H H' : Hp} (e : Same H H') : ∀ {ts : List Addr} {l : Dk}, pairs H ts l → pairs H' ts l
  | _, _, .nil => .nil
  | _, _, .cons h t => .cons (e _ _ h) (pairs_same e t)
end DK
set_option Elab.async false
set_option linter.all false
set_option maxRecDepth 100000
/-! what a desk tells holds the true numbers between -/
namespace DK
open PySem L2 PyProof.Rows
def tot (l : Dk) : Int := (l.map (·.2)).sum
theorem tot_nil : tot [] = 0 := rfl
theorem tot_cons (p : Str × Int) (l : Dk) : tot (p :: l) = p.2 + tot l := by simp [tot]
theorem tot_append (l m : Dk) : tot (l ++ m) = tot l + tot m := by
  induction l with
  | nil => simp [tot_nil]
  | cons p l ih => rw [List.cons_append, tot_cons, tot_cons, ih]; omega
theorem tot_perm {l m : Dk} (h : l.Perm m) : tot l = tot m := by
  induction h with
  | nil => rfl
  | cons x _ ih => rw [tot_cons, tot_cons, ih]
  | swap x y l => rw [tot_cons, tot_cons, tot_cons, tot_cons]; omega
  | trans _ _ a b => exact a.trans b
theorem lk_low {z : Int} {m : Str} : ∀ {l : Dk}, (keys l).Nodup → lk (low l z) m = match lk l m with | some y => if z < y then some (y - z) else none | none => none
  | [], _ => rfl
  | p :: r, nd => by
    have nd' : (keys r).Nodup := (List.nodup_cons.mp nd).2
    have hp : p.1 ∉ keys r := (List.nodup_cons.mp nd).1
    have e : low (p :: r) z = if z < p.2 then (p.1, p.2 - z) :: low r z else low r z := by
      unfold low
      rw [List.filter_cons]
      by_cases c : z < p.2
      · simp [c]
      · simp [c]
    rw [e]
    by_cases c : z < p.2
    · rw [if_pos c]
      by_cases cm : p.1 = m
      · show (if p.1 = m then some (p.2 - z) else _) = match (if p.1 = m then some p.2 else _) with | some y => if z < y then some (y - z) else none | none => none
        rw [if_pos cm, if_pos cm]
        dsimp only
        rw [if_pos c]
      · show (if p.1 = m then some (p.2 - z) else lk (low r z) m) = match (if p.1 = m then some p.2 else lk r m) with | some y => if z < y then some (y - z) else none | none => none
        rw [if_neg cm, if_neg cm]
        exact lk_low nd'
    · rw [if_neg c]
      by_cases cm : p.1 = m
      · have h1 : lk (low r z) m = none := lk_none.mpr fun h => hp (cm ▸ keys_low_sub h)
        show _ = match (if p.1 = m then some p.2 else _) with | some y => if z < y then some (y - z) else none | none => none
        rw [if_pos cm, h1]
        dsimp only
        rw [if_neg c]
      · show _ = match (if p.1 = m then some p.2 else lk r m) with | some y => if z < y then some (y - z) else none | none => none
        rw [if_neg cm]
        exact lk_low nd'
theorem tot_map_put (n : Str) (z : Int) : ∀ {l : Dk}, (keys l).Nodup → ∀ {y : Int}, lk l n = some y → tot (l.map fun p => if p.1 = n then (p.1, z) else p) = tot l + z - y
  | [], _, y, h => by cases h
  | p :: r, nd, y, h => by
    have nd' : (keys r).Nodup := (List.nodup_cons.mp nd).2
    have hp : p.1 ∉ keys r := (List.nodup_cons.mp nd).1
    rw [List.map_cons, tot_cons, tot_cons]
    by_cases c : p.1 = n
    · have e : r.map (fun p => if p.1 = n then (p.1, z) else p) = r := by
        conv => rhs; rw [← List.map_id r]
        refine List.map_congr_left fun q hq => ?_
        rw [if_neg (fun x => hp (by rw [c, ← x]; exact List.mem_map.mpr ⟨q, hq, rfl⟩))]
        rfl
      have ey : p.2 = y := by
        have : (if p.1 = n then some p.2 else lk r n) = some y := h
        rw [if_pos c] at this
        exact Option.some.inj this
      rw [e, if_pos c, ey]
      show z + tot r = y + tot r + z - y
      omega
    · have h' : lk r n = some y := by
        have : (if p.1 = n then some p.2 else lk r n) = some y := h
        rwa [if_neg c] at this
      rw [if_neg c, tot_map_put n z nd' h']
      omega
theorem tot_put {l : Dk} (nd : (keys l).Nodup) (n : Str) (z : Int) : tot (put l n z) = tot l + z - (lk l n).getD 0 := by
  cases e : lk l n with
  | none =>
    rw [put_new z e, tot_append, tot_cons, tot_nil]
    show tot l + (z + 0) = tot l + z - 0
    omega
  | some y =>
    unfold put
    rw [e]
    show tot (if (some y).isSome = true then _ else _) = _
    rw [if_pos (by rfl), tot_map_put n z nd e]
    rfl
theorem tot_low {z : Int} : ∀ {l : Dk}, (∀ p ∈ l, z ≤ p.2) → tot (low l z) = tot l - z * (l.length : Int)
  | [], _ => by simp [low, tot_nil]
  | p :: r, h => by
    have hp := h p (List.mem_cons_self ..)
    have ih := tot_low (z := z) (l := r) fun q hq => h q (List.mem_cons_of_mem _ hq)
    have e : low (p :: r) z = if z < p.2 then (p.1, p.2 - z) :: low r z else low r z := by
      unfold low
      rw [List.filter_cons]
      by_cases c : z < p.2
      · simp [c]
      · simp [c]
    rw [e, tot_cons, List.length_cons]
    have e2 : z * ((r.length + 1 : Nat) : Int) = z * (r.length : Int) + z := by
      rw [Int.natCast_add, Int.mul_add]
      simp
    by_cases c : z < p.2
    · rw [if_pos c, tot_cons, ih, e2]
      show p.2 - z + _ = _
      omega
    · rw [if_neg c, ih, e2]
      omega
structure Bd (k : Nat) (s : DS) (tr : Dk) : Prop where
  O : Ok k s.l
  nd : (keys tr).Nodup
  pos : ∀ p ∈ tr, 0 < p.2
  sum : tot s.l + ((k : Int) + 1) * s.g = s.t
  all : tot tr = s.t
  g0 : 0 ≤ s.g
  lo : ∀ n, leastM s n ≤ (lk tr n).getD 0
  hi : ∀ n, (lk tr n).getD 0 ≤ leastM s n + s.g
  few : tr.length ≤ k → s.g = 0
theorem Bd.nil (k : Nat) : Bd k ⟨[], 0, 0⟩ [] :=
  ⟨ok_nil k, List.nodup_nil, fun _ h => (List.not_mem_nil h).elim, (by show tot [] + _ * (0 : Int) = 0; rw [tot_nil, Int.mul_zero]; rfl), rfl, Int.le_refl _, fun _ => Int.le_refl _, fun _ => Int.le_refl _, fun _ => rfl⟩
theorem getD_nn {l : Dk} (h : ∀ p ∈ l, 0 < p.2) (n : Str) : 0 ≤ (lk l n).getD 0 := by
  cases e : lk l n with
  | none => exact Int.le_refl _
  | some y => exact Int.le_of_lt (h _ (lk_mem e))
/-- nothing lost: the same drawers -/
theorem Bd.same {k : Nat} {s : DS} {tr : Dk} (b : Bd k s tr) (h : s.g = 0) (n : Str) : lk s.l n = lk tr n := by
  have h1 := b.lo n
  have h2 := b.hi n
  have e : (lk tr n).getD 0 = (lk s.l n).getD 0 := by
    unfold leastM at h1 h2
    omega
  cases e1 : lk s.l n with
  | some y =>
    have hy : 0 < y := b.O.pos _ (lk_mem e1)
    rw [e1] at e
    cases e2 : lk tr n with
    | some x =>
      rw [e2] at e
      exact congrArg some e.symm
    | none =>
      rw [e2] at e
      have : (0 : Int) = y := e
      omega
  | none =>
    rw [e1] at e
    cases e2 : lk tr n with
    | none => rfl
    | some x =>
      have hx : 0 < x := b.pos _ (lk_mem e2)
      rw [e2] at e
      have : x = (0 : Int) := e
      omega
theorem perm_of_lk {l m : Dk} (h1 : (keys l).Nodup) (h2 : (keys m).Nodup) (h : ∀ n, lk l n = lk m n) : (keys l).Perm (keys m) :=
  (List.perm_ext_iff_of_nodup h1 h2).mpr fun n => by
    have a := lk_none (n := n) (l := l)
    have b := lk_none (n := n) (l := m)
    rw [h n] at a
    constructor
    · intro x
      exact Classical.byContradiction fun y => a.mp (b.mpr y) x
    · intro x
      exact Classical.byContradiction fun y => b.mp (a.mpr y) x
theorem Bd.len {k : Nat} {s : DS} {tr : Dk} (b : Bd k s tr) (h : s.g = 0) : s.l.length = tr.length := by
  have := (perm_of_lk b.O.nd b.nd (b.same h)).length_eq
  unfold keys at this
  rw [List.length_map, List.length_map] at this
  exact this
theorem put_len_ge (l : Dk) (n : Str) (z : Int) : l.length ≤ (put l n z).length := by
  cases e : lk l n with
  | none => rw [put_new z e, List.length_append]; omega
  | some y => rw [put_len_in z e]; omega
theorem lk_put' (l : Dk) (n m : Str) (z : Int) : (lk (put l n z) m).getD 0 = if m = n then z else (lk l m).getD 0 := by
  rw [lk_put]
  by_cases c : m = n
  · rw [if_pos c, if_pos c]; rfl
  · rw [if_neg c, if_neg c]
theorem Bd.come {k : Nat} {s : DS} {tr : Dk} {n : Str} {w : Int} (b : Bd k s tr) (hw : 0 < w) (hk : 0 < k) : Bd k (comeM k s n w) (put tr n ((lk tr n).getD 0 + w)) := by
  have O' := come_ok (n := n) b.O hw hk
  have tn := getD_nn b.pos n
  have pos' : ∀ p ∈ put tr n ((lk tr n).getD 0 + w), 0 < p.2 := put_pos b.pos (by omega)
  have all' : tot (put tr n ((lk tr n).getD 0 + w)) = s.t + w := by
    rw [tot_put b.nd, b.all]
    omega
  have ge := put_len_ge tr n ((lk tr n).getD 0 + w)
  have et : (comeM k s n w).t = s.t + w := by
    unfold comeM
    split
    · rfl
    · split <;> rfl
  cases e : lk s.l n with
  | some y =>
    have ec : comeM k s n w = ⟨put s.l n (y + w), s.g, s.t + w⟩ := by unfold comeM; rw [e]
    have ls : ∀ m, leastM (comeM k s n w) m = if m = n then leastM s n + w else leastM s m := fun m => by
      rw [ec]
      show (lk (put s.l n (y + w)) m).getD 0 = _
      rw [lk_put']
      unfold leastM
      rw [e]
      rfl
    refine ⟨O', nodup_put b.nd _ _, pos', ?_, all'.trans et.symm, by rw [ec]; exact b.g0, fun m => ?_, fun m => ?_, fun h => ?_⟩
    · rw [ec]
      show tot (put s.l n (y + w)) + _ * s.g = s.t + w
      rw [tot_put b.O.nd, e, ← b.sum]
      show tot s.l + (y + w) - y + _ = _
      omega
    · rw [ls, lk_put']
      have h1 := b.lo m
      have h2 := b.lo n
      by_cases c : m = n
      · rw [if_pos c, if_pos c]; omega
      · rw [if_neg c, if_neg c]; exact h1
    · rw [ls, lk_put']
      have h1 := b.hi m
      have h2 := b.hi n
      have eg : (comeM k s n w).g = s.g := by rw [ec]
      rw [eg]
      by_cases c : m = n
      · rw [if_pos c, if_pos c]; omega
      · rw [if_neg c, if_neg c]; exact h1
    · have eg : (comeM k s n w).g = s.g := by rw [ec]
      rw [eg]
      exact b.few (Nat.le_trans ge h)
  | none =>
    have l0 : leastM s n = 0 := by unfold leastM; rw [e]; rfl
    by_cases cl : s.l.length < k
    · have ec : comeM k s n w = ⟨s.l ++ [(n, w)], s.g, s.t + w⟩ := by unfold comeM; rw [e]; dsimp only; rw [if_pos cl]
      have ls : ∀ m, leastM (comeM k s n w) m = if m = n then leastM s n + w else leastM s m := fun m => by
        rw [ec, l0]
        show (lk (s.l ++ [(n, w)]) m).getD 0 = _
        rw [← put_new w e, lk_put']
        unfold leastM
        rw [show (0 : Int) + w = w by omega]
      refine ⟨O', nodup_put b.nd _ _, pos', ?_, all'.trans et.symm, by rw [ec]; exact b.g0, fun m => ?_, fun m => ?_, fun h => ?_⟩
      · rw [ec]
        show tot (s.l ++ [(n, w)]) + _ * s.g = s.t + w
        rw [tot_append, tot_cons, tot_nil, ← b.sum]
        show tot s.l + (w + 0) + _ = _
        omega
      · rw [ls, lk_put']
        have h1 := b.lo m
        have h2 := b.lo n
        by_cases c : m = n
        · rw [if_pos c, if_pos c]; omega
        · rw [if_neg c, if_neg c]; exact h1
      · rw [ls, lk_put']
        have h1 := b.hi m
        have h2 := b.hi n
        have eg : (comeM k s n w).g = s.g := by rw [ec]
        rw [eg]
        by_cases c : m = n
        · rw [if_pos c, if_pos c]; omega
        · rw [if_neg c, if_neg c]; exact h1
      · have eg : (comeM k s n w).g = s.g := by rw [ec]
        rw [eg]
        exact b.few (Nat.le_trans ge h)
    · have hlen : s.l.length = k := by have := b.O.len; omega
      obtain ⟨z1, z2, z3⟩ := lss_spec s.l w
      have z0 : 0 < lss s.l w := by
        rcases z3 with h | ⟨p, hp, h⟩
        · omega
        · have := b.O.pos p hp; omega
      have ec : comeM k s n w = ⟨if lss s.l w < w then low s.l (lss s.l w) ++ [(n, w - lss s.l w)] else low s.l (lss s.l w), s.g + lss s.l w, s.t + w⟩ := by
        unfold comeM; rw [e]; dsimp only; rw [if_neg cl]
      generalize lss s.l w = z at *
      have nl : lk (low s.l z) n = none := lk_none.mpr fun h => lk_none.mp e (keys_low_sub h)
      have ls : ∀ m, leastM (comeM k s n w) m = if m = n then w - z else (if m ∈ keys s.l then leastM s m - z else 0) := fun m => by
        have lw : (lk (low s.l z) m).getD 0 = if m ∈ keys s.l then leastM s m - z else 0 := by
          rw [lk_low b.O.nd]
          unfold leastM
          cases em : lk s.l m with
          | none =>
            rw [if_neg (lk_none.mp em)]
            rfl
          | some y =>
            have hm : m ∈ keys s.l := Classical.byContradiction fun h => by rw [lk_none.mpr h] at em; cases em
            rw [if_pos hm]
            have := z2 _ (lk_mem em)
            show (if z < y then some (y - z) else none).getD 0 = y - z
            by_cases c : z < y
            · rw [if_pos c]; rfl
            · rw [if_neg c]
              show (0 : Int) = y - z
              have h3 : z ≤ y := this
              omega
        rw [ec]
        show (lk (if z < w then low s.l z ++ [(n, w - z)] else low s.l z) m).getD 0 = _
        by_cases c1 : z < w
        · rw [if_pos c1, ← put_new (w - z) nl, lk_put', lw]
        · rw [if_neg c1, lw]
          by_cases c : m = n
          · rw [if_pos c, if_neg (by rw [c]; exact lk_none.mp e)]
            omega
          · rw [if_neg c]
      have gg : (comeM k s n w).g = s.g + z := by rw [ec]
      refine ⟨O', nodup_put b.nd _ _, pos', ?_, all'.trans et.symm, by rw [gg]; have := b.g0; omega, fun m => ?_, fun m => ?_, fun h => ?_⟩
      · have e1 : tot (comeM k s n w).l = tot (low s.l z) + (w - z) := by
          rw [ec]
          show tot (if z < w then low s.l z ++ [(n, w - z)] else low s.l z) = _
          by_cases c1 : z < w
          · rw [if_pos c1, tot_append, tot_cons, tot_nil]
            show _ + (w - z + 0) = _
            omega
          · rw [if_neg c1]
            omega
        rw [e1, gg, et, tot_low z2, hlen, ← b.sum, Int.mul_add, Int.add_mul (k : Int) 1 z, Int.mul_comm z (k : Int)]
        omega
      · rw [ls, lk_put']
        have h1 := b.lo m
        have h2 := b.lo n
        have h3 := getD_nn b.pos m
        by_cases c : m = n
        · rw [if_pos c, if_pos c]; omega
        · rw [if_neg c, if_neg c]
          by_cases c2 : m ∈ keys s.l
          · rw [if_pos c2]; omega
          · rw [if_neg c2]; exact h3
      · rw [ls, lk_put', gg]
        have h1 := b.hi m
        have h2 := b.hi n
        by_cases c : m = n
        · rw [if_pos c, if_pos c]; omega
        · rw [if_neg c, if_neg c]
          by_cases c2 : m ∈ keys s.l
          · rw [if_pos c2]; omega
          · rw [if_neg c2]
            have h4 : leastM s m = 0 := by unfold leastM; rw [lk_none.mpr c2]; rfl
            omega
      · have hg := b.few (Nat.le_trans ge h)
        have e1 := b.len hg
        have e2 := b.same hg n
        rw [e] at e2
        rw [put_new _ e2.symm, List.length_append] at h
        have : [(n, (lk tr n).getD 0 + w)].length = 1 := rfl
        omega
/-- a share above all weight by drawers and one stands among those shown -/
theorem Bd.heavy {k : Nat} {s : DS} {tr : Dk} {n : Str} (b : Bd k s tr) (h : s.t < (lk tr n).getD 0 * ((k : Int) + 1)) : n ∈ maybeM k s := by
  have h1 := b.hi n
  have k0 : (0 : Int) ≤ (k : Int) + 1 := by omega
  have tl : 0 ≤ tot s.l := by
    have : ∀ l : Dk, (∀ p ∈ l, 0 < p.2) → 0 ≤ tot l := by
      intro l
      induction l with
      | nil => intro _; exact Int.le_refl _
      | cons p l ih =>
        intro hp
        rw [tot_cons]
        have := hp p (List.mem_cons_self ..)
        have := ih fun q hq => hp q (List.mem_cons_of_mem _ hq)
        omega
    exact this _ b.O.pos
  have h2 := Int.mul_le_mul_of_nonneg_right h1 k0
  refine List.mem_filter.mpr ⟨?_, decide_eq_true (Int.lt_of_lt_of_le h h2)⟩
  refine (keys_perm (srt_perm s.l)).mem_iff.mpr (Classical.byContradiction fun hn => ?_)
  have l0 : leastM s n = 0 := by unfold leastM; rw [lk_none.mpr hn]; rfl
  rw [l0] at h2
  have e : (0 + s.g) * ((k : Int) + 1) = ((k : Int) + 1) * s.g := by rw [Int.zero_add, Int.mul_comm]
  rw [e] at h2
  have := b.sum
  omega
theorem Bd.sure {k : Nat} {s : DS} {tr : Dk} {n : Str} (b : Bd k s tr) (h : n ∈ surelyM k s) : s.t < (lk tr n).getD 0 * ((k : Int) + 1) ∧ n ∈ keys tr := by
  have h1 := b.lo n
  have k0 : (0 : Int) ≤ (k : Int) + 1 := by omega
  have h2 := Int.mul_le_mul_of_nonneg_right h1 k0
  have h3 : s.t < leastM s n * ((k : Int) + 1) := of_decide_eq_true (List.mem_filter.mp h).2
  refine ⟨Int.lt_of_lt_of_le h3 h2, Classical.byContradiction fun hn => ?_⟩
  have hs := surelyM_sub h
  cases e : lk s.l n with
  | none => exact absurd hs (lk_none.mp e)
  | some y =>
    have hy : 0 < y := b.O.pos _ (lk_mem e)
    rw [lk_none.mpr hn] at h1
    unfold leastM at h1
    rw [e] at h1
    have : y ≤ (0 : Int) := h1
    omega
end DK
set_option Elab.async false
set_option linter.all false
set_option maxRecDepth 100000
set_option maxHeartbeats 2000000
/-! whether an int stands among a dict's values -/
namespace DK
open PySem PySem.Spec PyProof.Rows L2
theorem plain_ci : plainId "proto.contains_iter" = true := by decide +kernel
theorem entry_ci : entryFor table "proto.contains_iter" = some Builtin.«proto.contains_iter» := entryFor_of_fast (by kernel_rfl)
theorem vals_no_contains : typeLookup (.type "dict_values") "__contains__" = pure none := by rw [typeLookup_type, builtinLookup_eq_fast]; kernel_rfl
section
variable {prog : Program} {w : World} {A : Around} {I : Addr} {fp wr : List Addr} {n : Nat} {P : Nat → Value → Prop} {St : Nat → Heap → Prop} {x : Value}
theorem ci_none (W : Walks prog w A.in1 I fp wr n P St) (hne : ∀ i v, P i v → ∀ s, SeqAt.EqAt A.in1 s v x false) :
    ∀ (k i : Nat) (s : Shared) (R : Result → Shared → Prop), n - i = k → i ≤ n → St i s.heap →
      (∀ h' tk, (∀ b o, b ∉ wr → s.heap.get? b = some o → h'.get? b = some o) → R (.ok (.ret (.bool false))) { s with heap := h', toks := tk }) →
      codeAny (model prog w) A (.builtin "proto.contains_iter" ⟨[.ref I, x], []⟩) R s := by
  intro k
  induction k with
  | zero =>
    intro i s R hk hi hst hR
    obtain rfl : i = n := by omega
    refine codeAny_builtin entry_ci ?_
    rw [Around.under_plainId plain_ci _]
    show wpAny _ A.in1 (pyNext (.ref I) >>= _) _ _ s
    exact wpAny_bind (W.done s _ _ hst fun h' tk hk => wpAny_bind (wpAny_rule (wpAny_pure (hR h' tk hk))))
  | succ k ih =>
    intro i s R hk hi hst hR
    refine codeAny_builtin entry_ci ?_
    rw [Around.under_plainId plain_ci _]
    show wpAny _ A.in1 (pyNext (.ref I) >>= _) _ _ s
    refine wpAny_bind (W.item i s _ _ (by omega) hst fun v h' tk hP hst' hkp => ?_)
    refine wpAny_bind (hne i v hP _ prog w _ _ ?_)
    refine wpAny_pure ⟨plainId_quiet plain_ci _, ih (i + 1) _ R (by omega) (by omega) hst' fun h2 tk2 hk2 => ?_⟩
    exact hR h2 tk2 fun b o hb e => hk2 b o hb (hkp b o hb e)
end
def rInVw : R2 := fun x y H Q => ∃ (p d : Addr) (is : List Int) (kvs : List (Key × V)) (c : Int), x = .int c ∧ y = .ref p ∧ H p = some (vwO "dict_values" p d) ∧ H d = some (.dK kvs) ∧ kvs.map (·.2) = is.map V.int ∧ c ∉ is ∧ Q (.bl false) H
section
variable {X : Cx}
theorem op_inView (hc : X.calm = true) : OpR X (compareOp .In) rInVw := by
  intro pins s σ H x y v u Q I rx ry h
  obtain ⟨p, d, is, kvs, c, rfl, rfl, hp, hd, hv, hno, q⟩ := h
  obtain rfl : u = Value.ref p := ry
  obtain ⟨tc, rfl⟩ : ∃ t, v = Value.int c t := rx
  have hvw : s.heap.get? p = some { cls := .type "dict_values", data := .fields #[.ref d] } := (show ObjOk X.prog X.w H s.heap p (vwO "dict_values" p d) from I.hok p _ hp).1
  obtain ⟨_, hsys, vs, rel, dof⟩ := dk_of I.hok hd
  obtain ⟨ep, dat⟩ := dof.dictAt
  have K := PySem.W.kdl_values (prog := X.prog) (w := X.w) (knd := mixKind X.prog X.w) (r := p) (d := d) (kvs := vs) (ep := ep)
  have hok : s.heap.IsValuesView p d ∧ s.heap.DictAt (mixKind X.prog X.w) d vs ep := ⟨⟨_, hvw, rfl, rfl⟩, dat⟩
  have hh : X.A.handled = none := I.ok.hd hc
  have hT : s.TypeIs (.ref p) "dict_values" := K.type s hok
  show wpAny _ _ (contains (.ref p) (.int c tc) >>= _) _ _ _
  refine wpAny_bind ?_
  unfold contains
  refine wpAny_holding ?_
  rw [stdlibNamesSay?_of_typeIs hT]
  refine wpAny_bind (wpAny_specialOf hT vals_no_contains ?_)
  refine wpAny_bind (wpAny_callSpecialUnlessNone?_none hT vals_no_contains ?_)
  refine wpAny_bind (wpAny_rule ?_)
  obtain ⟨oI, St, hit, W, st⟩ := K.iter X.A.in1 s hh hok
  refine wpAny_bind (wpAny_tryCatch (wpAny_of_in1 (hit _ _ ?_)))
  refine wpAny_bind (wpAny_runValue (ci_none W (fun i v ⟨k, hk⟩ s' => ?_) _ 0 _ _ rfl (Nat.zero_le _) st fun h' tk hkp => ?_))
  · obtain ⟨x, h1, h2⟩ := KV.at' rel hk
    have e1 : (kvs.map (·.2))[i]? = some x := by rw [List.getElem?_map, h1] <;> rfl
    rw [hv, List.getElem?_map] at e1
    obtain ⟨j, hj, e2⟩ := Option.map_eq_some_iff.mp e1
    subst e2
    obtain ⟨t, rfl⟩ := h2
    have e3 : (j == c) = false := by
      rw [beq_eq_false_iff_ne]
      intro z
      exact hno (z ▸ List.mem_of_getElem? hj)
    rw [← e3]
    exact SeqAt.EqAt.int_int j t c tc
  · have hk : ∀ b o, s.heap.get? b = some o → h'.get? b = some o := fun b o e =>
      hkp b o (fun hI => absurd (Heap.lt_size e) (by rw [List.mem_singleton.mp hI]; exact Nat.lt_irrefl _)) (Heap.get?_push_of_some _ e)
    exact wpAny_pure (wpAny_pure ⟨.bl false, H, I.kept (t' := tk) hk, rfl, q⟩)
end
/-- a list made along a locked dict's keys -/
theorem lc_keys {d : Addr} {od : Obj} {l : Dk} {g : TG} {tt : TT} {te : TE} {vs : List Nat} {σ : L2.St} {H1 : Hp} {D : Addr} {Qd : Hp → Prop} (Pv : Nat → Hp → Prop) (h0 : Pv 0 (upd H1 D (.lst []))) (hq : ∀ i H, Pv i H → H d = some (.frz od (.dK (enc l))))
    (hs : ∀ (i : Nat) (p : Str × Int) H, l[i]? = some p → Pv i H → g (.str p.1) (wipe σ vs) H fun σ2 H2 => wipe σ2 vs = wipe σ vs ∧ tt σ2 H2 fun b H3 =>
      if b = true then te σ2 H3 fun y H4 => ∃ acc, H4 D = some (.lst acc) ∧ acc.length < sizeLine ∧ Pv (i + 1) (upd H4 D (.lst (acc ++ [y]))) else Pv (i + 1) H3) (hd : ∀ H, Pv l.length H → Qd H) :
    ∃ W : Nat → Nat → Hp → Prop, (∃ m, W 0 m (upd H1 D (.lst []))) ∧ ∀ i m H, W i m H →
      ((Itk d od (enc l)).stop i H ∧ Qd H) ∨ ((Itk d od (enc l)).go i H ∧ ∃ Nx : Hp → Prop, (∀ H', Nx H' → ∃ m', m' < m ∧ W (i + 1) m' H') ∧ ∀ x H', (Itk d od (enc l)).yld i H x H' → g x (wipe σ vs) H' fun σ2 H2 => wipe σ2 vs = wipe σ vs ∧ tt σ2 H2 fun b H3 =>
        if b = true then te σ2 H3 fun y H4 => ∃ acc, H4 D = some (.lst acc) ∧ acc.length < sizeLine ∧ Nx (upd H4 D (.lst (acc ++ [y]))) else Nx H3) := by
  refine ⟨fun i m H => m = l.length - i ∧ i ≤ l.length ∧ Pv i H, ⟨l.length, by simp, Nat.zero_le _, h0⟩, ?_⟩
  rintro i m H ⟨rfl, hi, p⟩
  have qx := hq i H p
  by_cases hlt : i < l.length
  · have hx : l[i]? = some l[i] := List.getElem?_eq_getElem hlt
    refine .inr ⟨⟨qx, by rw [enc_len]; exact hlt⟩, Pv (i + 1), fun H' p' => ⟨l.length - (i + 1), by omega, rfl, hlt, p'⟩, fun x H' y => ?_⟩
    obtain ⟨rfl, k, w, e1, rfl⟩ := y
    unfold enc at e1
    rw [List.getElem?_map, hx] at e1
    have e2 : (Sum.inr (l[i]).1 : Key) = k := congrArg Prod.fst (Option.some.inj e1)
    subst e2
    exact hs i _ _ hx p
  · have e : i = l.length := by omega
    subst e
    exact .inl ⟨⟨qx, by rw [enc_len]; exact Nat.le_refl _⟩, hd H p⟩
end DK
set_option Elab.async false
set_option linter.all false
set_option maxRecDepth 100000
set_option maxHeartbeats 2000000
/-! a dict's int values, sorted -/
namespace DK
open PySem PySem.Spec PyProof.Rows L2
def rSortVals (b : Bool) (zs0 : List V) : List V → List V → Hp → VK → Prop := fun xs zs H Q => ∃ (p d : Addr) (is : List Int) (kvs : List (Key × V)), xs = [V.ref p] ∧ zs = zs0 ∧ H p = some (vwO "dict_values" p d) ∧ H d = some (.dK kvs) ∧ kvs.map (·.2) = is.map V.int ∧
  ∀ (js : List Int) (a : Addr), js.Perm is → OrdB b js → H a = none → Q (.ref a) (upd H a (.lst (js.map V.int)))
theorem ints_get : ∀ {vs : List Value} {is : List Int}, vs.length = is.length → (∀ (j : Nat) (v : Value), vs[j]? = some v → ∃ n t, is[j]? = some n ∧ v = .int n t) → IntsAre vs is
  | [], [], _, _ => .nil
  | v :: vs, n :: is, hl, h => by
    obtain ⟨m, t, e1, e2⟩ := h 0 v rfl
    have : n = m := Option.some.inj e1
    subst this e2
    exact .cons n t (ints_get (by simpa using hl) fun j u hu => h (j + 1) u hu)
section
variable {X : Cx}
theorem vals_sorted {b : Bool} {kw : List (Str × Value)} {pins : List (Addr × Obj)} {s : Shared} {σ : L2.St} {H : Hp} {p d : Addr} {is : List Int} {kvs : List (Key × V)} {Q : VK} (hc : X.calm = true) (I : Inv X pins σ H s)
    (hs : ∀ {A : Around} {s : Shared} {a : Addr} {vs : List Value} {n : Nat} {R : PySem.Fin → Shared → Prop} {E : Value → Shared → Prop}, s.heap.get? a = some (seqObj "list" vs.toArray n) → vs.length ≤ sizeLine → IntsAre vs is →
      (∀ out : List Value, SrtO.Srtd SrtO.ltIv out → SrtO.Stb SrtO.ltIv out (if b = true then vs.reverse else vs) → R (.done (.ret .none)) { s with heap := sortedHeap s.heap a vs (if b = true then out.toArray.reverse else out.toArray) }) →
      wpAny (model X.prog X.w) A (Builtin.«list.sort» ⟨[.ref a], kw⟩) R E s)
    (ha1 : ∀ a, argsOk "sorted" ⟨[a], kw⟩) (ha2 : ∀ a, argsOk "list.sort" ⟨[a], kw⟩)
    (hp : H p = some (vwO "dict_values" p d)) (hd : H d = some (.dK kvs)) (hv : kvs.map (·.2) = is.map V.int)
    (q : ∀ (js : List Int) (a : Addr), js.Perm is → OrdB b js → H a = none → Q (.ref a) (upd H a (.lst (js.map V.int)))) : wpAny (model X.prog X.w) X.A (call (.builtin "sorted") [.ref p] kw) (EP X pins σ Q) X.xe s := by
  have hvw : s.heap.get? p = some { cls := .type "dict_values", data := .fields #[.ref d] } := (show ObjOk X.prog X.w H s.heap p (vwO "dict_values" p d) from I.hok p _ hp).1
  obtain ⟨hz, hsys, vs, rel, dof⟩ := dk_of I.hok hd
  obtain ⟨ep, dat⟩ := dof.dictAt
  have K := PySem.W.kdl_values (prog := X.prog) (w := X.w) (knd := mixKind X.prog X.w) (r := p) (d := d) (kvs := vs) (ep := ep)
  have hok : s.heap.IsValuesView p d ∧ s.heap.DictAt (mixKind X.prog X.w) d vs ep := ⟨⟨_, hvw, rfl, rfl⟩, dat⟩
  have hh : X.A.handled = none := I.ok.hd hc
  have lk0 : kvs.length = is.length := by
    have e1 := congrArg List.length hv
    rwa [List.length_map, List.length_map] at e1
  have lv : vs.length = is.length := by rw [← KV.length rel, lk0]
  have hz' : vs.length ≤ sizeLine := by rw [← KV.length rel]; exact hz
  refine call_function_entry_kw kind_sorted plain_sorted entry_sorted (ha1 _) ?_
  unfold Builtin.«sorted»
  refine wpAny_bind (m := checkCount "sorted" 1 1 _) (wpAny_pure ?_)
  refine wpAny_bind (PySem.W.kdu_collect (A := X.A.in1) K hh hok hz' fun h' tk acc hk hacc => ?_)
  have hl : acc.toList.length = is.length := by rw [Array.length_toList, hacc.1, lv]
  have hI : IntsAre acc.toList is := ints_get hl fun j v hj => by
    obtain ⟨k, hkv⟩ := hacc.2 j v (by rw [← Array.getElem?_toList]; exact hj)
    obtain ⟨x, h1, h2⟩ := KV.at' rel hkv
    have e1 : (kvs.map (·.2))[j]? = some x := by rw [List.getElem?_map, h1] <;> rfl
    rw [hv, List.getElem?_map] at e1
    obtain ⟨n, hn, e2⟩ := Option.map_eq_some_iff.mp e1
    subst e2
    obtain ⟨t, e3⟩ := h2
    exact ⟨n, t, hn, e3⟩
  have hz2 : acc.toList.length ≤ sizeLine := by rw [hl, ← lv]; exact hz'
  refine wpAny_bind (wpAny_newList ?_ hz2)
  have hob : (h'.push { cls := .type "list", data := .seq acc.toList.toArray }).get? h'.objs.size = some (seqObj "list" acc.toList.toArray 0) := Heap.get?_push_size _ rfl
  have I0 : Inv X pins σ H { s with heap := h', toks := tk } := I.kept (t' := tk) hk
  refine wpAny_bind (wpAny_holding (wpAny_call_entry_kw slot_list_sort ⟨_, hob, rfl⟩ entry_list_sort ?_ (ha2 _)))
  refine hs hob hz2 hI fun out h1 h2 => ⟨_, rfl, ?_⟩
  obtain ⟨ns', k1, k2, k3⟩ := SrtR.ints_outR hI h1 h2
  have ka : ∀ b o, h'.get? b = some o → (h'.push { cls := .type "list", data := .seq acc.toList.toArray }).get? b = some o := fun b o e => Heap.get?_push_of_some _ e
  have kS : ∀ b' o, h'.get? b' = some o → (sortedHeap (h'.push { cls := .type "list", data := .seq acc.toList.toArray }) h'.objs.size acc.toList (if b = true then out.toArray.reverse else out.toArray)).get? b' = some o := fun b' o e =>
    (sortedHeap_old (Nat.ne_of_lt (Heap.lt_size e)) (Heap.lt_size (ka _ _ e))).trans (ka _ _ e)
  obtain ⟨eF, heF⟩ := sortedHeap_at (vs := acc.toList) (out := (if b = true then out.toArray.reverse else out.toArray)) hob
  have hlen : (ns'.map V.int).length ≤ sizeLine := by
    rw [List.length_map, k2.length_eq, ← hl]
    exact hz2
  have e0 : ((if b = true then out.toArray.reverse else out.toArray).toList).toArray = (if b = true then out.toArray.reverse else out.toArray) := by rw [Array.toArray_toList]
  exact wpAny_pure ⟨_, rfl, .ref h'.objs.size, upd H h'.objs.size (.lst (ns'.map V.int)), I0.laid (t' := tk) kS (Nat.le_refl _) ⟨hlen, _, eF, vals_of_ints k1, by rw [e0]; exact heF⟩, rfl, q _ _ k2 k3 (I0.hok.fresh (Nat.le_refl _))⟩
theorem cr_sortedValsRev {b : Bool} (hc : X.calm = true) : CallRK X (.builtin "sorted") [Str.ofString "reverse"] (rSortVals b [.bl b]) := by
  intro pins s σ H vs zs us ws Q I r rz h
  obtain ⟨p, d, is, kvs, rfl, rfl, hp, hd, hv, q⟩ := h
  obtain rfl := Vals.ref1 r
  obtain ⟨w1, rfl, e1⟩ := vals1 rz
  obtain rfl : w1 = Value.bool b := e1
  exact vals_sorted hc I (fun ho hz hI h => SrtR.list_sort_ordR SrtO.swo_int ho hz (fun h2 => SrtO.ints_sortable hI h2) h) (fun _ => args_sorted_rev _ _) (fun _ => args_list_sort_rev _ _) hp hd hv q
theorem cr_sortedVals (hc : X.calm = true) : CallR X (.builtin "sorted") (fun xs H Q => rSortVals false [] xs [] H Q) := by
  intro pins s σ H vs us Q I r h
  obtain ⟨p, d, is, kvs, rfl, _, hp, hd, hv, q⟩ := h
  obtain rfl := Vals.ref1 r
  exact vals_sorted (b := false) hc I (fun ho hz hI h => SrtO.list_sort_ord SrtO.swo_int ho hz (fun h2 => SrtO.ints_sortable hI h2) fun out h1 h2 => h out h1 h2) (fun _ => args_sorted1 _) (fun _ => args_list_sort _) hp hd hv q
end
end DK
set_option Elab.async false
set_option linter.all false
set_option maxRecDepth 100000
/-! pouring: mathematics -/
namespace DK
open PySem L2 PyProof.Rows
/-! ### ints, falling -/
def fallI (xs : List Int) : List Int := xs.mergeSort fun a b => decide (b ≤ a)
theorem fallI_perm (xs : List Int) : (fallI xs).Perm xs := List.mergeSort_perm _ _
theorem fall_eq {xs ys : List Int} (hx : xs.Pairwise (· ≥ ·)) (hy : ys.Pairwise (· ≥ ·)) (p : xs.Perm ys) : xs = ys :=
  p.eq_of_pairwise (fun a b _ _ h1 h2 => Int.le_antisymm h2 h1) hx hy
theorem fallI_pw (xs : List Int) : (fallI xs).Pairwise (· ≥ ·) := by
  have := List.pairwise_mergeSort (le := fun a b : Int => decide (b ≤ a)) (fun a b c h1 h2 => by simp at *; omega) (fun a b => by simp; omega) xs
  exact this.imp fun h => of_decide_eq_true h
theorem fallI_eq {xs js : List Int} (p : js.Perm xs) (h : js.Pairwise (· ≥ ·)) : js = fallI xs := fall_eq h (fallI_pw _) (p.trans (fallI_perm _).symm)
def vals (l : Dk) : List Int := l.map (·.2)
def kth (l : Dk) (k : Nat) : Int := ((fallI (vals l))[k]?).getD 0
theorem kth_at {l : Dk} {k : Nat} (h : k < l.length) : (fallI (vals l))[k]? = some (kth l k) := by
  have : k < (fallI (vals l)).length := by rw [(fallI_perm _).length_eq]; unfold vals; rw [List.length_map]; exact h
  unfold kth
  rw [List.getElem?_eq_getElem this] <;> rfl
theorem kth_perm {l m : Dk} (p : l.Perm m) (k : Nat) : kth l k = kth m k := by
  unfold kth
  rw [fallI_eq (((fallI_perm _).trans (p.map _)) : (fallI (vals l)).Perm (vals m)) (fallI_pw _)]
def ex (z v : Int) : Int := if z < v then v - z else 0
theorem fall_few {z : Int} : ∀ {js : List Int} {k : Nat}, js.Pairwise (· ≥ ·) → js[k]? = some z → (js.filter fun v => decide (z < v)).length ≤ k
  | [], k, _, h => by simp at h
  | v :: r, 0, hp, h => by
    obtain ⟨h1, h2⟩ := List.pairwise_cons.mp hp
    have e : v = z := by simpa using h
    rw [List.filter_eq_nil_iff.mpr]
    · exact Nat.le_refl _
    · intro x hx
      simp only [decide_eq_true_eq]
      rcases List.mem_cons.mp hx with rfl | hx
      · omega
      · have := h1 x hx
        omega
  | v :: r, k + 1, hp, h => by
    obtain ⟨h1, h2⟩ := List.pairwise_cons.mp hp
    have ih := fall_few h2 (k := k) (by simpa using h)
    rw [List.filter_cons]
    split
    · rw [List.length_cons]; omega
    · omega
theorem sum_ex_le {z : Int} (hz : 0 ≤ z) : ∀ {js : List Int}, (∀ v ∈ js, 0 ≤ v) → (js.map (ex z)).sum ≤ js.sum
  | [], _ => Int.le_refl _
  | v :: r, h => by
    have ih := sum_ex_le hz (js := r) fun x hx => h x (List.mem_cons_of_mem _ hx)
    have hv := h v (List.mem_cons_self ..)
    rw [List.map_cons, List.sum_cons, List.sum_cons]
    unfold ex at ih ⊢
    split <;> omega
theorem fall_sum {z : Int} (hz : 0 ≤ z) : ∀ {js : List Int} {k : Nat}, js.Pairwise (· ≥ ·) → (∀ v ∈ js, 0 ≤ v) → js[k]? = some z → ((k : Int) + 1) * z + (js.map (ex z)).sum ≤ js.sum
  | [], k, _, _, h => by simp at h
  | v :: r, 0, hp, hn, h => by
    have e : v = z := by simpa using h
    have := sum_ex_le hz (js := r) fun x hx => hn x (List.mem_cons_of_mem _ hx)
    rw [List.map_cons, List.sum_cons, List.sum_cons]
    have e2 : ex z v = 0 := by unfold ex; rw [if_neg (by omega)]
    rw [e2]
    have e3 : (((0 : Nat) : Int) + 1) * z = z := by simp
    rw [e3]
    omega
  | v :: r, k + 1, hp, hn, h => by
    obtain ⟨h1, h2⟩ := List.pairwise_cons.mp hp
    have h' : r[k]? = some z := by simpa using h
    have ih := fall_sum hz h2 (fun x hx => hn x (List.mem_cons_of_mem _ hx)) h'
    have hv : v ≥ z := h1 z (List.mem_of_getElem? h')
    rw [List.map_cons, List.sum_cons, List.sum_cons]
    have e2 : ex z v = v - z := by unfold ex; split <;> omega
    rw [e2]
    have e3 : (((k + 1 : Nat) : Int) + 1) * z = ((k : Int) + 1) * z + z := by
      rw [Int.natCast_add, Int.add_mul ((k : Int) + ((1 : Nat) : Int)) 1 z]
      simp
    rw [e3]
    omega
theorem sum_perm {xs ys : List Int} (p : xs.Perm ys) : xs.sum = ys.sum := by
  induction p with
  | nil => rfl
  | cons x _ ih => rw [List.sum_cons, List.sum_cons, ih]
  | swap x y l => simp only [List.sum_cons]; omega
  | trans _ _ a b => exact a.trans b
theorem low_cons (p : Str × Int) (r : Dk) (z : Int) : low (p :: r) z = if z < p.2 then (p.1, p.2 - z) :: low r z else low r z := by
  unfold low
  rw [List.filter_cons]
  by_cases c : z < p.2 <;> simp [c]
theorem tot_low_ex (z : Int) : ∀ l : Dk, tot (low l z) = ((vals l).map (ex z)).sum
  | [] => rfl
  | p :: r => by
    have ih := tot_low_ex z r
    rw [low_cons]
    show _ = (ex z p.2 :: (vals r).map (ex z)).sum
    rw [List.sum_cons, ← ih]
    unfold ex
    split
    · rw [tot_cons]
    · omega
theorem low_len (z : Int) : ∀ l : Dk, (low l z).length = ((vals l).filter fun v => decide (z < v)).length
  | [] => rfl
  | p :: r => by
    have ih := low_len z r
    rw [low_cons]
    show _ = (List.filter _ (p.2 :: vals r)).length
    rw [List.filter_cons]
    by_cases c : z < p.2
    · rw [if_pos c, if_pos (decide_eq_true c), List.length_cons, List.length_cons, ih]
    · rw [if_neg c, if_neg (by simp [c]), ih]
/-! ### the cut -/
def cutM (k : Nat) (l : Dk) (g t : Int) : DS := if l.length ≤ k then ⟨l, g, t⟩ else ⟨low l (kth l k), g + kth l k, t⟩
theorem kth_pos {k : Nat} {l : Dk} (h : k < l.length) (hp : ∀ p ∈ l, 0 < p.2) : 0 < kth l k := by
  have := List.mem_of_getElem? (kth_at h)
  have := (fallI_perm _).mem_iff.mp this
  obtain ⟨p, hp', e⟩ := List.mem_map.mp this
  rw [← e]
  exact hp p hp'
theorem cut_len {k : Nat} {l : Dk} {g t : Int} : (cutM k l g t).l.length ≤ k := by
  unfold cutM
  split
  · assumption
  · rename_i h
    show (low l (kth l k)).length ≤ k
    rw [low_len, ← ((fallI_perm (vals l)).filter _).length_eq]
    exact fall_few (fallI_pw _) (kth_at (by omega))
theorem cut_nd {k : Nat} {l : Dk} {g t : Int} (nd : (keys l).Nodup) : (keys (cutM k l g t).l).Nodup := by
  unfold cutM
  split
  · exact nd
  · exact nodup_low nd _
theorem cut_pos {k : Nat} {l : Dk} {g t : Int} (hp : ∀ p ∈ l, 0 < p.2) : ∀ p ∈ (cutM k l g t).l, 0 < p.2 := by
  unfold cutM
  split
  · exact hp
  · exact low_pos l _
theorem cut_ok {k : Nat} {l : Dk} {g t : Int} (nd : (keys l).Nodup) (hp : ∀ p ∈ l, 0 < p.2) : Ok k (cutM k l g t).l := ⟨cut_nd nd, cut_pos hp, cut_len⟩
theorem cut_keys {k : Nat} {l : Dk} {g t : Int} {n : Str} (h : n ∈ keys (cutM k l g t).l) : n ∈ keys l := by
  unfold cutM at h
  split at h
  · exact h
  · exact keys_low_sub h
theorem cut_t (k : Nat) (l : Dk) (g t : Int) : (cutM k l g t).t = t := by unfold cutM; split <;> rfl
theorem cut_same {k : Nat} {l : Dk} {g t : Int} (h : l.length ≤ k) : cutM k l g t = ⟨l, g, t⟩ := by unfold cutM; rw [if_pos h]
theorem low_perm {l m : Dk} (p : l.Perm m) (z : Int) : (low l z).Perm (low m z) := (p.filter _).map _
theorem cut_perm {k : Nat} {l m : Dk} (p : l.Perm m) (g t : Int) : (cutM k l g t).l.Perm (cutM k m g t).l ∧ (cutM k l g t).g = (cutM k m g t).g := by
  unfold cutM
  rw [p.length_eq, kth_perm p k]
  split
  · exact ⟨p, rfl⟩
  · exact ⟨low_perm p _, rfl⟩
/-! ### sums of drawers -/
def sumD (l m : Dk) : Dk := m.foldl (fun a p => put a p.1 ((lk a p.1).getD 0 + p.2)) l
theorem sumD_snoc (l m : Dk) (p : Str × Int) : sumD l (m ++ [p]) = put (sumD l m) p.1 ((lk (sumD l m) p.1).getD 0 + p.2) := by unfold sumD; rw [List.foldl_append]; rfl
theorem sumD_nil (l : Dk) : sumD l [] = l := rfl
theorem sumD_cons (l : Dk) (p : Str × Int) (m : Dk) : sumD l (p :: m) = sumD (put l p.1 ((lk l p.1).getD 0 + p.2)) m := rfl
theorem sumD_nd : ∀ {m l : Dk}, (keys l).Nodup → (keys (sumD l m)).Nodup
  | [], l, h => h
  | p :: m, l, h => sumD_nd (m := m) (nodup_put h _ _)
theorem sumD_pos : ∀ {m l : Dk}, (∀ p ∈ l, 0 < p.2) → (∀ p ∈ m, 0 < p.2) → ∀ p ∈ sumD l m, 0 < p.2
  | [], l, h, _ => h
  | p :: m, l, h, h2 => sumD_pos (m := m) (put_pos h (by have := getD_nn h p.1; have := h2 p (List.mem_cons_self ..); omega)) fun q hq => h2 q (List.mem_cons_of_mem _ hq)
theorem sumD_tot : ∀ {m l : Dk}, (keys l).Nodup → tot (sumD l m) = tot l + tot m
  | [], l, _ => by rw [sumD_nil, tot_nil]; omega
  | p :: m, l, h => by
    rw [sumD_cons, sumD_tot (m := m) (nodup_put h _ _), tot_put h, tot_cons]
    omega
theorem sumD_lk (n : Str) : ∀ {m l : Dk}, (keys m).Nodup → (lk (sumD l m) n).getD 0 = (lk l n).getD 0 + (lk m n).getD 0
  | [], l, _ => by show (lk l n).getD 0 = _ + 0; omega
  | p :: m, l, h => by
    have nd' : (keys m).Nodup := (List.nodup_cons.mp h).2
    have hp : p.1 ∉ keys m := (List.nodup_cons.mp h).1
    rw [sumD_cons, sumD_lk n nd', lk_put']
    show _ = _ + (if p.1 = n then some p.2 else lk m n).getD 0
    by_cases c : p.1 = n
    · have e : lk m n = none := lk_none.mpr (c ▸ hp)
      rw [if_pos c.symm, if_pos c, e, c]
      show (lk l n).getD 0 + p.2 + 0 = (lk l n).getD 0 + p.2
      omega
    · rw [if_neg (fun x => c x.symm), if_neg c]
theorem sumD_keys {n : Str} : ∀ {m l : Dk}, n ∈ keys (sumD l m) ↔ n ∈ keys l ∨ n ∈ keys m
  | [], l => by simp [sumD_nil, keys]
  | p :: m, l => by
    rw [sumD_cons, sumD_keys (m := m), keys_put]
    show _ ↔ _ ∨ n ∈ p.1 :: keys m
    split
    · rename_i h
      constructor
      · rintro (a | a)
        · exact .inl a
        · exact .inr (List.mem_cons_of_mem _ a)
      · rintro (a | a)
        · exact .inl a
        · rcases List.mem_cons.mp a with rfl | a
          · exact .inl h
          · exact .inr a
    · rw [List.mem_append, List.mem_singleton, List.mem_cons, or_assoc]
theorem sumD_len : ∀ {m l : Dk}, (sumD l m).length ≤ l.length + m.length
  | [], l => by simp [sumD_nil]
  | p :: m, l => by
    rw [sumD_cons]
    have := sumD_len (m := m) (l := put l p.1 ((lk l p.1).getD 0 + p.2))
    have := put_len_le l p.1 ((lk l p.1).getD 0 + p.2)
    rw [List.length_cons]
    omega
theorem nd_of_keys {l : Dk} (h : (keys l).Nodup) : l.Nodup := (List.pairwise_map.mp h).imp fun h e => h (by rw [e])
theorem perm_of_lk2 {l m : Dk} (h1 : (keys l).Nodup) (h2 : (keys m).Nodup) (h : ∀ n, lk l n = lk m n) : l.Perm m :=
  (List.perm_ext_iff_of_nodup (nd_of_keys h1) (nd_of_keys h2)).mpr fun p => ⟨fun hp => lk_mem ((h p.1).symm.trans (lk_of_mem h1 hp)), fun hp => lk_mem ((h p.1).trans (lk_of_mem h2 hp))⟩
theorem lk_of_getD {l m : Dk} (h1 : ∀ p ∈ l, 0 < p.2) (h2 : ∀ p ∈ m, 0 < p.2) {n : Str} (h : (lk l n).getD 0 = (lk m n).getD 0) : lk l n = lk m n := by
  cases e1 : lk l n with
  | none =>
    cases e2 : lk m n with
    | none => rfl
    | some y =>
      have := h2 _ (lk_mem e2)
      rw [e1, e2] at h
      have h : (0 : Int) = y := h
      have : 0 < y := this
      omega
  | some x =>
    have hx := h1 _ (lk_mem e1)
    cases e2 : lk m n with
    | none =>
      rw [e1, e2] at h
      have h : x = (0 : Int) := h
      have : 0 < x := hx
      omega
    | some y =>
      rw [e1, e2] at h
      exact congrArg some h
/-- the order of what is added up says nothing -/
theorem sumD_perm {l l' m m' : Dk} (nl : (keys l).Nodup) (nm : (keys m).Nodup) (pl : ∀ p ∈ l, 0 < p.2) (pm : ∀ p ∈ m, 0 < p.2) (hl : l.Perm l') (hm : m.Perm m') : (sumD l m).Perm (sumD l' m') := by
  have nl' : (keys l').Nodup := (keys_perm hl).nodup_iff.mp nl
  have nm' : (keys m').Nodup := (keys_perm hm).nodup_iff.mp nm
  have pl' : ∀ p ∈ l', 0 < p.2 := fun p h => pl p (hl.mem_iff.mpr h)
  have pm' : ∀ p ∈ m', 0 < p.2 := fun p h => pm p (hm.mem_iff.mpr h)
  refine perm_of_lk2 (sumD_nd nl) (sumD_nd nl') fun n => lk_of_getD (sumD_pos pl pm) (sumD_pos pl' pm') ?_
  rw [sumD_lk n nm, sumD_lk n nm', lk_perm nl hl n, lk_perm nm hm n]
def pourM (k : Nat) (s s' : DS) : DS := cutM k (sumD (srt s.l) (srt s'.l)) (s.g + s'.g) (s.t + s'.t)
theorem srt_ok {k : Nat} {l : Dk} (o : Ok k l) : Ok k (srt l) := ⟨(keys_perm (srt_perm l)).nodup_iff.mpr o.nd, fun p hp => o.pos p ((srt_perm l).mem_iff.mp hp), by rw [(srt_perm l).length_eq]; exact o.len⟩
theorem pour_ok {k k' j : Nat} {s s' : DS} (o : Ok k s.l) (o' : Ok k' s'.l) : Ok j (pourM j s s').l :=
  cut_ok (sumD_nd (srt_ok o).nd) (sumD_pos (srt_ok o).pos (srt_ok o').pos)
theorem pour_keys {k : Nat} {s s' : DS} {n : Str} (h : n ∈ keys (pourM k s s').l) : n ∈ keys s.l ∨ n ∈ keys s'.l := by
  rcases sumD_keys.mp (cut_keys h) with h | h
  · exact .inl ((keys_perm (srt_perm _)).mem_iff.mp h)
  · exact .inr ((keys_perm (srt_perm _)).mem_iff.mp h)
end DK
set_option Elab.async false
set_option linter.all false
set_option maxRecDepth 100000
/-! a desk that was poured: what it tells holds the true numbers between -/
namespace DK
open PySem L2 PyProof.Rows
structure Hd (k : Nat) (s : DS) (tr : Dk) : Prop where
  O : Ok k s.l
  nd : (keys tr).Nodup
  pos : ∀ p ∈ tr, 0 < p.2
  sum : tot s.l + ((k : Int) + 1) * s.g ≤ s.t
  all : tot tr = s.t
  g0 : 0 ≤ s.g
  lo : ∀ n, leastM s n ≤ (lk tr n).getD 0
  hi : ∀ n, (lk tr n).getD 0 ≤ leastM s n + s.g
theorem Hd.nil (k : Nat) : Hd k ⟨[], 0, 0⟩ [] :=
  ⟨ok_nil k, List.nodup_nil, fun _ h => (List.not_mem_nil h).elim, (by show tot [] + _ * (0 : Int) ≤ 0; rw [tot_nil, Int.mul_zero]; decide), rfl, Int.le_refl _, fun _ => Int.le_refl _, fun _ => Int.le_refl _⟩
theorem Hd.come {k : Nat} {s : DS} {tr : Dk} {n : Str} {w : Int} (b : Hd k s tr) (hw : 0 < w) (hk : 0 < k) : Hd k (comeM k s n w) (put tr n ((lk tr n).getD 0 + w)) := by
  have O' := come_ok (n := n) b.O hw hk
  have tn := getD_nn b.pos n
  have pos' : ∀ p ∈ put tr n ((lk tr n).getD 0 + w), 0 < p.2 := put_pos b.pos (by omega)
  have all' : tot (put tr n ((lk tr n).getD 0 + w)) = s.t + w := by
    rw [tot_put b.nd, b.all]
    omega
  have ge := put_len_ge tr n ((lk tr n).getD 0 + w)
  have et : (comeM k s n w).t = s.t + w := by
    unfold comeM
    split
    · rfl
    · split <;> rfl
  cases e : lk s.l n with
  | some y =>
    have ec : comeM k s n w = ⟨put s.l n (y + w), s.g, s.t + w⟩ := by unfold comeM; rw [e]
    have ls : ∀ m, leastM (comeM k s n w) m = if m = n then leastM s n + w else leastM s m := fun m => by
      rw [ec]
      show (lk (put s.l n (y + w)) m).getD 0 = _
      rw [lk_put']
      unfold leastM
      rw [e]
      rfl
    refine ⟨O', nodup_put b.nd _ _, pos', ?_, all'.trans et.symm, by rw [ec]; exact b.g0, fun m => ?_, fun m => ?_⟩
    · rw [ec]
      show tot (put s.l n (y + w)) + _ * s.g ≤ s.t + w
      rw [tot_put b.O.nd, e]
      have := b.sum
      show tot s.l + (y + w) - y + _ ≤ _
      omega
    · rw [ls, lk_put']
      have h1 := b.lo m
      have h2 := b.lo n
      by_cases c : m = n
      · rw [if_pos c, if_pos c]; omega
      · rw [if_neg c, if_neg c]; exact h1
    · rw [ls, lk_put']
      have h1 := b.hi m
      have h2 := b.hi n
      have eg : (comeM k s n w).g = s.g := by rw [ec]
      rw [eg]
      by_cases c : m = n
      · rw [if_pos c, if_pos c]; omega
      · rw [if_neg c, if_neg c]; exact h1
  | none =>
    have l0 : leastM s n = 0 := by unfold leastM; rw [e]; rfl
    by_cases cl : s.l.length < k
    · have ec : comeM k s n w = ⟨s.l ++ [(n, w)], s.g, s.t + w⟩ := by unfold comeM; rw [e]; dsimp only; rw [if_pos cl]
      have ls : ∀ m, leastM (comeM k s n w) m = if m = n then leastM s n + w else leastM s m := fun m => by
        rw [ec, l0]
        show (lk (s.l ++ [(n, w)]) m).getD 0 = _
        rw [← put_new w e, lk_put']
        unfold leastM
        rw [show (0 : Int) + w = w by omega]
      refine ⟨O', nodup_put b.nd _ _, pos', ?_, all'.trans et.symm, by rw [ec]; exact b.g0, fun m => ?_, fun m => ?_⟩
      · rw [ec]
        show tot (s.l ++ [(n, w)]) + _ * s.g ≤ s.t + w
        rw [tot_append, tot_cons, tot_nil]
        have := b.sum
        show tot s.l + (w + 0) + _ ≤ _
        omega
      · rw [ls, lk_put']
        have h1 := b.lo m
        have h2 := b.lo n
        by_cases c : m = n
        · rw [if_pos c, if_pos c]; omega
        · rw [if_neg c, if_neg c]; exact h1
      · rw [ls, lk_put']
        have h1 := b.hi m
        have h2 := b.hi n
        have eg : (comeM k s n w).g = s.g := by rw [ec]
        rw [eg]
        by_cases c : m = n
        · rw [if_pos c, if_pos c]; omega
        · rw [if_neg c, if_neg c]; exact h1
    · have hlen : s.l.length = k := by have := b.O.len; omega
      obtain ⟨z1, z2, z3⟩ := lss_spec s.l w
      have z0 : 0 < lss s.l w := by
        rcases z3 with h | ⟨p, hp, h⟩
        · omega
        · have := b.O.pos p hp; omega
      have ec : comeM k s n w = ⟨if lss s.l w < w then low s.l (lss s.l w) ++ [(n, w - lss s.l w)] else low s.l (lss s.l w), s.g + lss s.l w, s.t + w⟩ := by
        unfold comeM; rw [e]; dsimp only; rw [if_neg cl]
      generalize lss s.l w = z at *
      have nl : lk (low s.l z) n = none := lk_none.mpr fun h => lk_none.mp e (keys_low_sub h)
      have ls : ∀ m, leastM (comeM k s n w) m = if m = n then w - z else (if m ∈ keys s.l then leastM s m - z else 0) := fun m => by
        have lw : (lk (low s.l z) m).getD 0 = if m ∈ keys s.l then leastM s m - z else 0 := by
          rw [lk_low b.O.nd]
          unfold leastM
          cases em : lk s.l m with
          | none =>
            rw [if_neg (lk_none.mp em)]
            rfl
          | some y =>
            have hm : m ∈ keys s.l := Classical.byContradiction fun h => by rw [lk_none.mpr h] at em; cases em
            rw [if_pos hm]
            have := z2 _ (lk_mem em)
            show (if z < y then some (y - z) else none).getD 0 = y - z
            by_cases c : z < y
            · rw [if_pos c]; rfl
            · rw [if_neg c]
              show (0 : Int) = y - z
              have h3 : z ≤ y := this
              omega
        rw [ec]
        show (lk (if z < w then low s.l z ++ [(n, w - z)] else low s.l z) m).getD 0 = _
        by_cases c1 : z < w
        · rw [if_pos c1, ← put_new (w - z) nl, lk_put', lw]
        · rw [if_neg c1, lw]
          by_cases c : m = n
          · rw [if_pos c, if_neg (by rw [c]; exact lk_none.mp e)]
            omega
          · rw [if_neg c]
      have gg : (comeM k s n w).g = s.g + z := by rw [ec]
      refine ⟨O', nodup_put b.nd _ _, pos', ?_, all'.trans et.symm, by rw [gg]; have := b.g0; omega, fun m => ?_, fun m => ?_⟩
      · have e1 : tot (comeM k s n w).l = tot (low s.l z) + (w - z) := by
          rw [ec]
          show tot (if z < w then low s.l z ++ [(n, w - z)] else low s.l z) = _
          by_cases c1 : z < w
          · rw [if_pos c1, tot_append, tot_cons, tot_nil]
            show _ + (w - z + 0) = _
            omega
          · rw [if_neg c1]
            omega
        rw [e1, gg, et, tot_low z2, hlen, Int.mul_add, Int.add_mul (k : Int) 1 z, Int.mul_comm z (k : Int)]
        have := b.sum
        omega
      · rw [ls, lk_put']
        have h1 := b.lo m
        have h2 := b.lo n
        have h3 := getD_nn b.pos m
        by_cases c : m = n
        · rw [if_pos c, if_pos c]; omega
        · rw [if_neg c, if_neg c]
          by_cases c2 : m ∈ keys s.l
          · rw [if_pos c2]; omega
          · rw [if_neg c2]; exact h3
      · rw [ls, lk_put', gg]
        have h1 := b.hi m
        have h2 := b.hi n
        by_cases c : m = n
        · rw [if_pos c, if_pos c]; omega
        · rw [if_neg c, if_neg c]
          by_cases c2 : m ∈ keys s.l
          · rw [if_pos c2]; omega
          · rw [if_neg c2]
            have h4 : leastM s m = 0 := by unfold leastM; rw [lk_none.mpr c2]; rfl
            omega
/-- a share above all weight by drawers and one stands among those shown -/
theorem Hd.heavy {k : Nat} {s : DS} {tr : Dk} {n : Str} (b : Hd k s tr) (h : s.t < (lk tr n).getD 0 * ((k : Int) + 1)) : n ∈ maybeM k s := by
  have h1 := b.hi n
  have k0 : (0 : Int) ≤ (k : Int) + 1 := by omega
  have tl : 0 ≤ tot s.l := by
    have : ∀ l : Dk, (∀ p ∈ l, 0 < p.2) → 0 ≤ tot l := by
      intro l
      induction l with
      | nil => intro _; exact Int.le_refl _
      | cons p l ih =>
        intro hp
        rw [tot_cons]
        have := hp p (List.mem_cons_self ..)
        have := ih fun q hq => hp q (List.mem_cons_of_mem _ hq)
        omega
    exact this _ b.O.pos
  have h2 := Int.mul_le_mul_of_nonneg_right h1 k0
  refine List.mem_filter.mpr ⟨?_, decide_eq_true (Int.lt_of_lt_of_le h h2)⟩
  refine (keys_perm (srt_perm s.l)).mem_iff.mpr (Classical.byContradiction fun hn => ?_)
  have l0 : leastM s n = 0 := by unfold leastM; rw [lk_none.mpr hn]; rfl
  rw [l0] at h2
  have e : (0 + s.g) * ((k : Int) + 1) = ((k : Int) + 1) * s.g := by rw [Int.zero_add, Int.mul_comm]
  rw [e] at h2
  have := b.sum
  omega
theorem tot_srt (l : Dk) : tot (srt l) = tot l := tot_perm (srt_perm l)
/-- the cut keeps the numbers between -/
theorem Hd.cut {k : Nat} {l tr : Dk} {g t : Int} (nd : (keys l).Nodup) (hp : ∀ p ∈ l, 0 < p.2) (nt : (keys tr).Nodup) (pt : ∀ p ∈ tr, 0 < p.2) (hs : tot l + ((k : Int) + 1) * g ≤ t) (ha : tot tr = t) (hg : 0 ≤ g)
    (lo : ∀ n, (lk l n).getD 0 ≤ (lk tr n).getD 0) (hi : ∀ n, (lk tr n).getD 0 ≤ (lk l n).getD 0 + g) : Hd k (cutM k l g t) tr := by
  by_cases c : l.length ≤ k
  · rw [cut_same c]
    exact ⟨⟨nd, hp, c⟩, nt, pt, hs, ha, hg, lo, hi⟩
  · have z0 := kth_pos (by omega : k < l.length) hp
    have ec : cutM k l g t = ⟨low l (kth l k), g + kth l k, t⟩ := by unfold cutM; rw [if_neg c]
    have O := cut_ok (k := k) (g := g) (t := t) nd hp
    have few : ((k : Int) + 1) * kth l k + tot (low l (kth l k)) ≤ tot l := by
      rw [tot_low_ex, ← sum_perm ((fallI_perm (vals l)).map (ex (kth l k))), show tot l = (vals l).sum from rfl, ← sum_perm (fallI_perm (vals l))]
      refine fall_sum (Int.le_of_lt z0) (fallI_pw _) (fun v hv => ?_) (kth_at (by omega))
      obtain ⟨p, h1, rfl⟩ := List.mem_map.mp ((fallI_perm _).mem_iff.mp hv)
      exact Int.le_of_lt (hp p h1)
    rw [ec] at O ⊢
    generalize kth l k = z at *
    have ls : ∀ n, (lk (low l z) n).getD 0 ≤ (lk l n).getD 0 ∧ (lk l n).getD 0 ≤ (lk (low l z) n).getD 0 + z := fun n => by
      rw [lk_low nd]
      cases e : lk l n with
      | none => exact ⟨Int.le_refl _, by show (0 : Int) ≤ 0 + z; omega⟩
      | some y =>
        have hy : 0 < y := hp _ (lk_mem e)
        show (if z < y then some (y - z) else none).getD 0 ≤ y ∧ y ≤ (if z < y then some (y - z) else none).getD 0 + z
        by_cases c2 : z < y
        · rw [if_pos c2]
          show y - z ≤ y ∧ y ≤ y - z + z
          omega
        · rw [if_neg c2]
          show (0 : Int) ≤ y ∧ y ≤ 0 + z
          omega
    refine ⟨O, nt, pt, ?_, ha, by show 0 ≤ g + z; omega, fun n => Int.le_trans (ls n).1 (lo n), fun n => ?_⟩
    · show tot (low l z) + ((k : Int) + 1) * (g + z) ≤ t
      rw [Int.mul_add]
      omega
    · have h1 := hi n
      have h2 := (ls n).2
      show _ ≤ (lk (low l z) n).getD 0 + (g + z)
      omega
theorem Hd.pour {k : Nat} {s s' : DS} {tr tr' : Dk} (a : Hd k s tr) (b : Hd k s' tr') : Hd k (pourM k s s') (sumD tr tr') := by
  have n1 := srt_ok a.O
  have n2 := srt_ok b.O
  have e1 : ∀ n, (lk (sumD (srt s.l) (srt s'.l)) n).getD 0 = leastM s n + leastM s' n := fun n => by
    rw [sumD_lk n n2.nd, lk_perm n1.nd (srt_perm s.l), lk_perm n2.nd (srt_perm s'.l)]
    rfl
  refine Hd.cut (sumD_nd n1.nd) (sumD_pos n1.pos n2.pos) (sumD_nd a.nd) (sumD_pos a.pos b.pos) ?_ ?_ (by have := a.g0; have := b.g0; omega) (fun n => ?_) fun n => ?_
  · rw [sumD_tot n1.nd, tot_srt, tot_srt, Int.mul_add]
    have := a.sum
    have := b.sum
    omega
  · rw [sumD_tot a.nd, a.all, b.all]
  · rw [e1, sumD_lk n b.nd]
    have := a.lo n
    have := b.lo n
    omega
  · rw [e1, sumD_lk n b.nd]
    have := a.hi n
    have := b.hi n
    omega
theorem Hd.small {k j : Nat} {s : DS} {tr : Dk} (a : Hd k s tr) (h : j ≤ k) : Hd j (cutM j (srt s.l) s.g s.t) tr := by
  have n1 := srt_ok a.O
  refine Hd.cut n1.nd n1.pos a.nd a.pos ?_ a.all a.g0 (fun n => ?_) fun n => ?_
  · rw [tot_srt]
    have h1 := a.sum
    have h2 : ((j : Int) + 1) * s.g ≤ ((k : Int) + 1) * s.g := Int.mul_le_mul_of_nonneg_right (by omega) a.g0
    omega
  · rw [lk_perm n1.nd (srt_perm s.l)]
    exact a.lo n
  · rw [lk_perm n1.nd (srt_perm s.l)]
    exact a.hi n
end DK
set_option Elab.async false
set_option linter.all false
set_option maxRecDepth 100000
set_option maxHeartbeats 4000000
/-! a caught error that is kept behind its clause -/
namespace DK
open PySem PySem.Spec PyProof.Rows L2
/-- an exception object of ours at a, of class cls -/
def ExK (cls : Value) (d : Option Addr) (a : Addr) : HO := .ext fun h => ∃ (oe : Obj) (vs : Array Value), h.get? a = some oe ∧ Zc cls d oe ∧ oe.data = .fields vs
theorem exK_ok {P : Program} {w : World} {H : Hp} {h : Heap} {a : Addr} {cls : Value} {d : Option Addr} {oe : Obj} {vs : Array Value} (e : h.get? a = some oe) (z : Zc cls d oe) (f : oe.data = .fields vs) : ObjOk P w H h a (ExK cls d a) :=
  ⟨⟨oe, vs, e, z, f⟩, ⟨oe, e⟩, fun _ _ ⟨o, v, q, r⟩ k => ⟨o, v, k o q, r⟩⟩
section
variable {X : Cx} {pins : List (Addr × Obj)} {σ : L2.St} {H : Hp} {s : Shared}
/-- an object of ours that was not looked after is looked after from here on -/
theorem Inv.track {a : Addr} {o : HO} (I : Inv X pins σ H s) (hn : H a = none) (h0 : X.s_0.heap.get? a = none) (hL : a ≠ X.env.locals) (hc : ∀ x c, X.env.cells.lookup x = some c → c ≠ a) (hp : ∀ p ∈ X.pn ++ pins, p.1 ≠ a)
    (new : ObjOk X.prog X.w (upd H a o) s.heap a o) : Inv X pins σ (upd H a o) s := by
  have nb : ∀ {b : Addr} {u : Obj}, X.s_0.heap.get? b = some u → b ≠ a := fun e z => by rw [z, h0] at e; cases e
  refine ⟨I.ok, I.os, I.bare, ⟨I.base.keep, I.base.slot, fun b u q n x => ?_, I.base.there, fun b xs q => ?_, fun b u v q => ?_, fun b ps q => ?_⟩, I.loc, I.cell, ?_, fun x c e => ?_, fun p h => ?_, fun b u e => ?_, I.len⟩
  · rw [upd_ne (nb q)]
    exact I.base.free b u q n x
  · have z := I.base.tups b xs q
    rw [upd_ne (ne_of_none z hn)]
    exact z
  · have z := I.base.frzs b u v q
    rw [upd_ne (ne_of_none z hn)]
    exact z
  · obtain ⟨more, z⟩ := I.base.tbls b ps q
    exact ⟨more, by rw [upd_ne (ne_of_none z hn)]; exact z⟩
  · rw [upd_ne hL.symm]
    exact I.free
  · rw [upd_ne (hc x c e)]
    exact I.freeC x c e
  · obtain ⟨g1, g2, g3⟩ := I.pin p h
    exact ⟨g1, by rw [upd_ne (hp p h)]; exact g2, g3⟩
  · by_cases hb : b = a
    · subst hb
      rw [upd_same] at e
      cases e
      exact new
    · rw [upd_ne hb] at e
      exact (I.hok b u e).stay (fun _ _ _ q => q) (fun c q => by rw [upd_ne (ne_of_none q hn)]; exact q) fun c xs q => by rw [upd_ne (ne_of_none q hn)]; exact q
end
/-- what an 'except x as n' that keeps the error wishes of the body's exception -/
def wKeep (K : PySem.W.Frag) (c : Value) (i : Nat) (ts : Addr → Value → Option Addr → TS) (Wout : WX) (D : Ends) : WX := fun cls d σ H =>
  ∃ b, PySem.W.exmOne K cls c = some b ∧ (b = true → ∀ a, H a = none → ts a cls d { D with nx := fun σ' H' => H' a = none → D.nx (σ'.set i none) (upd H' a (ExK cls d a)), bk := fun σ' H' => D.bk (σ'.set i none) H', ct := fun σ' H' => D.ct (σ'.set i none) H' } (σ.set i (some (.ref a))) H) ∧
    (b = false → Wout cls d σ H)
section
variable {X : Cx} {x n : Str} {c : Value} {i : Nat} {body suite : List Stmt} {b₀ : Stmt} {np pos pos' : Pos} {tb : WX → TS} {ts : Addr → Value → Option Addr → TS} {Wout : WX}
theorem ps_try_keep (hst : X.stack = X.env :: X.outer) (hfl : X.env.frame = some X.env.locals) (hex : X.ex = []) (hN : X.N.Nodup) (hi : X.N[i]? = some n) (hln : X.env.kindOf n = some .local) (hc : Names X x c) (tk : Takes X Wout)
    (hb : ∀ (W : WX) (pn : List (Addr × Obj)) (xe : Value → Shared → Prop), Takes (X.tr pn xe) W → PassesOwn (model X.prog X.w) X.A X.env xe → PSs (X.tr pn xe) body (tb W))
    (hsu : ∀ (a : Addr) (oe : Obj) (cls : Value) (d : Option Addr) (pn : List (Addr × Obj)), Zc cls d oe → (∃ vs, oe.data = .fields vs) → PSs (X.suite a ((a, oe) :: pn)) (b₀ :: suite) (ts a cls d)) :
    PS X (.Try body [.ExceptHandler (some (.Name x np)) (some n) (b₀ :: suite) pos'] [] [] pos) (fun D σ H => tb (wKeep X.K c i ts Wout D) D σ H) := by
  refine ⟨fun pins s σ H D I rd => ?_⟩
  have okX := I.ok
  have hfrm : X.A.frames = some (X.env :: X.outer) := by rw [okX.frames, hst]
  have hloc : Loc X.env.scope n := .inl hln
  refine wpAny_Try_except (wpAny_mono ((hb (wKeep X.K c i ts Wout D) (X.pn ++ pins) (fun e t₁ => wpAny (model X.prog X.w) X.A (noteFrame e X.env) (fun _ t₂ => wpAny (model X.prog X.w) X.A (setFlight e none) (fun _ t₃ =>
    wpAny (model X.prog X.w) X.A (handleBy e X.env [.ExceptHandler (some (.Name x np)) (some n) (b₀ :: suite) pos']) (SP X pins D) X.xe t₃) X.xe t₂) X.xe t₁) (fun u t xx => ?_) PassesOwn.looking).run [] s σ H D (I.toTry _) rd) (fun f s1 hsp => ?_) (fun e s1 he => he))
  · -- caught
    obtain ⟨a, B, sB, pins', σB, HB, cls, d, rfl, JB, inB, upB, skyB, na, osB, agB, b, hb1, hyes, hno⟩ := xx
    have J0 : Inv X pins σB HB sB := JB.ofTry okX
    have sky' : Sky B (X.env :: X.outer) a (Zc cls d) X.env.locals t.heap := by rw [← hst]; exact skyB
    show wpAny (model X.prog X.w) X.A (noteFrame (.ref a) X.env) _ _ _
    refine Sky.land Zc.steady hfrm hfl sky' fun g3 fl3 up3 => ?_
    have J3 : Inv X pins σB HB { t with heap := g3 } := J0.landed inB fl3.1 (upB.trans up3) osB agB
    obtain ⟨oe3, vs3, he3, hz3, hd3⟩ := fl3.there
    have nfr : a ∉ frs (X.env :: X.outer) := fun hm => by
      obtain ⟨_, o', e', hnf⟩ := fl3.2.2.1.mem hm
      rw [he3] at e'
      cases e'
      exact hnf _ hd3
    have nL : a ≠ X.env.locals := fun z => nfr (List.mem_filterMap.mpr ⟨X.env, List.mem_cons_self, by rw [hfl, z]⟩)
    have nF : a ∉ X.fs := fun hm => by
      obtain ⟨e, he, q⟩ := List.mem_filterMap.mp hm
      exact nfr (List.mem_filterMap.mpr ⟨e, List.mem_cons_of_mem _ he, q⟩)
    have hB : sB.heap.get? a = none := by
      cases e : sB.heap.get? a with
      | none => rfl
      | some o =>
        have z := inB a o e (by rw [hst]; exact nfr)
        rw [fl3.2.1] at z
        cases z
    have h0 : X.s_0.heap.get? a = none := by
      cases e : X.s_0.heap.get? a with
      | none => rfl
      | some o =>
        obtain ⟨o', z⟩ := J0.base.there a o e (by rw [hex]; exact fun z => nomatch z)
        rw [hB] at z
        cases z
    have hcell : ∀ y c', X.env.cells.lookup y = some c' → c' ≠ a := fun y c' e z => by
      obtain ⟨v, o, ho, _⟩ := J0.cell y c' e
      rw [z, hB] at ho
      cases ho
    have hpin : ∀ p ∈ X.pn ++ pins, p.1 ≠ a := fun p h z => by
      have q := (J0.pin p h).1
      rw [z, hB] at q
      cases q
    have S3 := J3.suite he3 hd3 na nL nF
    refine wpAny_handleBy_cons (codeAny_handlers_test ?_) (by intro q; cases q)
    have LT : PySem.W.Looks (model X.prog X.w) g3 (typeOf (.ref a)) cls := fun A Q E s k q => wpAny_typeOf_ref (k _ _ he3) (by rw [hz3.1]; exact q)
    have LM := PySem.W.exm_one (M := model X.prog X.w) (J3.kIn) LT hb1
    have tested : ∀ {Q E : Value → Shared → Prop}, Q c { t with heap := g3 } → wpAny (model X.prog X.w) (X.A.mark (some (.ref a))) (eval (.Name x np) X.env) Q E { t with heap := g3 } := fun {Q E} q => by
      obtain ⟨hg, hdbg, hm | ⟨hm, hv, hnn⟩⟩ := hc
      · exact ld_glob (X := X.suite a ((a, oe3) :: (X.pn ++ pins))) S3 hg hm q hdbg
      · exact ld_blt (X := X.suite a ((a, oe3) :: (X.pn ++ pins))) S3 hg hm hv q hnn hdbg
    refine tested (LM.here ?_)
    cases b with
    | true =>
      refine codeAny_handlers_suite_as (HandSPX.lands_againZ fl3 fun g4 fl4 up4 => ?_)
      have J4 : Inv X pins σB HB { t with heap := g4 } := J0.landed inB fl4.1 ((upB.trans up3).trans up4) osB agB
      obtain ⟨oe4, vs4, he4, hz4, hd4⟩ := fl4.there
      have S4 := J4.suite he4 hd4 na nL nF
      refine store_ok (X := X.suite a ((a, oe4) :: (X.pn ++ pins))) (v := .ref a) S4 hN hi hloc rfl (fun s5 S5 => wpAny_mono ((hsu a oe4 cls d (X.pn ++ pins) hz4 ⟨_, hd4⟩).run [] s5 _ HB _ S5 (hyes rfl a na)) (fun f s6 hsp => ?_) (fun _ _ z => False.elim z)) (.inr hln)
      have past : ∀ {σ6 : L2.St} {H6 : Hp} {Q : Shared → Prop}, Inv (X.suite a ((a, oe4) :: (X.pn ++ pins))) [] σ6 H6 s6 → (∀ s7, Inv X pins (σ6.set i none) H6 s7 → Q s7) →
          wpAny (model X.prog X.w) X.A (do bindName X.env n .none; unbindBehindTheSuite X.env n pos') (fun _ s7 => Q s7) X.xe s6 := fun {σ6 H6 Q} S6 hq => gone_ok (S6.unsuite okX) hN hi hln hq
      cases f with
      | next =>
        obtain ⟨σ6, H6, S6, q6⟩ := hsp
        refine gone_ok (X := X.suite a ((a, oe4) :: (X.pn ++ pins))) S6 hN hi hln fun s7 S7 => ?_
        obtain ⟨p1, p2, _⟩ := S7.pin (a, oe4) (List.mem_append_left _ List.mem_cons_self)
        exact ⟨_, _, Inv.track (S7.unsuite okX) p2 h0 nL hcell hpin (exK_ok p1 hz4 hd4), q6 p2⟩
      | brk =>
        obtain ⟨σ6, H6, S6, q6⟩ := hsp
        exact past S6 fun s7 J7 => ⟨_, _, J7, q6⟩
      | cont =>
        obtain ⟨σ6, H6, S6, q6⟩ := hsp
        exact past S6 fun s7 J7 => ⟨_, _, J7, q6⟩
      | ret u =>
        obtain ⟨v6, σ6, H6, S6, r6, q6⟩ := hsp
        refine past S6 fun s7 J7 => ⟨_, _, _, J7, r6, q6⟩
    | false =>
      show wpAny _ X.A (handleBy (.ref a) X.env []) _ _ _
      refine wpAny_handleBy_nil ?_
      obtain ⟨k1, k2, k3, oe, vs, T, oT, ts', he, hz, hd, h1, hr⟩ := id fl3
      unfold PySem.passOn
      refine wpAny_bind (wpAny_field he hd h1 ?_)
      rw [if_neg (show ¬ ((Value.ref T == Value.none) = true) from by simp)]
      have last : wpAny (model X.prog X.w) X.A (setFlight (.ref a) X.env.frame) (fun _ t4 => wpAny (model X.prog X.w) X.A (throw (.ref a) : Sem Flow) (SP X pins D) X.xe t4) X.xe { t with heap := g3 } := by
        rw [hfl]
        refine HandSPX.setFlight_upZ fl3 fun g4 hh4 up4 => wpAny_throw (tk _ _ ?_)
        exact ⟨a, B, sB, pins, σB, HB, cls, d, rfl, J0, inB, (upB.trans up3).trans up4, .inr (.inr (by rw [hst]; exact hh4)), na, osB, agB, hno rfl⟩
      first
        | exact wpAny_bind (wpAny_pure (wpAny_bind last))
        | exact wpAny_bind last
  · cases f with
    | next =>
      obtain ⟨σ1, H1, J1, q⟩ := hsp
      exact wpAny_execs_nil ⟨σ1, H1, J1.ofTry okX, q⟩
    | brk =>
      obtain ⟨σ1, H1, J1, q⟩ := hsp
      exact ⟨σ1, H1, J1.ofTry okX, q⟩
    | cont =>
      obtain ⟨σ1, H1, J1, q⟩ := hsp
      exact ⟨σ1, H1, J1.ofTry okX, q⟩
    | ret u =>
      obtain ⟨v, σ1, H1, J1, r, q⟩ := hsp
      exact ⟨v, σ1, H1, J1.ofTry okX, r, q⟩
end
/-! ### isinstance of a kept error -/
def rIsK (K : PySem.W.Frag) : List V → Hp → VK → Prop := fun xs H Q => ∃ (a D C : Addr) (b : Bool), xs = [.ref a, .ref C] ∧ H a = some (ExK (.ref D) none a) ∧ ExcC K D ∧ PySem.W.kitOne K (.ref D) (.ref C) = some b ∧ Q (.bl b) H
def rIsKT (K : PySem.W.Frag) : List V → Hp → VK → Prop := fun xs H Q => ∃ (a D tp : Addr) (cs : List V) (us : List Value) (b : Bool), xs = [.ref a, .ref tp] ∧ H tp = some (.tup cs) ∧ Paired ClsV cs us ∧ H a = some (ExK (.ref D) none a) ∧ ExcC K D ∧ PySem.W.kitAny K (.ref D) us = some b ∧ Q (.bl b) H
section
variable {X : Cx}
theorem inst_of {P : Program} {w : World} {H : Hp} {h : Heap} {a D : Addr} (o : ObjOk P w H h a (ExK (.ref D) none a)) : ∃ oe, PySem.W.InstAt h a oe D none := by
  obtain ⟨⟨oe, vs, e, z, f⟩, _, _⟩ := o
  refine ⟨oe, ?_⟩
  obtain ⟨oc, od, oda, osl⟩ := oe
  obtain ⟨z1, z2⟩ := z
  dsimp only at z1 z2 f
  subst z1 z2 f
  exact ⟨e, rfl, rfl, trivial⟩
theorem call_isK : CallR X (.builtin "isinstance") (rIsK X.K) := by
  intro pins s σ H xs us Q I r h
  obtain ⟨a, D, C, b, rfl, ha, hC, e, q⟩ := h
  obtain ⟨u1, u2, rfl, r1, r2⟩ := vals2 r
  cases (show u1 = Value.ref a from r1)
  cases (show u2 = Value.ref C from r2)
  obtain ⟨oe, J⟩ := inst_of (show ObjOk X.prog X.w H s.heap a (ExK (.ref D) none a) from I.hok a _ ha)
  exact PySem.W.kia_one (PySem.W.handS_kitx_exc hC.hg hC.hk hC.hs hC.hd hC.ha hC.hn hC.ht hC.hm) I.kIn J e (fun z => nomatch z) fun tk => ⟨.bl b, H, I.tok tk, rfl, q⟩
theorem call_isKT : CallR X (.builtin "isinstance") (rIsKT X.K) := by
  intro pins s σ H xs us Q I r h
  obtain ⟨a, D, tp, cs, ws, b, rfl, hT, k, ha, hC, e, q⟩ := h
  obtain ⟨u1, u2, rfl, r1, r2⟩ := vals2 r
  cases (show u1 = Value.ref a from r1)
  cases (show u2 = Value.ref tp from r2)
  obtain ⟨oe, J⟩ := inst_of (show ObjOk X.prog X.w H s.heap a (ExK (.ref D) none a) from I.hok a _ ha)
  obtain ⟨_, its, rv, o, h1, h2, n, h3⟩ := (show ObjOk X.prog X.w H s.heap tp (.tup cs) from I.hok tp _ hT)
  have e3 := ClsV.all k rv
  subst e3
  obtain ⟨oc, od, dt, sl⟩ := o
  simp only at h2 h3
  subst h2 h3
  exact PySem.W.kia_tup (PySem.W.handS_kitx_exc hC.hg hC.hk hC.hs hC.hd hC.ha hC.hn hC.ht hC.hm) I.kIn J h1 e (fun z => nomatch z) fun tk => ⟨.bl b, H, I.tok tk, rfl, q⟩
end
end DK
set_option Elab.async false
set_option linter.all false
set_option maxRecDepth 100000
/-! the order of the drawers says nothing -/
namespace DK
open PySem PySem.Spec PyProof.Rows L2
/-- alike but for the order -/
structure Alk (s s' : DS) : Prop where
  l : s.l.Perm s'.l
  g : s.g = s'.g
  t : s.t = s'.t
theorem Alk.refl (s : DS) : Alk s s := ⟨.refl _, rfl, rfl⟩
theorem lss_perm {l m : Dk} (p : l.Perm m) (w : Int) : lss l w = lss m w := by
  obtain ⟨a1, a2, a3⟩ := lss_spec l w
  obtain ⟨b1, b2, b3⟩ := lss_spec m w
  have h1 : lss l w ≤ lss m w := by
    rcases b3 with h | ⟨q, hq, h⟩
    · rw [h]; exact a1
    · rw [h]; exact a2 q (p.mem_iff.mpr hq)
  have h2 : lss m w ≤ lss l w := by
    rcases a3 with h | ⟨q, hq, h⟩
    · rw [h]; exact b1
    · rw [h]; exact b2 q (p.mem_iff.mp hq)
  omega
theorem put_perm {l m : Dk} (nd : (keys l).Nodup) (p : l.Perm m) (n : Str) (z : Int) : (put l n z).Perm (put m n z) :=
  perm_of_lk2 (nodup_put nd n z) (nodup_put ((keys_perm p).nodup_iff.mp nd) n z) fun k => by rw [lk_put, lk_put, lk_perm nd p k]
theorem Alk.come {k : Nat} {s s' : DS} (a : Alk s s') (nd : (keys s.l).Nodup) (n : Str) (w : Int) : Alk (comeM k s n w) (comeM k s' n w) := by
  obtain ⟨p, eg, et⟩ := a
  unfold comeM
  rw [← lk_perm nd p n]
  cases e : lk s.l n with
  | some z => exact ⟨put_perm nd p n (z + w), eg, by show s.t + w = s'.t + w; rw [et]⟩
  | none =>
    dsimp only
    rw [← p.length_eq]
    by_cases c : s.l.length < k
    · rw [if_pos c, if_pos c]
      exact ⟨p.append_right _, eg, by show s.t + w = s'.t + w; rw [et]⟩
    · rw [if_neg c, if_neg c, ← lss_perm p w]
      refine ⟨?_, by show s.g + _ = s'.g + _; rw [eg], by show s.t + w = s'.t + w; rw [et]⟩
      show (if _ then _ else _ : Dk).Perm (if _ then _ else _)
      by_cases c2 : lss s.l w < w
      · rw [if_pos c2, if_pos c2]
        exact (low_perm p _).append_right _
      · rw [if_neg c2, if_neg c2]
        exact low_perm p _
/-- what a law's own pouring leaves -/
def pourL (k : Nat) (s s' : DS) : DS := cutM k (sumD s.l s'.l) (s.g + s'.g) (s.t + s'.t)
theorem pour_alk {k i j : Nat} {s s' : DS} (o : Ok i s.l) (o' : Ok j s'.l) : Alk (pourM k s s') (pourL k s s') := by
  have p := sumD_perm (srt_ok o).nd (srt_ok o').nd (srt_ok o).pos (srt_ok o').pos (srt_perm s.l) (srt_perm s'.l)
  have := cut_perm (k := k) p (s.g + s'.g) (s.t + s'.t)
  exact ⟨this.1, this.2, by unfold pourM pourL; rw [cut_t, cut_t]⟩
theorem cut_alk {k i : Nat} {s : DS} (o : Ok i s.l) : Alk (cutM k (srt s.l) s.g s.t) (cutM k s.l s.g s.t) := by
  have := cut_perm (k := k) (srt_perm s.l) s.g s.t
  exact ⟨this.1, this.2, by rw [cut_t, cut_t]⟩
end DK
set_option Elab.async false
set_option linter.all false
set_option maxRecDepth 100000
set_option maxHeartbeats 4000000
/-! calls of methods and classes inside a try; a list made along two lists -/
namespace DK
open PySem PySem.Spec PyProof.Rows L2
section
variable {X : Cx} {CX : CXT} {k : Nat} {f C : Addr} {fd : FuncData} {ps : List Str} {sp : Sp} {W : L2.St → XK} {x m : Str} {p pos apos : Pos} {e o : Expr} {es : List Expr} {ta : TE} {t : TA}
def tMethS (C : Addr) (m : Str) (sp : Sp) (W : L2.St → XK) (ta : TE) (t : TA) : TE := fun σ H Q => ta σ H fun x H1 => ∃ a dx fs, x = .ref a ∧ H1 a = some (.ins C dx fs) ∧ fs.lookup m = none ∧ t σ H1 fun vs H2 => sp (x :: vs) H2 Q (W σ)
theorem pe_methS5 {pl : Sem Bool} (he : PE X o ta) (c : Cls X.K C) (hm : Meth X.K C m f) (F : FnOk X.prog X.w X.K X.mg X.base CX k f fd ps sp) (hr : Room k X.A) (hb : Binds X.K fd ps []) (hx : ∀ σ, PassesAt CX X σ (W σ)) (ha : PA X (e :: es) t)
    (hst : starEach (e :: es) X.env = (false, eval e X.env) :: starEach es X.env := by rfl) (hpl : (backTo pos (starEach es X.env)).any (·.1) = false := by rfl)
    (hev : eval (.Call (.Attribute o m apos) (e :: es) [] pos) X.env = (do
      let ov ← eval o X.env
      standAt apos.atName
      let (g, first) ← holding [ov] (getMethod ov m pl)
      callWith pos g first (backTo pos (starEach (e :: es) X.env)) (backToKw pos (keywordEach [] X.env))) := by rfl) :
    PE X (.Call (.Attribute o m apos) (e :: es) [] pos) (tMethS C m sp W ta t) := by
  refine ⟨fun pins s σ H Q I rd => ?_⟩
  refine PySem.W.methodCall_KW (pl := pl) (thn (he.run pins s σ H _ I rd) fun u s1 ⟨y, H1, I1, ry, a, dx, fs, ey, ea, l, q⟩ => ?_) hev
  subst ey
  obtain rfl : u = Value.ref a := ry
  refine getmeth_ok I1 ea c hm l (PySem.W.callWith_K (first := [.ref a]) (h₀ := X.base) I.ok.mod.kin hm.kp (thn (ha.run pos pins s1 σ H1 _ I1 q) fun us s2 ⟨vs, H2, I2, r, q2⟩ => ⟨I2.kIn, ?_⟩) hst hpl)
  exact run_fnS (us := .ref a :: us) (vs := .ref a :: vs) F hr hb (hx σ) I2 (.cons rfl r) q2
def tMakeS (C : Addr) (sp : Sp) (W : L2.St → XK) (t : TA) : TE := fun σ H Q => t σ H fun vs H1 => ∀ x dx, H1 x = none → H1 dx = none → dx ≠ x →
  sp (.ref x :: vs) (upd (upd H1 dx (.own x)) x (.ins C dx [])) (fun v H2 => v = .non ∧ Q (.ref x) H2) (W σ)
theorem run_makeS {pins : List (Addr × Obj)} {σ : L2.St} {H : Hp} {s : Shared} {Q : VK} {us : List Value} {vs : List V} (M : Mk X.K C f) (F : FnOk X.prog X.w X.K X.mg X.base CX k f fd ps sp) (hr : Room (k + 1) X.A) (hb : Binds X.K fd ps [])
    (hx : PassesAt CX X σ (W σ)) (I : Inv X pins σ H s) (r : Vals vs us)
    (rd : ∀ x dx, H x = none → H dx = none → dx ≠ x → sp (.ref x :: vs) (upd (upd H dx (.own x)) x (.ins C dx [])) (fun v H2 => v = .non ∧ Q (.ref x) H2) (W σ)) :
    wpAny (model X.prog X.w) X.A (call (.ref C) us) (EP X pins σ Q) X.xe s := by
  have rq := rd (s.heap.objs.size + 1) s.heap.objs.size (I.hok.fresh (Nat.le_succ _)) (I.hok.fresh (Nat.le_refl _)) (Nat.ne_of_lt (Nat.lt_succ_self _))
  have I2 := Inv.made (C := C) I
  have r2 : Vals (V.ref (s.heap.objs.size + 1) :: vs) (Value.ref (s.heap.objs.size + 1) :: us) := .cons rfl r
  have hl : (Value.ref (s.heap.objs.size + 1) :: us).length = ps.length := by
    have ee := r2.length
    rw [F.len _ _ _ _ rq] at ee
    exact ee.symm
  have bd := hb _ (Value.ref (s.heap.objs.size + 1) :: us) I2.kIn (by rw [List.append_nil]; exact hl)
  rw [List.append_nil] at bd
  refine wpAny_call (make_map (f := f) I.kIn M.makes M.init (beq_iff_eq.mp M.fn) (codeAny_mono (F.run _ X.stack _ _ ⟨Value.ref (s.heap.objs.size + 1) :: us, []⟩ (Value.ref (s.heap.objs.size + 1) :: us) _ _ (W σ) (hr.make C us [])
    (I2.env0.make C us []) bd r2 rq) fun r s' z => ?_))
  cases r with
  | error e => exact hx pins _ _ e s' I2 z
  | ok fl =>
    cases fl with
    | ret u =>
      obtain ⟨v, H', I3, rv, ev, q3⟩ := I2.after z
      subst ev
      exact ⟨rv, ⟨V.ref (s.heap.objs.size + 1), H', I3, rfl, q3⟩⟩
    | next => exact False.elim z
    | brk => exact False.elim z
    | cont => exact False.elim z
theorem pe_makeS (M : Mk X.K C f) (F : FnOk X.prog X.w X.K X.mg X.base CX k f fd ps sp) (hr : Room (k + 1) X.A) (hg : Gl X x) (hm : X.mg x = some (.ref C)) (hb : Binds X.K fd ps []) (hx : ∀ σ, PassesAt CX X σ (W σ))
    (ha : PA X (e :: es) t) (hdb : (x == ("__debug__" : Str)) = false := by decide) (he : starEach (e :: es) X.env = (false, eval e X.env) :: starEach es X.env := by rfl) (hpl : (backTo pos (starEach es X.env)).any (·.1) = false := by rfl) :
    PE X (.Call (.Name x p) (e :: es) [] pos) (tMakeS C sp W t) := by
  refine ⟨fun pins s σ H Q I rd => ?_⟩
  refine wpAny_Call_Name_kw (ld_glob I hg hm (PySem.W.callWith_K (h₀ := X.base) I.ok.mod.kin M.kp (thn (ha.run pos pins s σ H _ I rd) fun us s1 ⟨vs, H1, I1, r, q⟩ => ⟨I1.kIn, ?_⟩) he hpl) hdb)
  exact run_makeS M F hr hb (hx σ) I1 r q
end
/-- a list made along two lists of one length -/
theorem lc_zipL {K : PySem.W.Frag} {a b : Addr} {xs ys : List V} {g : TG} {tt : TT} {te : TE} {vs : List Nat} {σ : L2.St} {H1 : Hp} {D : Addr} {Qd : Hp → Prop} (hl : xs.length = ys.length) (Pv : Nat → Hp → Prop) (h0 : Pv 0 (upd H1 D (.lst []))) (hq : ∀ i H, Pv i H → SqL K H a xs ∧ SqL K H b ys)
    (hs : ∀ (i : Nat) (x y : V) (T : Addr) (H : Hp), xs[i]? = some x → ys[i]? = some y → Pv i H → H T = none → g (.ref T) (wipe σ vs) (upd H T (.tup [x, y])) fun σ2 H2 => wipe σ2 vs = wipe σ vs ∧ tt σ2 H2 fun b H3 =>
      if b = true then te σ2 H3 fun z H4 => ∃ acc, H4 D = some (.lst acc) ∧ acc.length < sizeLine ∧ Pv (i + 1) (upd H4 D (.lst (acc ++ [z]))) else Pv (i + 1) H3) (hd : ∀ H, Pv xs.length H → Qd H) :
    ∃ W : Nat → Nat → Hp → Prop, (∃ m, W 0 m (upd H1 D (.lst []))) ∧ ∀ i m H, W i m H →
      ((Itz K a b).stop i H ∧ Qd H) ∨ ((Itz K a b).go i H ∧ ∃ Nx : Hp → Prop, (∀ H', Nx H' → ∃ m', m' < m ∧ W (i + 1) m' H') ∧ ∀ x H', (Itz K a b).yld i H x H' → g x (wipe σ vs) H' fun σ2 H2 => wipe σ2 vs = wipe σ vs ∧ tt σ2 H2 fun b H3 =>
        if b = true then te σ2 H3 fun z H4 => ∃ acc, H4 D = some (.lst acc) ∧ acc.length < sizeLine ∧ Nx (upd H4 D (.lst (acc ++ [z]))) else Nx H3) := by
  refine ⟨fun i m H => m = xs.length - i ∧ i ≤ xs.length ∧ Pv i H, ⟨xs.length, by simp, Nat.zero_le _, h0⟩, ?_⟩
  rintro i m H ⟨rfl, hi, pv⟩
  obtain ⟨qx, qy⟩ := hq i H pv
  by_cases hlt : i < xs.length
  · have hx : xs[i]? = some xs[i] := List.getElem?_eq_getElem hlt
    have hlt2 : i < ys.length := by omega
    have hy : ys[i]? = some ys[i] := List.getElem?_eq_getElem hlt2
    refine .inr ⟨⟨xs, ys, _, _, qx, qy, hx, hy⟩, Pv (i + 1), fun H' p' => ⟨xs.length - (i + 1), by omega, rfl, hlt, p'⟩, fun v H' y => ?_⟩
    obtain ⟨T, x', y', rfl, hT, rfl, f1, f2⟩ := y
    exact hs i x' y' T H (f1 xs qx) (f2 ys qy) pv hT
  · have e : i = xs.length := by omega
    subst e
    exact .inl ⟨⟨xs, ys, qx, qy, Or.inl (Nat.le_refl _)⟩, hd H pv⟩
end DK
set_option Elab.async false
set_option linter.all false
set_option maxRecDepth 100000
namespace DK
open PySem L2 PyProof.Rows
/-! ### what each name weighs in some comings -/
def wt (l : Dk) (n : Str) : Int := ((l.filter fun p => decide (p.1 = n)).map (·.2)).sum
def cnt (ks : List Str) (l : Dk) : Dk := ks.map fun n => (n, wt l n)
def GoodP (l : Dk) : Prop := ∀ p ∈ l, nmOk p.1 = true ∧ 1 ≤ p.2 ∧ p.2 ≤ 10 ^ 60
theorem wt_nil (n : Str) : wt [] n = 0 := rfl
theorem wt_append (l m : Dk) (n : Str) : wt (l ++ m) n = wt l n + wt m n := by
  unfold wt
  rw [List.filter_append, List.map_append, List.sum_append]
theorem wt_snoc (l : Dk) (p : Str × Int) (n : Str) : wt (l ++ [p]) n = wt l n + if p.1 = n then p.2 else 0 := by
  rw [wt_append]
  congr 1
  unfold wt
  by_cases e : p.1 = n
  · rw [if_pos e, List.filter_cons_of_pos (by simp [e])]
    simp
  · rw [if_neg e, List.filter_cons_of_neg (by simp [e])]
    rfl
theorem cnt_keys (ks : List Str) (l : Dk) : keys (cnt ks l) = ks := by
  unfold keys cnt
  rw [List.map_map]
  exact List.map_id ks
theorem cnt_len (ks : List Str) (l : Dk) : (cnt ks l).length = ks.length := List.length_map _
theorem lk_cnt (l : Dk) (n : Str) : ∀ ks : List Str, lk (cnt ks l) n = if n ∈ ks then some (wt l n) else none
  | [] => rfl
  | k :: ks => by
    have ih := lk_cnt l n ks
    show lk ((k, wt l k) :: cnt ks l) n = _
    by_cases e : k = n
    · simp [lk, e]
    · have e' : ¬ n = k := fun z => e z.symm
      simp only [lk, if_neg e, ih, List.mem_cons, e', false_or]
theorem cnt_put {ks : List Str} {l : Dk} {n : Str} {w : Int} (h : n ∈ ks) : put (cnt ks l) n (wt l n + w) = cnt ks (l ++ [(n, w)]) := by
  unfold put
  rw [lk_cnt, if_pos h, Option.isSome_some, if_pos rfl]
  unfold cnt
  rw [List.map_map]
  refine List.map_congr_left fun m _ => ?_
  rw [wt_snoc]
  by_cases e : m = n
  · subst e
    simp
  · have e' : ¬ n = m := fun z => e z.symm
    simp [e, e']
theorem cnt_same {ks : List Str} {l : Dk} {n : Str} {w : Int} (h : n ∉ ks) : cnt ks (l ++ [(n, w)]) = cnt ks l := by
  unfold cnt
  refine List.map_congr_left fun m hm => ?_
  have e : ¬ n = m := fun z => h (z ▸ hm)
  rw [wt_snoc]
  simp [e]
theorem cnt_take {ks : List Str} {i : Nat} {n : Str} (h : ks[i]? = some n) (l : Dk) : cnt (ks.take (i + 1)) l = cnt (ks.take i) l ++ [(n, wt l n)] := by
  rw [take_snoc h]
  unfold cnt
  rw [List.map_append]
  rfl
/-! ### a list of pairs by place -/
theorem paired_at {α β : Type} {R : α → β → Prop} : ∀ {as : List α} {bs : List β}, Paired R as bs → ∀ {i : Nat} {a : α}, as[i]? = some a → ∃ b, bs[i]? = some b ∧ R a b
  | _, _, .nil, i, a, h => by simp at h
  | _, _, .cons r t, 0, a, h => ⟨_, rfl, by have e : _ = a := Option.some.inj h; subst e; exact r⟩
  | _, _, .cons r t, i + 1, a, h => paired_at t (i := i) h
theorem paired_len {α β : Type} {R : α → β → Prop} : ∀ {as : List α} {bs : List β}, Paired R as bs → as.length = bs.length
  | _, _, .nil => rfl
  | _, _, .cons r t => by rw [List.length_cons, List.length_cons, paired_len t]
theorem paired_append {α β : Type} {R : α → β → Prop} : ∀ {as : List α} {bs : List β} {cs : List α} {ds : List β}, Paired R as bs → Paired R cs ds → Paired R (as ++ cs) (bs ++ ds)
  | _, _, _, _, .nil, q => q
  | _, _, _, _, .cons r t, q => .cons r (paired_append t q)
theorem paired_drop {α β : Type} {R : α → β → Prop} : ∀ (n : Nat) {as : List α} {bs : List β}, Paired R as bs → Paired R (as.drop n) (bs.drop n)
  | 0, _, _, h => h
  | n + 1, _, _, .nil => .nil
  | n + 1, _, _, .cons r t => paired_drop n t
theorem paired_take {α β : Type} {R : α → β → Prop} : ∀ (n : Nat) {as : List α} {bs : List β}, Paired R as bs → Paired R (as.take n) (bs.take n)
  | 0, _, _, h => .nil
  | n + 1, _, _, .nil => .nil
  | n + 1, _, _, .cons r t => .cons r (paired_take n t)
/-! ### name = {..} on one line, the name a local -/
theorem sw_trueD {kx vx : Expr} {gs : List Comprehension} {scope : Scope} {pos py : Pos} {y : Str} {l : Nat} {env : Env} (hk : env.scope.kind = .function) (hy : env.scope.names.lookup y = some .local) (hl : (py.line == pos.line) = true)
    (ha : (scope.names.any fun (n, k) => n == y && (k == .local || k == .cell)) = false) : swapsWith (.DictComp kx vx gs scope pos) (some (.Name y py)) l env = pure true := by
  have ky : env.kindOf y = some .local := hy
  have hb : env.blockKind = .function := by unfold Env.blockKind; rw [hk]; rfl
  unfold swapsWith
  simp only [hb, ky, ha, Expr.pos, hl]
  rfl
theorem ps_setDc {X : Cx} {i : Nat} {y : Str} {py : Pos} {kx vx tg iter : Expr} {ifs : List Expr} {scope : Scope} {own : List (Str × Nat)} {pos spos : Pos} {wi : TI} {g : TG} {tt : TT} {tk tv : TE} (hc : X.calm = true) (hN : X.N.Nodup) (hy : X.N[i]? = some y) (hyl : X.env.scope.names.lookup y = some .local)
    (hsw : swapsWith (.DictComp kx vx [⟨tg, iter, ifs, 0⟩] scope pos) (some (.Name y py)) spos.line X.env = pure true) (hi : PI X tg iter wi) (ok : BlkOk X.N X.env.scope scope own)
    (hg : ∀ (s : Shared) (H : Hp) (C : Addr) (cl : List (Str × Addr)) (fp : List Addr), PG (X.blk s H scope (compEnvC scope cl C X.env) fp) tg g) (ht : ∀ (s : Shared) (H : Hp) (C : Addr) (cl : List (Str × Addr)) (fp : List Addr), PTs (X.blk s H scope (compEnvC scope cl C X.env) fp) ifs tt)
    (hk : ∀ (s : Shared) (H : Hp) (C : Addr) (cl : List (Str × Addr)) (fp : List Addr), PE (X.blk s H scope (compEnvC scope cl C X.env) fp) kx tk)
    (he : ∀ (s : Shared) (H : Hp) (C : Addr) (cl : List (Str × Addr)) (fp : List Addr), PE (X.blk s H scope (compEnvC scope cl C X.env) fp) vx tv) (hs : ∀ x, foldedSetIterable iter X.env x = pure x := by intro _; rfl) :
    PS X (.Assign [.Name y py] (.DictComp kx vx [⟨tg, iter, ifs, 0⟩] scope pos) spos) (tAsg (tDc wi g tt tk tv (own.map (·.2))) (gName i)) := by
  refine ⟨fun pins s σ H D I h => ?_⟩
  rw [exec_Assign_Name_used _ _ _ _ hsw]
  refine wpAny_bind (wpAny_standAt (wpAny_bind ?_))
  show wpAny _ X.A (do let _ ← comprehension (.DictComp kx vx [⟨tg, iter, ifs, 0⟩] scope pos) scope X.env (firstIterPos [⟨tg, iter, ifs, 0⟩] pos) newDict false (eval iter X.env) (some (assign (.Name y py) X.env))) _ _ s
  have h : tDc wi g tt tk tv (own.map (·.2)) σ H (fun x H1 => gName i x σ H1 D.nx) := h
  refine wpAny_bind (thn (dc_core (Qf := fun _ s' => SP X pins D .next s') hc hN I hi ok hg ht hk he hs h fun L C s' m H' I' q hn f => ?_) fun _ s' hq => wpAny_pure (wpAny_pure hq))
  show wpAny _ _ (assign (.Name y py) X.env (.ref L)) _ _ _
  refine wpAny_assign_Name (store_ok2 (v := V.ref L) I' hN hy (.inl hyl) rfl (fun s2 I2 ⟨a, sb, ha⟩ => ?_) (.inr hyl))
  obtain ⟨f0, f1, f2, f3, f4, f5⟩ := f
  have haC : C ≠ a := by
    rcases ha with z | z
    · rw [z]; exact f1
    · exact fun e => f4 y a z e.symm
  refine ⟨m, hn.sameBut sb haC, fun h3 sb3 => ?_⟩
  exact ⟨_, H', I2.turned (t' := s2.toks) (fun b o hb e => (sb3.2 b hb).trans e) f0 f1 f3 f4 f5, q⟩
/-! ### for k in d of a new dict: locked from here on -/
def iKeysF (td : TE) : TI := fun σ H R => td σ H fun x H1 => ∃ d kvs, x = .ref d ∧ H1 d = some (.dK kvs) ∧ ∀ od, R (Itk d od kvs) (upd H1 d (.frz od (.dK kvs)))
theorem pi_keysF {X : Cx} {tg e : Expr} {td : TE} (he : PE X e td) : PI X tg e (iKeysF td) := by
  refine ⟨fun pins s σ H R I h => ?_⟩
  refine thn (he.run pins s σ H _ I h) fun u s1 ⟨x, H1, I1, rx, d, kvs, ex, hd, q⟩ => ?_
  subst ex
  obtain rfl : u = Value.ref d := rx
  obtain ⟨od, I2⟩ := I1.lock hd trivial
  obtain ⟨hs, hgd, hx, es, ep, vs, hdt, hsz, kv, hm⟩ := I2.frzK upd_same
  refine iter_keys hs hgd hx hdt (pi_one (tk := s1.toks) I2 _ (turn_keys _ hdt) ⟨_, Heap.get?_push_size _ rfl, rfl, ?_⟩ (q od))
  rw [hsz] <;> rfl
/-! ### the desk and the true numbers of some comings -/
def stM (k : Nat) (l : Dk) : DS := l.foldl (fun s p => comeM k s p.1 p.2) ⟨[], 0, 0⟩
def trM (l : Dk) : Dk := l.foldl (fun d p => put d p.1 ((lk d p.1).getD 0 + p.2)) []
theorem stM_snoc (k : Nat) (l : Dk) (p : Str × Int) : stM k (l ++ [p]) = comeM k (stM k l) p.1 p.2 := by
  unfold stM
  rw [List.foldl_append]
  rfl
theorem trM_snoc (l : Dk) (p : Str × Int) : trM (l ++ [p]) = put (trM l) p.1 ((lk (trM l) p.1).getD 0 + p.2) := by
  unfold trM
  rw [List.foldl_append]
  rfl
theorem snoc_ind {α : Type} {P : List α → Prop} (h0 : P []) (hs : ∀ l x, P l → P (l ++ [x])) (l : List α) : P l := by
  have : ∀ (r l : List α), P l → P (l ++ r) := by
    intro r
    induction r with
    | nil => intro l h; rw [List.append_nil]; exact h
    | cons x r ih =>
      intro l h
      have := ih (l ++ [x]) (hs l x h)
      rwa [List.append_assoc] at this
  exact this l [] h0
theorem bd_of {k : Nat} (hk : 0 < k) : ∀ l : Dk, GoodP l → Bd k (stM k l) (trM l) :=
  snoc_ind (fun _ => Bd.nil k) fun l p ih hg => by
    have g1 : GoodP l := fun q hq => hg q (List.mem_append_left _ hq)
    obtain ⟨_, w1, _⟩ := hg p (List.mem_append_right _ (List.mem_singleton.mpr rfl))
    rw [stM_snoc, trM_snoc]
    exact (ih g1).come (by omega) hk
theorem stM_ns (k : Nat) : ∀ l : Dk, GoodP l → ∀ n ∈ keys (stM k l).l, nmOk n = true :=
  snoc_ind (fun _ n h => by simp [stM, keys] at h) fun l p ih hg n hn => by
    have g1 : GoodP l := fun q hq => hg q (List.mem_append_left _ hq)
    obtain ⟨h1, _, _⟩ := hg p (List.mem_append_right _ (List.mem_singleton.mpr rfl))
    rw [stM_snoc] at hn
    rcases comeM_keys hn with h | h
    · exact ih g1 n h
    · rw [h]; exact h1
theorem stM_t (k : Nat) : ∀ l : Dk, (stM k l).t = tot l :=
  snoc_ind rfl fun l p ih => by
    rw [stM_snoc, tot_append, ← ih]
    have e : ∀ (s : DS) (n : Str) (w : Int), (comeM k s n w).t = s.t + w := fun s n w => by
      unfold comeM
      split
      · rfl
      · split <;> rfl
    rw [e, tot_cons, tot_nil]
    omega
theorem trM_wt (n : Str) : ∀ l : Dk, (lk (trM l) n).getD 0 = wt l n :=
  snoc_ind rfl fun l p ih => by
    rw [trM_snoc, lk_put', wt_snoc]
    by_cases e : n = p.1
    · rw [if_pos e, if_pos e.symm, ← ih, e]
    · rw [if_neg e, if_neg (fun z => e z.symm), ih]
      omega
theorem trM_keys {n : Str} : ∀ l : Dk, n ∈ keys (trM l) → n ∈ keys l :=
  snoc_ind (fun h => h) fun l p ih h => by
    rw [trM_snoc, keys_put] at h
    unfold keys at *
    rw [List.map_append]
    split at h
    · exact List.mem_append_left _ (ih h)
    · rcases List.mem_append.mp h with h | h
      · exact List.mem_append_left _ (ih h)
      · exact List.mem_append_right _ (by simpa using h)
theorem trM_len : ∀ l : Dk, (trM l).length ≤ l.length :=
  snoc_ind (Nat.le_refl _) fun l p ih => by
    rw [trM_snoc, List.length_append]
    exact Nat.le_trans (put_len_le _ _ _) (by show (trM l).length + 1 ≤ l.length + 1; omega)
def heavyM (k : Nat) (l : Dk) : List Str := (keys (srt (stM k l).l)).filter fun n => decide (tot l < wt l n * ((k : Int) + 1))
def dueM (k : Nat) (l : Dk) : List Str := (keys (srt (trM l))).filter fun n => decide (tot l < wt l n * ((k : Int) + 1))
theorem mem_heavy {k : Nat} (hk : 0 < k) {l : Dk} (hg : GoodP l) {n : Str} : n ∈ heavyM k l ↔ tot l < wt l n * ((k : Int) + 1) := by
  unfold heavyM
  rw [List.mem_filter, decide_eq_true_iff]
  refine ⟨fun h => h.2, fun h => ⟨?_, h⟩⟩
  have b := bd_of hk l hg
  have hm : n ∈ maybeM k (stM k l) := b.heavy (by rw [stM_t, trM_wt]; exact h)
  exact (keys_perm (srt_perm _)).mem_iff.mpr (maybeM_sub hm)
theorem tot_nn : ∀ {l : Dk}, GoodP l → 0 ≤ tot l
  | [], _ => Int.le_refl _
  | p :: l, h => by
    rw [tot_cons]
    have h1 := tot_nn (l := l) fun q hq => h q (List.mem_cons_of_mem _ hq)
    obtain ⟨_, w1, _⟩ := h p List.mem_cons_self
    omega
theorem mem_due {k : Nat} {l : Dk} (hg : GoodP l) {n : Str} : n ∈ dueM k l ↔ tot l < wt l n * ((k : Int) + 1) := by
  unfold dueM
  rw [List.mem_filter, decide_eq_true_iff]
  refine ⟨fun h => h.2, fun h => ⟨?_, h⟩⟩
  refine (keys_perm (srt_perm _)).mem_iff.mpr ?_
  by_cases hm : n ∈ keys (trM l)
  · exact hm
  · have e := trM_wt n l
    rw [lk_none.mpr hm] at e
    have e : (0 : Int) = wt l n := e
    rw [← e, Int.zero_mul] at h
    have := tot_nn hg
    omega
theorem heavy_nd {k : Nat} (hk : 0 < k) {l : Dk} (hg : GoodP l) : (heavyM k l).Nodup := List.Pairwise.filter _ ((keys_perm (srt_perm _)).nodup_iff.mpr (bd_of hk l hg).O.nd)
theorem heavy_pw (k : Nat) (l : Dk) : (heavyM k l).Pairwise fun a b => kle a b = true := List.Pairwise.filter _ (srt_keys_pw _)
theorem heavy_is {k : Nat} (hk : 0 < k) {l : Dk} (hg : GoodP l) {xs : List Str} (nd : xs.Nodup) (pw : xs.Pairwise fun a b => kle a b = true) (h : ∀ n, n ∈ xs ↔ tot l < wt l n * ((k : Int) + 1)) : heavyM k l = xs :=
  pw_perm_eq (heavy_pw k l) pw ((List.perm_ext_iff_of_nodup (heavy_nd hk hg) nd).mpr fun n => by rw [mem_heavy hk hg, h])
theorem heavy_due {k : Nat} (hk : 0 < k) {l : Dk} (hg : GoodP l) : heavyM k l = dueM k l :=
  heavy_is hk hg (List.Pairwise.filter _ ((keys_perm (srt_perm _)).nodup_iff.mpr (bd_of hk l hg).nd)) (List.Pairwise.filter _ (srt_keys_pw _)) fun _ => mem_due hg
theorem heavy_len (k : Nat) (l : Dk) : (heavyM k l).length ≤ (stM k l).l.length := by
  unfold heavyM
  refine Nat.le_trans (List.length_filter_le _ _) ?_
  unfold keys
  rw [List.length_map, (srt_perm _).length_eq]
  exact Nat.le_refl _
/-- a list made along enumerate of a list -/
theorem lc_enum {K : PySem.W.Frag} {a : Addr} {xs : List V} {g : TG} {tt : TT} {te : TE} {vs : List Nat} {σ : L2.St} {H1 : Hp} {D : Addr} {Qd : Hp → Prop} (Pv : Nat → Hp → Prop) (h0 : Pv 0 (upd H1 D (.lst []))) (hq : ∀ i H, Pv i H → SqL K H a xs)
    (hs : ∀ (i : Nat) (x : V) (T : Addr) (H : Hp), xs[i]? = some x → Pv i H → H T = none → g (.ref T) (wipe σ vs) (upd H T (.tup [.int (i : Nat), x])) fun σ2 H2 => wipe σ2 vs = wipe σ vs ∧ tt σ2 H2 fun b H3 =>
      if b = true then te σ2 H3 fun z H4 => ∃ acc, H4 D = some (.lst acc) ∧ acc.length < sizeLine ∧ Pv (i + 1) (upd H4 D (.lst (acc ++ [z]))) else Pv (i + 1) H3) (hd : ∀ H, Pv xs.length H → Qd H) :
    ∃ W : Nat → Nat → Hp → Prop, (∃ m, W 0 m (upd H1 D (.lst []))) ∧ ∀ i m H, W i m H →
      ((Ite K a).stop i H ∧ Qd H) ∨ ((Ite K a).go i H ∧ ∃ Nx : Hp → Prop, (∀ H', Nx H' → ∃ m', m' < m ∧ W (i + 1) m' H') ∧ ∀ x H', (Ite K a).yld i H x H' → g x (wipe σ vs) H' fun σ2 H2 => wipe σ2 vs = wipe σ vs ∧ tt σ2 H2 fun b H3 =>
        if b = true then te σ2 H3 fun z H4 => ∃ acc, H4 D = some (.lst acc) ∧ acc.length < sizeLine ∧ Nx (upd H4 D (.lst (acc ++ [z]))) else Nx H3) := by
  refine ⟨fun i m H => m = xs.length - i ∧ i ≤ xs.length ∧ Pv i H, ⟨xs.length, by simp, Nat.zero_le _, h0⟩, ?_⟩
  rintro i m H ⟨rfl, hi, pv⟩
  have qx := hq i H pv
  by_cases hlt : i < xs.length
  · have hx : xs[i]? = some xs[i] := List.getElem?_eq_getElem hlt
    refine .inr ⟨⟨xs, _, qx, hx⟩, Pv (i + 1), fun H' p' => ⟨xs.length - (i + 1), by omega, rfl, hlt, p'⟩, fun v H' y => ?_⟩
    obtain ⟨T, x', rfl, hT, rfl, f1⟩ := y
    exact hs i x' T H (f1 xs qx) pv hT
  · have e : i = xs.length := by omega
    subst e
    exact .inl ⟨⟨xs, qx, Nat.le_refl _⟩, hd H pv⟩
theorem wt_const {W : Int} {n : Str} : ∀ {xs : List Str}, xs.Nodup → wt (xs.map fun n => (n, W)) n = if n ∈ xs then W else 0
  | [], _ => rfl
  | x :: xs, nd => by
    have nd' := List.nodup_cons.mp nd
    have ih := wt_const (W := W) (n := n) nd'.2
    have e : wt ((x :: xs).map fun n => (n, W)) n = (if x = n then W else 0) + wt (xs.map fun n => (n, W)) n := by
      rw [List.map_cons, ← List.singleton_append, wt_append]
      congr 1
      have := wt_snoc [] (x, W) n
      rw [List.nil_append, wt_nil] at this
      have this : wt [(x, W)] n = 0 + if x = n then W else 0 := this
      rw [Int.zero_add] at this
      exact this
    rw [e, ih]
    by_cases h : x = n
    · subst h
      rw [if_pos rfl, if_neg nd'.1, if_pos List.mem_cons_self, Int.add_zero]
    · rw [if_neg h]
      have h' : n ≠ x := fun z => h z.symm
      rw [Int.zero_add]
      by_cases h2 : n ∈ xs
      · rw [if_pos h2, if_pos (List.mem_cons_of_mem _ h2)]
      · rw [if_neg h2, if_neg (by simp [h', h2])]
theorem tot_const {W : Int} : ∀ xs : List Str, tot (xs.map fun n => (n, W)) = (xs.length : Int) * W
  | [] => by rw [List.map_nil, tot_nil, List.length_nil]; show (0 : Int) = 0 * W; rw [Int.zero_mul]
  | x :: xs => by
    rw [List.map_cons, tot_cons, tot_const xs, List.length_cons, Int.natCast_add, Int.add_mul]
    rw [show (((1 : Nat) : Int)) * W = W from Int.one_mul W]
    exact Int.add_comm _ _
theorem heavy_even {k : Nat} (hk : 0 < k) {W : Int} (hW : 0 < W) {xs : List Str} (nd : xs.Nodup) (hl : xs.length = k + 1) (hg : GoodP (xs.map fun n => (n, W))) : heavyM k (xs.map fun n => (n, W)) = [] :=
  heavy_is hk hg List.nodup_nil .nil fun n => by
    have e2 : W * ((k : Int) + 1) = ((k : Int) + 1) * W := Int.mul_comm _ _
    have p : 0 < ((k : Int) + 1) * W := Int.mul_pos (by omega) hW
    rw [wt_const nd, tot_const, hl, Int.natCast_add]
    show n ∈ [] ↔ ((k : Int) + 1) * W < _ * ((k : Int) + 1)
    generalize ((k : Int) + 1) * W = P0 at *
    constructor
    · intro h; simp at h
    · intro h
      exfalso
      by_cases c : n ∈ xs
      · rw [if_pos c, e2] at h
        exact Int.lt_irrefl _ h
      · rw [if_neg c, Int.zero_mul] at h
        omega
theorem heavy_even1 {k : Nat} (hk : 0 < k) {W : Int} (hW : 0 < W) {xs : List Str} {x : Str} (nd : xs.Nodup) (hl : xs.length = k + 1) (hx : x ∈ xs) (hg : GoodP ((xs.map fun n => (n, W)) ++ [(x, 1)])) : heavyM k ((xs.map fun n => (n, W)) ++ [(x, 1)]) = [x] :=
  heavy_is hk hg (by simp) (by simp) fun n => by
    have e1 : (W + 1) * ((k : Int) + 1) = ((k : Int) + 1) * W + ((k : Int) + 1) := by rw [Int.add_mul, Int.one_mul, Int.mul_comm]
    have e2 : W * ((k : Int) + 1) = ((k : Int) + 1) * W := Int.mul_comm _ _
    have p : 0 < ((k : Int) + 1) * W := Int.mul_pos (by omega) hW
    rw [wt_snoc, wt_const nd, tot_append, tot_const, hl, Int.natCast_add, tot_cons, tot_nil, List.mem_singleton]
    show n = x ↔ ((k : Int) + 1) * W + (1 + 0) < ((if n ∈ xs then W else 0) + if x = n then 1 else 0) * ((k : Int) + 1)
    by_cases e : n = x
    · subst e
      rw [if_pos hx, if_pos rfl, e1]
      exact ⟨fun _ => by omega, fun _ => rfl⟩
    · have e' : ¬ x = n := fun z => e z.symm
      rw [if_neg e', Int.add_zero (if n ∈ xs then W else 0)]
      refine ⟨fun z => absurd z e, fun h => ?_⟩
      exfalso
      by_cases c : n ∈ xs
      · rw [if_pos c, e2] at h
        omega
      · rw [if_neg c, Int.zero_mul] at h
        omega
theorem heavy_just {k : Nat} (hk : 0 < k) {V0 : Int} (hV : 0 < V0) {x y : Str} (ne : x ≠ y) (hg : GoodP [(x, V0), (y, V0 * (k : Int))]) : heavyM k [(x, V0), (y, V0 * (k : Int))] = [y].take (k - 1) := by
  have w0 : ∀ n, wt [(x, V0), (y, V0 * (k : Int))] n = (if x = n then V0 else 0) + if y = n then V0 * (k : Int) else 0 := fun n => by
    have h1 := wt_snoc [(x, V0)] (y, V0 * (k : Int)) n
    have h2 := wt_snoc [] (x, V0) n
    rw [wt_nil] at h2
    have e1 : wt [(x, V0), (y, V0 * (k : Int))] n = wt [(x, V0)] n + if y = n then V0 * (k : Int) else 0 := h1
    have e2 : wt [(x, V0)] n = 0 + if x = n then V0 else 0 := h2
    rw [e1, e2, Int.zero_add]
  have t0 : tot [(x, V0), (y, V0 * (k : Int))] = V0 * ((k : Int) + 1) := by
    rw [tot_cons, tot_cons, tot_nil, Int.mul_add, Int.mul_one]
    show V0 + (V0 * (k : Int) + 0) = _
    omega
  have e1 : V0 * (k : Int) * ((k : Int) + 1) = (V0 * ((k : Int) + 1)) * (k : Int) := by rw [Int.mul_assoc, Int.mul_comm (k : Int), ← Int.mul_assoc]
  have pp : 0 < V0 * ((k : Int) + 1) := Int.mul_pos hV (by omega)
  have key : ∀ n, (n = y ∧ 1 < k) ↔ tot [(x, V0), (y, V0 * (k : Int))] < wt [(x, V0), (y, V0 * (k : Int))] n * ((k : Int) + 1) := fun n => by
    rw [w0, t0]
    generalize hP : V0 * ((k : Int) + 1) = P0 at *
    by_cases a : x = n
    · have b : ¬ y = n := fun z => ne (a.trans z.symm)
      rw [if_pos a, if_neg b, Int.add_zero, hP]
      exact ⟨fun h => absurd h.1.symm b, fun h => absurd h (Int.lt_irrefl _)⟩
    · rw [if_neg a, Int.zero_add]
      by_cases b : y = n
      · rw [if_pos b, e1]
        refine ⟨fun h => ?_, fun h => ⟨b.symm, ?_⟩⟩
        · have := Int.mul_lt_mul_of_pos_left (show (1 : Int) < (k : Int) by omega) pp
          omega
        · by_cases c : 1 < k
          · exact c
          · have : k = 1 := by omega
            subst this
            have h : P0 < P0 * 1 := h
            omega
      · rw [if_neg b, Int.zero_mul]
        exact ⟨fun h => absurd h.1.symm b, fun h => by omega⟩
  by_cases c : 1 < k
  · have : [y].take (k - 1) = [y] := List.take_of_length_le (by rw [List.length_singleton]; omega)
    rw [this]
    refine heavy_is hk hg (by simp) (by simp) fun n => ?_
    rw [← key, List.mem_singleton]
    exact ⟨fun h => ⟨h, c⟩, fun h => h.1⟩
  · have : k - 1 = 0 := by omega
    rw [this, List.take_zero]
    refine heavy_is hk hg List.nodup_nil .nil fun n => ?_
    rw [← key]
    exact ⟨fun h => (List.not_mem_nil h).elim, fun h => absurd h.2 c⟩
theorem heavy_ns (k : Nat) {l : Dk} (hg : GoodP l) : ∀ n ∈ heavyM k l, nmOk n = true := fun n hn => stM_ns k l hg n ((keys_perm (srt_perm _)).mem_iff.mp (List.mem_filter.mp hn).1)
theorem tr_tot {l : Dk} (hg : GoodP l) : tot (trM l) = tot l := (bd_of (k := 1) (by decide) l hg).all.trans (stM_t 1 l)
end DK
set_option Elab.async false
set_option linter.all false
set_option maxRecDepth 100000
namespace DK
open PySem L2 PyProof.Rows TL
/-! ### numbers in figures -/
def figs (l : List Nat) : Bool := l.all fun c => decide (48 ≤ c) && decide (c ≤ 57)
def dv (l : List Nat) : Int := ((NumText.digitsVal l : Nat) : Int)
def numOk (l : List Nat) : Bool := decide (1 ≤ l.length) && decide (l.length ≤ 71) && (!decide (l.head? = some 48) || decide (l = [48])) && figs l
def numOf (l : List Nat) : Int := if numOk l = true then (if dv l ≤ 10 ^ 70 then dv l else -1) else -1
theorem figs_iff {l : List Nat} : figs l = true ↔ NumText.AllDigits l := by
  unfold figs NumText.AllDigits
  rw [List.all_eq_true]
  refine forall_congr' fun c => forall_congr' fun _ => ?_
  rw [Bool.and_eq_true, decide_eq_true_iff, decide_eq_true_iff]
theorem numL_head {n : Nat} (h : n ≠ 0) : (numL n).head? ≠ some 48 := by
  induction n using Nat.strongRecOn with
  | _ n ih =>
    by_cases c : n < 10
    · rw [numL_lt c]
      intro z
      have := Option.some.inj z
      omega
    · rw [numL_step (by omega)]
      have := ih (n / 10) (by omega) (by omega)
      cases e : numL (n / 10) with
      | nil => exact absurd e (numL_ne _)
      | cons x r => rw [e] at this; exact this
theorem numOk_num {n : Nat} (h : n ≤ 10 ^ 70) : numOk (numL n) = true := by
  unfold numOk
  have l1 : 1 ≤ (numL n).length := by
    cases e : numL n with
    | nil => exact absurd e (numL_ne n)
    | cons x r => rw [List.length_cons]; omega
  have l2 : (numL n).length ≤ 71 := numL_len (by decide) (Nat.lt_of_le_of_lt h (by decide))
  rw [decide_eq_true l1, decide_eq_true l2, figs_iff.mpr (numL_digits n)]
  by_cases c : n = 0
  · subst c
    decide +kernel
  · rw [decide_eq_false (numL_head c)]
    rfl
theorem numOf_num {n : Nat} (h : n ≤ 10 ^ 70) : numOf (numL n) = (n : Int) := by
  unfold numOf dv
  rw [if_pos (numOk_num h), numL_val, if_pos (by omega)]
theorem numOf_lo (l : List Nat) : -1 ≤ numOf l := by
  unfold numOf dv
  split
  · split <;> omega
  · omega
theorem numOf_hi (l : List Nat) : numOf l ≤ 10 ^ 70 := by
  unfold numOf
  split
  · split
    · assumption
    · decide
  · decide
theorem numOf_nil : numOf [] = -1 := by decide +kernel
theorem tl_int {i : Int} (h : 0 ≤ i) : tl (Str.ofString (toString i)) = numL i.toNat := by
  obtain ⟨n, rfl⟩ := Int.eq_ofNat_of_zero_le h
  exact tl_num n
theorem numOf_int {i : Int} (h : 0 ≤ i) (h2 : i ≤ 10 ^ 70) : numOf (tl (Str.ofString (toString i))) = i := by
  rw [tl_int h, numOf_num (by omega)]
  omega
/-! ### the rows of a text -/
abbrev nlS : Str := "\n"
abbrev blS : Str := " "
def rowsOf (x : Str) : List Str := if (Txt.split x nlS).getLast? = some ("" : Str) then (Txt.split x nlS).dropLast else Txt.split x nlS
def rowOf (r : Str) : Str × Int := ((Txt.partition r blS).1, numOf (tl (Txt.partition r blS).2.2))
def headOf (r : Str) : Option (Int × Int × Int) := match Txt.split r blS with
  | [a, b, c, d] => if a = "desk" ∧ isNum (.int (numOf (tl b))) 50 = true ∧ 0 ≤ numOf (tl c) ∧ 0 ≤ numOf (tl d) then some (numOf (tl b), numOf (tl c), numOf (tl d)) else none
  | _ => none
def ahd (rs : List Str) : Nat → Str
  | 0 => ""
  | i + 1 => match rs[i]? with
    | some r => (rowOf r).1
    | none => ""
def rowOk (k : Int) (n : Nat) (ahead r : Str) : Bool := !(decide (k < (n : Int)) || !nmOk (rowOf r).1 || !decide (tl ahead < tl (rowOf r).1) || decide ((rowOf r).2 < 1))
def AllOk (k : Int) (rs : List Str) : Prop := ∀ i r, rs[i]? = some r → rowOk k (i + 1) (ahd rs i) r = true
theorem rowOk_iff {k : Int} {n : Nat} {ahead r : Str} : rowOk k n ahead r = true ↔ (n : Int) ≤ k ∧ nmOk (rowOf r).1 = true ∧ tl ahead < tl (rowOf r).1 ∧ 1 ≤ (rowOf r).2 := by
  unfold rowOk
  rw [Bool.not_eq_true', Bool.or_eq_false_iff, Bool.or_eq_false_iff, Bool.or_eq_false_iff, decide_eq_false_iff_not, decide_eq_false_iff_not, Bool.not_eq_false', Bool.not_eq_false', decide_eq_true_iff]
  constructor
  · rintro ⟨⟨⟨h1, h2⟩, h3⟩, h4⟩
    exact ⟨by omega, h2, h3, by omega⟩
  · rintro ⟨h1, h2, h3, h4⟩
    exact ⟨⟨⟨by omega, h2⟩, h3⟩, by omega⟩
theorem kle_of_lt {a b : Str} (h : tl a < tl b) : kle a b = true := by
  have t := kle_total a b
  cases e : kle a b with
  | true => rfl
  | false =>
    rw [e, Bool.false_or] at t
    have t : decide (tl b ≤ tl a) = true := t
    exact absurd h (List.not_lt.mpr (of_decide_eq_true t))
theorem ne_of_lt {a b : Str} (h : tl a < tl b) : a ≠ b := fun e => by
  rw [e] at h
  exact List.lt_irrefl _ h
/-- the names of the first rows stand behind one another -/
theorem rows_keys {k : Int} {rs : List Str} : ∀ i : Nat, i ≤ rs.length → (∀ j r, j < i → rs[j]? = some r → rowOk k (j + 1) (ahd rs j) r = true) →
    (∀ n ∈ keys ((rs.take i).map rowOf), kle n (ahd rs i) = true) ∧ (keys ((rs.take i).map rowOf)).Nodup ∧ ((rs.take i).map rowOf).Pairwise fun p q => kle p.1 q.1 = true
  | 0, _, _ => ⟨fun _ h => by simp [keys] at h, List.nodup_nil, .nil⟩
  | i + 1, hi, h => by
    obtain ⟨h1, h2, h3⟩ := rows_keys i (by omega) fun j r hj => h j r (by omega)
    have hr : rs[i]? = some rs[i] := List.getElem?_eq_getElem (by omega)
    obtain ⟨_, _, hl, _⟩ := rowOk_iff.mp (h i _ (by omega) hr)
    have ea : ahd rs (i + 1) = (rowOf rs[i]).1 := by
      show (match rs[i]? with | some r => (rowOf r).1 | none => "") = _
      rw [hr]
    have e : (rs.take (i + 1)).map rowOf = (rs.take i).map rowOf ++ [rowOf rs[i]] := by rw [take_snoc hr, List.map_append]; rfl
    have ek : keys ((rs.take (i + 1)).map rowOf) = keys ((rs.take i).map rowOf) ++ [(rowOf rs[i]).1] := by unfold keys; rw [e, List.map_append]; rfl
    have old : ∀ n ∈ keys ((rs.take i).map rowOf), kle n (rowOf rs[i]).1 = true ∧ n ≠ (rowOf rs[i]).1 := fun n hn => by
      have a := h1 n hn
      have b := kle_of_lt hl
      refine ⟨kle_trans _ _ _ a b, fun z => ?_⟩
      rw [z] at a
      have a : decide (tl (rowOf rs[i]).1 ≤ tl (ahd rs i)) = true := a
      exact absurd hl (List.not_lt.mpr (of_decide_eq_true a))
    refine ⟨fun n hn => ?_, ?_, ?_⟩
    · rw [ek] at hn
      rw [ea]
      rcases List.mem_append.mp hn with hn | hn
      · exact (old n hn).1
      · rw [List.mem_singleton.mp hn]
        have := kle_total (rowOf rs[i]).1 (rowOf rs[i]).1
        rwa [Bool.or_self] at this
    · rw [ek, List.nodup_append]
      refine ⟨h2, by simp, fun a ha b hb => ?_⟩
      rw [List.mem_singleton.mp hb]
      exact (old a ha).2
    · rw [e, List.pairwise_append]
      refine ⟨h3, by simp, fun a ha b hb => ?_⟩
      rw [List.mem_singleton.mp hb]
      exact (old a.1 (List.mem_map.mpr ⟨a, ha, rfl⟩)).1
theorem row_fresh {k : Int} {rs : List Str} {i : Nat} {r : Str} (hr : rs[i]? = some r) (h : ∀ j r, j < i → rs[j]? = some r → rowOk k (j + 1) (ahd rs j) r = true) (hl : tl (ahd rs i) < tl (rowOf r).1) : lk ((rs.take i).map rowOf) (rowOf r).1 = none := by
  have hi := (List.getElem?_eq_some_iff.mp hr).1
  obtain ⟨h1, _, _⟩ := rows_keys i (by omega) h
  refine lk_none.mpr fun hm => ?_
  have a : decide (tl (rowOf r).1 ≤ tl (ahd rs i)) = true := h1 _ hm
  exact absurd hl (List.not_lt.mpr (of_decide_eq_true a))
theorem ahd_succ {rs : List Str} {i : Nat} {r : Str} (h : rs[i]? = some r) : ahd rs (i + 1) = (rowOf r).1 := by
  show (match rs[i]? with | some r => (rowOf r).1 | none => "") = _
  rw [h]
/-! ### what a desk is written as -/
abbrev numT (i : Int) : Str := Str.ofString (toString i)
def headT (k g t : Int) : Str := "desk" ++ blS ++ numT k ++ blS ++ numT g ++ blS ++ numT t
def rowT (p : Str × Int) : Str := p.1 ++ blS ++ numT p.2
def textT (k : Nat) (s : DS) : Str := ⟨(((headT k s.g s.t :: (srt s.l).map rowT).map fun r => tl r ++ [10]).flatten).toArray⟩
theorem num_free {i : Int} (h : 0 ≤ i) {c : Nat} (hc : c < 48 ∨ 57 < c) : c ∉ tl (numT i) := by
  unfold numT
  rw [tl_int h]
  exact numL_free hc
theorem num_len {i : Int} (h : 0 ≤ i) (h2 : i ≤ 10 ^ 70) : (numT i).length ≤ 71 := by
  rw [len_tl]
  unfold numT
  rw [tl_int h]
  exact numL_len (by decide) (by omega)
theorem nm_free {n : Str} (h : nmOk n = true) {c : Nat} (hc : c < 97 ∨ 122 < c) : c ∉ tl n := fun hm => by
  have := (okC_iff.mp (show okC n.cps.toList = true from h)).2.2 c hm
  omega
theorem tl_bl : tl blS = [32] := by decide +kernel
theorem tl_nl : tl nlS = [10] := by decide +kernel
theorem rowOf_rowT {n : Str} {z : Int} (hn : nmOk n = true) (h : 0 ≤ z) (h2 : z ≤ 10 ^ 70) : rowOf (rowT (n, z)) = (n, z) := by
  unfold rowOf rowT
  rw [partition_app (S := []) tl_bl (nm_free hn (by decide))]
  show (n, numOf (tl (numT z))) = _
  unfold numT
  rw [numOf_int h h2]
theorem head_parts {k g t : Int} (hk : 0 ≤ k) (hg : 0 ≤ g) (ht : 0 ≤ t) : Txt.split (headT k g t) blS = [("desk" : Str), numT k, numT g, numT t] := by
  have e : headT k g t = Txt.join blS [("desk" : Str), numT k, numT g, numT t] := by
    refine ext_tl ?_
    rw [join_eq, tl_join]
    unfold headT
    show _ = tl ("desk" : Str) ++ (tl blS ++ (tl (numT k) ++ (tl blS ++ (tl (numT g) ++ (tl blS ++ tl (numT t))))))
    simp only [tl_append, List.append_assoc]
  rw [e]
  refine split_join (S := []) tl_bl (by decide +kernel) (by simp) fun p hp => ?_
  simp only [List.mem_cons, List.not_mem_nil, or_false] at hp
  rcases hp with rfl | rfl | rfl | rfl
  · decide +kernel
  · exact num_free hk (by decide)
  · exact num_free hg (by decide)
  · exact num_free ht (by decide)
theorem headOf_headT {k g t : Int} (h1 : 1 ≤ k) (h2 : k ≤ 50) (hg : 0 ≤ g) (hg2 : g ≤ 10 ^ 70) (ht : 0 ≤ t) (ht2 : t ≤ 10 ^ 70) : headOf (headT k g t) = some (k, g, t) := by
  unfold headOf
  rw [head_parts (by omega) hg ht]
  have ek : numOf (tl (numT k)) = k := numOf_int (by omega) (by omega)
  have eg : numOf (tl (numT g)) = g := numOf_int hg hg2
  have et : numOf (tl (numT t)) = t := numOf_int ht ht2
  show (if _ then some (numOf (tl (numT k)), numOf (tl (numT g)), numOf (tl (numT t))) else none) = _
  rw [ek, eg, et, if_pos]
  refine ⟨rfl, ?_, hg, ht⟩
  show (decide (1 ≤ k) && decide (k ≤ 50)) = true
  rw [decide_eq_true h1, decide_eq_true h2]
  rfl
theorem flat_join : ∀ {rs : List (List Nat)}, (rs.map (· ++ [10])).flatten = joinL [10] (rs ++ [[]])
  | [] => rfl
  | [p] => by
    show (p ++ [10]) ++ [] = p ++ ([10] ++ [])
    rw [List.append_nil]; rfl
  | p :: q :: r => by
    show (p ++ [10]) ++ ((q :: r).map (· ++ [10])).flatten = p ++ ([10] ++ joinL [10] ((q :: r) ++ [[]]))
    rw [flat_join (rs := q :: r), List.append_assoc]
theorem flat_strs10 (rs : List Str) : (rs.map fun r => tl r ++ [10]).flatten = joinL [10] (rs.map tl ++ [[]]) := by
  rw [← flat_join, List.map_map]
  rfl
/-- a text of rows, each ended by a line end -/
theorem split_rows {x : Str} {rs : List Str} (e : tl x = (rs.map fun r => tl r ++ [10]).flatten) (h : ∀ r ∈ rs, 10 ∉ tl r) : Txt.split x nlS = rs ++ [("" : Str)] := by
  have e2 : x = Txt.join nlS (rs ++ [("" : Str)]) := by
    refine ext_tl ?_
    rw [join_eq, tl_join, e, flat_strs10, tl_nl, List.map_append]
    rfl
  rw [e2]
  refine split_join (S := []) tl_nl (by decide +kernel) (by simp) fun p hp => ?_
  rcases List.mem_append.mp hp with hp | hp
  · exact h p hp
  · rw [List.mem_singleton.mp hp]
    decide +kernel
theorem rowsOf_rows {x : Str} {rs : List Str} (e : tl x = (rs.map fun r => tl r ++ [10]).flatten) (h : ∀ r ∈ rs, 10 ∉ tl r) : rowsOf x = rs := by
  unfold rowsOf
  rw [split_rows e h, List.getLast?_concat, if_pos rfl, List.dropLast_concat]
theorem headT_free {k g t : Int} (hk : 0 ≤ k) (hg : 0 ≤ g) (ht : 0 ≤ t) : 10 ∉ tl (headT k g t) := by
  unfold headT
  simp only [tl_append, List.mem_append, not_or]
  exact ⟨⟨⟨⟨⟨⟨by decide +kernel, by decide +kernel⟩, num_free hk (by decide)⟩, by decide +kernel⟩, num_free hg (by decide)⟩, by decide +kernel⟩, num_free ht (by decide)⟩
theorem rowT_free {p : Str × Int} (hn : nmOk p.1 = true) (h : 0 ≤ p.2) : 10 ∉ tl (rowT p) := by
  unfold rowT
  simp only [tl_append, List.mem_append, not_or]
  exact ⟨⟨nm_free hn (by decide), by decide +kernel⟩, num_free h (by decide)⟩
theorem endswith_nl {x : Str} {l : List Nat} (h : tl x = l ++ [10]) : Txt.endswith x nlS = true := by
  unfold Txt.endswith
  have hl : x.length = l.length + 1 := by rw [len_tl, h, List.length_append]; rfl
  have h1 : nlS.length = 1 := by decide +kernel
  rw [h1, hl]
  have e : Builtin.Str.subAt x nlS (l.length + 1 - 1) = true := by
    rw [Nat.add_sub_cancel]
    have e1 : (x.cps.extract l.length (l.length + 1)) = nlS.cps := by
      refine Array.toList_inj.mp ?_
      show _ = tl nlS
      rw [tl_nl]
      first
        | (rw [Array.toList_extract, List.extract_eq_drop_take]; show ((tl x).drop l.length).take (l.length + 1 - l.length) = [10]; rw [h, List.drop_left, Nat.add_sub_cancel_left]; rfl)
        | (simp only [Array.toList_extract]; show ((tl x).drop l.length).take _ = [10]; rw [h, List.drop_left]; simp)
    unfold Builtin.Str.subAt
    rw [h1, e1]
    exact beq_self_eq_true _
  rw [e, Bool.and_true]
  exact decide_eq_true (by omega)
/-! ### along the items of a new dict: locked from here on -/
def iItemsF (td : TE) : TI := fun σ H R => td σ H fun x H1 => ∃ d kvs, x = .ref d ∧ H1 d = some (.dK kvs) ∧ ∀ od, R (Iti d od kvs) (upd H1 d (.frz od (.dK kvs)))
theorem pi_itemsF {X : Cx} {td : TE} {e : Expr} {apos cpos : Pos} {elts : List Expr} {kk : Nat} {tpos : Pos} (he : PE X e td) (hbase : attributeBase e "items" X.env (eval e X.env) = eval e X.env := by rfl) (hline : (apos.endLine == cpos.line) = true := by rfl) :
    PI X (.Tuple elts kk tpos) (.Call (.Attribute e "items" apos) [] [] cpos) (iItemsF td) := by
  refine ⟨fun pins s σ H R I h => ?_⟩
  refine wpAny_Call_method (T := "dict") (id := "dict.items") hbase rfl hline F.plainAttrs_dict F.slot_dict_items F.type_dict_items (thn (he.run pins s σ H _ I h) fun u s1 ⟨x, H1, I1, rx, d, kvs, ex, hd, q⟩ => ?_)
  subst ex
  obtain rfl : u = Value.ref d := rx
  obtain ⟨od, I1'⟩ := I1.lock hd trivial
  obtain ⟨hs, hgd, hx, es, ep, vs, hdt, hsz, kv, hm⟩ := I1'.frzK upd_same
  have hl : kvs.length = vs.length := Paired.length kv
  refine ⟨hm.dictOf.typeIs, hm.dictOf.mapOf.noDict, ?_⟩
  have I2 : Inv X pins σ (upd H1 d (.frz od (.dK kvs))) { s1 with heap := s1.heap.push { cls := .type "dict_items", data := .fields #[.ref d] } } := I1'.kept (t' := s1.toks) fun b ob q => Heap.get?_push_of_some _ q
  have fin : wpAny (model X.prog X.w) X.A (pyIter (.ref s1.heap.objs.size)) (PIE X pins σ (.Tuple elts kk tpos) R) X.xe { s1 with heap := s1.heap.push { cls := .type "dict_items", data := .fields #[.ref d] } } := by
    refine wpAny_pyIter_items (d := d) (knd := mixKind X.prog X.w) ⟨_, Heap.get?_push_size _ rfl, rfl, rfl⟩ (hm.push _) (pi_one (tk := s1.toks) I2 _ (turn_items _ hdt) ⟨.none, .none, ?_⟩ (q od))
    rw [hl]
    exact Heap.get?_push_size _ rfl
  show wpAny _ _ (callWith cpos (.builtin "dict.items") [.ref d] [] []) _ X.xe s1
  exact method_meetsIn F.slot_dict_items F.entry_dict_items rfl (PySem.evalArgs_none ⟨rfl, hm.dictOf.typeIs, F.args_dict_items_1 _, _, meets_dict_items (mixKind X.prog X.w) d hs, ⟨vs, hm.dictOf⟩, fin⟩)
/-! ### texts put together -/
theorem app_len (a b : Str) : (a ++ b).length = a.length + b.length := by
  rw [len_tl, len_tl a, len_tl b, tl_append, List.length_append]
theorem joinL_nil : ∀ parts : List (List Nat), joinL [] parts = parts.flatten
  | [] => rfl
  | [p] => by show p = p ++ []; rw [List.append_nil]
  | p :: q :: r => by
    show p ++ ([] ++ joinL [] (q :: r)) = p ++ (q :: r).flatten
    rw [joinL_nil (q :: r), List.nil_append]
theorem joinL_snoc : ∀ {R : List (List Nat)}, R ≠ [] → joinL [10] R ++ [10] = (R.map (· ++ [10])).flatten
  | [], h => absurd rfl h
  | [p], _ => by show p ++ [10] = (p ++ [10]) ++ []; rw [List.append_nil]
  | p :: q :: r, _ => by
    show (p ++ ([10] ++ joinL [10] (q :: r))) ++ [10] = (p ++ [10]) ++ ((q :: r).map (· ++ [10])).flatten
    rw [← joinL_snoc (R := q :: r) (by simp)]
    simp only [List.append_assoc]
theorem headT_join (k g t : Int) : headT k g t = Txt.join blS [("desk" : Str), numT k, numT g, numT t] := by
  refine ext_tl ?_
  rw [join_eq, tl_join]
  unfold headT
  show _ = tl ("desk" : Str) ++ (tl blS ++ (tl (numT k) ++ (tl blS ++ (tl (numT g) ++ (tl blS ++ tl (numT t))))))
  simp only [tl_append, List.append_assoc]
theorem text_join (k : Nat) (s : DS) : Txt.join nlS (headT k s.g s.t :: (srt s.l).map rowT) ++ nlS = textT k s := by
  refine ext_tl ?_
  rw [tl_append, join_eq, tl_join, tl_nl, joinL_snoc (by simp), List.map_map]
  rfl
theorem log_ok {i : Int} (h : 0 ≤ i) (h2 : i ≤ 10 ^ 70) : i.natAbs.log2 < 1920 := by
  by_cases c : i.natAbs = 0
  · rw [c]; decide
  · refine (Nat.log2_lt c).mpr ?_
    have : i.natAbs ≤ 10 ^ 70 := by omega
    exact Nat.lt_of_le_of_lt this (by decide)
theorem mem_tot : ∀ {l : Dk}, (∀ p ∈ l, 0 < p.2) → ∀ q ∈ l, q.2 ≤ tot l
  | [], _, _, h => by simp at h
  | p :: l, hp, q, h => by
    have h1 := hp p List.mem_cons_self
    have ih := mem_tot (l := l) fun x hx => hp x (List.mem_cons_of_mem _ hx)
    have nn : ∀ {l : Dk}, (∀ p ∈ l, 0 < p.2) → 0 ≤ tot l := fun {l} => by
      induction l with
      | nil => intro _; exact Int.le_refl _
      | cons x l ih =>
        intro hx
        have := hx x List.mem_cons_self
        have := ih fun y hy => hx y (List.mem_cons_of_mem _ hy)
        rw [tot_cons]
        omega
    have h2 := nn fun x hx => hp x (List.mem_cons_of_mem _ hx)
    rw [tot_cons]
    rcases List.mem_cons.mp h with rfl | h
    · omega
    · have := ih q h
      omega
/-- what a desk must keep to be written and read -/
structure Wr (k : Nat) (s : DS) : Prop where
  O : Ok k s.l
  ns : ∀ n ∈ keys s.l, nmOk n = true
  k1 : 1 ≤ k
  k2 : k ≤ 50
  g0 : 0 ≤ s.g
  sum : tot s.l + ((k : Int) + 1) * s.g ≤ s.t
  t2 : s.t ≤ 10 ^ 70
theorem Wr.g2 {k : Nat} {s : DS} (h : Wr k s) : s.g ≤ 10 ^ 70 ∧ 0 ≤ s.t ∧ tot s.l ≤ 10 ^ 70 ∧ 0 ≤ tot s.l := by
  have h1 : 0 ≤ tot s.l := by
    have : ∀ {l : Dk}, (∀ p ∈ l, 0 < p.2) → 0 ≤ tot l := fun {l} => by
      induction l with
      | nil => intro _; exact Int.le_refl _
      | cons x l ih =>
        intro hx
        have := hx x List.mem_cons_self
        have := ih fun y hy => hx y (List.mem_cons_of_mem _ hy)
        rw [tot_cons]
        omega
    exact this h.O.pos
  have h2 := h.sum
  have h3 : s.g ≤ ((k : Int) + 1) * s.g := by
    have := Int.mul_le_mul_of_nonneg_right (show (1 : Int) ≤ (k : Int) + 1 by omega) h.g0
    omega
  have h4 := h.g0
  have h5 := h.t2
  exact ⟨by omega, by omega, by omega, h1⟩
theorem Wr.num {k : Nat} {s : DS} (h : Wr k s) {q : Str × Int} (hq : q ∈ s.l) : 1 ≤ q.2 ∧ q.2 ≤ 10 ^ 70 := by
  have := mem_tot h.O.pos q hq
  have := h.O.pos q hq
  have := h.g2.2.2.1
  exact ⟨by omega, by omega⟩
theorem Wr.srt {k : Nat} {s : DS} (h : Wr k s) : Wr k ⟨DK.srt s.l, s.g, s.t⟩ :=
  ⟨⟨(keys_perm (srt_perm s.l)).nodup_iff.mpr h.O.nd, fun p hp => h.O.pos p ((srt_perm s.l).mem_iff.mp hp), by rw [(srt_perm s.l).length_eq]; exact h.O.len⟩,
    fun n hn => h.ns n ((keys_perm (srt_perm s.l)).mem_iff.mp hn), h.k1, h.k2, h.g0, by show tot (DK.srt s.l) + _ ≤ _; rw [tot_perm (srt_perm s.l)]; exact h.sum, h.t2⟩
theorem Wr.perm {k : Nat} {l m : Dk} {g t : Int} (h : Wr k ⟨l, g, t⟩) (p : m.Perm l) : Wr k ⟨m, g, t⟩ :=
  ⟨⟨(keys_perm p).nodup_iff.mpr h.O.nd, fun q hq => h.O.pos q (p.mem_iff.mp hq), by rw [p.length_eq]; exact h.O.len⟩,
    fun n hn => h.ns n ((keys_perm p).mem_iff.mp hn), h.k1, h.k2, h.g0, by show tot m + _ ≤ _; rw [tot_perm p]; exact h.sum, h.t2⟩
theorem srt_srt (l : Dk) (nd : (keys l).Nodup) : srt (srt l) = srt l := srt_of_perm ((keys_perm (srt_perm l)).nodup_iff.mpr nd) (srt_perm l)
theorem textT_srt (k : Nat) (s : DS) (nd : (keys s.l).Nodup) : textT k ⟨srt s.l, s.g, s.t⟩ = textT k s := by
  unfold textT
  dsimp only
  rw [srt_srt _ nd]
theorem textT_perm (k : Nat) {l m : Dk} {g t : Int} (nd : (keys l).Nodup) (p : l.Perm m) : textT k ⟨l, g, t⟩ = textT k ⟨m, g, t⟩ := by
  unfold textT
  dsimp only
  rw [srt_of_perm nd p]
theorem rows_back {l : Dk} (hn : ∀ n ∈ keys l, nmOk n = true) (hq : ∀ q ∈ l, 1 ≤ q.2 ∧ q.2 ≤ 10 ^ 70) : (l.map rowT).map rowOf = l := by
  rw [List.map_map]
  conv => rhs; rw [← List.map_id l]
  refine List.map_congr_left fun q h => ?_
  obtain ⟨h1, h2⟩ := hq q h
  exact rowOf_rowT (hn q.1 (List.mem_map.mpr ⟨q, h, rfl⟩)) (by omega) h2
theorem text_rows {k : Nat} {s : DS} (h : Wr k s) : rowsOf (textT k s) = headT k s.g s.t :: (srt s.l).map rowT := by
  have hs := h.srt
  refine rowsOf_rows rfl fun r hr => ?_
  obtain ⟨g2, t0, _, _⟩ := h.g2
  rcases List.mem_cons.mp hr with rfl | hr
  · exact headT_free (by omega) h.g0 t0
  · obtain ⟨q, hq, rfl⟩ := List.mem_map.mp hr
    have := hs.num hq
    exact rowT_free (hs.ns q.1 (List.mem_map.mpr ⟨q, hq, rfl⟩)) (by omega)
theorem lt_of_kle {a b : Str} (h : kle a b = true) (hne : a ≠ b) : tl a < tl b :=
  Decidable.byContradiction fun c => hne (kle_anti h (decide_eq_true (List.not_lt.mp c)))
theorem nil_lt {n : Str} (h : nmOk n = true) : tl ("" : Str) < tl n := by
  have e : tl ("" : Str) = [] := by decide +kernel
  rw [e]
  obtain ⟨h1, _, _⟩ := okC_iff.mp (show okC n.cps.toList = true from h)
  show [] < n.cps.toList
  cases hn : n.cps.toList with
  | nil => rw [hn] at h1; exact absurd h1 (by decide)
  | cons x r => exact List.nil_lt_cons _ _
theorem text_ok {k : Nat} {l : Dk} (o : Ok k l) (hn : ∀ n ∈ keys l, nmOk n = true) (hq : ∀ q ∈ l, 1 ≤ q.2 ∧ q.2 ≤ 10 ^ 70) (pw : l.Pairwise fun p q => kle p.1 q.1 = true) : AllOk (k : Int) (l.map rowT) := by
  intro i r hr
  rw [List.getElem?_map] at hr
  obtain ⟨q, hi, rfl⟩ := Option.map_eq_some_iff.mp hr
  have hm := List.mem_of_getElem? hi
  obtain ⟨q1, q2⟩ := hq q hm
  have nq := hn q.1 (List.mem_map.mpr ⟨q, hm, rfl⟩)
  have e : rowOf (rowT q) = q := rowOf_rowT nq (by omega) q2
  have il := (List.getElem?_eq_some_iff.mp hi).1
  have := o.len
  refine rowOk_iff.mpr ⟨by omega, by rw [e]; exact nq, ?_, by rw [e]; exact q1⟩
  rw [e]
  match i, hi, il with
  | 0, _, _ => exact nil_lt nq
  | i + 1, hi, il =>
    obtain ⟨b, hp⟩ : ∃ b, l[i]? = some b := ⟨l[i], List.getElem?_eq_getElem (by omega)⟩
    have hpm := List.mem_of_getElem? hp
    obtain ⟨p1, p2⟩ := hq b hpm
    have e2 : rowOf (rowT b) = b := rowOf_rowT (hn b.1 (List.mem_map.mpr ⟨b, hpm, rfl⟩)) (by omega) p2
    rw [ahd_succ (r := rowT b) (by rw [List.getElem?_map, hp]; rfl), e2]
    have hq' : l[i + 1] = q := Option.some.inj ((List.getElem?_eq_getElem il).symm.trans hi)
    have hb' : l[i]'(by omega) = b := Option.some.inj ((List.getElem?_eq_getElem (by omega)).symm.trans hp)
    have k1 : kle b.1 q.1 = true := by
      rw [← hq', ← hb']
      exact List.pairwise_iff_getElem.mp pw i (i + 1) (by omega) il (Nat.lt_succ_self i)
    refine lt_of_kle k1 fun z => ?_
    have nd := List.pairwise_iff_getElem.mp (List.pairwise_map.mp o.nd) i (i + 1) (by omega) il (Nat.lt_succ_self i)
    rw [hq', hb'] at nd
    exact nd z
theorem text_end (k : Nat) (s : DS) : Txt.endswith (textT k s) nlS = true := by
  rw [← text_join]
  refine endswith_nl (l := tl (Txt.join nlS (headT k s.g s.t :: (srt s.l).map rowT))) ?_
  rw [tl_append, tl_nl]
theorem headT_len {k : Nat} {s : DS} (h : Wr k s) : (headT (k : Int) s.g s.t).length ≤ 300 := by
  obtain ⟨g2, t0, _, _⟩ := h.g2
  have k2 := h.k2
  have lk : (numT (k : Int)).length ≤ 71 := num_len (by omega) (by omega)
  have lg : (numT s.g).length ≤ 71 := num_len h.g0 g2
  have lt : (numT s.t).length ≤ 71 := num_len t0 h.t2
  have c1 : ("desk" : Str).length = 4 := by decide +kernel
  have c2 : blS.length = 1 := by decide +kernel
  unfold headT
  simp only [app_len]
  omega
theorem rowT_len {q : Str × Int} (hn : nmOk q.1 = true) (h1 : 0 ≤ q.2) (h2 : q.2 ≤ 10 ^ 70) : (rowT q).length ≤ 300 := by
  have lz : (numT q.2).length ≤ 71 := num_len h1 h2
  have := nmOk_len hn
  have c2 : blS.length = 1 := by decide +kernel
  unfold rowT
  simp only [app_len]
  omega
theorem rows_len300 {k : Nat} {s : DS} (h : Wr k s) : ∀ r ∈ headT (k : Int) s.g s.t :: (srt s.l).map rowT, r.length ≤ 300 := fun r hr => by
  rcases List.mem_cons.mp hr with rfl | hr
  · exact headT_len h
  · obtain ⟨q, hq, rfl⟩ := List.mem_map.mp hr
    have hs := h.srt
    have := hs.num hq
    exact rowT_len (hs.ns q.1 (List.mem_map.mpr ⟨q, hq, rfl⟩)) (by omega) this.2
theorem flat_len : ∀ (R : List Str), (∀ r ∈ R, r.length ≤ 300) → ((R.map fun r => tl r ++ [10]).flatten).length ≤ 301 * R.length
  | [], _ => Nat.le_refl _
  | r :: R, h => by
    have h1 := h r List.mem_cons_self
    have ih := flat_len R fun x hx => h x (List.mem_cons_of_mem _ hx)
    have e : (r :: R).length = R.length + 1 := rfl
    rw [e, List.map_cons, List.flatten_cons, List.length_append, List.length_append, ← len_tl]
    show r.length + 1 + _ ≤ _
    omega
theorem textT_len {k : Nat} {s : DS} (h : Wr k s) : (textT k s).length ≤ 16000 := by
  have e := flat_len _ (rows_len300 h)
  rw [len_tl]
  have : (srt s.l).length ≤ 50 := by rw [(srt_perm s.l).length_eq]; exact Nat.le_trans h.O.len h.k2
  rw [List.length_cons, List.length_map] at e
  show ((List.map (fun r => tl r ++ [10]) (headT (k : Int) s.g s.t :: (srt s.l).map rowT)).flatten).length ≤ 16000
  omega
theorem sum_len : ∀ (l : List Str), (∀ z ∈ l, z.length ≤ 300) → (l.map (·.length)).sum ≤ 300 * l.length
  | [], _ => Nat.le_refl _
  | x :: l, h => by
    have h1 := h x List.mem_cons_self
    have h2 := sum_len l fun z hz => h z (List.mem_cons_of_mem _ hz)
    rw [List.map_cons, List.sum_cons, List.length_cons]
    omega
theorem text_lens {k : Nat} {s : DS} (h : Wr k s) : ∀ hd rs, rowsOf (textT k s) = hd :: rs → ∀ r ∈ rs, r.length ≤ 1000 := fun hd rs e r hr => by
  rw [text_rows h] at e
  have := rows_len300 h r (by rw [e]; exact List.mem_cons_of_mem _ hr)
  omega
theorem num_small {i : Int} (h : 0 ≤ i) : ∀ c ∈ tl (numT i), c ≤ 122 := fun c hc => by
  by_cases z : c ≤ 122
  · exact z
  · exact absurd hc (num_free h (by omega))
theorem text_small {k : Nat} {s : DS} (h : Wr k s) : ∀ c ∈ tl (textT k s), c ≤ 122 := fun c hc => by
  have hc : c ∈ ((headT (k : Int) s.g s.t :: (srt s.l).map rowT).map fun r => tl r ++ [10]).flatten := hc
  obtain ⟨x, hx, hc⟩ := List.mem_flatten.mp hc
  obtain ⟨r, hr, rfl⟩ := List.mem_map.mp hx
  obtain ⟨g2, t0, _, _⟩ := h.g2
  have hb : ∀ c ∈ tl blS, c ≤ 122 := by decide +kernel
  have hd : ∀ c ∈ tl ("desk" : Str), c ≤ 122 := by decide +kernel
  rcases List.mem_append.mp hc with hc | hc
  · rcases List.mem_cons.mp hr with rfl | hr
    · unfold headT at hc
      simp only [tl_append, List.mem_append] at hc
      rcases hc with ((((((hc | hc) | hc) | hc) | hc) | hc) | hc)
      · exact hd c hc
      · exact hb c hc
      · exact num_small (by omega) c hc
      · exact hb c hc
      · exact num_small h.g0 c hc
      · exact hb c hc
      · exact num_small t0 c hc
    · obtain ⟨q, hq, rfl⟩ := List.mem_map.mp hr
      have hs := h.srt
      have hn := hs.ns q.1 (List.mem_map.mpr ⟨q, hq, rfl⟩)
      have := hs.num hq
      unfold rowT at hc
      simp only [tl_append, List.mem_append] at hc
      rcases hc with (hc | hc) | hc
      · exact ((okC_iff.mp (show okC q.1.cps.toList = true from hn)).2.2 c hc).2
      · exact hb c hc
      · exact num_small (by omega) c hc
  · rw [List.mem_singleton.mp hc]
    decide
theorem text_strOk {k : Nat} {s : DS} (h : Wr k s) : PyData.strOk (textT k s) = true := by
  unfold PyData.strOk
  rw [← Array.all_toList, List.all_eq_true]
  intro c hc
  have := text_small h c hc
  exact decide_eq_true (by omega)
/-! ### all that a desk tells -/
def tdD (k : Nat) (s : DS) : PyData := .list [.list ((srt s.l).map encP), .int s.g, .int s.t, .int (k : Int), .list ((maybeM k s).map PyData.str), .list ((surelyM k s).map PyData.str), .str (textT k s)]
def TdAt (H : Hp) (e : Addr) (k : Nat) (s : DS) : Prop := ∃ (li a b : Addr) (ts : List Addr), H e = some (.lst [.ref li, .int s.g, .int s.t, .int (k : Int), .ref a, .ref b, .str (textT k s)]) ∧ H li = some (.lst (ts.map V.ref)) ∧ pairs H ts (srt s.l) ∧
  H a = some (.lst ((maybeM k s).map V.str)) ∧ H b = some (.lst ((surelyM k s).map V.str))
theorem TdAt.same {H H' : Hp} {e : Addr} {k : Nat} {s : DS} (h : TdAt H e k s) (q : Same H H') : TdAt H' e k s := by
  obtain ⟨li, a, b, ts, h1, h2, h3, h4, h5⟩ := h
  exact ⟨li, a, b, ts, q _ _ h1, q _ _ h2, pairs_same q h3, q _ _ h4, q _ _ h5⟩
theorem TdAt.dp {K : PySem.W.Frag} {H : Hp} {e : Addr} {k : Nat} {s : DS} (h : TdAt H e k s) : Dp K H (.ref e) (tdD k s) := by
  obtain ⟨li, a, b, ts, h1, h2, h3, h4, h5⟩ := h
  exact .lst (SqL.of h1) (.cons (dp_ps h2 h3) (.cons (.int _) (.cons (.int _) (.cons (.int _) (.cons (dp_strs (SqL.of h4)) (.cons (dp_strs (SqL.of h5)) (.cons (.str _) .nil)))))))
theorem shaped_td {k : Nat} {s : DS} (h : Wr k s) : SeqAt.shaped (tdD k s) = true := by
  have n1 : Ns (keys (srt s.l)) := h.srt.ns
  have n2 : Ns (maybeM k s) := fun n hn => h.ns n (maybeM_sub hn)
  have n3 : Ns (surelyM k s) := fun n hn => h.ns n (surelyM_sub hn)
  have e2 : PyData.canLay0 (tdD k s) = true := by
    unfold tdD
    simp [PyData.canLay0, PyData.canLayAll0, lay_ps _ n1, lay_strs _ n2, lay_strs _ n3, text_strOk h]
  have e3 : PyData.depth (tdD k s) ≤ 64 := by
    have := dep_ps (srt s.l)
    unfold tdD
    simp [PyData.depth, PyData.depthAll, dep_strs]
    omega
  unfold SeqAt.shaped
  rw [e2, decide_eq_true e3]
  rfl
theorem ne_td {K : PySem.W.Frag} {H : Hp} {Q : VK} {a b : Addr} {k j : Nat} {s s' : DS} (h : Wr k s) (h1 : TdAt H a k s) (h2 : TdAt H b j s') (e : tdD j s' = tdD k s) (q : Q (.bl false) H) : rNeD K (.ref a) (.ref b) H Q :=
  ⟨_, _, h1.dp, e ▸ h2.dp, shaped_td h, shaped_td h, by rw [SeqAt.eqv_refl _ (SeqAt.canLay_of_shaped (shaped_td h))]; exact q⟩
theorem eq_td {K : PySem.W.Frag} {H : Hp} {Q : VK} {a b : Addr} {k j : Nat} {s s' : DS} (h : Wr k s) (h1 : TdAt H a k s) (h2 : TdAt H b j s') (e : tdD j s' = tdD k s) (q : Q (.bl true) H) : rEqD K (.ref a) (.ref b) H Q :=
  ⟨_, _, h1.dp, e ▸ h2.dp, shaped_td h, shaped_td h, by rw [SeqAt.eqv_refl _ (SeqAt.canLay_of_shaped (shaped_td h))]; exact q⟩
theorem Alk.td {k : Nat} {s s' : DS} (a : Alk s s') (nd : (keys s.l).Nodup) : tdD k s = tdD k s' := by
  obtain ⟨l, g, t⟩ := s
  obtain ⟨l', g', t'⟩ := s'
  obtain ⟨p, eg, et⟩ := a
  dsimp only at p eg et nd
  subst eg et
  have e1 : srt l = srt l' := srt_of_perm nd p
  have e2 : ∀ n, leastM ⟨l, g, t⟩ n = leastM ⟨l', g, t⟩ n := fun n => by
    unfold leastM
    dsimp only
    rw [lk_perm nd p n]
  have e3 : maybeM k ⟨l, g, t⟩ = maybeM k ⟨l', g, t⟩ := by
    unfold maybeM
    dsimp only
    rw [e1]
    congr 1
    funext n
    rw [e2 n]
  have e4 : surelyM k ⟨l, g, t⟩ = surelyM k ⟨l', g, t⟩ := by
    unfold surelyM
    dsimp only
    rw [e1]
    congr 1
    funext n
    rw [e2 n]
  have e5 : textT k ⟨l, g, t⟩ = textT k ⟨l', g, t⟩ := textT_perm k nd p
  unfold tdD
  dsimp only
  rw [e1, e3, e4, e5]
theorem Wr.alk {k : Nat} {s s' : DS} (h : Wr k s') (a : Alk s s') : Wr k s := by
  obtain ⟨l, g, t⟩ := s
  obtain ⟨l', g', t'⟩ := s'
  obtain ⟨p, eg, et⟩ := a
  dsimp only at p eg et
  subst eg et
  exact h.perm p
end DK
set_option Elab.async false
set_option linter.all false
set_option maxRecDepth 100000
/-! a row of desks: mathematics -/
namespace DK
open PySem PySem.Spec PyProof.Rows L2
def rLenK (K : PySem.W.Frag) : List V → Hp → VK → Prop := fun xs H Q => ∃ p ys, xs = [.ref p] ∧ (SqL K H p ys ∨ SqT K H p ys) ∧ Q (.int ys.length) H
/-- the last so many -/
def lastN {α : Type} (n : Nat) (l : List α) : List α := l.drop (l.length - n)
theorem lastN_len {α : Type} {n : Nat} {l : List α} : (lastN n l).length ≤ n := by
  unfold lastN
  rw [List.length_drop]
  omega
theorem lastN_map {α β : Type} (f : α → β) (n : Nat) (l : List α) : (lastN n l).map f = lastN n (l.map f) := by
  unfold lastN
  rw [List.map_drop, List.length_map]
theorem lastN_mem {α : Type} {n : Nat} {l : List α} {x : α} (h : x ∈ lastN n l) : x ∈ l := List.mem_of_mem_drop h
def latF (k mx : Nat) (fs : List DS) (s : DS) : List DS := if mx < fs.length + 1 then (fs ++ [s]).tail else fs ++ [s]
theorem latF_is {k mx : Nat} {fs : List DS} {s : DS} (h : fs.length ≤ mx) : latF k mx fs s = lastN mx (fs ++ [s]) := by
  unfold latF lastN
  rw [List.length_append, List.length_singleton]
  by_cases c : mx < fs.length + 1
  · rw [if_pos c, show fs.length + 1 - mx = 1 by omega, List.drop_one]
  · rw [if_neg c, show fs.length + 1 - mx = 0 by omega, List.drop_zero]
def toldM (k : Nat) (l : List DS) : DS := l.foldl (pourM k) ⟨[], 0, 0⟩
def dueL (k : Nat) (l : List DS) : DS := l.foldl (pourL k) ⟨[], 0, 0⟩
theorem toldM_snoc (k : Nat) (l : List DS) (s : DS) : toldM k (l ++ [s]) = pourM k (toldM k l) s := by
  unfold toldM
  rw [List.foldl_append]
  rfl
theorem dueL_snoc (k : Nat) (l : List DS) (s : DS) : dueL k (l ++ [s]) = pourL k (dueL k l) s := by
  unfold dueL
  rw [List.foldl_append]
  rfl
theorem toldM_ok {k : Nat} : ∀ l : List DS, (∀ s ∈ l, Ok k s.l) → Ok k (toldM k l).l :=
  snoc_ind (fun _ => ok_nil k) fun l s ih h => by
    rw [toldM_snoc]
    exact pour_ok (ih fun x hx => h x (List.mem_append_left _ hx)) (h s (List.mem_append_right _ (List.mem_singleton.mpr rfl)))
theorem dueL_ok {k : Nat} : ∀ l : List DS, (∀ s ∈ l, Ok k s.l) → Ok k (dueL k l).l :=
  snoc_ind (fun _ => ok_nil k) fun l s ih h => by
    rw [dueL_snoc]
    have o := ih fun x hx => h x (List.mem_append_left _ hx)
    have o' := h s (List.mem_append_right _ (List.mem_singleton.mpr rfl))
    exact cut_ok (sumD_nd o.nd) (sumD_pos o.pos o'.pos)
theorem told_due {k : Nat} : ∀ l : List DS, (∀ s ∈ l, Ok k s.l) → Alk (toldM k l) (dueL k l) :=
  snoc_ind (fun _ => Alk.refl _) fun l s ih h => by
    have hl : ∀ x ∈ l, Ok k x.l := fun x hx => h x (List.mem_append_left _ hx)
    have os := h s (List.mem_append_right _ (List.mem_singleton.mpr rfl))
    have ot := toldM_ok l hl
    have od := dueL_ok l hl
    obtain ⟨pl, pg, pt⟩ := ih hl
    rw [toldM_snoc, dueL_snoc]
    have p := sumD_perm (srt_ok ot).nd (srt_ok os).nd (srt_ok ot).pos (srt_ok os).pos ((srt_perm _).trans pl) (srt_perm s.l)
    have := cut_perm (k := k) p ((toldM k l).g + s.g) ((toldM k l).t + s.t)
    unfold pourM pourL
    rw [← pg, ← pt]
    exact ⟨this.1, this.2, by rw [cut_t, cut_t]⟩
theorem toldM_ns {k : Nat} : ∀ l : List DS, (∀ s ∈ l, ∀ n ∈ keys s.l, nmOk n = true) → ∀ n ∈ keys (toldM k l).l, nmOk n = true :=
  snoc_ind (fun _ n h => by simp [toldM, keys] at h) fun l s ih h n hn => by
    rw [toldM_snoc] at hn
    rcases pour_keys hn with h1 | h1
    · exact ih (fun x hx => h x (List.mem_append_left _ hx)) n h1
    · exact h s (List.mem_append_right _ (List.mem_singleton.mpr rfl)) n h1
theorem toldM_nil (k : Nat) : toldM k ([] ++ [(⟨[], 0, 0⟩ : DS)]) = ⟨[], 0, 0⟩ := by
  have e : srt [] = [] := (srt_perm []).eq_nil
  show pourM k ⟨[], 0, 0⟩ ⟨[], 0, 0⟩ = _
  unfold pourM
  show cutM k (sumD (srt []) (srt [])) (0 + 0) (0 + 0) = _
  rw [e, sumD_nil, cut_same (Nat.zero_le _)]
  rfl
/-- a coming to a row -/
def lcF (k pc mx : Nat) (fs : List DS) (s : DS) (j : Nat) (n : Str) (w : Int) : List DS := if j + 1 = pc then latF k mx fs (comeM k s n w) else fs
def lcS (k pc : Nat) (s : DS) (j : Nat) (n : Str) (w : Int) : DS := if j + 1 = pc then ⟨[], 0, 0⟩ else comeM k s n w
def lcJ (pc j : Nat) : Nat := if j + 1 = pc then 0 else j + 1
/-- .. and to the pieces -/
def pgG (pc mx : Nat) (gs : List Dk) (cur : Dk) : List Dk := if cur.length = pc then lastN mx (gs ++ [cur]) else gs
def pgC (pc : Nat) (cur : Dk) : Dk := if cur.length = pc then [] else cur
structure Rw (k pc mx : Nat) (gs : List Dk) (cur : Dk) : Prop where
  le : gs.length ≤ mx
  full : ∀ g ∈ gs, g.length = pc
  lt : cur.length < pc
  good : ∀ g ∈ gs, GoodP g
  goodc : GoodP cur
theorem Rw.nil {k pc mx : Nat} (h : 1 ≤ pc) : Rw k pc mx [] [] := ⟨Nat.zero_le _, fun g h => by simp at h, h, fun g h => by simp at h, fun p h => by simp at h⟩
theorem good_snoc {cur : Dk} {n : Str} {w : Int} (h : GoodP cur) (hn : nmOk n = true) (w1 : 1 ≤ w) (w2 : w ≤ 10 ^ 60) : GoodP (cur ++ [(n, w)]) := fun p hp => by
  rcases List.mem_append.mp hp with h1 | h1
  · exact h p h1
  · rw [List.mem_singleton.mp h1]
    exact ⟨hn, w1, w2⟩
theorem Rw.come {k pc mx : Nat} {gs : List Dk} {cur : Dk} {n : Str} {w : Int} (r : Rw k pc mx gs cur) (hp : 1 ≤ pc) (hn : nmOk n = true) (w1 : 1 ≤ w) (w2 : w ≤ 10 ^ 60) :
    Rw k pc mx (pgG pc mx gs (cur ++ [(n, w)])) (pgC pc (cur ++ [(n, w)])) ∧ lcF k pc mx (gs.map (stM k)) (stM k cur) cur.length n w = (pgG pc mx gs (cur ++ [(n, w)])).map (stM k) ∧
    lcS k pc (stM k cur) cur.length n w = stM k (pgC pc (cur ++ [(n, w)])) ∧ lcJ pc cur.length = (pgC pc (cur ++ [(n, w)])).length := by
  have e : stM k (cur ++ [(n, w)]) = comeM k (stM k cur) n w := stM_snoc k cur (n, w)
  have el : (cur ++ [(n, w)]).length = cur.length + 1 := by rw [List.length_append, List.length_singleton]
  have gc := good_snoc r.goodc hn w1 w2
  unfold lcF lcS lcJ pgG pgC
  rw [el]
  by_cases c : cur.length + 1 = pc
  · rw [if_pos c, if_pos c, if_pos c, if_pos c, if_pos c]
    refine ⟨⟨lastN_len, fun g hg => ?_, hp, fun g hg => ?_, fun p h => by simp at h⟩, ?_, rfl, rfl⟩
    · rcases List.mem_append.mp (lastN_mem hg) with h | h
      · exact r.full g h
      · rw [List.mem_singleton.mp h, el]; exact c
    · rcases List.mem_append.mp (lastN_mem hg) with h | h
      · exact r.good g h
      · rw [List.mem_singleton.mp h]; exact gc
    · rw [latF_is (by rw [List.length_map]; exact r.le), lastN_map, List.map_append, ← e]
      rfl
  · rw [if_neg c, if_neg c, if_neg c, if_neg c, if_neg c]
    exact ⟨⟨r.le, r.full, by rw [el]; have := r.lt; omega, r.good, gc⟩, rfl, e.symm, el.symm⟩
theorem stM_ok {k : Nat} (hk : 0 < k) {l : Dk} (h : GoodP l) : Ok k (stM k l).l := (bd_of hk l h).O
theorem Rw.ok {k pc mx : Nat} {gs : List Dk} {cur : Dk} (r : Rw k pc mx gs cur) (hk : 0 < k) : ∀ s ∈ (gs ++ [cur]).map (stM k), Ok k s.l := fun s hs => by
  obtain ⟨g, hg, rfl⟩ := List.mem_map.mp hs
  rcases List.mem_append.mp hg with h | h
  · exact stM_ok hk (r.good g h)
  · rw [List.mem_singleton.mp h]; exact stM_ok hk r.goodc
theorem Rw.ns {k pc mx : Nat} {gs : List Dk} {cur : Dk} (r : Rw k pc mx gs cur) : ∀ s ∈ (gs ++ [cur]).map (stM k), ∀ n ∈ keys s.l, nmOk n = true := fun s hs => by
  obtain ⟨g, hg, rfl⟩ := List.mem_map.mp hs
  rcases List.mem_append.mp hg with h | h
  · exact stM_ns k g (r.good g h)
  · rw [List.mem_singleton.mp h]; exact stM_ns k cur r.goodc
theorem sum_same {pc : Nat} : ∀ {gs : List Dk}, (∀ g ∈ gs, g.length = pc) → (gs.map fun g => ((g.length : Nat) : Int)).sum = ((gs.length * pc : Nat) : Int)
  | [], _ => by simp
  | g :: gs, h => by
    rw [List.map_cons, List.sum_cons, sum_same fun x hx => h x (List.mem_cons_of_mem _ hx), h g List.mem_cons_self, List.length_cons, Nat.succ_mul]
    omega
theorem Rw.reach {k pc mx : Nat} {gs : List Dk} {cur : Dk} (r : Rw k pc mx gs cur) : ((gs ++ [cur]).map fun g => ((g.length : Nat) : Int)).sum = ((gs.length * pc + cur.length : Nat) : Int) := by
  rw [List.map_append, List.sum_append, sum_same r.full]
  simp
/-! ### the last comings -/
theorem hd_of {k : Nat} (hk : 0 < k) : ∀ l : Dk, GoodP l → Hd k (stM k l) (trM l) :=
  snoc_ind (fun _ => Hd.nil k) fun l p ih hg => by
    have g1 : GoodP l := fun q hq => hg q (List.mem_append_left _ hq)
    obtain ⟨_, w1, _⟩ := hg p (List.mem_append_right _ (List.mem_singleton.mpr rfl))
    rw [stM_snoc, trM_snoc]
    exact (ih g1).come (by omega) hk
theorem told_hd {k : Nat} (hk : 0 < k) : ∀ L : List Dk, (∀ g ∈ L, GoodP g) → ∃ tr, Hd k (toldM k (L.map (stM k))) tr ∧ ∀ n, (lk tr n).getD 0 = wt L.flatten n :=
  snoc_ind (fun _ => ⟨[], Hd.nil k, fun _ => rfl⟩) fun L g ih h => by
    obtain ⟨tr, a, e⟩ := ih fun x hx => h x (List.mem_append_left _ hx)
    have b := hd_of hk g (h g (List.mem_append_right _ (List.mem_singleton.mpr rfl)))
    refine ⟨sumD tr (trM g), ?_, fun n => ?_⟩
    · rw [List.map_append]
      show Hd k (toldM k (L.map (stM k) ++ [stM k g])) _
      rw [toldM_snoc]
      exact a.pour b
    · rw [sumD_lk n b.nd, e, trM_wt, List.flatten_append, wt_append]
      simp
theorem told_t {k : Nat} : ∀ L : List Dk, (toldM k (L.map (stM k))).t = tot L.flatten :=
  snoc_ind rfl fun L g ih => by
    rw [List.map_append]
    show (toldM k (L.map (stM k) ++ [stM k g])).t = _
    rw [toldM_snoc, List.flatten_append, tot_append, ← ih]
    unfold pourM
    rw [cut_t, stM_t]
    simp
/-- of all that came the last stand in the pieces -/
structure Kp (mx : Nat) (l : Dk) (gs : List Dk) (cur : Dk) : Prop where
  ex : ∃ dr, l = dr ++ (gs ++ [cur]).flatten ∧ (dr = [] ∨ gs.length = mx)
theorem Kp.nil (mx : Nat) : Kp mx [] [] [] := ⟨[], rfl, .inl rfl⟩
theorem Kp.come {k pc mx : Nat} {l : Dk} {gs : List Dk} {cur : Dk} {n : Str} {w : Int} (K0 : Kp mx l gs cur) (r : Rw k pc mx gs cur) (hm : 1 ≤ mx) : Kp mx (l ++ [(n, w)]) (pgG pc mx gs (cur ++ [(n, w)])) (pgC pc (cur ++ [(n, w)])) := by
  obtain ⟨dr, e, hd⟩ := K0.ex
  have e2 : l ++ [(n, w)] = dr ++ (gs ++ [cur ++ [(n, w)]]).flatten := by rw [e]; simp
  unfold pgG pgC
  by_cases c : (cur ++ [(n, w)]).length = pc
  · rw [if_pos c, if_pos c, e2]
    have e3 : (lastN mx (gs ++ [cur ++ [(n, w)]]) ++ [[]]).flatten = (lastN mx (gs ++ [cur ++ [(n, w)]])).flatten := by simp
    have e4 : (gs ++ [cur ++ [(n, w)]]).flatten = ((gs ++ [cur ++ [(n, w)]]).take ((gs ++ [cur ++ [(n, w)]]).length - mx)).flatten ++ (lastN mx (gs ++ [cur ++ [(n, w)]])).flatten := by
      unfold lastN
      rw [← List.flatten_append, List.take_append_drop]
    refine ⟨dr ++ ((gs ++ [cur ++ [(n, w)]]).take ((gs ++ [cur ++ [(n, w)]]).length - mx)).flatten, by rw [e3, e4, List.append_assoc], ?_⟩
    have el : (gs ++ [cur ++ [(n, w)]]).length = gs.length + 1 := by rw [List.length_append, List.length_singleton]
    have le := r.le
    by_cases c2 : gs.length = mx
    · refine .inr ?_
      unfold lastN
      rw [List.length_drop, el]
      omega
    · refine .inl ?_
      rcases hd with rfl | h
      · rw [el, show gs.length + 1 - mx = 0 by omega, List.take_zero]
        rfl
      · exact absurd h c2
  · rw [if_neg c, if_neg c]
    exact ⟨dr, e2, hd⟩
theorem flat_plen {pc : Nat} : ∀ {gs : List Dk}, (∀ g ∈ gs, g.length = pc) → gs.flatten.length = gs.length * pc
  | [], _ => by simp
  | g :: gs, h => by
    rw [List.flatten_cons, List.length_append, flat_plen fun x hx => h x (List.mem_cons_of_mem _ hx), h g List.mem_cons_self, List.length_cons, Nat.succ_mul]
    omega
theorem Rw.len {k pc mx : Nat} {gs : List Dk} {cur : Dk} (r : Rw k pc mx gs cur) : (gs ++ [cur]).flatten.length = gs.length * pc + cur.length := by
  rw [List.flatten_append, List.length_append, flat_plen r.full]
  simp
theorem Kp.last {k pc mx : Nat} {l : Dk} {gs : List Dk} {cur : Dk} (K0 : Kp mx l gs cur) (r : Rw k pc mx gs cur) :
    gs.length * pc + cur.length ≤ l.length ∧ l.drop (l.length - (gs.length * pc + cur.length)) = (gs ++ [cur]).flatten ∧ gs.length * pc + cur.length < pc * (mx + 1) ∧ (gs.length * pc + cur.length ≠ l.length → pc * mx ≤ gs.length * pc + cur.length) := by
  obtain ⟨dr, e, hd⟩ := K0.ex
  have el : l.length = dr.length + (gs.length * pc + cur.length) := by rw [e, List.length_append, r.len]
  refine ⟨by omega, ?_, ?_, fun h => ?_⟩
  · rw [el, Nat.add_sub_cancel, e, List.drop_left]
  · have h1 := Nat.mul_le_mul_right pc r.le
    have h2 := r.lt
    rw [Nat.mul_add, Nat.mul_comm pc mx]
    omega
  · rcases hd with rfl | h2
    · exfalso
      apply h
      rw [el]
      simp
    · rw [h2, Nat.mul_comm pc mx]
      omega
end DK
set_option Elab.async false
set_option linter.all false
set_option maxRecDepth 100000
set_option maxHeartbeats 4000000
namespace DK
open PySem PySem.Spec PyProof.Rows L2
/-! ### the text by places -/
def top (i : Nat) : Stmt := PySem.Challenge.pw_drawerdesk_k11_whole_lately_bounds.main.body.getD i (.Pass ⟨0, 0, 0, 0⟩)
abbrev s_is_name : Stmt := top 11
abbrev N_is_name : List Str := ["thing", "letter"]
abbrev P_is_name : List Str := ["thing"]
theorem sc_is_name : FnScope N_is_name P_is_name (defScope s_is_name) := ⟨rfl, rfl, rfl, by decide +kernel, rfl, by decide +kernel, by decide +kernel⟩
abbrev s_is_number : Stmt := top 12
abbrev N_is_number : List Str := ["thing", "most"]
abbrev P_is_number : List Str := ["thing", "most"]
theorem sc_is_number : FnScope N_is_number P_is_number (defScope s_is_number) := ⟨rfl, rfl, rfl, by decide +kernel, rfl, by decide +kernel, by decide +kernel⟩
abbrev s_check_name : Stmt := top 13
abbrev N_check_name : List Str := ["name"]
abbrev P_check_name : List Str := ["name"]
theorem sc_check_name : FnScope N_check_name P_check_name (defScope s_check_name) := ⟨rfl, rfl, rfl, by decide +kernel, rfl, by decide +kernel, by decide +kernel⟩
abbrev s_check_weight : Stmt := top 14
abbrev N_check_weight : List Str := ["weight"]
abbrev P_check_weight : List Str := ["weight"]
theorem sc_check_weight : FnScope N_check_weight P_check_weight (defScope s_check_weight) := ⟨rfl, rfl, rfl, by decide +kernel, rfl, by decide +kernel, by decide +kernel⟩
abbrev s_check_drawers : Stmt := top 15
abbrev N_check_drawers : List Str := ["drawers"]
abbrev P_check_drawers : List Str := ["drawers"]
theorem sc_check_drawers : FnScope N_check_drawers P_check_drawers (defScope s_check_drawers) := ⟨rfl, rfl, rfl, by decide +kernel, rfl, by decide +kernel, by decide +kernel⟩
abbrev s_lowered : Stmt := top 16
abbrev N_lowered : List Str := ["shown", "less", "name"]
abbrev P_lowered : List Str := ["shown", "less"]
theorem sc_lowered : FnScope N_lowered P_lowered (defScope s_lowered) := ⟨rfl, rfl, rfl, by decide +kernel, rfl, by decide +kernel, by decide +kernel⟩
abbrev s_d_init : Stmt := inClass (top 17) 0
abbrev N_d_init : List Str := ["self", "drawers"]
abbrev P_d_init : List Str := ["self", "drawers"]
theorem sc_d_init : FnScope N_d_init P_d_init (defScope s_d_init) := ⟨rfl, rfl, rfl, by decide +kernel, rfl, by decide +kernel, by decide +kernel⟩
abbrev s_d_come : Stmt := inClass (top 17) 1
abbrev N_d_come : List Str := ["self", "name", "weight"]
abbrev P_d_come : List Str := ["self", "name", "weight"]
theorem sc_d_come : FnScope N_d_come P_d_come (defScope s_d_come) := ⟨rfl, rfl, rfl, by decide +kernel, rfl, by decide +kernel, by decide +kernel⟩
abbrev s_d_come_to_full : Stmt := inClass (top 17) 2
abbrev N_d_come_to_full : List Str := ["self", "name", "weight", "less"]
abbrev P_d_come_to_full : List Str := ["self", "name", "weight"]
theorem sc_d_come_to_full : FnScope N_d_come_to_full P_d_come_to_full (defScope s_d_come_to_full) := ⟨rfl, rfl, rfl, by decide +kernel, rfl, by decide +kernel, by decide +kernel⟩
abbrev s_d_shown : Stmt := inClass (top 17) 3
abbrev N_d_shown : List Str := ["self", "name"]
abbrev P_d_shown : List Str := ["self"]
theorem sc_d_shown : FnScope N_d_shown P_d_shown (defScope s_d_shown) := ⟨rfl, rfl, rfl, by decide +kernel, rfl, by decide +kernel, by decide +kernel⟩
abbrev s_d_lost : Stmt := inClass (top 17) 4
abbrev N_d_lost : List Str := ["self"]
abbrev P_d_lost : List Str := ["self"]
theorem sc_d_lost : FnScope N_d_lost P_d_lost (defScope s_d_lost) := ⟨rfl, rfl, rfl, by decide +kernel, rfl, by decide +kernel, by decide +kernel⟩
abbrev s_d_weight : Stmt := inClass (top 17) 5
abbrev N_d_weight : List Str := ["self"]
abbrev P_d_weight : List Str := ["self"]
theorem sc_d_weight : FnScope N_d_weight P_d_weight (defScope s_d_weight) := ⟨rfl, rfl, rfl, by decide +kernel, rfl, by decide +kernel, by decide +kernel⟩
abbrev s_d_drawers : Stmt := inClass (top 17) 6
abbrev N_d_drawers : List Str := ["self"]
abbrev P_d_drawers : List Str := ["self"]
theorem sc_d_drawers : FnScope N_d_drawers P_d_drawers (defScope s_d_drawers) := ⟨rfl, rfl, rfl, by decide +kernel, rfl, by decide +kernel, by decide +kernel⟩
abbrev s_d_least : Stmt := inClass (top 17) 7
abbrev N_d_least : List Str := ["self", "name"]
abbrev P_d_least : List Str := ["self", "name"]
theorem sc_d_least : FnScope N_d_least P_d_least (defScope s_d_least) := ⟨rfl, rfl, rfl, by decide +kernel, rfl, by decide +kernel, by decide +kernel⟩
abbrev s_d_most : Stmt := inClass (top 17) 8
abbrev N_d_most : List Str := ["self", "name"]
abbrev P_d_most : List Str := ["self", "name"]
theorem sc_d_most : FnScope N_d_most P_d_most (defScope s_d_most) := ⟨rfl, rfl, rfl, by decide +kernel, rfl, by decide +kernel, by decide +kernel⟩
abbrev s_desk_with : Stmt := top 18
abbrev N_desk_with : List Str := ["drawers", "shown", "lost", "weight", "desk"]
abbrev P_desk_with : List Str := ["drawers", "shown", "lost", "weight"]
theorem sc_desk_with : FnScope N_desk_with P_desk_with (defScope s_desk_with) := ⟨rfl, rfl, rfl, by decide +kernel, rfl, by decide +kernel, by decide +kernel⟩
abbrev s_poured : Stmt := top 20
abbrev N_poured : List Str := ["one", "other", "sums", "added", "name"]
abbrev P_poured : List Str := ["one", "other"]
theorem sc_poured : FnScope N_poured P_poured (defScope s_poured) := ⟨rfl, rfl, rfl, by decide +kernel, rfl, by decide +kernel, by decide +kernel⟩
abbrev s_cut : Stmt := top 21
abbrev N_cut : List Str := ["drawers", "shown", "lost", "weight", "less"]
abbrev P_cut : List Str := ["drawers", "shown", "lost", "weight"]
theorem sc_cut : FnScope N_cut P_cut (defScope s_cut) := ⟨rfl, rfl, rfl, by decide +kernel, rfl, by decide +kernel, by decide +kernel⟩
abbrev s_check_piece : Stmt := top 23
abbrev N_check_piece : List Str := ["thing", "most"]
abbrev P_check_piece : List Str := ["thing", "most"]
theorem sc_check_piece : FnScope N_check_piece P_check_piece (defScope s_check_piece) := ⟨rfl, rfl, rfl, by decide +kernel, rfl, by decide +kernel, by decide +kernel⟩
abbrev s_l_init : Stmt := inClass (top 24) 0
abbrev N_l_init : List Str := ["self", "drawers", "piece", "pieces"]
abbrev P_l_init : List Str := ["self", "drawers", "piece", "pieces"]
theorem sc_l_init : FnScope N_l_init P_l_init (defScope s_l_init) := ⟨rfl, rfl, rfl, by decide +kernel, rfl, by decide +kernel, by decide +kernel⟩
abbrev s_l_come : Stmt := inClass (top 24) 1
abbrev N_l_come : List Str := ["self", "name", "weight"]
abbrev P_l_come : List Str := ["self", "name", "weight"]
theorem sc_l_come : FnScope N_l_come P_l_come (defScope s_l_come) := ⟨rfl, rfl, rfl, by decide +kernel, rfl, by decide +kernel, by decide +kernel⟩
abbrev s_l_end_piece : Stmt := inClass (top 24) 2
abbrev N_l_end_piece : List Str := ["self"]
abbrev P_l_end_piece : List Str := ["self"]
theorem sc_l_end_piece : FnScope N_l_end_piece P_l_end_piece (defScope s_l_end_piece) := ⟨rfl, rfl, rfl, by decide +kernel, rfl, by decide +kernel, by decide +kernel⟩
abbrev s_l_told : Stmt := inClass (top 24) 3
abbrev N_l_told : List Str := ["self", "desk", "part"]
abbrev P_l_told : List Str := ["self"]
theorem sc_l_told : FnScope N_l_told P_l_told (defScope s_l_told) := ⟨rfl, rfl, rfl, by decide +kernel, rfl, by decide +kernel, by decide +kernel⟩
abbrev s_l_reach : Stmt := inClass (top 24) 4
abbrev N_l_reach : List Str := ["self"]
abbrev P_l_reach : List Str := ["self"]
theorem sc_l_reach : FnScope N_l_reach P_l_reach (defScope s_l_reach) := ⟨rfl, rfl, rfl, by decide +kernel, rfl, by decide +kernel, by decide +kernel⟩
abbrev s_mixed : Stmt := top 26
abbrev N_mixed : List Str := ["_law_cell", "_law_k", "_law_mark"]
abbrev P_mixed : List Str := ["_law_cell", "_law_k"]
theorem sc_mixed : FnScope N_mixed P_mixed (defScope s_mixed) := ⟨rfl, rfl, rfl, by decide +kernel, rfl, by decide +kernel, by decide +kernel⟩
abbrev s_names : Stmt := top 27
abbrev N_names : List Str := ["_law_script", "_law_letters", "_law_cell", "_law_base", "_law_at", "_law_names_here", "_law_k", "_law_letter", "_law_word_here"]
abbrev P_names : List Str := ["_law_script"]
theorem sc_names : FnScope N_names P_names (defScope s_names) := ⟨rfl, rfl, rfl, by decide +kernel, rfl, by decide +kernel, by decide +kernel⟩
abbrev s_coming : Stmt := top 28
abbrev N_coming : List Str := ["_law_names_here", "_law_cell", "_law_k", "_law_mark", "_law_name", "_law_sort", "_law_weight"]
abbrev P_coming : List Str := ["_law_names_here", "_law_cell", "_law_k"]
theorem sc_coming : FnScope N_coming P_coming (defScope s_coming) := ⟨rfl, rfl, rfl, by decide +kernel, rfl, by decide +kernel, by decide +kernel⟩
abbrev s_drawers : Stmt := top 29
abbrev N_drawers : List Str := ["_law_script", "_law_mark"]
abbrev P_drawers : List Str := ["_law_script"]
theorem sc_drawers : FnScope N_drawers P_drawers (defScope s_drawers) := ⟨rfl, rfl, rfl, by decide +kernel, rfl, by decide +kernel, by decide +kernel⟩
abbrev s_word : Stmt := top 30
abbrev N_word : List Str := ["_law_error", "_law_words", "_law_one", "_law_other", "_law_word_here", "_law_flag"]
abbrev P_word : List Str := ["_law_error"]
theorem sc_word : FnScope N_word P_word (defScope s_word) := ⟨rfl, rfl, rfl, by decide +kernel, rfl, by decide +kernel, by decide +kernel⟩
abbrev s_made : Stmt := top 31
abbrev N_made : List Str := ["_law_drawers_here", "_law_piece", "_law_pieces", "_law_found", "_law_error"]
abbrev P_made : List Str := ["_law_drawers_here", "_law_piece", "_law_pieces"]
theorem sc_made : FnScope N_made P_made (defScope s_made) := ⟨rfl, rfl, rfl, by decide +kernel, rfl, by decide +kernel, by decide +kernel⟩
abbrev s_come_refused : Stmt := top 32
abbrev N_come_refused : List Str := ["_law_lately", "_law_name", "_law_weight", "_law_found", "_law_error"]
abbrev P_come_refused : List Str := ["_law_lately", "_law_name", "_law_weight"]
theorem sc_come_refused : FnScope N_come_refused P_come_refused (defScope s_come_refused) := ⟨rfl, rfl, rfl, by decide +kernel, rfl, by decide +kernel, by decide +kernel⟩
abbrev s_holds : Stmt := top 33
abbrev N_holds : List Str := ["_law_lately", "_law_comings", "_law_names_here", "_law_piece", "_law_most", "_law_reach", "_law_last", "_law_told", "_law_name", "_law_true", "_law_pair"]
abbrev P_holds : List Str := ["_law_lately", "_law_comings", "_law_names_here", "_law_piece", "_law_most"]
theorem sc_holds : FnScope N_holds P_holds (defScope s_holds) := ⟨rfl, rfl, rfl, by decide +kernel, rfl, by decide +kernel, by decide +kernel⟩
abbrev s_law : Stmt := top 34
abbrev N_law : List Str := ["_law_script", "_law_names_here", "_law_drawers_here", "_law_mark", "_law_piece", "_law_most", "_law_lately", "_law_comings", "_law_k", "_law_cell", "_law_bad", "_law_name", "_law_weight", "_law_wrong", "_law_due"]
abbrev P_law : List Str := ["_law_script"]
theorem sc_law : FnScope N_law P_law (defScope s_law) := ⟨rfl, rfl, rfl, by decide +kernel, rfl, by decide +kernel, by decide +kernel⟩

/-! ### what the top has made -/
/-- a def as the top has made it -/
structure Def (K : PySem.W.Frag) (x qual : Str) (st : Stmt) (ps : List Str) where
  a : Addr
  fd : FuncData
  F : Fun K x qual st a fd
  b : Binds K fd ps []
/-- .. with one default -/
structure DefD (K : PySem.W.Frag) (x qual : Str) (st : Stmt) (ps : List Str) (dv : V) where
  a : Addr
  fd : FuncData
  F : FunD K x qual (defArgs st) (defBody st) (defScope st) [dv] [] a fd
  b : Binds K fd ps []

/-- .. with the default told -/
structure DefE (K : PySem.W.Frag) (x qual : Str) (st : Stmt) (ps : List Str) (dv : V) where
  a : Addr
  fd : FuncData
  F : FunD K x qual (defArgs st) (defBody st) (defScope st) [dv] [] a fd
  b : Binds K fd ps []
  ds : List Value
  hv : Vals [dv] ds
  b1 : Binds K fd ps ds

structure EnvD (K : PySem.W.Frag) (mg : Str → Option Value) where
  D_is_name : Def K "is_name" "is_name" s_is_name P_is_name
  m_is_name : mg "is_name" = some (.ref D_is_name.a)
  D_is_number : Def K "is_number" "is_number" s_is_number P_is_number
  m_is_number : mg "is_number" = some (.ref D_is_number.a)
  D_check_name : Def K "check_name" "check_name" s_check_name P_check_name
  m_check_name : mg "check_name" = some (.ref D_check_name.a)
  D_check_weight : Def K "check_weight" "check_weight" s_check_weight P_check_weight
  m_check_weight : mg "check_weight" = some (.ref D_check_weight.a)
  D_check_drawers : Def K "check_drawers" "check_drawers" s_check_drawers P_check_drawers
  m_check_drawers : mg "check_drawers" = some (.ref D_check_drawers.a)
  D_lowered : Def K "lowered" "lowered" s_lowered P_lowered
  m_lowered : mg "lowered" = some (.ref D_lowered.a)
  D_d_init : Def K "__init__" "Desk.__init__" s_d_init P_d_init
  D_d_come : DefD K "come" "Desk.come" s_d_come P_d_come (.int 1)
  D_d_come_to_full : Def K "_come_to_full" "Desk._come_to_full" s_d_come_to_full P_d_come_to_full
  D_d_shown : Def K "shown" "Desk.shown" s_d_shown P_d_shown
  D_d_lost : Def K "lost" "Desk.lost" s_d_lost P_d_lost
  D_d_weight : Def K "weight" "Desk.weight" s_d_weight P_d_weight
  D_d_drawers : Def K "drawers" "Desk.drawers" s_d_drawers P_d_drawers
  D_d_least : Def K "least" "Desk.least" s_d_least P_d_least
  D_d_most : Def K "most" "Desk.most" s_d_most P_d_most
  D_desk_with : Def K "desk_with" "desk_with" s_desk_with P_desk_with
  m_desk_with : mg "desk_with" = some (.ref D_desk_with.a)
  D_poured : Def K "poured" "poured" s_poured P_poured
  m_poured : mg "poured" = some (.ref D_poured.a)
  D_cut : Def K "cut" "cut" s_cut P_cut
  m_cut : mg "cut" = some (.ref D_cut.a)
  D_check_piece : Def K "check_piece" "check_piece" s_check_piece P_check_piece
  m_check_piece : mg "check_piece" = some (.ref D_check_piece.a)
  D_l_init : Def K "__init__" "Lately.__init__" s_l_init P_l_init
  D_l_come : DefE K "come" "Lately.come" s_l_come P_l_come (.int 1)
  D_l_end_piece : Def K "_end_piece" "Lately._end_piece" s_l_end_piece P_l_end_piece
  D_l_told : Def K "told" "Lately.told" s_l_told P_l_told
  D_l_reach : Def K "reach" "Lately.reach" s_l_reach P_l_reach
  D_mixed : Def K "_law_mixed" "_law_mixed" s_mixed P_mixed
  m_mixed : mg "_law_mixed" = some (.ref D_mixed.a)
  D_names : Def K "_law_names" "_law_names" s_names P_names
  m_names : mg "_law_names" = some (.ref D_names.a)
  D_coming : Def K "_law_coming" "_law_coming" s_coming P_coming
  m_coming : mg "_law_coming" = some (.ref D_coming.a)
  D_drawers : Def K "_law_drawers" "_law_drawers" s_drawers P_drawers
  m_drawers : mg "_law_drawers" = some (.ref D_drawers.a)
  D_word : Def K "_law_word" "_law_word" s_word P_word
  m_word : mg "_law_word" = some (.ref D_word.a)
  D_made : Def K "_law_made" "_law_made" s_made P_made
  m_made : mg "_law_made" = some (.ref D_made.a)
  D_come_refused : Def K "_law_come_refused" "_law_come_refused" s_come_refused P_come_refused
  m_come_refused : mg "_law_come_refused" = some (.ref D_come_refused.a)
  D_holds : Def K "_law_holds" "_law_holds" s_holds P_holds
  m_holds : mg "_law_holds" = some (.ref D_holds.a)
  D_law : Def K "law" "law" s_law P_law
  m_law : mg "law" = some (.ref D_law.a)
  C : Addr
  CL : Addr
  clL : Cls K CL
  mkL : Mk K CL D_l_init.a
  g_Lately : mg "Lately" = some (.ref CL)
  aL_drawers : NoAttr K CL "_drawers"
  aL_piece : NoAttr K CL "_piece"
  aL_pieces : NoAttr K CL "_pieces"
  aL_full : NoAttr K CL "_full"
  aL_begun : NoAttr K CL "_begun"
  aL_comings : NoAttr K CL "_comings"
  me_l_come : Meth K CL "come" D_l_come.a
  me_l_end_piece : Meth K CL "_end_piece" D_l_end_piece.a
  me_l_told : Meth K CL "told" D_l_told.a
  me_l_reach : Meth K CL "reach" D_l_reach.a
  cl : Cls K C
  mkD : Mk K C D_d_init.a
  g_Desk : mg "Desk" = some (.ref C)
  a_drawers : NoAttr K C "_drawers"
  a_shown : NoAttr K C "_shown"
  a_lost : NoAttr K C "_lost"
  a_weight : NoAttr K C "_weight"
  me_d_come : Meth K C "come" D_d_come.a
  me_d_come_to_full : Meth K C "_come_to_full" D_d_come_to_full.a
  me_d_shown : Meth K C "shown" D_d_shown.a
  me_d_lost : Meth K C "lost" D_d_lost.a
  me_d_weight : Meth K C "weight" D_d_weight.a
  me_d_drawers : Meth K C "drawers" D_d_drawers.a
  me_d_least : Meth K C "least" D_d_least.a
  me_d_most : Meth K C "most" D_d_most.a
  lt : Tok
  g_LETTERS : mg "LETTERS" = some (.str "abcdefghijklmnopqrstuvwxyz" lt)
  n_dict : mg "dict" = none
  n_enumerate : mg "enumerate" = none
  n_int : mg "int" = none
  n_isinstance : mg "isinstance" = none
  n_len : mg "len" = none
  n_min : mg "min" = none
  n_range : mg "range" = none
  n_sorted : mg "sorted" = none
  n_str : mg "str" = none
  n_sum : mg "sum" = none
  n_type : mg "type" = none
  n_zip : mg "zip" = none
  C_NoName : Addr
  g_NoName : mg "NoName" = some (.ref C_NoName)
  k_NoName : PySem.W.keepIn K (.ref C_NoName) = true
  b_NoName : PySem.W.subIn K (.ref C_NoName) (.type "BaseException") = some true
  t_NoName : PySem.W.typeIn K (.ref C_NoName) = some (.type "type")
  x_NoName : PySem.W.excIn K C_NoName [.type "ValueError", .type "Exception", .type "BaseException", .type "object"] "ValueError.__new__" = true
  C_NoWeight : Addr
  g_NoWeight : mg "NoWeight" = some (.ref C_NoWeight)
  k_NoWeight : PySem.W.keepIn K (.ref C_NoWeight) = true
  b_NoWeight : PySem.W.subIn K (.ref C_NoWeight) (.type "BaseException") = some true
  t_NoWeight : PySem.W.typeIn K (.ref C_NoWeight) = some (.type "type")
  x_NoWeight : PySem.W.excIn K C_NoWeight [.type "ValueError", .type "Exception", .type "BaseException", .type "object"] "ValueError.__new__" = true
  C_NoDesk : Addr
  g_NoDesk : mg "NoDesk" = some (.ref C_NoDesk)
  k_NoDesk : PySem.W.keepIn K (.ref C_NoDesk) = true
  b_NoDesk : PySem.W.subIn K (.ref C_NoDesk) (.type "BaseException") = some true
  t_NoDesk : PySem.W.typeIn K (.ref C_NoDesk) = some (.type "type")
  x_NoDesk : PySem.W.excIn K C_NoDesk [.type "ValueError", .type "Exception", .type "BaseException", .type "object"] "ValueError.__new__" = true
  C_NoMatch : Addr
  g_NoMatch : mg "NoMatch" = some (.ref C_NoMatch)
  k_NoMatch : PySem.W.keepIn K (.ref C_NoMatch) = true
  b_NoMatch : PySem.W.subIn K (.ref C_NoMatch) (.type "BaseException") = some true
  t_NoMatch : PySem.W.typeIn K (.ref C_NoMatch) = some (.type "type")
  x_NoMatch : PySem.W.excIn K C_NoMatch [.type "ValueError", .type "Exception", .type "BaseException", .type "object"] "ValueError.__new__" = true
  C_NoPiece : Addr
  g_NoPiece : mg "NoPiece" = some (.ref C_NoPiece)
  k_NoPiece : PySem.W.keepIn K (.ref C_NoPiece) = true
  b_NoPiece : PySem.W.subIn K (.ref C_NoPiece) (.type "BaseException") = some true
  t_NoPiece : PySem.W.typeIn K (.ref C_NoPiece) = some (.type "type")
  x_NoPiece : PySem.W.excIn K C_NoPiece [.type "ValueError", .type "Exception", .type "BaseException", .type "object"] "ValueError.__new__" = true
  C_NoText : Addr
  g_NoText : mg "NoText" = some (.ref C_NoText)
  k_NoText : PySem.W.keepIn K (.ref C_NoText) = true
  b_NoText : PySem.W.subIn K (.ref C_NoText) (.type "BaseException") = some true
  t_NoText : PySem.W.typeIn K (.ref C_NoText) = some (.type "type")
  C_DrawerError : Addr
  g_DrawerError : mg "DrawerError" = some (.ref C_DrawerError)
  k_DrawerError : PySem.W.keepIn K (.ref C_DrawerError) = true
  b_DrawerError : PySem.W.subIn K (.ref C_DrawerError) (.type "BaseException") = some true
  t_DrawerError : PySem.W.typeIn K (.ref C_DrawerError) = some (.type "type")
  xc_NoName : ExcC K C_NoName
  exm_NoName : PySem.W.exmOne K (.ref C_NoName) (.ref C_DrawerError) = some true
  kt_NoName_NoName : PySem.W.kitOne K (.ref C_NoName) (.ref C_NoName) = some true
  kt_NoName_NoWeight : PySem.W.kitOne K (.ref C_NoName) (.ref C_NoWeight) = some false
  kt_NoName_NoDesk : PySem.W.kitOne K (.ref C_NoName) (.ref C_NoDesk) = some false
  kt_NoName_NoMatch : PySem.W.kitOne K (.ref C_NoName) (.ref C_NoMatch) = some false
  kt_NoName_NoPiece : PySem.W.kitOne K (.ref C_NoName) (.ref C_NoPiece) = some false
  kt_NoName_NoText : PySem.W.kitOne K (.ref C_NoName) (.ref C_NoText) = some false
  xc_NoWeight : ExcC K C_NoWeight
  exm_NoWeight : PySem.W.exmOne K (.ref C_NoWeight) (.ref C_DrawerError) = some true
  kt_NoWeight_NoName : PySem.W.kitOne K (.ref C_NoWeight) (.ref C_NoName) = some false
  kt_NoWeight_NoWeight : PySem.W.kitOne K (.ref C_NoWeight) (.ref C_NoWeight) = some true
  kt_NoWeight_NoDesk : PySem.W.kitOne K (.ref C_NoWeight) (.ref C_NoDesk) = some false
  kt_NoWeight_NoMatch : PySem.W.kitOne K (.ref C_NoWeight) (.ref C_NoMatch) = some false
  kt_NoWeight_NoPiece : PySem.W.kitOne K (.ref C_NoWeight) (.ref C_NoPiece) = some false
  kt_NoWeight_NoText : PySem.W.kitOne K (.ref C_NoWeight) (.ref C_NoText) = some false
  xc_NoDesk : ExcC K C_NoDesk
  exm_NoDesk : PySem.W.exmOne K (.ref C_NoDesk) (.ref C_DrawerError) = some true
  kt_NoDesk_NoName : PySem.W.kitOne K (.ref C_NoDesk) (.ref C_NoName) = some false
  kt_NoDesk_NoWeight : PySem.W.kitOne K (.ref C_NoDesk) (.ref C_NoWeight) = some false
  kt_NoDesk_NoDesk : PySem.W.kitOne K (.ref C_NoDesk) (.ref C_NoDesk) = some true
  kt_NoDesk_NoMatch : PySem.W.kitOne K (.ref C_NoDesk) (.ref C_NoMatch) = some false
  kt_NoDesk_NoPiece : PySem.W.kitOne K (.ref C_NoDesk) (.ref C_NoPiece) = some false
  kt_NoDesk_NoText : PySem.W.kitOne K (.ref C_NoDesk) (.ref C_NoText) = some false
  xc_NoMatch : ExcC K C_NoMatch
  exm_NoMatch : PySem.W.exmOne K (.ref C_NoMatch) (.ref C_DrawerError) = some true
  kt_NoMatch_NoName : PySem.W.kitOne K (.ref C_NoMatch) (.ref C_NoName) = some false
  kt_NoMatch_NoWeight : PySem.W.kitOne K (.ref C_NoMatch) (.ref C_NoWeight) = some false
  kt_NoMatch_NoDesk : PySem.W.kitOne K (.ref C_NoMatch) (.ref C_NoDesk) = some false
  kt_NoMatch_NoMatch : PySem.W.kitOne K (.ref C_NoMatch) (.ref C_NoMatch) = some true
  kt_NoMatch_NoPiece : PySem.W.kitOne K (.ref C_NoMatch) (.ref C_NoPiece) = some false
  kt_NoMatch_NoText : PySem.W.kitOne K (.ref C_NoMatch) (.ref C_NoText) = some false
  xc_NoPiece : ExcC K C_NoPiece
  exm_NoPiece : PySem.W.exmOne K (.ref C_NoPiece) (.ref C_DrawerError) = some true
  kt_NoPiece_NoName : PySem.W.kitOne K (.ref C_NoPiece) (.ref C_NoName) = some false
  kt_NoPiece_NoWeight : PySem.W.kitOne K (.ref C_NoPiece) (.ref C_NoWeight) = some false
  kt_NoPiece_NoDesk : PySem.W.kitOne K (.ref C_NoPiece) (.ref C_NoDesk) = some false
  kt_NoPiece_NoMatch : PySem.W.kitOne K (.ref C_NoPiece) (.ref C_NoMatch) = some false
  kt_NoPiece_NoPiece : PySem.W.kitOne K (.ref C_NoPiece) (.ref C_NoPiece) = some true
  kt_NoPiece_NoText : PySem.W.kitOne K (.ref C_NoPiece) (.ref C_NoText) = some false
  kn_NoName : PySem.W.kitOne K (.type "NoneType") (.ref C_NoName) = some false
  kn_NoWeight : PySem.W.kitOne K (.type "NoneType") (.ref C_NoWeight) = some false
  kn_NoDesk : PySem.W.kitOne K (.type "NoneType") (.ref C_NoDesk) = some false
  kn_NoMatch : PySem.W.kitOne K (.type "NoneType") (.ref C_NoMatch) = some false
  kn_NoPiece : PySem.W.kitOne K (.type "NoneType") (.ref C_NoPiece) = some false
  kn_NoText : PySem.W.kitOne K (.type "NoneType") (.ref C_NoText) = some false

/-! ### a desk on the heap -/
def dfl (k : Int) (d : Addr) (g t : Int) : List (Str × V) := [("_drawers", .int k), ("_shown", .ref d), ("_lost", .int g), ("_weight", .int t)]
theorem dfl_drawers (k : Int) (d : Addr) (g t : Int) : (dfl k d g t).lookup ("_drawers" : Str) = some (.int k) := rfl
theorem dfl_shown (k : Int) (d : Addr) (g t : Int) : (dfl k d g t).lookup ("_shown" : Str) = some (.ref d) := rfl
theorem dfl_lost (k : Int) (d : Addr) (g t : Int) : (dfl k d g t).lookup ("_lost" : Str) = some (.int g) := rfl
theorem dfl_weight (k : Int) (d : Addr) (g t : Int) : (dfl k d g t).lookup ("_weight" : Str) = some (.int t) := rfl
theorem dfl_putS (k : Int) (d e : Addr) (g t : Int) : putF "_shown" (.ref e) (dfl k d g t) = dfl k e g t := rfl
theorem dfl_putL (k : Int) (d : Addr) (g t y : Int) : putF "_lost" (.int y) (dfl k d g t) = dfl k d y t := rfl
theorem dfl_putW (k : Int) (d : Addr) (g t y : Int) : putF "_weight" (.int y) (dfl k d g t) = dfl k d g y := rfl
/-- a desk stands at p, its dict at d -/
def DeskAt (C : Addr) (H : Hp) (p d : Addr) (k : Nat) (s : DS) : Prop :=
  (∃ dx, H p = some (.ins C dx (dfl (k : Int) d s.g s.t))) ∧ H d = some (.dK (enc s.l))
theorem DeskAt.same {C : Addr} {H H' : Hp} {p d : Addr} {k : Nat} {s : DS} (h : DeskAt C H p d k s) (e : Same H H') : DeskAt C H' p d k s := by
  obtain ⟨⟨dx, h1⟩, h2⟩ := h
  exact ⟨⟨dx, e _ _ h1⟩, e _ _ h2⟩
theorem DeskAt.ne {C : Addr} {H : Hp} {p d : Addr} {k : Nat} {s : DS} (h : DeskAt C H p d k s) : p ≠ d := by
  obtain ⟨⟨dx, h1⟩, h2⟩ := h
  exact ne_of h1 h2 (by intro z; cases z)
theorem Same.new {H : Hp} {p : Addr} {o : HO} (h : H p = none) : Same H (upd H p o) := fun b u e => by rw [upd_ne (ne_of_none e h)]; exact e
theorem Same.mut {H H' : Hp} {p : Addr} {o : HO} (e : Same H H') (h : H p = none) : Same H (upd H' p o) := fun b u q => by rw [upd_ne (ne_of_none q h)]; exact e b u q
theorem Same.sqt {K : PySem.W.Frag} {H H' : Hp} {a : Addr} {xs : List V} (e : Same H H') (h : SqT K H a xs) : SqT K H' a xs := Evl.ex_t e h
/-- a divisor above 0 -/
theorem mp {j : Int} (h : 0 < j) : 0 < j := h
theorem tyes {σ : L2.St} {H : Hp} {Q : Bool → Hp → Prop} (h : Q true H) : tYes σ H Q := h
theorem sz50 {n : Nat} (h : n ≤ 1000) : n < sizeLine := small1000 h
section
variable {P : Program} {w : World} {K : PySem.W.Frag} {mg : Str → Option Value} {base : Heap}
/-! ### the law's own small defs -/
def sp_mixed : Sp := fun vs H Q _ => ∃ c k : Int, vs = [.int c, .int k] ∧ ∀ m : Int, 0 ≤ m → m < 2147483647 → Q (.int m) H
theorem ok_mixed (E : EnvD K mg) : FnOk P w K mg base CX0 1 E.D_mixed.a E.D_mixed.fd P_mixed sp_mixed := by
  refine E.D_mixed.F.ok sc_mixed (fun vs H Q Ex h => ?_) (fun cdv A outer s H vs Q Ex hr h => ?_)
  · obtain ⟨c, k, rfl, _⟩ := h
    rfl
  · obtain ⟨c, k, rfl, q⟩ := h
    refine ⟨_, (pss_cons (ps_set (i := 2) sc_mixed.nd rfl (by first | exact Or.inl rfl | exact Or.inr rfl) (pe_op op_mod (pe_op op_mul (pe_op op_add (pe_op op_mod (pv 0) pe_int) (pe_op op_mul pe_int (pe_op op_add (pv 1) pe_int))) pe_int) pe_int))
  (pss_one (ps_ret (pe_op op_mod (pe_op op_mul (pe_op op_mod (pe_op op_mul (pv 2) (pv 2)) pe_int) pe_int) pe_int)))), ?_⟩
    refine ⟨_, rfl, _, _, rfl, rfl, mp (by decide), _, rfl, _, _, rfl, rfl, _, _, rfl, rfl, .inl (by decide), _, _, rfl, rfl, _, _, rfl, rfl, .inr (by decide), _, _, rfl, rfl, mp (by decide), ?_⟩
    have b1 : ∀ z : Int, 0 ≤ z % 2147483647 ∧ z % 2147483647 < 2147483647 := fun z => ⟨Int.emod_nonneg _ (by decide), Int.emod_lt_of_pos _ (by decide)⟩
    obtain ⟨b2, b3⟩ := b1 ((c % 2147483629 + 104729 * (k + 1)) * 16807)
    refine ⟨_, rfl, _, rfl, _, _, rfl, rfl, .inl ⟨?_, ?_⟩, _, _, rfl, rfl, mp (by decide), _, _, rfl, rfl, .inr (by decide), _, _, rfl, rfl, mp (by decide), ?_⟩
    · show -(2 ^ 64) < (c % 2147483629 + 104729 * (k + 1)) * 16807 % 2147483647
      omega
    · show (c % 2147483629 + 104729 * (k + 1)) * 16807 % 2147483647 < 2 ^ 64
      omega
    · exact q _ (b1 _).1 (b1 _).2
/-! ### what is a name, a number -/
def sp_is_name : Sp := fun vs H Q _ => ∃ v, vs = [v] ∧ (∃ T, TyB K H v T) ∧ (∀ z, v = .str z → z.length ≤ 1000) ∧ Q (.bl (isNm v)) H
theorem ok_is_name (E : EnvD K mg) : FnOk P w K mg base CX0 1 E.D_is_name.a E.D_is_name.fd P_is_name (sp_is_name (K := K)) := by
  refine E.D_is_name.F.ok sc_is_name (fun vs H Q Ex h => ?_) (fun cdv A outer s H vs Q Ex hr h => ?_)
  · obtain ⟨v, rfl, _⟩ := h
    rfl
  · obtain ⟨v, rfl, ⟨T, ty⟩, hz, q⟩ := h
    refine ⟨_, (pss_cons (ps_if (PW.pt (pw_or (pt_cmpR op_notTyB (pe_callTy call_type1 rfl E.n_type (by decide +kernel) (pa_cons (pv 0) pa_nil)) (pe_bltn (v := .ty "str") (u := .type "str") rfl E.n_str (by decide +kernel) rfl) (nomark _)) (pw_or1 (pt_not (pt_chain op_le op_le pe_int (pe_callB call_len_str rfl E.n_len (by decide +kernel) (pa_cons (pv 0) pa_nil)) pe_int)))))
  (pss_one (ps_ret pe_bl))
  pss_nil)
  (pss_cons (ps_for PassesOwn.never rfl (pi_str (pv 0)) (pg_name (i := 1) sc_is_name.nd rfl (by first | exact Or.inl rfl | exact Or.inr rfl))
  (pss_one (ps_if (pt_cmpR op_notIn_sign (pv 1) (pe_glob (v := .str "abcdefghijklmnopqrstuvwxyz") rfl E.g_LETTERS ⟨_, rfl⟩) rfl)
  (pss_one (ps_ret pe_bl))
  pss_nil)))
  (pss_one (ps_ret pe_bl)))), ?_⟩
    refine ⟨_, rfl, v, T, rfl, ty, T, _, rfl, rfl, _, rfl, ?_⟩
    by_cases hT : T = "str"
    · obtain ⟨z, rfl⟩ := (ty_str ty).mp hT
      subst hT
      refine iteF ?_
      have hl := hz z rfl
      have es : z.length = z.cps.toList.length := len_cps z
      refine ⟨_, rfl, _, rfl, Nat.le_of_lt (sz50 hl), _, _, rfl, rfl, _, rfl, ?_⟩
      have fin : (decide ((1 : Int) ≤ (z.length : Int)) && decide ((z.length : Int) ≤ 8)) = false → isNm (V.str z) = false := by
        intro h
        show okC z.cps.toList = false
        unfold okC
        have e1 : decide (1 ≤ z.cps.toList.length) = decide ((1 : Int) ≤ (z.length : Int)) := by
          rw [es]
          exact decide_eq_decide.mpr (by omega)
        have e2 : decide (z.cps.toList.length ≤ 8) = decide ((z.length : Int) ≤ 8) := by
          rw [es]
          exact decide_eq_decide.mpr (by omega)
        rw [e1, e2, h, Bool.false_and]
      by_cases h1 : (1 : Int) ≤ (z.length : Int)
      · rw [decide_eq_true h1]
        refine iteT ?_
        refine ⟨_, _, rfl, rfl, _, rfl, ?_⟩
        by_cases h2 : (z.length : Int) ≤ 8
        · rw [decide_eq_true h2]
          refine iteF ?_
          refine ⟨_, rfl, z, rfl, for_str (fun i σ H' => (∃ o, σ = [some (.str z), o]) ∧ H' = H ∧ (z.cps.toList.take i).all (fun c => decide (97 ≤ c) && decide (c ≤ 122)) = true) ⟨⟨none, rfl⟩, rfl, rfl⟩ ?_ ?_⟩
          · rintro i c σ H' hc ⟨⟨o, rfl⟩, rfl, ha⟩
            refine ⟨_, rfl, c, _, rfl, rfl, _, rfl, ?_⟩
            have hm : decide (c ∈ ("abcdefghijklmnopqrstuvwxyz" : Str).cps.toList) = (decide (97 ≤ c) && decide (c ≤ 122)) := abc_mem c
            rw [hm]
            cases hb : (decide (97 ≤ c) && decide (c ≤ 122)) with
            | true =>
              refine iteF ?_
              refine ⟨⟨_, rfl⟩, rfl, ?_⟩
              have hlt := (List.getElem?_eq_some_iff.mp hc).1
              have he := (List.getElem?_eq_some_iff.mp hc).2
              rw [List.take_succ, hc, List.all_append, ha]
              simp only [Option.toList, List.all_cons, List.all_nil, Bool.and_true, Bool.true_and]
              exact hb
            | false =>
              refine iteT ?_
              have : isNm (V.str z) = false := by
                show okC z.cps.toList = false
                unfold okC
                have hall : (z.cps.toList.all fun c => decide (97 ≤ c) && decide (c ≤ 122)) = false := by
                  rw [List.all_eq_false]
                  exact ⟨c, List.mem_of_getElem? hc, by rw [hb]; exact Bool.false_ne_true⟩
                rw [hall, Bool.and_false]
              rw [this] at q
              exact q
          · rintro σ H' ⟨⟨o, rfl⟩, rfl, ha⟩
            have : isNm (V.str z) = true := by
              refine okC_iff.mpr ⟨by omega, by omega, fun c hc => ?_⟩
              rw [List.take_of_length_le (Nat.le_refl _)] at ha
              have := List.all_eq_true.mp ha c hc
              simp only [Bool.and_eq_true, decide_eq_true_eq] at this
              exact this
            rw [this] at q
            exact q
        · rw [decide_eq_false h2]
          refine iteT ?_
          rw [fin (by rw [decide_eq_false h2, Bool.and_false])] at q
          exact q
      · rw [decide_eq_false h1]
        refine iteF ?_
        refine ⟨false, rfl, iteT ?_⟩
        rw [fin (by rw [decide_eq_false h1, Bool.false_and])] at q
        exact q
    · have hd : (!decide (T = "str")) = true := by rw [decide_eq_false hT]; rfl
      rw [hd]
      refine iteT ?_
      have : isNm v = false := by
        cases v with
        | str z => exact absurd ((ty_str ty).mpr ⟨z, rfl⟩) hT
        | _ => rfl
      rw [this] at q
      exact iteT q
def sp_is_number : Sp := fun vs H Q _ => ∃ v m, vs = [v, .int m] ∧ (∃ T, TyB K H v T) ∧ Q (.bl (isNum v m)) H
theorem ok_is_number (E : EnvD K mg) : FnOk P w K mg base CX0 1 E.D_is_number.a E.D_is_number.fd P_is_number (sp_is_number (K := K)) := by
  refine E.D_is_number.F.ok sc_is_number (fun vs H Q Ex h => ?_) (fun cdv A outer s H vs Q Ex hr h => ?_)
  · obtain ⟨v, m, rfl, _⟩ := h
    rfl
  · obtain ⟨v, m, rfl, ⟨T, ty⟩, q⟩ := h
    refine ⟨_, (pss_one (ps_ret (pe_and (pe_cmpR op_isTyB (pe_callTy call_type1 rfl E.n_type (by decide +kernel) (pa_cons (pv 0) pa_nil)) (pe_bltn (v := .ty "int") (u := .type "int") rfl E.n_int (by decide +kernel) rfl) (nomark _)) (pe_one (pe_chain op_le op_le pe_int (pv 0) (pv 1)))))), ?_⟩
    refine ⟨_, rfl, v, T, rfl, ty, T, _, rfl, rfl, _, rfl, ?_⟩
    by_cases hT : T = "int"
    · obtain ⟨i, rfl⟩ := (ty_int ty).mp hT
      subst hT
      refine iteT ?_
      refine ⟨_, rfl, _, _, rfl, rfl, _, rfl, ?_⟩
      have e : isNum (V.int i) m = (decide (1 ≤ i) && decide (i ≤ m)) := rfl
      rw [e] at q
      by_cases h1 : 1 ≤ i
      · rw [decide_eq_true h1] at q ⊢
        refine iteT ?_
        exact ⟨_, rfl, _, _, rfl, rfl, q⟩
      · rw [decide_eq_false h1] at q ⊢
        exact iteF q
    · rw [decide_eq_false hT]
      have : isNum v m = false := by
        cases v with
        | int z => exact absurd ((ty_int ty).mpr ⟨z, rfl⟩) hT
        | _ => rfl
      rw [this] at q
      exact iteF q
def sp_check_name (E : EnvD K mg) : Sp := fun vs H Q Ex => ∃ v, vs = [v] ∧ (∃ T, TyB K H v T) ∧ (∀ z, v = .str z → z.length ≤ 1000) ∧ (isNm v = true → Q .non H) ∧ (isNm v = false → Ex (.ref E.C_NoName) none H)
theorem ok_check_name (E : EnvD K mg) : FnOk P w K mg base (L2.CX P w) 2 E.D_check_name.a E.D_check_name.fd P_check_name (sp_check_name E) := by
  have G_is_name : FnOk P w K mg base CX0 1 E.D_is_name.a E.D_is_name.fd P_is_name (sp_is_name (K := K)) := ok_is_name E
  refine E.D_check_name.F.okX sc_check_name (fun vs H Q Ex h => ?_) (fun cdv A outer s H vs Q Ex hr h => ?_)
  · obtain ⟨v, rfl, _⟩ := h
    rfl
  · obtain ⟨v, rfl, ty, hz, q1, q2⟩ := h
    refine ⟨_, (pss_one (ps_if (pt_not (pt_val (pe_call G_is_name (hr.mono (by decide)) rfl E.m_is_name E.D_is_name.F.kp E.D_is_name.b .nil pass0 (pa_cons (pv 0) pa_nil))))
  (pss_one (ps_raise rfl (takes_of rfl rfl rfl rfl) (pmk_own PySem.F.excBase_ValueError E.x_NoName E.g_NoName E.k_NoName (raises_own E.b_NoName E.t_NoName) rfl)))
  pss_nil)), ?_⟩
    refine ⟨_, rfl, v, rfl, ty, hz, _, rfl, ?_⟩
    cases e : isNm v with
    | true => exact iteF (q1 e)
    | false => exact iteT (q2 e)
def sp_check_weight (E : EnvD K mg) : Sp := fun vs H Q Ex => ∃ v, vs = [v] ∧ (∃ T, TyB K H v T) ∧ (isNum v (10 ^ 60) = true → Q .non H) ∧ (isNum v (10 ^ 60) = false → Ex (.ref E.C_NoWeight) none H)
theorem ok_check_weight (E : EnvD K mg) : FnOk P w K mg base (L2.CX P w) 2 E.D_check_weight.a E.D_check_weight.fd P_check_weight (sp_check_weight E) := by
  have G_is_number : FnOk P w K mg base CX0 1 E.D_is_number.a E.D_is_number.fd P_is_number (sp_is_number (K := K)) := ok_is_number E
  refine E.D_check_weight.F.okX sc_check_weight (fun vs H Q Ex h => ?_) (fun cdv A outer s H vs Q Ex hr h => ?_)
  · obtain ⟨v, rfl, _⟩ := h
    rfl
  · obtain ⟨v, rfl, ty, q1, q2⟩ := h
    refine ⟨_, (pss_one (ps_if (pt_not (pt_val (pe_call G_is_number (hr.mono (by decide)) rfl E.m_is_number E.D_is_number.F.kp E.D_is_number.b .nil pass0 (pa_cons (pv 0) (pa_cons (pe_op op_pow pe_int pe_int) pa_nil)))))
  (pss_one (ps_raise rfl (takes_of rfl rfl rfl rfl) (pmk_own PySem.F.excBase_ValueError E.x_NoWeight E.g_NoWeight E.k_NoWeight (raises_own E.b_NoWeight E.t_NoWeight) rfl)))
  pss_nil)), ?_⟩
    refine ⟨_, rfl, _, _, rfl, rfl, ⟨by decide, by decide, by decide⟩, v, 10 ^ 60, rfl, ty, _, rfl, ?_⟩
    cases e : isNum v (10 ^ 60) with
    | true => exact iteF (q1 e)
    | false => exact iteT (q2 e)
def sp_check_drawers (E : EnvD K mg) : Sp := fun vs H Q Ex => ∃ v, vs = [v] ∧ (∃ T, TyB K H v T) ∧ (isNum v 50 = true → Q .non H) ∧ (isNum v 50 = false → Ex (.ref E.C_NoDesk) none H)
theorem ok_check_drawers (E : EnvD K mg) : FnOk P w K mg base (L2.CX P w) 2 E.D_check_drawers.a E.D_check_drawers.fd P_check_drawers (sp_check_drawers E) := by
  have G_is_number : FnOk P w K mg base CX0 1 E.D_is_number.a E.D_is_number.fd P_is_number (sp_is_number (K := K)) := ok_is_number E
  refine E.D_check_drawers.F.okX sc_check_drawers (fun vs H Q Ex h => ?_) (fun cdv A outer s H vs Q Ex hr h => ?_)
  · obtain ⟨v, rfl, _⟩ := h
    rfl
  · obtain ⟨v, rfl, ty, q1, q2⟩ := h
    refine ⟨_, (pss_one (ps_if (pt_not (pt_val (pe_call G_is_number (hr.mono (by decide)) rfl E.m_is_number E.D_is_number.F.kp E.D_is_number.b .nil pass0 (pa_cons (pv 0) (pa_cons pe_int pa_nil)))))
  (pss_one (ps_raise rfl (takes_of rfl rfl rfl rfl) (pmk_own PySem.F.excBase_ValueError E.x_NoDesk E.g_NoDesk E.k_NoDesk (raises_own E.b_NoDesk E.t_NoDesk) rfl)))
  pss_nil)), ?_⟩
    refine ⟨_, rfl, v, 50, rfl, ty, _, rfl, ?_⟩
    cases e : isNum v 50 with
    | true => exact iteF (q1 e)
    | false => exact iteT (q2 e)
/-! ### the law's names, comings, drawers -/
def sp_names : Sp := fun vs H Q _ => ∃ (a : Addr) (ns : List Int), vs = [.ref a] ∧ SqL K H a (ns.map V.int) ∧
  ∀ (p : Addr) (H' : Hp) (nl : List Str), H p = none → Same H H' → H' p = some (.lst (nl.map V.str)) → nl.length = 14 → (∀ n ∈ nl, nmOk n = true) → Q (.ref p) H'
theorem len_le {n : Str} {m : Nat} (h : n.cps.toList.length ≤ m) (hm : m ≤ 1000) : n.length ≤ sizeLine := by
  rw [len_cps]
  exact Nat.le_of_lt (sz50 (by omega))
theorem ok_names (E : EnvD K mg) : FnOk P w K mg base CX0 2 E.D_names.a E.D_names.fd P_names (sp_names (K := K)) := by
  have G_mixed : FnOk P w K mg base CX0 1 E.D_mixed.a E.D_mixed.fd P_mixed sp_mixed := ok_mixed E
  refine E.D_names.F.ok sc_names (fun vs H Q Ex h => ?_) (fun cdv A outer s H vs Q Ex hr h => ?_)
  · obtain ⟨a, ns, rfl, _⟩ := h
    rfl
  · obtain ⟨a, ns, rfl, hS, q⟩ := h
    refine ⟨_, (pss_cons (ps_set (i := 1) sc_names.nd rfl (by first | exact Or.inl rfl | exact Or.inr rfl) pe_str)
  (Evl.pss_cut (ps_set (i := 2) sc_names.nd rfl (by first | exact Or.inl rfl | exact Or.inr rfl) (pe_call G_mixed (hr.mono (by decide)) rfl E.m_mixed E.D_mixed.F.kp E.D_mixed.b .nil pass0 (pa_cons (pe_ifExp (pt_truth (pv 0) (by intro _; rfl)) (pe_ix ix_list (pv 0) pe_int (fun _ _ => rfl)) pe_int) (pa_cons pe_int pa_nil))))
  (pss_cons (ps_set (i := 3) sc_names.nd rfl (by first | exact Or.inl rfl | exact Or.inr rfl) (pe_op op_mulS (pe_ix ix_str (pv 1) (pe_op op_mod (pv 2) pe_int) (fun _ _ => rfl)) (pe_op op_add pe_int (pe_op op_mod (pe_op op_fdiv (pv 2) pe_int) pe_int))))
  (Evl.pss_cut (ps_set (i := 4) sc_names.nd rfl (by first | exact Or.inl rfl | exact Or.inr rfl) (pe_op op_mod (pe_op op_fdiv (pv 2) pe_int) (pe_callB call_len_str rfl E.n_len (by decide +kernel) (pa_cons (pv 3) pa_nil))))
  (pss_cons (ps_set (i := 5) sc_names.nd rfl (by first | exact Or.inl rfl | exact Or.inr rfl) (pe_lst pa_nil))
  (pss_cons (ps_for PassesOwn.never rfl (pi_range1 rfl E.n_range (pa_cons pe_int pa_nil)) (pg_name (i := 6) sc_names.nd rfl (by first | exact Or.inl rfl | exact Or.inr rfl))
  (pss_cons (ps_set (i := 7) sc_names.nd rfl (by first | exact Or.inl rfl | exact Or.inr rfl) (pe_ix ix_str (pv 1) (pe_op op_mod (pe_op op_add (pe_op op_fdiv (pv 2) pe_int) (pe_op op_mul pe_int (pv 6))) pe_int) (fun _ _ => rfl)))
  (Evl.pss_cut (ps_set (i := 8) sc_names.nd rfl (by first | exact Or.inl rfl | exact Or.inr rfl) (pe_op op_add_str (pe_op op_add_str (pe_slice sl_str (pv 3) po_none (po_some (pv 4))) (pv 7)) (pe_slice sl_str (pv 3) (po_some (pe_op op_add (pv 4) pe_int)) po_none)))
  (Evl.pss_cut (ps_if (pt_cmpR op_eq (pe_op op_mod (pv 6) pe_int) pe_int (nomark _))
  (pss_one (ps_set (i := 8) sc_names.nd rfl (by first | exact Or.inl rfl | exact Or.inr rfl) (pe_slice sl_str (pe_op op_add_str (pv 8) (pv 8)) po_none (po_some (pe_callB (call_min2 rfl) rfl E.n_min (by decide +kernel) (pa_cons pe_int (pa_cons (pe_op op_add (pe_op op_add (pe_callB call_len_str rfl E.n_len (by decide +kernel) (pa_cons (pv 8) pa_nil)) pe_int) (pe_op op_mod (pv 6) pe_int)) pa_nil)))))))
  pss_nil)
  (Evl.pss_cut (ps_if (pt_cmpR op_eq (pe_op op_mod (pv 6) pe_int) pe_int (nomark _))
  (pss_one (ps_set (i := 8) sc_names.nd rfl (by first | exact Or.inl rfl | exact Or.inr rfl) (pe_slice sl_str (pv 8) po_none (po_some (pe_op op_add (pv 4) pe_int)))))
  pss_nil)
  (pss_one (ps_expr (pe_bm PySem.F.plainAttrs_list PySem.F.slot_list_append PySem.F.type_list_append mt_append (pv 5) (pa_cons (pv 8) pa_nil)))))))))
  (pss_one (ps_ret (pv 5))))))))), ?_⟩
    refine ⟨fun σ H' => H' = H ∧ ∃ m : Int, 0 ≤ m ∧ m < 2147483647 ∧ σ = [some (.ref a), some (.str abc), some (.int m), none, none, none, none, none, none], ?_, ?_⟩
    · refine ⟨_, rfl, _, .inl ⟨_, hS, rfl⟩, ?_⟩
      cases ns with
      | nil => exact iteF ⟨_, _, rfl, fun m h0 h1 => ⟨rfl, m, h0, h1, rfl⟩⟩
      | cons z r =>
        have hz : atI ((z :: r).map V.int) 0 = some (V.int z) := atI_nat (j := 0) rfl
        exact iteT ⟨_, rfl, _, _, _, _, rfl, rfl, hS, hz, _, _, rfl, fun m h0 h1 => ⟨rfl, m, h0, h1, rfl⟩⟩
    · rintro σ H' ⟨rfl, m, h0, h1, rfl⟩
      obtain ⟨b0, b1⟩ := emod_bd m (n := 26) (by decide)
      obtain ⟨c, c1, c2, hc⟩ := abc_at b0 b1
      obtain ⟨k0, k1⟩ := emod_bd (m / 26) (n := 8) (by decide)
      refine ⟨_, rfl, _, rfl, _, _, rfl, rfl, mp (by decide), _, _, _, rfl, rfl, Nat.le_of_lt (sz50 (by rw [abc_len]; decide)), hc, _, rfl, _, _, rfl, rfl, ⟨by decide, by decide⟩, _, _, rfl, rfl, mp (by decide), _, _, rfl, rfl, _, _, rfl, rfl, (by show 1 ≤ 8; decide), ?_, ?_, ?_⟩
      · show 0 ≤ 1 + m / 26 % 8
        omega
      · show 1 + m / 26 % 8 ≤ 64
        omega
      have hb : ∃ b : Str, b = PySem.Txt.mul ⟨#[c]⟩ (1 + m / 26 % 8) ∧ okC b.cps.toList = true := ⟨_, rfl, by rw [mul_cps c (by omega)]; exact okC_rep c1 c2 (by omega) (by omega)⟩
      obtain ⟨b, eb, ob⟩ := hb
      rw [← eb]
      obtain ⟨l1, l2, l3⟩ := okC_iff.mp ob
      have el := len_cps b
      obtain ⟨a0, a1⟩ := emod_bd (m / 208) (n := (b.length : Int)) (by omega)
      refine ⟨fun σ H2 => H2 = H' ∧ ∃ j : Nat, j < b.cps.toList.length ∧ σ = [some (.ref a), some (.str abc), some (.int m), some (.str b), some (.int (j : Int)), none, none, none, none], ?_, ?_⟩
      · refine ⟨_, rfl, _, _, rfl, rfl, ⟨by decide, by decide⟩, _, rfl, _, rfl, len_le l2 (by decide), _, _, rfl, rfl, mp (by omega), ?_⟩
        obtain ⟨j, ej⟩ := Int.eq_ofNat_of_zero_le a0
        exact ⟨rfl, j, by omega, by rw [← ej]; rfl⟩
      rintro σ H2 ⟨rfl, j, hj, rfl⟩
      refine ⟨Nat.zero_le _, fun p hp => ?_⟩
      have s0 : Same H2 (upd H2 p (.lst [])) := Same.new hp
      refine ⟨14, rfl, by decide, by decide, for_range (fun i σ H3 => ∃ (nl : List Str) (o6 o7 o8 : Option V), σ = [some (.ref a), some (.str abc), some (.int m), some (.str b), some (.int (j : Int)), some (.ref p), o6, o7, o8] ∧
          Same H2 H3 ∧ H3 p = some (.lst (nl.map V.str)) ∧ nl.length = i ∧ ∀ n ∈ nl, nmOk n = true) ⟨[], none, none, none, rfl, s0, upd_same, rfl, fun _ h => by simp at h⟩ ?_ ?_⟩
      · rintro i σ H2 hi ⟨nl, o6, o7, o8, rfl, s2, hL, hln, hok⟩
        obtain ⟨d0, d1⟩ := emod_bd (m / 1664 + 5 * (0 + (i : Int))) (n := 26) (by decide)
        obtain ⟨e, e1, e2, he⟩ := abc_at d0 d1
        refine ⟨_, rfl, _, rfl, _, _, rfl, rfl, ⟨by decide, by decide⟩, _, rfl, _, _, rfl, rfl, .inl (by decide), _, _, rfl, rfl, _, _, rfl, rfl, mp (by decide), _, _, _, rfl, rfl, Nat.le_of_lt (sz50 (by rw [abc_len]; decide)), he, ?_⟩
        refine ⟨fun σ H3 => H3 = H2 ∧ ∃ x : Str, okC x.cps.toList = true ∧ σ = [some (.ref a), some (.str abc), some (.int m), some (.str b), some (.int (j : Int)), some (.ref p), some (.int (0 + (i : Int))), some (.str ⟨#[e]⟩), some (.str x)], ?_, ?_⟩
        · have w1 : ((cutS b none (some (j : Int))) ++ (⟨#[e]⟩ : Str)).cps.toList = b.cps.toList.take j ++ [e] := by rw [cps_add, cps_to]
          have w2 : (cutS b (some ((j : Int) + 1)) none).cps.toList = b.cps.toList.drop (j + 1) := cps_from b (j + 1)
          have w3 : (((cutS b none (some (j : Int))) ++ (⟨#[e]⟩ : Str)) ++ (cutS b (some ((j : Int) + 1)) none)).cps.toList = b.cps.toList.take j ++ [e] ++ b.cps.toList.drop (j + 1) := by rw [cps_add, w1, w2]
          have o3 := okC_swap ob hj e1 e2
          have l4 := (okC_iff.mp o3).2.1
          refine ⟨_, rfl, _, rfl, _, rfl, _, rfl, len_le l2 (by decide), _, rfl, _, _, rfl, rfl, ?_, _, rfl, _, rfl, _, _, rfl, rfl, _, rfl, _, rfl, len_le l2 (by decide), _, _, rfl, rfl, ?_, ?_⟩
          · show (cutS b none (some (j : Int))).length + (⟨#[e]⟩ : Str).length ≤ sizeLine
            have z1 : (cutS b none (some (j : Int))).length ≤ b.length := cutS_length _ _ _
            have z2 : (⟨#[e]⟩ : Str).length = 1 := rfl
            exact Nat.le_of_lt (sz50 (by omega))
          · have z := congrArg List.length w3
            rw [cps_add, List.length_append, ← len_cps, ← len_cps] at z
            exact Nat.le_of_lt (sz50 (by omega))
          · exact ⟨rfl, _, by rw [w3]; exact o3, rfl⟩
        rintro σ H3 ⟨rfl, x, ox, rfl⟩
        refine ⟨fun σ H4 => H4 = H3 ∧ ∃ x : Str, okC x.cps.toList = true ∧ σ = [some (.ref a), some (.str abc), some (.int m), some (.str b), some (.int (j : Int)), some (.ref p), some (.int (0 + (i : Int))), some (.str ⟨#[e]⟩), some (.str x)], ?_, ?_⟩
        · obtain ⟨x1, x2, x3⟩ := okC_iff.mp ox
          have ex := len_cps x
          refine ⟨_, rfl, _, _, rfl, rfl, mp (by decide), rfl, _, rfl, ?_⟩
          refine ite2 (fun _ => ?_) (fun _ => ⟨rfl, x, ox, rfl⟩)
          obtain ⟨g0, g1⟩ := emod_bd (0 + (i : Int)) (n := 2) (by decide)
          refine ⟨_, rfl, _, rfl, _, _, rfl, rfl, Nat.le_of_lt (sz50 (by omega)), _, rfl, _, rfl, len_le x2 (by decide), _, _, rfl, rfl, _, rfl, _, _, rfl, rfl, mp (by decide), _, _, rfl, rfl, _, _, rfl, _, rfl, _, rfl, ?_, ?_⟩
          · have z := congrArg List.length (cps_add x x)
            rw [List.length_append, ← len_cps] at z
            exact Nat.le_of_lt (sz50 (by omega))
          · obtain ⟨n, en, n1, n2⟩ : ∃ n : Nat, (if ((x.length : Nat) : Int) + 1 + (0 + (i : Int)) % 2 < 8 then ((x.length : Nat) : Int) + 1 + (0 + (i : Int)) % 2 else 8) = (n : Int) ∧ 1 ≤ n ∧ n ≤ 8 := by
              split
              · exact ⟨(((x.length : Nat) : Int) + 1 + (0 + (i : Int)) % 2).toNat, by omega, by omega, by omega⟩
              · exact ⟨8, rfl, by decide, by decide⟩
            refine ⟨rfl, cutS (x ++ x) none (some (n : Int)), ?_, ?_⟩
            · rw [cps_to, cps_add]
              exact okC_take2 ox n1 n2
            · rw [← en]
              rfl
        rintro σ H4 ⟨rfl, x, ox, rfl⟩
        refine ⟨fun σ H5 => H5 = H4 ∧ ∃ x : Str, okC x.cps.toList = true ∧ σ = [some (.ref a), some (.str abc), some (.int m), some (.str b), some (.int (j : Int)), some (.ref p), some (.int (0 + (i : Int))), some (.str ⟨#[e]⟩), some (.str x)], ?_, ?_⟩
        · obtain ⟨x1, x2, x3⟩ := okC_iff.mp ox
          refine ⟨_, rfl, _, _, rfl, rfl, mp (by decide), rfl, _, rfl, ?_⟩
          refine ite2 (fun _ => ?_) (fun _ => ⟨rfl, x, ox, rfl⟩)
          refine ⟨_, rfl, _, rfl, _, _, rfl, rfl, _, rfl, _, rfl, len_le x2 (by decide), ?_⟩
          refine ⟨rfl, cutS x none (some ((j + 1 : Nat) : Int)), ?_, rfl⟩
          rw [cps_to]
          exact okC_take ox (by omega)
        rintro σ H5 ⟨rfl, x, ox, rfl⟩
        refine ⟨_, rfl, .inl ⟨rfl, _, SqL.of hL⟩, _, rfl, p, _, _, rfl, rfl, hL, sz50 (by rw [List.length_map]; omega), ?_⟩
        refine ⟨nl ++ [x], _, _, _, rfl, Same.mut s2 hp, by rw [upd_same, List.map_append]; rfl, by rw [List.length_append, hln]; rfl, fun n hn => ?_⟩
        rcases List.mem_append.mp hn with hn | hn
        · exact hok n hn
        · rw [List.mem_singleton.mp hn]
          exact ox
      · rintro σ H2 ⟨nl, o6, o7, o8, rfl, s2, hL, hln, hok⟩
        exact ⟨_, rfl, q p H2 nl hp s2 hL hln hok⟩
/-- a coming: a name of the list, a weight -/
def sp_coming : Sp := fun vs H Q _ => ∃ (a : Addr) (nl : List Str) (c k : Int), vs = [.ref a, .int c, .int k] ∧ SqL K H a (nl.map V.str) ∧ nl.length = 14 ∧
  ∀ (p : Addr) (H' : Hp) (n : Str) (w : Int), H p = none → Same H H' → H' p = some (.tup [.str n, .int w]) → n ∈ nl → 1 ≤ w → w ≤ 10 ^ 60 → Q (.ref p) H'
theorem ok_coming (E : EnvD K mg) : FnOk P w K mg base CX0 2 E.D_coming.a E.D_coming.fd P_coming (sp_coming (K := K)) := by
  have G_mixed : FnOk P w K mg base CX0 1 E.D_mixed.a E.D_mixed.fd P_mixed sp_mixed := ok_mixed E
  refine E.D_coming.F.ok sc_coming (fun vs H Q Ex h => ?_) (fun cdv A outer s H vs Q Ex hr h => ?_)
  · obtain ⟨a, nl, c, k, rfl, _⟩ := h
    rfl
  · obtain ⟨a, nl, c, k, rfl, hS, hl, q⟩ := h
    refine ⟨_, (pss_cons (ps_set (i := 3) sc_coming.nd rfl (by first | exact Or.inl rfl | exact Or.inr rfl) (pe_call G_mixed (hr.mono (by decide)) rfl E.m_mixed E.D_mixed.F.kp E.D_mixed.b .nil pass0 (pa_cons (pv 1) (pa_cons (pv 2) pa_nil))))
  (Evl.pss_cut (ps_set (i := 4) sc_coming.nd rfl (by first | exact Or.inl rfl | exact Or.inr rfl) (pe_ix ix_list (pv 0) (pe_op op_mod (pe_op op_mod (pv 3) (pe_ix ix_list (pe_lst (pa_cons pe_int (pa_cons pe_int (pa_cons pe_int pa_nil)))) (pe_op op_mod (pe_op op_fdiv (pv 3) pe_int) pe_int) (fun _ _ => rfl))) pe_int) (fun _ _ => rfl)))
  (pss_cons (ps_set (i := 5) sc_coming.nd rfl (by first | exact Or.inl rfl | exact Or.inr rfl) (pe_op op_mod (pe_op op_fdiv (pv 3) pe_int) pe_int))
  (Evl.pss_cut (ps_set (i := 6) sc_coming.nd rfl (by first | exact Or.inl rfl | exact Or.inr rfl) (pe_op op_add pe_int (pe_op op_mod (pe_op op_fdiv (pv 3) pe_int) (pe_ix ix_list (pe_lst (pa_cons pe_int (pa_cons pe_int (pa_cons pe_int pa_nil)))) (pe_op op_mod (pv 5) pe_int) (fun _ _ => rfl)))))
  (Evl.pss_cut (ps_if (pt_cmpR op_gt (pv 5) pe_int (nomark _))
  (pss_one (ps_set (i := 6) sc_coming.nd rfl (by first | exact Or.inl rfl | exact Or.inr rfl) (pe_op op_add pe_int (pe_op op_mod (pe_op op_add (pe_op op_pow (pv 3) pe_int) (pe_op op_mod (pv 1) (pe_op op_pow pe_int pe_int))) (pe_op op_pow pe_int pe_int)))))
  pss_nil)
  (pss_one (ps_ret (pe_tup (pa_cons (pv 4) (pa_cons (pv 6) pa_nil)))))))))), ?_⟩
    refine ⟨_, rfl, _, rfl, _, _, rfl, fun m h0 h1 => ?_⟩
    refine ⟨fun σ H' => Same H H' ∧ ∃ n : Str, n ∈ nl ∧ σ = [some (.ref a), some (.int c), some (.int k), some (.int m), some (.str n), none, none], ?_, ?_⟩
    · obtain ⟨b0, b1⟩ := emod_bd (m / 14) (n := 3) (by decide)
      obtain ⟨v, hv, ev⟩ := at3 (a := 4) (b := 14) (c := 9) b0 b1
      have hv0 : 0 < v := by omega
      refine ⟨_, rfl, _, rfl, ?_⟩
      refine ⟨by show 3 ≤ sizeLine; decide, fun p hp => ?_⟩
      refine ⟨_, rfl, _, _, rfl, rfl, ⟨by decide, by decide⟩, _, _, rfl, rfl, mp (by decide), p, _, _, _, rfl, rfl, SqL.of upd_same, ev, _, _, rfl, rfl, mp hv0, _, _, rfl, rfl, mp (by decide), ?_⟩
      obtain ⟨d0, d1⟩ := emod_bd (m % v) (n := 14) (by decide)
      obtain ⟨j, ej⟩ := Int.eq_ofNat_of_zero_le d0
      have hj : j < nl.length := by omega
      have s1 : Same H (upd H p (.lst [V.int 4, V.int 14, V.int 9])) := Same.new hp
      have hx : nl[j]? = some nl[j] := List.getElem?_eq_getElem hj
      refine ⟨_, _, _, _, rfl, rfl, s1.seq hS, at_of (j := j) (v := V.str nl[j]) ej (by rw [List.getElem?_map, hx]; rfl), s1, nl[j], List.getElem_mem hj, rfl⟩
    rintro σ H1 ⟨s1, n, hn, rfl⟩
    obtain ⟨t0, t1⟩ := emod_bd (m / 42) (n := 12) (by decide)
    refine ⟨_, rfl, _, _, rfl, rfl, ⟨by decide, by decide⟩, _, _, rfl, rfl, mp (by decide), ?_⟩
    refine ⟨fun σ H' => Same H H' ∧ ∃ w : Int, 1 ≤ w ∧ w ≤ 10 ^ 60 ∧ σ = [some (.ref a), some (.int c), some (.int k), some (.int m), some (.str n), some (.int (m / 42 % 12)), some (.int w)], ?_, ?_⟩
    · obtain ⟨b0, b1⟩ := emod_bd (m / 42 % 12) (n := 3) (by decide)
      obtain ⟨v, hv, ev⟩ := at3 (a := 1) (b := 9) (c := 60) b0 b1
      have hv0 : 0 < v := by omega
      obtain ⟨w0, w1⟩ := emod_bd (m / 600) (n := v) hv0
      refine ⟨_, rfl, _, _, rfl, rfl, ⟨by decide, by decide⟩, ?_⟩
      refine ⟨by show 3 ≤ sizeLine; decide, fun p hp => ?_⟩
      refine ⟨_, rfl, _, _, rfl, rfl, mp (by decide), p, _, _, _, rfl, rfl, SqL.of upd_same, ev, _, _, rfl, rfl, mp hv0, _, _, rfl, rfl, ?_⟩
      exact ⟨Same.trans s1 (Same.new hp), _, by omega, by omega, rfl⟩
    rintro σ H2 ⟨s2, w, hw0, hw1, rfl⟩
    refine ⟨fun σ H' => Same H H' ∧ ∃ w : Int, 1 ≤ w ∧ w ≤ 10 ^ 60 ∧ σ = [some (.ref a), some (.int c), some (.int k), some (.int m), some (.str n), some (.int (m / 42 % 12)), some (.int w)], ?_, ?_⟩
    · refine ⟨_, rfl, _, _, rfl, rfl, _, rfl, ?_⟩
      refine ite2 (fun _ => ?_) (fun _ => ⟨s2, w, hw0, hw1, rfl⟩)
      refine ⟨_, rfl, _, _, rfl, rfl, ⟨by decide, by decide, ?_⟩, _, rfl, _, _, rfl, rfl, ⟨by decide, by decide, by decide⟩, _, _, rfl, rfl, mp (by decide), _, _, rfl, rfl, _, _, rfl, rfl, ⟨by decide, by decide, by decide⟩, _, _, rfl, rfl, mp (by decide), _, _, rfl, rfl, ?_⟩
      · show m.natAbs < 2 ^ 64
        omega
      · obtain ⟨z0, z1⟩ := emod_bd (m ^ (7 : Int).toNat + c % 10 ^ (59 : Int).toNat) (n := 10 ^ (60 : Int).toNat) (by decide)
        exact ⟨s2, _, by omega, by
          have e : (10 : Int) ^ (60 : Int).toNat = 10 ^ 60 := rfl
          rw [e] at z1 ⊢
          omega, rfl⟩
    rintro σ H3 ⟨s3, w, hw0, hw1, rfl⟩
    refine ⟨_, rfl, _, rfl, (by show 2 ≤ sizeLine; decide), fun p hp => ?_⟩
    exact q p _ n w (Same.free s3 hp) (Same.mut s3 (Same.free s3 hp)) upd_same hn hw0 hw1
/-- how many drawers -/
def sp_drawers : Sp := fun vs H Q _ => ∃ (a : Addr) (ns : List Int), vs = [.ref a] ∧ SqL K H a (ns.map V.int) ∧ ∀ (k : Nat) (H' : Hp), 1 ≤ k → k ≤ 50 → Same H H' → Q (.int (k : Int)) H'
theorem ok_drawers (E : EnvD K mg) : FnOk P w K mg base CX0 2 E.D_drawers.a E.D_drawers.fd P_drawers (sp_drawers (K := K)) := by
  have G_mixed : FnOk P w K mg base CX0 1 E.D_mixed.a E.D_mixed.fd P_mixed sp_mixed := ok_mixed E
  refine E.D_drawers.F.ok sc_drawers (fun vs H Q Ex h => ?_) (fun cdv A outer s H vs Q Ex hr h => ?_)
  · obtain ⟨a, ns, rfl, _⟩ := h
    rfl
  · obtain ⟨a, ns, rfl, hS, q⟩ := h
    refine ⟨_, (Evl.pss_cut (ps_set (i := 1) sc_drawers.nd rfl (by first | exact Or.inl rfl | exact Or.inr rfl) (pe_call G_mixed (hr.mono (by decide)) rfl E.m_mixed E.D_mixed.F.kp E.D_mixed.b .nil pass0 (pa_cons (pe_ifExp (pt_truth (pv 0) (by intro _; rfl)) (pe_ix ix_list (pv 0) (pe_un un_neg pe_int) (fun _ _ => rfl)) pe_int) (pa_cons pe_int pa_nil))))
  (pss_one (ps_ret (pe_ix ix_list (pe_lst (pa_cons (pe_op op_add pe_int (pe_op op_mod (pe_op op_fdiv (pv 1) pe_int) pe_int)) (pa_cons (pe_op op_add pe_int (pe_op op_mod (pe_op op_fdiv (pv 1) pe_int) pe_int)) (pa_cons pe_int (pa_cons pe_int pa_nil))))) (pe_op op_fdiv (pe_op op_mod (pv 1) pe_int) pe_int) (fun _ _ => rfl))))), ?_⟩
    refine ⟨fun σ H' => H' = H ∧ ∃ m : Int, 0 ≤ m ∧ m < 2147483647 ∧ σ = [some (.ref a), some (.int m)], ?_, ?_⟩
    · refine ⟨_, rfl, _, .inl ⟨_, hS, rfl⟩, ?_⟩
      cases ns with
      | nil => exact iteF ⟨_, _, rfl, fun m h0 h1 => ⟨rfl, m, h0, h1, rfl⟩⟩
      | cons z r =>
        obtain ⟨y, hy⟩ := last_at (ns := z :: r) (by simp)
        exact iteT ⟨_, rfl, _, rfl, _, _, _, _, rfl, rfl, hS, hy, _, _, rfl, fun m h0 h1 => ⟨rfl, m, h0, h1, rfl⟩⟩
    · rintro σ H' ⟨rfl, m, h0, h1, rfl⟩
      obtain ⟨b0, b1⟩ := emod_bd (m / 8) (n := 4) (by decide)
      obtain ⟨c0, c1⟩ := emod_bd (m / 8) (n := 9) (by decide)
      obtain ⟨d0, d1⟩ := emod_bd m (n := 8) (by decide)
      obtain ⟨v, hv, ev⟩ := at4 (a := 1 + m / 8 % 4) (b := 1 + m / 8 % 9) (c := 3) (d := 50) (i := m % 8 / 2) (by omega) (by omega)
      refine ⟨_, rfl, _, _, rfl, rfl, ⟨by decide, by decide⟩, _, _, rfl, rfl, mp (by decide), _, _, rfl, rfl, _, rfl, _, _, rfl, rfl, ⟨by decide, by decide⟩, _, _, rfl, rfl, mp (by decide), _, _, rfl, rfl, ?_⟩
      refine ⟨by show 4 ≤ sizeLine; decide, fun p hp => ?_⟩
      refine ⟨_, rfl, _, _, rfl, rfl, mp (by decide), _, _, rfl, rfl, ⟨by decide, by decide⟩, p, _, _, _, rfl, rfl, SqL.of upd_same, ev, ?_⟩
      obtain ⟨k, ek⟩ := Int.eq_ofNat_of_zero_le (show 0 ≤ v by omega)
      subst ek
      exact q k _ (by omega) (by omega) (Same.new hp)
/-! ### the desk's methods -/
theorem dget_enc {H : Hp} {d : Addr} {l : Dk} {n : Str} {z : Int} (h : Rd H d (.dK (enc l))) (e : lk l n = some z) : DGet H d (.str n) (some (.int z)) :=
  .inl ⟨enc l, Sum.inr n, h, rfl, by rw [enc_val, e]; rfl⟩
theorem dget_encO {H : Hp} {d : Addr} {l : Dk} {n : Str} (h : Rd H d (.dK (enc l))) : DGet H d (.str n) ((lk l n).map V.int) :=
  .inl ⟨enc l, Sum.inr n, h, rfl, (enc_val n l).symm⟩
theorem dput_enc {H : Hp} {d : Addr} {l : Dk} {n : Str} {z : Int} (h : H d = some (.dK (enc l))) (hl : l.length ≤ 1000) : DPut H d (.str n) (.int z) (upd H d (.dK (enc (put l n z)))) := by
  rw [← enc_put]
  exact DPut.k (k := Sum.inr n) h (by rw [enc_len]; exact sz50 hl)
def sp_lowered : Sp := fun vs H Q _ => ∃ (d : Addr) (l : Dk) (z : Int), vs = [.ref d, .int z] ∧ H d = some (.dK (enc l)) ∧ (keys l).Nodup ∧ l.length ≤ 1000 ∧
  ∀ (p : Addr) (H' : Hp), H p = none → Same H H' → H' p = some (.dK (enc (low l z))) → Q (.ref p) H'
theorem ok_lowered (E : EnvD K mg) : FnOk P w K mg base CX0 1 E.D_lowered.a E.D_lowered.fd P_lowered sp_lowered := by
  refine E.D_lowered.F.ok sc_lowered (fun vs H Q Ex h => ?_) (fun cdv A outer s H vs Q Ex hr h => ?_)
  · obtain ⟨d, l, z, rfl, _⟩ := h
    rfl
  · obtain ⟨d, l, z, rfl, hd, nd, hl, q⟩ := h
    refine ⟨_, (pss_one (ps_ret (pe_lock (pe_dc (own := [("name", 2)]) rfl sc_lowered.nd (pi_keys (pv 0)) (blkOk_by (N := N_lowered) (sc := defScope s_lowered) (by decide +kernel)) (fun _ _ _ _ _ => (pg_name (i := 2) sc_lowered.nd rfl (by first | exact Or.inl rfl | exact Or.inr rfl))) (fun _ _ _ _ _ => pts_one (pt_cmpR op_gt (pe_dget (hu_of hr) (pv 0) (pv 2) (fun _ _ => rfl)) (pv 1) (nomark _))) (fun _ _ _ _ _ => (pv 2)) (fun _ _ _ _ _ => (pe_op op_sub (pe_dget (hu_of hr) (pv 0) (pv 2) (fun _ _ => rfl)) (pv 1))))))), ?_⟩
    refine ⟨d, _, hd, trivial, fun od => ?_⟩
    refine ⟨_, rfl, d, od, rfl, .inl ⟨_, upd_same, fun D hD => ?_⟩⟩
    have nDd : D ≠ d := fun e => by
      rw [e, upd_same] at hD
      cases hD
    have hD0 : H D = none := by
      rw [upd_ne nDd] at hD
      exact hD
    refine dc_keys (od := od) (l := l) (fun i H' => H' d = some (.frz od (.dK (enc l))) ∧ (∀ b o, H b = some o → b ≠ d → H' b = some o) ∧ H' D = some (.dK (enc (low (l.take i) z)))) ?_ (fun i H' h => h.1) ?_ ?_
    · exact ⟨by rw [upd_ne nDd.symm, upd_same], fun b o e hb => by rw [upd_ne (ne_of_none e hD0), upd_ne hb]; exact e, upd_same⟩
    · rintro i p H' hp ⟨h1, h2, h3⟩
      have el := lk_at nd hp
      refine ⟨rfl, ?_⟩
      refine ⟨_, rfl, _, rfl, d, _, rfl, dget_enc (.inr ⟨_, h1⟩) el, _, rfl, _, _, rfl, rfl, _, rfl, ?_⟩
      have es := low_snoc (l.take i) p z
      rw [← take_snoc hp] at es
      by_cases c : z < p.2
      · rw [decide_eq_true c]
        rw [if_pos c] at es
        have fr : lk (low (l.take i) z) p.1 = none := lk_none.mpr fun hm => take_fresh nd hp (keys_low_sub hm)
        refine iteT ⟨_, rfl, _, rfl, _, rfl, d, _, rfl, dget_enc (.inr ⟨_, h1⟩) el, _, rfl, _, _, rfl, rfl, _, Sum.inr p.1, rfl, h3, ?_, ?_⟩
        · rw [enc_len]
          exact sz50 (Nat.le_trans (low_len_le _ _) (Nat.le_trans (by rw [List.length_take]; omega) hl))
        · refine ⟨by rw [upd_ne nDd.symm]; exact h1, fun b o e hb => by rw [upd_ne (ne_of_none e hD0)]; exact h2 b o e hb, ?_⟩
          rw [upd_same, es, enc_put, put_new _ fr]
      · rw [decide_eq_false c]
        rw [if_neg c] at es
        exact iteF ⟨h1, h2, by rw [es]; exact h3⟩
    · rintro H' ⟨h1, h2, h3⟩
      refine ⟨h1, q D _ hD0 (fun b o e => ?_) (by rw [upd_ne nDd]; rw [List.take_of_length_le (Nat.le_refl _)] at h3; exact h3)⟩
      by_cases hb : b = d
      · rw [hb, upd_same]
        rw [hb] at e
        exact hd.symm.trans e
      · rw [upd_ne hb]
        exact h2 b o e hb
def sp_d_init (E : EnvD K mg) : Sp := fun vs H Q Ex => ∃ (p dx : Addr) (v : V), vs = [.ref p, v] ∧ H p = some (.ins E.C dx []) ∧ (∃ T, TyB K H v T) ∧
  (∀ k : Nat, v = .int (k : Int) → 1 ≤ k → k ≤ 50 → ∀ (d : Addr) (H' : Hp), H d = none → DeskAt E.C H' p d k ⟨[], 0, 0⟩ → (∀ b o, H b = some o → b ≠ p → H' b = some o) → Q .non H') ∧
  (isNum v 50 = false → Ex (.ref E.C_NoDesk) none H)
theorem ok_d_init (E : EnvD K mg) : FnOk P w K mg base (L2.CX P w) 3 E.D_d_init.a E.D_d_init.fd P_d_init (sp_d_init E) := by
  have G_check_drawers : FnOk P w K mg base (L2.CX P w) 2 E.D_check_drawers.a E.D_check_drawers.fd P_check_drawers (sp_check_drawers E) := ok_check_drawers E
  refine E.D_d_init.F.okX sc_d_init (fun vs H Q Ex h => ?_) (fun cdv A outer s H vs Q Ex hr h => ?_)
  · obtain ⟨p, dx, v, rfl, _⟩ := h
    rfl
  · obtain ⟨p, dx, v, rfl, hp, ty, q1, q2⟩ := h
    refine ⟨_, (pss_cons (ps_expr (pe_call G_check_drawers (hr.mono (by decide)) rfl E.m_check_drawers E.D_check_drawers.F.kp E.D_check_drawers.b .nil (passes_call (takes_of rfl rfl rfl rfl) (fun _ _ _ _ h => h)) (pa_cons (pv 1) pa_nil)))
  (pss_cons (ps_fld (pv 0) (pv 1) rfl)
  (pss_cons (ps_fld (pv 0) pe_dnewK rfl)
  (pss_cons (ps_fld (pv 0) pe_int rfl)
  (pss_one (ps_fld (pv 0) pe_int rfl)))))), ?_⟩
    refine ⟨_, rfl, v, rfl, ty, fun hv => ?_, q2⟩
    obtain ⟨k, rfl, k1, k2⟩ : ∃ k : Nat, v = .int (k : Int) ∧ 1 ≤ k ∧ k ≤ 50 := by
      cases v with
      | int i =>
        have hv : (decide (1 ≤ i) && decide (i ≤ 50)) = true := hv
        simp only [Bool.and_eq_true, decide_eq_true_eq] at hv
        exact ⟨i.toNat, by congr 1; omega, by omega, by omega⟩
      | _ => exact nomatch (show false = true from hv)
    refine ⟨_, rfl, _, rfl, p, E.C, dx, _, rfl, hp, E.cl, E.a_drawers, (by show 0 < 1000; decide), ?_⟩
    intro d hd
    have npd : p ≠ d := fun e => by
      rw [← e, upd_same] at hd
      cases hd
    have hd0 : H d = none := by
      rw [upd_ne npd.symm] at hd
      exact hd
    refine ⟨_, rfl, p, E.C, dx, _, rfl, by rw [upd_ne npd, upd_same], E.cl, E.a_shown, (by show 1 < 1000; decide), ?_⟩
    refine ⟨_, rfl, p, E.C, dx, _, rfl, upd_same, E.cl, E.a_lost, (by show 2 < 1000; decide), ?_⟩
    refine ⟨_, rfl, p, E.C, dx, _, rfl, upd_same, E.cl, E.a_weight, (by show 3 < 1000; decide), ?_⟩
    refine q1 k rfl k1 k2 d _ hd0 ⟨⟨dx, upd_same⟩, by rw [upd_ne npd.symm, upd_ne npd.symm, upd_ne npd.symm, upd_same]; rfl⟩ fun b o e hb => ?_
    rw [upd_ne hb, upd_ne hb, upd_ne hb, upd_ne (ne_of_none e hd0), upd_ne hb]
    exact e
/-- what a method that changes a desk leaves -/
def Left (C : Addr) (H : Hp) (p d : Addr) (k : Nat) (s' : DS) (Q : VK) : Prop :=
  ∀ (d' : Addr) (H' : Hp), DeskAt C H' p d' k s' → (d' = d ∨ H d' = none) → (∀ b o, H b = some o → b ≠ p → b ≠ d → H' b = some o) → Q .non H'
def fullM (s : DS) (n : Str) (w : Int) : DS := ⟨if lss s.l w < w then low s.l (lss s.l w) ++ [(n, w - lss s.l w)] else low s.l (lss s.l w), s.g + lss s.l w, s.t⟩
def sp_d_come_to_full (E : EnvD K mg) : Sp := fun vs H Q _ => ∃ (p d : Addr) (n : Str) (w : Int) (k : Nat) (s : DS), vs = [.ref p, .str n, .int w] ∧ DeskAt E.C H p d k s ∧ (keys s.l).Nodup ∧ lk s.l n = none ∧ s.l ≠ [] ∧ s.l.length ≤ 50 ∧ Left E.C H p d k (fullM s n w) Q
theorem ok_d_come_to_full (E : EnvD K mg) : FnOk P w K mg base CX0 2 E.D_d_come_to_full.a E.D_d_come_to_full.fd P_d_come_to_full (sp_d_come_to_full E) := by
  have G_lowered : FnOk P w K mg base CX0 1 E.D_lowered.a E.D_lowered.fd P_lowered sp_lowered := ok_lowered E
  refine E.D_d_come_to_full.F.ok sc_d_come_to_full (fun vs H Q Ex h => ?_) (fun cdv A outer s0 H vs Q Ex hr h => ?_)
  · obtain ⟨p, d, n, w, k, s, rfl, _⟩ := h
    rfl
  · obtain ⟨p, d, n, w, k, s, rfl, D, nd, hn, hne, hl, q⟩ := h
    obtain ⟨⟨dx, h1⟩, h2⟩ := id D
    have npd := D.ne
    refine ⟨_, (Evl.pss_cut (ps_set (i := 3) sc_d_come_to_full.nd rfl (by first | exact Or.inl rfl | exact Or.inr rfl) (pe_callB (call_min2 rfl) rfl E.n_min (by decide +kernel) (pa_cons (pv 2) (pa_cons (pe_minVals rfl rfl E.n_min (pe_fld (pv 0) rfl)) pa_nil))))
  (pss_cons (ps_fld (pv 0) (pe_call G_lowered (hr.mono (by decide)) rfl E.m_lowered E.D_lowered.F.kp E.D_lowered.b .nil pass0 (pa_cons (pe_fld (pv 0) rfl) (pa_cons (pv 3) pa_nil))) rfl)
  (pss_cons (ps_fldaug (pv 0) (pv 3) in_add)
  (pss_one (ps_if (pt_cmpR op_gt (pv 2) (pv 3) (nomark _))
  (pss_one (ps_dput (hu_of hr) (pe_fld (pv 0) rfl) (pv 1) (pe_op op_sub (pv 2) (pv 3)) rfl))
  pss_nil))))), ?_⟩
    refine ⟨fun σ H' => H' = H ∧ σ = [some (.ref p), some (.str n), some (.int w), some (.int (lss s.l w))], ?_, ?_⟩
    · refine ⟨_, rfl, _, rfl, p, E.C, dx, _, _, rfl, h1, E.cl, E.a_shown, dfl_shown _ _ _ _, d, _, _, rfl, h2, enc_vals _, ?_, fun m hm hle => ⟨_, _, rfl, rfl, ?_⟩⟩
      · intro z
        exact hne (List.map_eq_nil_iff.mp z)
      · have e : lss s.l w = min w m := by
          refine lss_eq (fun p hp => hle p.2 (List.mem_map.mpr ⟨p, hp, rfl⟩)) ?_
          obtain ⟨p, hp, ep⟩ := List.mem_map.mp hm
          exact ⟨p, hp, ep.symm⟩
        have e2 : (if m < w then m else w) = lss s.l w := by
          rw [e]
          split <;> omega
        show _ = [some (V.ref p), some (V.str n), some (V.int w), some (V.int (lss s.l w))]
        rw [← e2]
        rfl
    rintro σ H' ⟨rfl, rfl⟩
    generalize ez : lss s.l w = z
    refine ⟨_, rfl, p, E.C, dx, _, _, rfl, h1, E.cl, E.a_shown, dfl_shown _ _ _ _, _, rfl, d, s.l, z, rfl, h2, nd, by omega, fun e H1 he s1 he1 => ?_⟩
    have npe : p ≠ e := ne_of_none h1 he
    refine ⟨_, rfl, p, E.C, dx, _, rfl, s1 _ _ h1, E.cl, E.a_shown, (by show 4 < 1000; decide), ?_⟩
    refine ⟨_, rfl, p, E.C, dx, _, _, rfl, upd_same, E.cl, E.a_lost, rfl, _, rfl, _, _, rfl, rfl, dx, _, upd_same, (by show 4 < 1000; decide), ?_⟩
    have hE : ∀ o1 o2, (upd (upd H1 p o1) p o2) e = some (.dK (enc (low s.l z))) := fun o1 o2 => by rw [upd_ne npe.symm, upd_ne npe.symm]; exact he1
    have kp : ∀ o1 o2 b o, H' b = some o → b ≠ p → (upd (upd H1 p o1) p o2) b = some o := fun o1 o2 b o q hb => by rw [upd_ne hb, upd_ne hb]; exact s1 b o q
    have fr : lk (low s.l z) n = none := lk_none.mpr fun hm => lk_none.mp hn (keys_low_sub hm)
    have ef : fullM s n w = ⟨if z < w then low s.l z ++ [(n, w - z)] else low s.l z, s.g + z, s.t⟩ := by
      unfold fullM
      rw [ez]
    refine ⟨_, rfl, _, rfl, _, _, rfl, rfl, _, rfl, ?_⟩
    by_cases c : z < w
    · rw [decide_eq_true c]
      rw [if_pos c] at ef
      refine iteT ⟨_, rfl, _, rfl, _, _, rfl, rfl, _, rfl, p, E.C, dx, _, _, rfl, upd_same, E.cl, E.a_shown, rfl, _, rfl, e, _, rfl, dput_enc (hE _ _) (Nat.le_trans (low_len_le _ _) (by omega)), ?_⟩
      refine q e _ ?_ (.inr he) fun b o hb hbp hbd => ?_
      · rw [ef]
        refine ⟨⟨dx, by rw [upd_ne npe, upd_same]; rfl⟩, ?_⟩
        rw [upd_same, put_new _ fr]
      · rw [upd_ne (ne_of_none hb he)]
        exact kp _ _ b o hb hbp
    · rw [decide_eq_false c]
      rw [if_neg c] at ef
      refine iteF (q e _ ?_ (.inr he) fun b o hb hbp hbd => kp _ _ b o hb hbp)
      rw [ef]
      exact ⟨⟨dx, upd_same⟩, hE _ _⟩
def sp_d_come (E : EnvD K mg) : Sp := fun vs H Q Ex => ∃ (p d : Addr) (nv wv : V) (k : Nat) (s : DS), vs = [.ref p, nv, wv] ∧ DeskAt E.C H p d k s ∧ Ok k s.l ∧ 1 ≤ k ∧ k ≤ 50 ∧
  (∃ T, TyB K H nv T) ∧ (∀ z, nv = .str z → z.length ≤ 1000) ∧ (∃ T, TyB K H wv T) ∧ (isNm nv = false → Ex (.ref E.C_NoName) none H) ∧ (isNm nv = true → isNum wv (10 ^ 60) = false → Ex (.ref E.C_NoWeight) none H) ∧
  ∀ (n : Str) (w : Int), nv = .str n → wv = .int w → nmOk n = true → 1 ≤ w → w ≤ 10 ^ 60 → Left E.C H p d k (comeM k s n w) Q
theorem ok_d_come (E : EnvD K mg) : FnOk P w K mg base (L2.CX P w) 3 E.D_d_come.a E.D_d_come.fd P_d_come (sp_d_come E) := by
  have G_check_name : FnOk P w K mg base (L2.CX P w) 2 E.D_check_name.a E.D_check_name.fd P_check_name (sp_check_name E) := ok_check_name E
  have G_check_weight : FnOk P w K mg base (L2.CX P w) 2 E.D_check_weight.a E.D_check_weight.fd P_check_weight (sp_check_weight E) := ok_check_weight E
  have G_d_come_to_full : FnOk P w K mg base CX0 2 E.D_d_come_to_full.a E.D_d_come_to_full.fd P_d_come_to_full (sp_d_come_to_full E) := ok_d_come_to_full E
  refine E.D_d_come.F.ok sc_d_come (fun vs H Q Ex h => ?_) (fun cdv A outer s0 H vs Q Ex hr h => ?_)
  · obtain ⟨p, d, nv, wv, k, s, rfl, _⟩ := h
    rfl
  · obtain ⟨p, d, nv, wv, k, s, rfl, D, O, k1, k2, tyN, hz, tyW, qN, qW, q⟩ := h
    obtain ⟨⟨dx, h1⟩, h2⟩ := id D
    have npd := D.ne
    refine ⟨_, (pss_cons (ps_expr (pe_call G_check_name (hr.mono (by decide)) rfl E.m_check_name E.D_check_name.F.kp E.D_check_name.b .nil (passes_call (takes_of rfl rfl rfl rfl) (fun _ _ _ _ h => h)) (pa_cons (pv 1) pa_nil)))
  (pss_cons (ps_expr (pe_call G_check_weight (hr.mono (by decide)) rfl E.m_check_weight E.D_check_weight.F.kp E.D_check_weight.b .nil (passes_call (takes_of rfl rfl rfl rfl) (fun _ _ _ _ h => h)) (pa_cons (pv 2) pa_nil)))
  (pss_cons (ps_fldaug (pv 0) (pv 2) in_add)
  (pss_one (ps_if (pt_cmp (pc_din (hu_of hr) (pv 1) (pe_fld (pv 0) rfl)))
  (pss_one (ps_daug (hu_of hr) (pe_fld (pv 0) rfl) (pv 1) (pv 2) in_add (fun _ _ _ => rfl)))
  (pss_one (ps_if (pt_cmpR op_lt (pe_callB call_lenD rfl E.n_len (by decide +kernel) (pa_cons (pe_fld (pv 0) rfl) pa_nil)) (pe_fld (pv 0) rfl) (nomark _))
  (pss_one (ps_dput (hu_of hr) (pe_fld (pv 0) rfl) (pv 1) (pv 2) rfl))
  (pss_one (ps_expr (pe_meth (pv 0) E.cl E.me_d_come_to_full G_d_come_to_full (hr.mono (by decide)) E.D_d_come_to_full.b .nil pass0 (pa_cons (pv 1) (pa_cons (pv 2) pa_nil)))))))))))), ?_⟩
    refine ⟨_, rfl, nv, rfl, tyN, hz, fun hN => ?_, qN⟩
    refine ⟨_, rfl, wv, rfl, tyW, fun hW => ?_, qW hN⟩
    obtain ⟨n, rfl⟩ : ∃ n, nv = .str n := by
      cases nv with
      | str n => exact ⟨n, rfl⟩
      | _ => exact nomatch (show false = true from hN)
    obtain ⟨w, rfl⟩ : ∃ w, wv = .int w := by
      cases wv with
      | int w => exact ⟨w, rfl⟩
      | _ => exact nomatch (show false = true from hW)
    have hw : 1 ≤ w ∧ w ≤ 10 ^ 60 := by
      have hW : (decide (1 ≤ w) && decide (w ≤ 10 ^ 60)) = true := hW
      simpa only [Bool.and_eq_true, decide_eq_true_eq] using hW
    have q := q n w rfl rfl hN hw.1 hw.2
    refine ⟨_, rfl, p, E.C, dx, _, _, rfl, h1, E.cl, E.a_weight, dfl_weight _ _ _ _, _, rfl, _, _, rfl, rfl, dx, _, h1, (by show 4 < 1000; decide), ?_⟩
    have g2 : ∀ o, (upd H p o) d = some (.dK (enc s.l)) := fun o => by rw [upd_ne npd.symm]; exact h2
    refine ⟨_, rfl, _, rfl, p, E.C, dx, _, _, rfl, upd_same, E.cl, E.a_shown, rfl, d, _, rfl, dget_encO (.inl (g2 _)), _, rfl, ?_⟩
    cases e : lk s.l n with
    | some z =>
      refine iteT ?_
      refine ⟨_, rfl, p, E.C, dx, _, _, rfl, upd_same, E.cl, E.a_shown, rfl, _, rfl, d, _, rfl, dget_enc (.inl (g2 _)) e, _, rfl, _, _, rfl, rfl, _, dput_enc (g2 _) (by have := O.len; omega), ?_⟩
      refine q d _ ?_ (.inl rfl) fun b o hb hbp hbd => ?_
      · unfold comeM
        rw [e]
        refine ⟨⟨dx, by rw [upd_ne npd, upd_same]; rfl⟩, by rw [upd_same]⟩
      · rw [upd_ne hbd, upd_ne hbp]
        exact hb
    | none =>
      refine iteF ?_
      refine ⟨_, rfl, p, E.C, dx, _, _, rfl, upd_same, E.cl, E.a_shown, rfl, d, _, rfl, g2 _, _, rfl, p, E.C, dx, _, _, rfl, upd_same, E.cl, E.a_drawers, rfl, _, _, rfl, rfl, _, rfl, ?_⟩
      rw [enc_len]
      by_cases c : s.l.length < k
      · rw [decide_eq_true (show ((s.l.length : Nat) : Int) < (k : Int) by omega)]
        refine iteT ?_
        refine ⟨_, rfl, _, rfl, p, E.C, dx, _, _, rfl, upd_same, E.cl, E.a_shown, rfl, _, rfl, d, _, rfl, dput_enc (g2 _) (by have := O.len; omega), ?_⟩
        refine q d _ ?_ (.inl rfl) fun b o hb hbp hbd => ?_
        · unfold comeM
          rw [e]
          dsimp only
          rw [if_pos c]
          refine ⟨⟨dx, by rw [upd_ne npd, upd_same]; rfl⟩, by rw [upd_same, put_new _ e]⟩
        · rw [upd_ne hbd, upd_ne hbp]
          exact hb
      · rw [decide_eq_false (show ¬ ((s.l.length : Nat) : Int) < (k : Int) by omega)]
        refine iteF ?_
        have hlen := O.len
        refine ⟨_, rfl, p, dx, _, rfl, upd_same, rfl, _, rfl, _, rfl, p, d, n, w, k, ⟨s.l, s.g, s.t + w⟩, rfl, ⟨⟨dx, upd_same⟩, g2 _⟩, O.nd, e, ?_, by show s.l.length ≤ 50; omega, ?_⟩
        · intro z
          have z : s.l = [] := z
          rw [z] at c
          exact c k1
        · intro d' H' D' hd' kp
          have ef : fullM ⟨s.l, s.g, s.t + w⟩ n w = comeM k s n w := by
            unfold comeM fullM
            rw [e]
            dsimp only
            rw [if_neg c]
          rw [ef] at D'
          refine q d' H' D' ?_ fun b o hb hbp hbd => kp b o (by rw [upd_ne hbp]; exact hb) hbp hbd
          rcases hd' with rfl | hd'
          · exact .inl rfl
          · refine .inr ?_
            by_cases hdp : d' = p
            · rw [hdp, upd_same] at hd'
              cases hd'
            · rw [upd_ne hdp] at hd'
              exact hd'
theorem keys_len (l : Dk) : (keys l).length = l.length := List.length_map _
theorem srt_len (l : Dk) : (srt l).length = l.length := (srt_perm l).length_eq
theorem srt_nd {l : Dk} (nd : (keys l).Nodup) : (keys (srt l)).Nodup := (keys_perm (srt_perm l)).nodup_iff.mpr nd
theorem keys_get {l : Dk} {i : Nat} {x : V} (h : ((keys l).map V.str)[i]? = some x) : ∃ p, l[i]? = some p ∧ x = .str p.1 := by
  unfold keys at h
  rw [List.getElem?_map, List.getElem?_map] at h
  cases e : l[i]? with
  | none => rw [e] at h; cases h
  | some p => rw [e] at h; exact ⟨p, rfl, (Option.some.inj h).symm⟩
def sp_d_shown (E : EnvD K mg) : Sp := fun vs H Q _ => ∃ (p d : Addr) (k : Nat) (s : DS), vs = [.ref p] ∧ DeskAt E.C H p d k s ∧ (keys s.l).Nodup ∧ s.l.length ≤ 50 ∧
  ∀ (e : Addr) (H' : Hp), H e = none → Same H H' → H' e = some (.dK (enc (srt s.l))) → Q (.ref e) H'
theorem ok_d_shown (E : EnvD K mg) : FnOk P w K mg base CX0 1 E.D_d_shown.a E.D_d_shown.fd P_d_shown (sp_d_shown E) := by
  refine E.D_d_shown.F.ok sc_d_shown (fun vs H Q Ex h => ?_) (fun cdv A outer s0 H vs Q Ex hr h => ?_)
  · obtain ⟨p, d, k, s, rfl, _⟩ := h
    rfl
  · obtain ⟨p, d, k, s, rfl, D, nd, hl, q⟩ := h
    obtain ⟨⟨dx, h1⟩, h2⟩ := id D
    refine ⟨_, (pss_one (ps_ret (pe_dc (tv := tDGet (tFld K (tVar 0) "_shown") (tVar 1)) (own := [("name", 1)]) rfl sc_d_shown.nd (pi_list (pe_callB (call_sortedD rfl) rfl E.n_sorted (by decide +kernel) (pa_cons (pe_fld (pv 0) rfl) pa_nil))) (blkOk_by (N := N_d_shown) (sc := defScope s_d_shown) (by decide +kernel)) (fun _ _ _ _ _ => (pg_name (i := 1) sc_d_shown.nd rfl (by first | exact Or.inl rfl | exact Or.inr rfl))) (fun _ _ _ _ _ => pts_nil) (fun _ _ _ _ _ => (pv 1)) (fun _ _ _ _ _ => (pe_dget (hu_of hr) (pe_fld (pv 0) rfl) (pv 1) (fun _ _ => rfl)))))), ?_⟩
    refine ⟨_, rfl, p, E.C, dx, _, _, rfl, h1, E.cl, E.a_shown, dfl_shown _ _ _ _, d, _, keys s.l, rfl, .inl h2, enc_keys _, by rw [keys_len]; omega, fun ys a hp hs ha => ?_⟩
    obtain rfl := sorted_keys hp hs
    refine ⟨a, rfl, ⟨_, SqL.of upd_same⟩, fun e he => ?_⟩
    have s1 : Same H (upd H a (.lst ((keys (srt s.l)).map V.str))) := Same.new ha
    have he0 : H e = none := s1.free he
    refine dc_list (K := K) (a := a) (xs := (keys (srt s.l)).map V.str) (fun i H' => Same (upd H a (.lst ((keys (srt s.l)).map V.str))) H' ∧ H' e = some (.dK (enc ((srt s.l).take i)))) ⟨Same.new he, upd_same⟩ (fun i H' _ h => SqL.of (h.1 _ _ upd_same)) ?_ ?_
    · rintro i x H' hx ⟨s2, h3⟩
      obtain ⟨b, hb, rfl⟩ := keys_get hx
      have el : lk s.l b.1 = some b.2 := lk_of_mem nd ((srt_perm s.l).mem_iff.mp (List.mem_of_getElem? hb))
      have sH := Same.trans s1 s2
      refine ⟨rfl, tyes ?_⟩
      refine iteT ?_
      refine ⟨_, rfl, _, rfl, p, E.C, dx, _, _, rfl, sH _ _ h1, E.cl, E.a_shown, dfl_shown _ _ _ _, _, rfl, d, _, rfl, dget_enc (.inl (sH _ _ h2)) el, _, Sum.inr b.1, rfl, h3, ?_, Same.mut s2 he, ?_⟩
      · rw [enc_len, List.length_take, srt_len]
        exact sz50 (by omega)
      · rw [upd_same, enc_put, put_new _ (lk_none.mpr (take_fresh (srt_nd nd) hb)), take_snoc hb]
    · rintro H' ⟨s2, h3⟩
      have e1 : ((keys (srt s.l)).map V.str).length = (srt s.l).length := by unfold keys; rw [List.length_map, List.length_map]
      rw [e1, List.take_of_length_le (Nat.le_refl _)] at h3
      exact q e H' he0 (Same.trans s1 s2) h3
def sp_d_lost (E : EnvD K mg) : Sp := fun vs H Q _ => ∃ (p d : Addr) (k : Nat) (s : DS), vs = [.ref p] ∧ DeskAt E.C H p d k s ∧ Q (.int s.g) H
theorem ok_d_lost (E : EnvD K mg) : FnOk P w K mg base CX0 1 E.D_d_lost.a E.D_d_lost.fd P_d_lost (sp_d_lost E) := by
  refine E.D_d_lost.F.ok sc_d_lost (fun vs H Q Ex h => ?_) (fun cdv A outer s0 H vs Q Ex hr h => ?_)
  · obtain ⟨p, d, k, s, rfl, _⟩ := h
    rfl
  · obtain ⟨p, d, k, s, rfl, D, q⟩ := h
    obtain ⟨⟨dx, h1⟩, h2⟩ := id D
    refine ⟨_, (pss_one (ps_ret (pe_fld (pv 0) rfl))), ?_⟩
    exact ⟨_, rfl, p, E.C, dx, _, _, rfl, h1, E.cl, E.a_lost, dfl_lost _ _ _ _, q⟩
def sp_d_weight (E : EnvD K mg) : Sp := fun vs H Q _ => ∃ (p d : Addr) (k : Nat) (s : DS), vs = [.ref p] ∧ DeskAt E.C H p d k s ∧ Q (.int s.t) H
theorem ok_d_weight (E : EnvD K mg) : FnOk P w K mg base CX0 1 E.D_d_weight.a E.D_d_weight.fd P_d_weight (sp_d_weight E) := by
  refine E.D_d_weight.F.ok sc_d_weight (fun vs H Q Ex h => ?_) (fun cdv A outer s0 H vs Q Ex hr h => ?_)
  · obtain ⟨p, d, k, s, rfl, _⟩ := h
    rfl
  · obtain ⟨p, d, k, s, rfl, D, q⟩ := h
    obtain ⟨⟨dx, h1⟩, h2⟩ := id D
    refine ⟨_, (pss_one (ps_ret (pe_fld (pv 0) rfl))), ?_⟩
    exact ⟨_, rfl, p, E.C, dx, _, _, rfl, h1, E.cl, E.a_weight, dfl_weight _ _ _ _, q⟩
def sp_d_drawers (E : EnvD K mg) : Sp := fun vs H Q _ => ∃ (p d : Addr) (k : Nat) (s : DS), vs = [.ref p] ∧ DeskAt E.C H p d k s ∧ Q (.int (k : Int)) H
theorem ok_d_drawers (E : EnvD K mg) : FnOk P w K mg base CX0 1 E.D_d_drawers.a E.D_d_drawers.fd P_d_drawers (sp_d_drawers E) := by
  refine E.D_d_drawers.F.ok sc_d_drawers (fun vs H Q Ex h => ?_) (fun cdv A outer s0 H vs Q Ex hr h => ?_)
  · obtain ⟨p, d, k, s, rfl, _⟩ := h
    rfl
  · obtain ⟨p, d, k, s, rfl, D, q⟩ := h
    obtain ⟨⟨dx, h1⟩, h2⟩ := id D
    refine ⟨_, (pss_one (ps_ret (pe_fld (pv 0) rfl))), ?_⟩
    exact ⟨_, rfl, p, E.C, dx, _, _, rfl, h1, E.cl, E.a_drawers, dfl_drawers _ _ _ _, q⟩
def sp_d_least (E : EnvD K mg) : Sp := fun vs H Q Ex => ∃ (p d : Addr) (k : Nat) (s : DS) (v : V), vs = [.ref p, v] ∧ DeskAt E.C H p d k s ∧ (∃ T, TyB K H v T) ∧ (∀ z, v = .str z → z.length ≤ 1000) ∧
  (∀ n, v = .str n → nmOk n = true → Q (.int (leastM s n)) H) ∧ (isNm v = false → Ex (.ref E.C_NoName) none H)
theorem ok_d_least (E : EnvD K mg) : FnOk P w K mg base (L2.CX P w) 3 E.D_d_least.a E.D_d_least.fd P_d_least (sp_d_least E) := by
  have G_check_name : FnOk P w K mg base (L2.CX P w) 2 E.D_check_name.a E.D_check_name.fd P_check_name (sp_check_name E) := ok_check_name E
  refine E.D_d_least.F.okX sc_d_least (fun vs H Q Ex h => ?_) (fun cdv A outer s0 H vs Q Ex hr h => ?_)
  · obtain ⟨p, d, k, s, v, rfl, _⟩ := h
    rfl
  · obtain ⟨p, d, k, s, v, rfl, D, ty, hz, q, qN⟩ := h
    obtain ⟨⟨dx, h1⟩, h2⟩ := id D
    refine ⟨_, (pss_cons (ps_expr (pe_call G_check_name (hr.mono (by decide)) rfl E.m_check_name E.D_check_name.F.kp E.D_check_name.b .nil (passes_call (takes_of rfl rfl rfl rfl) (fun _ _ _ _ h => h)) (pa_cons (pv 1) pa_nil)))
  (pss_one (ps_ret (pe_dget2 (hu_of hr) (pe_fld (pv 0) rfl) (pv 1) pe_int ⟨rfl, rfl, rfl, rfl⟩)))), ?_⟩
    refine ⟨_, rfl, v, rfl, ty, hz, fun hN => ?_, qN⟩
    obtain ⟨n, rfl⟩ : ∃ n, v = .str n := by
      cases v with
      | str n => exact ⟨n, rfl⟩
      | _ => exact nomatch (show false = true from hN)
    refine ⟨_, rfl, p, E.C, dx, _, _, rfl, h1, E.cl, E.a_shown, dfl_shown _ _ _ _, d, rfl, .inl ⟨_, .inl h2⟩, _, rfl, _, dget_encO (.inl h2), ?_⟩
    have q := q n rfl hN
    unfold leastM at q
    cases e : lk s.l n with
    | none => rw [e] at q; exact q
    | some z => rw [e] at q; exact q
def sp_d_most (E : EnvD K mg) : Sp := fun vs H Q Ex => ∃ (p d : Addr) (k : Nat) (s : DS) (v : V), vs = [.ref p, v] ∧ DeskAt E.C H p d k s ∧ (∃ T, TyB K H v T) ∧ (∀ z, v = .str z → z.length ≤ 1000) ∧
  (∀ n, v = .str n → nmOk n = true → Q (.int (leastM s n + s.g)) H) ∧ (isNm v = false → Ex (.ref E.C_NoName) none H)
theorem ok_d_most (E : EnvD K mg) : FnOk P w K mg base (L2.CX P w) 4 E.D_d_most.a E.D_d_most.fd P_d_most (sp_d_most E) := by
  have G_d_least : FnOk P w K mg base (L2.CX P w) 3 E.D_d_least.a E.D_d_least.fd P_d_least (sp_d_least E) := ok_d_least E
  refine E.D_d_most.F.okX sc_d_most (fun vs H Q Ex h => ?_) (fun cdv A outer s0 H vs Q Ex hr h => ?_)
  · obtain ⟨p, d, k, s, v, rfl, _⟩ := h
    rfl
  · obtain ⟨p, d, k, s, v, rfl, D, ty, hz, q, qN⟩ := h
    obtain ⟨⟨dx, h1⟩, h2⟩ := id D
    refine ⟨_, (pss_one (ps_ret (pe_op op_add (pe_meth (pv 0) E.cl E.me_d_least G_d_least (hr.mono (by decide)) E.D_d_least.b .nil (passes_call (takes_of rfl rfl rfl rfl) (fun _ _ _ _ h => h)) (pa_cons (pv 1) pa_nil)) (pe_fld (pv 0) rfl)))), ?_⟩
    refine ⟨_, rfl, p, dx, _, rfl, h1, rfl, _, rfl, p, d, k, s, v, rfl, D, ty, hz, fun n hn ho => ?_, qN⟩
    exact ⟨_, rfl, p, E.C, dx, _, _, rfl, h1, E.cl, E.a_lost, dfl_lost _ _ _ _, _, _, rfl, rfl, q n hn ho⟩
/-! ### what a law asks of its script -/
def spLaw (K : PySem.W.Frag) : Sp := fun vs H Q _ => ∃ (a : Addr) (ns : List Int), vs = [.ref a] ∧ SqL K H a (ns.map V.int) ∧ ns.length ≤ 63 ∧ ∀ H', Q (.bl true) H'
theorem int_at {ns : List Int} {i : Nat} {x : V} (h : (ns.map V.int)[i]? = some x) : ∃ z, x = .int z := by
  rw [List.getElem?_map] at h
  obtain ⟨z, _, rfl⟩ := Option.map_eq_some_iff.mp h
  exact ⟨z, rfl⟩
theorem num_ok {k : Nat} (h1 : 1 ≤ k) (h2 : k ≤ 50) : isNum (.int (k : Int)) 50 = true := by
  show (decide (1 ≤ (k : Int)) && decide ((k : Int) ≤ 50)) = true
  rw [decide_eq_true (by omega), decide_eq_true (by omega)]
  rfl
theorem wt_ok {w : Int} (h1 : 1 ≤ w) (h2 : w ≤ 10 ^ 60) : isNum (.int w) (10 ^ 60) = true := by
  show (decide (1 ≤ w) && decide (w ≤ 10 ^ 60)) = true
  rw [decide_eq_true h1, decide_eq_true h2]
  rfl
theorem comeM_ns {k : Nat} {s : DS} {n : Str} {w : Int} (h : Ns (keys s.l)) (hn : nmOk n = true) : Ns (keys (comeM k s n w).l) := fun m hm => by
  rcases comeM_keys hm with h1 | h1
  · exact h m h1
  · rw [h1]
    exact hn
/-- the part of come's promise that does not refuse -/
theorem come_at (E : EnvD K mg) {H : Hp} {p d : Addr} {k : Nat} {s : DS} {n : Str} {w : Int} {Q : VK} {Ex : XK} (D : DeskAt E.C H p d k s) (O : Ok k s.l) (k1 : 1 ≤ k) (k2 : k ≤ 50) (hn : nmOk n = true) (w1 : 1 ≤ w) (w2 : w ≤ 10 ^ 60)
    (q : Left E.C H p d k (comeM k s n w) Q) : sp_d_come E [.ref p, .str n, .int w] H Q Ex := by
  refine ⟨p, d, .str n, .int w, k, s, rfl, D, O, k1, k2, ⟨_, .str _⟩, fun z e => ?_, ⟨_, .int _⟩, fun z => ?_, fun _ z => ?_, fun n' w' en ew _ _ _ => ?_⟩
  · rw [← V.str.inj e]
    have := nmOk_len hn
    omega
  · rw [show isNm (V.str n) = nmOk n from rfl, hn] at z
    cases z
  · rw [wt_ok w1 w2] at z
    cases z
  · rw [← V.str.inj en, ← V.int.inj ew]
    exact q
/-! ### helpers of the longer laws -/
theorem put_ns {l : Dk} {n : Str} {z : Int} (h : Ns (keys l)) (hn : nmOk n = true) : Ns (keys (put l n z)) := fun m hm => by
  rw [keys_put] at hm
  split at hm
  · exact h m hm
  · rcases List.mem_append.mp hm with h1 | h1
    · exact h m h1
    · rw [List.mem_singleton.mp h1]
      exact hn
theorem getD_int (o : Option Int) : (o.map V.int).getD (.int 0) = .int (o.getD 0) := by cases o <;> rfl
theorem DeskAt.upd_ne {C : Addr} {H : Hp} {p d c : Addr} {k : Nat} {s : DS} {o : HO} (h : DeskAt C H p d k s) (h1 : c ≠ p) (h2 : c ≠ d) : DeskAt C (upd H c o) p d k s := by
  obtain ⟨⟨dx, a⟩, b⟩ := h
  exact ⟨⟨dx, by rw [L2.upd_ne h1.symm]; exact a⟩, by rw [L2.upd_ne h2.symm]; exact b⟩
theorem ne_eq {x y : V} (h : x = y) : (!decide (x = y)) = false := by rw [decide_eq_true h]; rfl
theorem iteF' {c : Bool} {A B : Prop} (h : c = false) (b : B) : if c = true then A else B := by rw [h]; exact iteF b
theorem iteT' {c : Bool} {A B : Prop} (h : c = true) (a : A) : if c = true then A else B := by rw [h]; exact iteT a
theorem str_at {xs : List Str} {i : Nat} {x : V} (h : (xs.map V.str)[i]? = some x) : ∃ m, m ∈ xs ∧ x = .str m := by
  rw [List.getElem?_map] at h
  obtain ⟨m, hm, rfl⟩ := Option.map_eq_some_iff.mp h
  exact ⟨m, List.mem_of_getElem? hm, rfl⟩
theorem flat_strs (xs : List Str) : (xs.map V.str).all flatV = true := by
  rw [List.all_eq_true]
  intro x hx
  obtain ⟨m, _, rfl⟩ := List.mem_map.mp hx
  rfl
theorem inV_strs (m : Str) (xs : List Str) : inV (.str m) (xs.map V.str) = decide (m ∈ xs) := by
  rw [Bool.eq_iff_iff, decide_eq_true_iff]
  unfold inV
  rw [List.any_eq_true]
  constructor
  · rintro ⟨x, hx, e⟩
    obtain ⟨q, hq, rfl⟩ := List.mem_map.mp hx
    have : q = m := by simpa [eqV] using e
    rwa [← this]
  · intro h
    exact ⟨_, List.mem_map.mpr ⟨m, h, rfl⟩, by simp [eqV]⟩
theorem ne_true {x y : V} (h : x ≠ y) : (!decide (x = y)) = true := by rw [decide_eq_false h]; rfl
/-! ### making a desk -/
theorem make_atV (E : EnvD K mg) {H : Hp} {k : Nat} {Q : VK} {Ex : XK} (k1 : 1 ≤ k) (k2 : k ≤ 50) {p dx : Addr} {v : V} (hv : v = .int (k : Int)) (hp : H p = none) (hdx : H dx = none) (hne : dx ≠ p)
    (q : ∀ (d : Addr) (H3 : Hp), H d = none → Same H H3 → DeskAt E.C H3 p d k ⟨[], 0, 0⟩ → Q .non H3) : sp_d_init E (.ref p :: ([v] ++ [])) (upd (upd H dx (.own p)) p (.ins E.C dx [])) Q Ex := by
  subst hv
  refine ⟨p, dx, _, rfl, upd_same, ⟨_, .int _⟩, fun k' ek _ _ d H3 hd D kp => ?_, fun z => by rw [num_ok k1 k2] at z; cases z⟩
  obtain rfl : k' = k := by have := V.int.inj ek; omega
  refine q d H3 ?_ (Same.made hp hdx kp) D
  have hdp : d ≠ p := fun z => by rw [z, upd_same] at hd; cases hd
  rw [upd_ne hdp] at hd
  by_cases hdx2 : d = dx
  · rw [hdx2]; exact hdx
  · rw [upd_ne hdx2] at hd
    exact hd
/-! ### pouring -/
def sp_desk_with (E : EnvD K mg) : Sp := fun vs H Q _ => ∃ (k : Nat) (e : Addr) (l : Dk) (g t : Int), vs = [.int (k : Int), .ref e, .int g, .int t] ∧ 1 ≤ k ∧ k ≤ 50 ∧ H e = some (.dK (enc l)) ∧
  ∀ (p d : Addr) (H' : Hp), H p = none → H d = none → Same H H' → DeskAt E.C H' p d k ⟨l, g, t⟩ → Q (.ref p) H'
theorem ok_desk_with (E : EnvD K mg) : FnOk P w K mg base CX0 5 E.D_desk_with.a E.D_desk_with.fd P_desk_with (sp_desk_with E) := by
  have G_d_init : FnOk P w K mg base (L2.CX P w) 3 E.D_d_init.a E.D_d_init.fd P_d_init (sp_d_init E) := ok_d_init E
  refine E.D_desk_with.F.ok sc_desk_with (fun vs H Q Ex h => ?_) (fun cdv A outer s0 H vs Q Ex hr h => ?_)
  · obtain ⟨k, e, l, g, t, rfl, _⟩ := h
    rfl
  · obtain ⟨k, e, l, g, t, rfl, k1, k2, he, q⟩ := h
    refine ⟨_, (pss_cons (ps_set (i := 4) sc_desk_with.nd rfl (by first | exact Or.inl rfl | exact Or.inr rfl) (pe_make E.mkD G_d_init (hr.mono (by decide)) rfl E.g_Desk E.D_d_init.b .nil passL (pa_cons (pv 0) pa_nil)))
  (pss_cons (ps_fld (pv 4) (pe_callTy call_dictD rfl E.n_dict (by decide +kernel) (pa_cons (pv 1) pa_nil)) rfl)
  (pss_cons (ps_fld (pv 4) (pv 2) rfl)
  (pss_cons (ps_fld (pv 4) (pv 3) rfl)
  (pss_one (ps_ret (pv 4))))))), ?_⟩
    refine ⟨_, rfl, fun p dx p0 hdx hne => ?_⟩
    refine ⟨p, dx, _, rfl, upd_same, ⟨_, .int _⟩, fun k' ek _ _ d H3 hd D kp => ⟨rfl, ?_⟩, fun z => by rw [num_ok k1 k2] at z; cases z⟩
    obtain rfl : k' = k := by have := V.int.inj ek; omega
    have s3 : Same H H3 := Same.made p0 hdx kp
    have he3 := s3 _ _ he
    obtain ⟨⟨dx3, h3⟩, _⟩ := id D
    refine ⟨_, rfl, e, _, rfl, .inl he3, fun f hf => ?_⟩
    have pf : p ≠ f := ne_of_none h3 hf
    refine ⟨_, rfl, p, E.C, dx3, _, rfl, by rw [upd_ne pf]; exact h3, E.cl, E.a_shown, (by show 4 < 1000; decide), ?_⟩
    refine ⟨_, rfl, _, rfl, p, E.C, dx3, _, rfl, upd_same, E.cl, E.a_lost, (by show 4 < 1000; decide), ?_⟩
    refine ⟨_, rfl, _, rfl, p, E.C, dx3, _, rfl, upd_same, E.cl, E.a_weight, (by show 4 < 1000; decide), ?_⟩
    refine ⟨_, rfl, q p f _ p0 (s3.free hf) (Same.mut (Same.mut (Same.mut (Same.trans s3 (Same.new hf)) p0) p0) p0) ⟨⟨dx3, upd_same⟩, ?_⟩⟩
    rw [upd_ne pf.symm, upd_ne pf.symm, upd_ne pf.symm, upd_same]
def sp_cut (E : EnvD K mg) : Sp := fun vs H Q _ => ∃ (k : Nat) (e : Addr) (l : Dk) (g t : Int), vs = [.int (k : Int), .ref e, .int g, .int t] ∧ 1 ≤ k ∧ k ≤ 50 ∧ H e = some (.dK (enc l)) ∧ (keys l).Nodup ∧ l.length ≤ 1000 ∧
  ∀ (p d : Addr) (H' : Hp), H p = none → H d = none → Same H H' → DeskAt E.C H' p d k (cutM k l g t) → Q (.ref p) H'
theorem ok_cut (E : EnvD K mg) : FnOk P w K mg base CX0 6 E.D_cut.a E.D_cut.fd P_cut (sp_cut E) := by
  have G_desk_with : FnOk P w K mg base CX0 5 E.D_desk_with.a E.D_desk_with.fd P_desk_with (sp_desk_with E) := ok_desk_with E
  have G_lowered : FnOk P w K mg base CX0 1 E.D_lowered.a E.D_lowered.fd P_lowered sp_lowered := ok_lowered E
  refine E.D_cut.F.ok sc_cut (fun vs H Q Ex h => ?_) (fun cdv A outer s0 H vs Q Ex hr h => ?_)
  · obtain ⟨k, e, l, g, t, rfl, _⟩ := h
    rfl
  · obtain ⟨k, e, l, g, t, rfl, k1, k2, he, nd, hl, q⟩ := h
    refine ⟨_, (pss_cons (ps_if (pt_cmpR op_le (pe_callB call_lenD rfl E.n_len (by decide +kernel) (pa_cons (pv 1) pa_nil)) (pv 0) (nomark _))
  (pss_one (ps_ret (pe_call G_desk_with (hr.mono (by decide)) rfl E.m_desk_with E.D_desk_with.F.kp E.D_desk_with.b .nil pass0 (pa_cons (pv 0) (pa_cons (pv 1) (pa_cons (pv 2) (pa_cons (pv 3) pa_nil)))))))
  pss_nil)
  (pss_cons (ps_set (i := 4) sc_cut.nd rfl (by first | exact Or.inl rfl | exact Or.inr rfl) (pe_ix ix_list (pe_callBK (cr_sortedValsRev (b := true) rfl) rfl E.n_sorted (by decide +kernel) (pa_cons (pe_bm0 PySem.F.plainAttrs_dict PySem.F.slot_dict_values PySem.F.type_dict_values mt_values (pv 1)) pa_nil) (pk_cons pe_bl pk_nil)) (pv 0) (fun _ _ => rfl)))
  (pss_one (ps_ret (pe_call G_desk_with (hr.mono (by decide)) rfl E.m_desk_with E.D_desk_with.F.kp E.D_desk_with.b .nil pass0 (pa_cons (pv 0) (pa_cons (pe_call G_lowered (hr.mono (by decide)) rfl E.m_lowered E.D_lowered.F.kp E.D_lowered.b .nil pass0 (pa_cons (pv 1) (pa_cons (pv 4) pa_nil))) (pa_cons (pe_op op_add (pv 2) (pv 4)) (pa_cons (pv 3) pa_nil))))))))), ?_⟩
    refine ⟨_, rfl, e, _, rfl, he, _, rfl, _, _, rfl, rfl, _, rfl, ?_⟩
    rw [enc_len]
    by_cases c : l.length ≤ k
    · refine iteT' (decide_eq_true (by omega)) ?_
      rw [cut_same c] at q
      exact ⟨_, rfl, _, rfl, _, rfl, _, rfl, k, e, l, g, t, rfl, k1, k2, he, q⟩
    · refine iteF' (decide_eq_false (by omega)) ?_
      have ck : cutM k l g t = ⟨low l (kth l k), g + kth l k, t⟩ := by unfold cutM; rw [if_neg c]
      rw [ck] at q
      refine ⟨_, rfl, .inr (.inr (.inl ⟨rfl, .inl ⟨_, he⟩⟩)), e, _, rfl, rfl, he, fun v hv => ?_⟩
      have ev : e ≠ v := ne_of_none he hv
      refine ⟨v, e, vals l, _, rfl, rfl, upd_same, by rw [upd_ne ev]; exact he, enc_vals _, fun js a pj oj ha => ?_⟩
      have ej : js = fallI (vals l) := fallI_eq pj oj
      subst ej
      have kat : ((fallI (vals l)).map V.int)[k]? = some (.int (kth l k)) := by rw [List.getElem?_map, kth_at (by omega)]; rfl
      have s1 : Same H (upd (upd H v (vwO "dict_values" v e)) a (.lst ((fallI (vals l)).map V.int))) := Same.trans (Same.new hv) (Same.new ha)
      refine ⟨_, rfl, a, (fallI (vals l)).map V.int, (k : Int), .int (kth l k), rfl, rfl, SqL.of upd_same, atI_nat kat, ?_⟩
      generalize upd (upd H v (vwO "dict_values" v e)) a (.lst ((fallI (vals l)).map V.int)) = H1 at s1
      refine ⟨_, rfl, _, rfl, _, rfl, e, l, kth l k, rfl, s1 _ _ he, nd, hl, fun f H2 hf s2 hF => ?_⟩
      refine ⟨_, rfl, _, rfl, _, _, rfl, rfl, _, rfl, k, f, _, _, _, rfl, k1, k2, hF, fun p d H3 hp hd s3 D => ?_⟩
      exact q p d H3 (s1.free (s2.free hp)) (s1.free (s2.free hd)) (Same.trans s1 (Same.trans s2 s3)) D
def sp_poured (E : EnvD K mg) : Sp := fun vs H Q Ex => ∃ (p d : Addr) (k : Nat) (s : DS) (p2 d2 : Addr) (j : Nat) (s2 : DS), vs = [.ref p, .ref p2] ∧ DeskAt E.C H p d k s ∧ DeskAt E.C H p2 d2 j s2 ∧ Ok k s.l ∧ Ok j s2.l ∧ 1 ≤ k ∧ k ≤ 50 ∧ j ≤ 50 ∧
  (k = j → ∀ (q e : Addr) (H' : Hp), H q = none → H e = none → Same H H' → DeskAt E.C H' q e k (pourM k s s2) → Q (.ref q) H') ∧ (k ≠ j → Ex (.ref E.C_NoMatch) none H)
theorem ok_poured (E : EnvD K mg) : FnOk P w K mg base (L2.CX P w) 7 E.D_poured.a E.D_poured.fd P_poured (sp_poured E) := by
  have G_d_drawers : FnOk P w K mg base CX0 1 E.D_d_drawers.a E.D_d_drawers.fd P_d_drawers (sp_d_drawers E) := ok_d_drawers E
  have G_d_shown : FnOk P w K mg base CX0 1 E.D_d_shown.a E.D_d_shown.fd P_d_shown (sp_d_shown E) := ok_d_shown E
  have G_d_lost : FnOk P w K mg base CX0 1 E.D_d_lost.a E.D_d_lost.fd P_d_lost (sp_d_lost E) := ok_d_lost E
  have G_d_weight : FnOk P w K mg base CX0 1 E.D_d_weight.a E.D_d_weight.fd P_d_weight (sp_d_weight E) := ok_d_weight E
  have G_cut : FnOk P w K mg base CX0 6 E.D_cut.a E.D_cut.fd P_cut (sp_cut E) := ok_cut E
  refine E.D_poured.F.okX sc_poured (fun vs H Q Ex h => ?_) (fun cdv A outer s0 H vs Q Ex hr h => ?_)
  · obtain ⟨p, d, k, s, p2, d2, j, s2, rfl, _⟩ := h
    rfl
  · obtain ⟨p, d, k, s, p2, d2, j, s2, rfl, D, D2, O, O2, k1, k2, j2, q, qM⟩ := h
    obtain ⟨⟨dx, h1⟩, _⟩ := id D
    obtain ⟨⟨dx2, h2⟩, _⟩ := id D2
    refine ⟨_, (pss_cons (ps_if (pt_cmpR op_ne (pe_meth0 (pv 0) E.cl E.me_d_drawers G_d_drawers (hr.mono (by decide)) E.D_d_drawers.b .nil pass0) (pe_meth0 (pv 1) E.cl E.me_d_drawers G_d_drawers (hr.mono (by decide)) E.D_d_drawers.b .nil pass0) (nomark _))
  (pss_one (ps_raise rfl (takes_of rfl rfl rfl rfl) (pmk_own PySem.F.excBase_ValueError E.x_NoMatch E.g_NoMatch E.k_NoMatch (raises_own E.b_NoMatch E.t_NoMatch) rfl)))
  pss_nil)
  (pss_cons (ps_set (i := 2) sc_poured.nd rfl (by first | exact Or.inl rfl | exact Or.inr rfl) (pe_meth0 (pv 0) E.cl E.me_d_shown G_d_shown (hr.mono (by decide)) E.D_d_shown.b .nil pass0))
  (pss_cons (ps_set (i := 3) sc_poured.nd rfl (by first | exact Or.inl rfl | exact Or.inr rfl) (pe_meth0 (pv 1) E.cl E.me_d_shown G_d_shown (hr.mono (by decide)) E.D_d_shown.b .nil pass0))
  (pss_cons (ps_lock (ps_for (passes_of rfl) rfl (pi_keys (pv 3)) (pg_name (i := 4) sc_poured.nd rfl (by first | exact Or.inl rfl | exact Or.inr rfl))
  (pss_one (ps_dput (hu_of hr) (pv 2) (pv 4) (pe_op op_add (pe_dget2 (hu_of hr) (pv 2) (pv 4) pe_int ⟨rfl, rfl, rfl, rfl⟩) (pe_dget (hu_of hr) (pv 3) (pv 4) (fun _ _ => rfl))) rfl))))
  (pss_one (ps_ret (pe_call G_cut (hr.mono (by decide)) rfl E.m_cut E.D_cut.F.kp E.D_cut.b .nil pass0 (pa_cons (pe_meth0 (pv 0) E.cl E.me_d_drawers G_d_drawers (hr.mono (by decide)) E.D_d_drawers.b .nil pass0) (pa_cons (pv 2) (pa_cons (pe_op op_add (pe_meth0 (pv 0) E.cl E.me_d_lost G_d_lost (hr.mono (by decide)) E.D_d_lost.b .nil pass0) (pe_meth0 (pv 1) E.cl E.me_d_lost G_d_lost (hr.mono (by decide)) E.D_d_lost.b .nil pass0)) (pa_cons (pe_op op_add (pe_meth0 (pv 0) E.cl E.me_d_weight G_d_weight (hr.mono (by decide)) E.D_d_weight.b .nil pass0) (pe_meth0 (pv 1) E.cl E.me_d_weight G_d_weight (hr.mono (by decide)) E.D_d_weight.b .nil pass0)) pa_nil))))))))))), ?_⟩
    refine ⟨_, rfl, p, dx, _, rfl, h1, rfl, p, d, k, s, rfl, D, _, rfl, p2, dx2, _, rfl, h2, rfl, p2, d2, j, s2, rfl, D2, rfl, _, rfl, ?_⟩
    by_cases c : k = j
    · subst c
      refine iteF' (ne_eq rfl) ?_
      have hl := O.len
      have hl2 := O2.len
      refine ⟨_, rfl, p, dx, _, rfl, h1, rfl, p, d, k, s, rfl, D, O.nd, by omega, fun e H1 he s1 hE => ?_⟩
      have D2' := D2.same s1
      refine ⟨_, rfl, p2, dx2, _, rfl, s1 _ _ h2, rfl, p2, d2, k, s2, rfl, D2', O2.nd, by omega, fun f H2 hf s2' hF => ?_⟩
      have hE2 := s2' _ _ hE
      have ef : e ≠ f := ne_of_none hE hf
      have s12 := Same.trans s1 s2'
      have lS : (srt s.l).length = s.l.length := srt_len _
      have lS2 : (srt s2.l).length = s2.l.length := srt_len _
      have nS2 := (srt_ok O2).nd
      refine ⟨f, .dK (enc (srt s2.l)), hF, trivial, fun od => ?_⟩
      refine ⟨_, rfl, f, od, rfl, .inl ⟨_, upd_same, for_keys (od := od) (l := srt s2.l) (fun i σ H' => (∃ o4, σ = [some (.ref p), some (.ref p2), some (.ref e), some (.ref f), o4]) ∧
        H' f = some (.frz od (.dK (enc (srt s2.l)))) ∧ (∀ b o, H b = some o → H' b = some o) ∧ H' e = some (.dK (enc (sumD (srt s.l) ((srt s2.l).take i))))) ?_ (fun i σ H' h => h.2.1) ?_ ?_⟩⟩
      · exact ⟨⟨none, rfl⟩, upd_same, fun b o hb => by rw [upd_ne (fun z => by rw [← z] at hf; rw [s1 _ _ hb] at hf; cases hf)]; exact s12 _ _ hb, by rw [upd_ne ef]; exact hE2⟩
      · rintro i r σ H' hr' ⟨⟨o4, rfl⟩, g1, g2, g3⟩
        have elp := lk_at nS2 hr'
        have es := sumD_snoc (srt s.l) ((srt s2.l).take i) r
        rw [← take_snoc hr'] at es
        refine ⟨_, rfl, e, rfl, .inl ⟨_, .inl g3⟩, _, rfl, _, dget_encO (.inl g3), _, rfl, _, rfl, f, _, rfl, dget_enc (.inr ⟨_, g1⟩) elp, _, _, getD_int _, rfl, _, rfl, _, rfl, e, _, rfl, dput_enc g3 ?_, ?_⟩
        · have := @sumD_len ((srt s2.l).take i) (srt s.l)
          have h3 : ((srt s2.l).take i).length ≤ (srt s2.l).length := by rw [List.length_take]; omega
          omega
        · refine ⟨⟨_, rfl⟩, by rw [upd_ne ef.symm]; exact g1, fun b o hb => by rw [upd_ne (fun z => by rw [← z] at he; rw [hb] at he; cases he)]; exact g2 b o hb, ?_⟩
          rw [upd_same, es]
      · rintro σ H' ⟨⟨o4, rfl⟩, g1, g2, g3⟩
        rw [List.take_of_length_le (Nat.le_refl _)] at g3
        refine ⟨g1, ?_⟩
        have f0 : H f = none := s1.free hf
        have s3 : Same H (upd H' f (.dK (enc (srt s2.l)))) := fun b o hb => by rw [upd_ne (ne_of_none hb f0)]; exact g2 b o hb
        have g4 : (upd H' f (.dK (enc (srt s2.l)))) e = some (.dK (enc (sumD (srt s.l) (srt s2.l)))) := by rw [upd_ne ef]; exact g3
        generalize upd H' f (.dK (enc (srt s2.l))) = H3 at s3 g4
        have D3 := D.same s3
        have D23 := D2.same s3
        refine ⟨_, rfl, p, dx, _, rfl, s3 _ _ h1, rfl, p, d, k, s, rfl, D3, _, rfl, _, rfl, p, dx, _, rfl, s3 _ _ h1, rfl, p, d, k, s, rfl, D3, _, rfl, p2, dx2, _, rfl, s3 _ _ h2, rfl, p2, d2, k, s2, rfl, D23, _, _, rfl, rfl,
          _, rfl, p, dx, _, rfl, s3 _ _ h1, rfl, p, d, k, s, rfl, D3, _, rfl, p2, dx2, _, rfl, s3 _ _ h2, rfl, p2, d2, k, s2, rfl, D23, _, _, rfl, rfl, k, e, sumD (srt s.l) (srt s2.l), _, _, rfl, k1, k2, g4, sumD_nd (srt_ok O).nd, ?_, fun x y H4 hx hy s4 D4 => ?_⟩
        · have := @sumD_len (srt s2.l) (srt s.l)
          omega
        · exact q rfl x y H4 (s3.free hx) (s3.free hy) (Same.trans s3 s4) D4
    · refine iteT' (ne_true fun e => c (by have := V.int.inj e; omega)) ?_
      exact qM c
/-! ### a row of desks on the heap -/
def lfl (k pc mx : Int) (f b : Addr) (j : Int) : List (Str × V) := [("_drawers", .int k), ("_piece", .int pc), ("_pieces", .int mx), ("_full", .ref f), ("_begun", .ref b), ("_comings", .int j)]
theorem lfl_putJ (k pc mx : Int) (f b : Addr) (j y : Int) : putF "_comings" (.int y) (lfl k pc mx f b j) = lfl k pc mx f b y := rfl
theorem lfl_putB (k pc mx : Int) (f b c : Addr) (j : Int) : putF "_begun" (.ref c) (lfl k pc mx f b j) = lfl k pc mx f c j := rfl
/-- the row stands at q, its list at f, the desk begun at b with its dict at d -/
structure LatX (E : EnvD K mg) (H : Hp) (q f b d dx : Addr) (ps : List (Addr × Addr)) (k pc mx : Nat) (fs : List DS) (s : DS) (j : Nat) : Prop where
  at_ : H q = some (.ins E.CL dx (lfl (k : Int) (pc : Int) (mx : Int) f b (j : Int)))
  L : H f = some (.lst (ps.map fun x => V.ref x.1))
  P : Paired (fun x s => DeskAt E.C H x.1 x.2 k s) ps fs
  D : DeskAt E.C H b d k s
  ne : ∀ x ∈ ps, x.1 ≠ b ∧ x.2 ≠ d ∧ x.1 ≠ q
  qb : q ≠ b
theorem desks_same {C : Addr} {H H' : Hp} {k : Nat} : ∀ {ps : List (Addr × Addr)} {fs : List DS}, (∀ x ∈ ps, ∀ o, (H x.1 = some o → H' x.1 = some o) ∧ (H x.2 = some o → H' x.2 = some o)) → Paired (fun x s => DeskAt C H x.1 x.2 k s) ps fs → Paired (fun x s => DeskAt C H' x.1 x.2 k s) ps fs
  | _, _, _, .nil => .nil
  | x :: ps, _, h, .cons a b => .cons (by
      obtain ⟨⟨dx, h1⟩, h2⟩ := a
      exact ⟨⟨dx, (h x List.mem_cons_self _).1 h1⟩, (h x List.mem_cons_self _).2 h2⟩) (desks_same (fun y hy => h y (List.mem_cons_of_mem _ hy)) b)
theorem paired_mem {α β : Type} {R : α → β → Prop} {x : α} : ∀ {as : List α} {bs : List β}, Paired R as bs → x ∈ as → ∃ y, R x y
  | _, _, .nil, h => nomatch h
  | _, _, .cons a t, h => by
    rcases List.mem_cons.mp h with rfl | h
    · exact ⟨_, a⟩
    · exact paired_mem t h
theorem LatX.same {E : EnvD K mg} {H H' : Hp} {q f b d dx : Addr} {ps : List (Addr × Addr)} {k pc mx : Nat} {fs : List DS} {s : DS} {j : Nat} (h : LatX E H q f b d dx ps k pc mx fs s j) (e : ∀ a o, (a = q ∨ a = f ∨ a = b ∨ a = d ∨ ∃ x ∈ ps, a = x.1 ∨ a = x.2) → H a = some o → H' a = some o) : LatX E H' q f b d dx ps k pc mx fs s j := by
  obtain ⟨⟨y, h1⟩, h2⟩ := id h.D
  exact ⟨e _ _ (.inl rfl) h.at_, e _ _ (.inr (.inl rfl)) h.L, desks_same (fun x hx o => ⟨e _ _ (.inr (.inr (.inr (.inr ⟨x, hx, .inl rfl⟩)))), e _ _ (.inr (.inr (.inr (.inr ⟨x, hx, .inr rfl⟩))))⟩) h.P, ⟨⟨y, e _ _ (.inr (.inr (.inl rfl))) h1⟩, e _ _ (.inr (.inr (.inr (.inl rfl)))) h2⟩, h.ne, h.qb⟩
/-- .. all that is its own among O -/
def LatAt (E : EnvD K mg) (H : Hp) (O : Addr → Prop) (q : Addr) (k pc mx : Nat) (fs : List DS) (s : DS) (j : Nat) : Prop :=
  ∃ (f b d dx : Addr) (ps : List (Addr × Addr)), LatX E H q f b d dx ps k pc mx fs s j ∧ O q ∧ O f ∧ O b ∧ O d ∧ ∀ x ∈ ps, O x.1 ∧ O x.2
theorem LatAt.keep {E : EnvD K mg} {H H' : Hp} {O O' : Addr → Prop} {q : Addr} {k pc mx : Nat} {fs : List DS} {s : DS} {j : Nat} (h : LatAt E H O q k pc mx fs s j) (e : ∀ a o, O a → H a = some o → H' a = some o) (w : ∀ a o, O a → H a = some o → O' a) : LatAt E H' O' q k pc mx fs s j := by
  obtain ⟨f, b, d, dx, ps, X, oq, of', ob, od, op⟩ := h
  obtain ⟨⟨y, h1⟩, h2⟩ := id X.D
  refine ⟨f, b, d, dx, ps, X.same fun a o ha ho => ?_, w _ _ oq X.at_, w _ _ of' X.L, w _ _ ob h1, w _ _ od h2, fun x hx => ?_⟩
  · refine e a o ?_ ho
    rcases ha with rfl | rfl | rfl | rfl | ⟨x, hx, rfl | rfl⟩
    · exact oq
    · exact of'
    · exact ob
    · exact od
    · exact (op x hx).1
    · exact (op x hx).2
  · have : ∀ {ps : List (Addr × Addr)} {fs : List DS}, Paired (fun x s => DeskAt E.C H x.1 x.2 k s) ps fs → ∀ x ∈ ps, ∃ s, DeskAt E.C H x.1 x.2 k s := by
      intro ps fs p
      induction p with
      | nil => intro x hx; cases hx
      | cons a _ ih =>
        intro x hx
        rcases List.mem_cons.mp hx with rfl | hx
        · exact ⟨_, a⟩
        · exact ih x hx
    obtain ⟨s', ⟨z, g1⟩, g2⟩ := this X.P x hx
    exact ⟨w _ _ (op x hx).1 g1, w _ _ (op x hx).2 g2⟩
theorem LatAt.same {E : EnvD K mg} {H H' : Hp} {O : Addr → Prop} {q : Addr} {k pc mx : Nat} {fs : List DS} {s : DS} {j : Nat} (h : LatAt E H O q k pc mx fs s j) (e : Same H H') : LatAt E H' O q k pc mx fs s j := h.keep (fun a o _ => e a o) fun _ _ o _ => o
theorem LatAt.at_ {E : EnvD K mg} {H : Hp} {O : Addr → Prop} {q : Addr} {k pc mx : Nat} {fs : List DS} {s : DS} {j : Nat} (A : LatAt E H O q k pc mx fs s j) : ∃ dx f b, H q = some (.ins E.CL dx (lfl (k : Int) (pc : Int) (mx : Int) f b (j : Int))) := by
  obtain ⟨f, b, d, dx, ps, X, _⟩ := A
  exact ⟨dx, f, b, X.at_⟩
def sp_check_piece (E : EnvD K mg) : Sp := fun vs H Q Ex => ∃ v m, vs = [v, .int m] ∧ (∃ T, TyB K H v T) ∧ (isNum v m = true → Q .non H) ∧ (isNum v m = false → Ex (.ref E.C_NoPiece) none H)
theorem ok_check_piece (E : EnvD K mg) : FnOk P w K mg base (L2.CX P w) 2 E.D_check_piece.a E.D_check_piece.fd P_check_piece (sp_check_piece E) := by
  have G_is_number : FnOk P w K mg base CX0 1 E.D_is_number.a E.D_is_number.fd P_is_number (sp_is_number (K := K)) := ok_is_number E
  refine E.D_check_piece.F.okX sc_check_piece (fun vs H Q Ex h => ?_) (fun cdv A outer s H vs Q Ex hr h => ?_)
  · obtain ⟨v, m, rfl, _⟩ := h
    rfl
  · obtain ⟨v, m, rfl, ty, q1, q2⟩ := h
    refine ⟨_, (pss_one (ps_if (pt_not (pt_val (pe_call G_is_number (hr.mono (by decide)) rfl E.m_is_number E.D_is_number.F.kp E.D_is_number.b .nil pass0 (pa_cons (pv 0) (pa_cons (pv 1) pa_nil)))))
  (pss_one (ps_raise rfl (takes_of rfl rfl rfl rfl) (pmk_own PySem.F.excBase_ValueError E.x_NoPiece E.g_NoPiece E.k_NoPiece (raises_own E.b_NoPiece E.t_NoPiece) rfl)))
  pss_nil)), ?_⟩
    refine ⟨_, rfl, _, rfl, v, m, rfl, ty, _, rfl, ?_⟩
    cases e : isNum v m with
    | true => exact iteF (q1 e)
    | false => exact iteT (q2 e)
theorem num_of {v : V} {m : Int} (h : isNum v m = true) : ∃ k : Nat, v = .int (k : Int) ∧ 1 ≤ k ∧ (k : Int) ≤ m := by
  cases v with
  | int i =>
    have hv : (decide (1 ≤ i) && decide (i ≤ m)) = true := h
    simp only [Bool.and_eq_true, decide_eq_true_eq] at hv
    exact ⟨i.toNat, by congr 1; omega, by omega, by omega⟩
  | _ => exact nomatch (show false = true from h)
def sp_l_init (E : EnvD K mg) : Sp := fun vs H Q Ex => ∃ (q dx : Addr) (v1 v2 v3 : V), vs = [.ref q, v1, v2, v3] ∧ H q = some (.ins E.CL dx []) ∧ (∀ H' : Hp, ∃ T, TyB K H' v1 T) ∧ (∀ H' : Hp, ∃ T, TyB K H' v2 T) ∧ (∀ H' : Hp, ∃ T, TyB K H' v3 T) ∧
  (∀ k pc mx : Nat, v1 = .int (k : Int) → v2 = .int (pc : Int) → v3 = .int (mx : Int) → 1 ≤ k → k ≤ 50 → 1 ≤ pc → pc ≤ 1000 → 1 ≤ mx → mx ≤ 50 → ∀ H' : Hp, (∀ b o, H b = some o → b ≠ q → H' b = some o) → LatAt E H' (fun a => a = q ∨ H a = none) q k pc mx [] ⟨[], 0, 0⟩ 0 → Q .non H') ∧
  (isNum v1 50 = false → Ex (.ref E.C_NoDesk) none H) ∧ (isNum v1 50 = true → isNum v2 1000 = false ∨ isNum v3 50 = false → Ex (.ref E.C_NoPiece) none H)
theorem ok_l_init (E : EnvD K mg) : FnOk P w K mg base (L2.CX P w) 5 E.D_l_init.a E.D_l_init.fd P_l_init (sp_l_init E) := by
  have G_check_drawers : FnOk P w K mg base (L2.CX P w) 2 E.D_check_drawers.a E.D_check_drawers.fd P_check_drawers (sp_check_drawers E) := ok_check_drawers E
  have G_check_piece : FnOk P w K mg base (L2.CX P w) 2 E.D_check_piece.a E.D_check_piece.fd P_check_piece (sp_check_piece E) := ok_check_piece E
  have G_d_init : FnOk P w K mg base (L2.CX P w) 3 E.D_d_init.a E.D_d_init.fd P_d_init (sp_d_init E) := ok_d_init E
  refine E.D_l_init.F.okX sc_l_init (fun vs H Q Ex h => ?_) (fun cdv A outer s H vs Q Ex hr h => ?_)
  · obtain ⟨q, dx, v1, v2, v3, rfl, _⟩ := h
    rfl
  · obtain ⟨q, dx, v1, v2, v3, rfl, hq, t1, t2, t3, qq, qD, qP⟩ := h
    refine ⟨_, (pss_cons (ps_expr (pe_call G_check_drawers (hr.mono (by decide)) rfl E.m_check_drawers E.D_check_drawers.F.kp E.D_check_drawers.b .nil (passes_call (takes_of rfl rfl rfl rfl) (fun _ _ _ _ h => h)) (pa_cons (pv 1) pa_nil)))
  (pss_cons (ps_expr (pe_call G_check_piece (hr.mono (by decide)) rfl E.m_check_piece E.D_check_piece.F.kp E.D_check_piece.b .nil (passes_call (takes_of rfl rfl rfl rfl) (fun _ _ _ _ h => h)) (pa_cons (pv 2) (pa_cons pe_int pa_nil))))
  (pss_cons (ps_expr (pe_call G_check_piece (hr.mono (by decide)) rfl E.m_check_piece E.D_check_piece.F.kp E.D_check_piece.b .nil (passes_call (takes_of rfl rfl rfl rfl) (fun _ _ _ _ h => h)) (pa_cons (pv 3) (pa_cons pe_int pa_nil))))
  (pss_cons (ps_fld (pv 0) (pv 1) rfl)
  (pss_cons (ps_fld (pv 0) (pv 2) rfl)
  (pss_cons (ps_fld (pv 0) (pv 3) rfl)
  (pss_cons (ps_fld (pv 0) (pe_lst pa_nil) rfl)
  (pss_cons (ps_fld (pv 0) (pe_make E.mkD G_d_init (hr.mono (by decide)) rfl E.g_Desk E.D_d_init.b .nil (passes_call (takes_of rfl rfl rfl rfl) (fun _ _ _ _ h => h)) (pa_cons (pv 1) pa_nil)) rfl)
  (pss_one (ps_fld (pv 0) pe_int rfl)))))))))), ?_⟩
    refine ⟨_, rfl, v1, rfl, t1 _, fun n1 => ?_, qD⟩
    refine ⟨_, rfl, v2, 1000, rfl, t2 _, fun n2 => ?_, fun z => qP n1 (.inl z)⟩
    refine ⟨_, rfl, v3, 50, rfl, t3 _, fun n3 => ?_, fun z => qP n1 (.inr z)⟩
    obtain ⟨k, rfl, k1, k2⟩ := num_of n1
    obtain ⟨pc, rfl, p1, p2⟩ := num_of n2
    obtain ⟨mx, rfl, m1, m2⟩ := num_of n3
    refine ⟨_, rfl, _, rfl, q, E.CL, dx, _, rfl, hq, E.clL, E.aL_drawers, (by show 0 < 1000; decide), ?_⟩
    refine ⟨_, rfl, _, rfl, q, E.CL, dx, _, rfl, upd_same, E.clL, E.aL_piece, (by show 1 < 1000; decide), ?_⟩
    refine ⟨_, rfl, _, rfl, q, E.CL, dx, _, rfl, upd_same, E.clL, E.aL_pieces, (by show 2 < 1000; decide), ?_⟩
    refine ⟨Nat.zero_le _, fun f hf => ?_⟩
    have qf : q ≠ f := fun z => by rw [← z, upd_same] at hf; cases hf
    have hf0 : H f = none := by rw [upd_ne qf.symm, upd_ne qf.symm, upd_ne qf.symm] at hf; exact hf
    refine ⟨_, rfl, q, E.CL, dx, _, rfl, by rw [upd_ne qf, upd_same], E.clL, E.aL_full, (by show 3 < 1000; decide), ?_⟩
    have kp3 : ∀ o1 o2 o3 o4 o5 b o, H b = some o → b ≠ q → (upd (upd (upd (upd (upd H q o1) q o2) q o3) f o4) q o5) b = some o := fun o1 o2 o3 o4 o5 b o hb hbq => by
      rw [upd_ne hbq, upd_ne (ne_of_none hb hf0), upd_ne hbq, upd_ne hbq, upd_ne hbq]
      exact hb
    refine ⟨_, rfl, fun b dxb hb hdx hne => make_atV E k1 (by omega) rfl hb hdx hne fun d H3 hd s3 D => ⟨rfl, ?_⟩⟩
    have qb : q ≠ b := fun z => by rw [← z, upd_same] at hb; cases hb
    have hq3 := s3 _ _ upd_same
    have hf3 := s3 f _ (by rw [upd_ne qf.symm, upd_same])
    obtain ⟨⟨dx3, h3⟩, h3d⟩ := id D
    have hb0 : H b = none := by
      by_cases z : b = f
      · rw [z, upd_ne qf.symm, upd_same] at hb; cases hb
      · rw [upd_ne qb.symm, upd_ne z, upd_ne qb.symm, upd_ne qb.symm, upd_ne qb.symm] at hb; exact hb
    have qd : q ≠ d := fun z => by rw [← z, upd_same] at hd; cases hd
    have hd0 : H d = none := by
      by_cases z : d = f
      · rw [z, upd_ne qf.symm, upd_same] at hd; cases hd
      · rw [upd_ne qd.symm, upd_ne z, upd_ne qd.symm, upd_ne qd.symm, upd_ne qd.symm] at hd; exact hd
    refine ⟨_, rfl, q, E.CL, dx, _, rfl, hq3, E.clL, E.aL_begun, (by show 4 < 1000; decide), ?_⟩
    refine ⟨_, rfl, q, E.CL, dx, _, rfl, upd_same, E.clL, E.aL_comings, (by show 5 < 1000; decide), ?_⟩
    refine qq k pc mx rfl rfl rfl k1 (by omega) p1 (by omega) m1 (by omega) _ (fun b' o hb' hbq => ?_) ⟨f, b, d, dx, [], ⟨?_, ?_, .nil, (D.upd_ne qb qd).upd_ne qb qd, fun x hx => by simp at hx, qb⟩, .inl rfl, .inr hf0, .inr hb0, .inr hd0, fun x hx => by simp at hx⟩
    · rw [upd_ne hbq, upd_ne hbq]
      exact s3 _ _ (kp3 _ _ _ _ _ b' o hb' hbq)
    · rw [upd_same]
      rfl
    · rw [upd_ne qf.symm, upd_ne qf.symm]
      exact hf3
theorem seqI0 {n : Nat} (h : 0 < n) : seqIndex? 0 n = some 0 := by
  unfold seqIndex?
  simp [h]
theorem make_lV (E : EnvD K mg) {H : Hp} {k pc mx : Nat} {Q : VK} {Ex : XK} (k1 : 1 ≤ k) (k2 : k ≤ 50) (p1 : 1 ≤ pc) (p2 : pc ≤ 1000) (m1 : 1 ≤ mx) (m2 : mx ≤ 50) {q dx : Addr} {v1 v2 v3 : V} (h1 : v1 = .int (k : Int)) (h2 : v2 = .int (pc : Int)) (h3 : v3 = .int (mx : Int)) (hq : H q = none) (hdx : H dx = none) (hne : dx ≠ q)
    (f : ∀ H3 : Hp, Same H H3 → LatAt E H3 (fun a => H a = none) q k pc mx [] ⟨[], 0, 0⟩ 0 → Q .non H3) : sp_l_init E (.ref q :: ([v1, v2, v3] ++ [])) (upd (upd H dx (.own q)) q (.ins E.CL dx [])) Q Ex := by
  subst h1 h2 h3
  have n1 : isNum (.int (k : Int)) 50 = true := num_ok k1 k2
  have n2 : isNum (.int (pc : Int)) 1000 = true := by
    show (decide (1 ≤ (pc : Int)) && decide ((pc : Int) ≤ 1000)) = true
    rw [decide_eq_true (by omega), decide_eq_true (by omega)]
    rfl
  have n3 : isNum (.int (mx : Int)) 50 = true := num_ok m1 m2
  refine ⟨q, dx, _, _, _, rfl, upd_same, fun _ => ⟨_, .int _⟩, fun _ => ⟨_, .int _⟩, fun _ => ⟨_, .int _⟩, fun k' pc' mx' e1 e2 e3 _ _ _ _ _ _ H' kp LA => ?_, fun z => (by rw [n1] at z; cases z), fun _ z => (by rw [n2, n3] at z; rcases z with z | z <;> cases z)⟩
  obtain rfl : k' = k := by have := V.int.inj e1; omega
  obtain rfl : pc' = pc := by have := V.int.inj e2; omega
  obtain rfl : mx' = mx := by have := V.int.inj e3; omega
  refine f H' (Same.made hq hdx kp) (LA.keep (fun _ _ _ h => h) fun a o ha _ => ?_)
  rcases ha with rfl | ha
  · exact hq
  · by_cases z : a = q
    · rw [z]; exact hq
    · rw [upd_ne z] at ha
      by_cases z2 : a = dx
      · rw [z2]; exact hdx
      · rw [upd_ne z2] at ha; exact ha
def sp_l_end_piece (E : EnvD K mg) : Sp := fun vs H Q _ => ∃ (q f b d dx : Addr) (ps : List (Addr × Addr)) (k pc mx : Nat) (fs : List DS) (s : DS) (j : Nat), vs = [.ref q] ∧ LatX E H q f b d dx ps k pc mx fs s j ∧ 1 ≤ k ∧ k ≤ 50 ∧ fs.length ≤ 100 ∧
  ∀ (H' : Hp) (b' d' : Addr) (ps' : List (Addr × Addr)), LatX E H' q f b' d' dx ps' k pc mx (latF k mx fs s) ⟨[], 0, 0⟩ 0 → H b' = none → H d' = none → (∀ x ∈ ps', x ∈ ps ∨ x = (b, d)) → (∀ a o, H a = some o → a ≠ q → a ≠ f → H' a = some o) → Q .non H'
theorem ok_l_end_piece (E : EnvD K mg) : FnOk P w K mg base CX0 5 E.D_l_end_piece.a E.D_l_end_piece.fd P_l_end_piece (sp_l_end_piece E) := by
  have G_d_init : FnOk P w K mg base (L2.CX P w) 3 E.D_d_init.a E.D_d_init.fd P_d_init (sp_d_init E) := ok_d_init E
  refine E.D_l_end_piece.F.ok sc_l_end_piece (fun vs H Q Ex h => ?_) (fun cdv A outer s0 H vs Q Ex hr h => ?_)
  · obtain ⟨q, f, b, d, dx, ps, k, pc, mx, fs, s, j, rfl, _⟩ := h
    rfl
  · obtain ⟨q, f, b, d, dx, ps, k, pc, mx, fs, s, j, rfl, X, k1, k2, hl, qq⟩ := h
    have pl : ps.length = fs.length := paired_len X.P
    have qf : q ≠ f := ne_of X.at_ X.L (by intro z; cases z)
    obtain ⟨⟨dxb, hb1⟩, hb2⟩ := id X.D
    have fb : f ≠ b := ne_of X.L hb1 (by intro z; cases z)
    have fd : f ≠ d := ne_of X.L hb2 (by intro z; cases z)
    have all : Paired (fun x s => DeskAt E.C H x.1 x.2 k s) (ps ++ [(b, d)]) (fs ++ [s]) := paired_append X.P (.cons X.D .nil)
    refine ⟨_, (pss_cons (ps_expr (pe_bm PySem.F.plainAttrs_list PySem.F.slot_list_append PySem.F.type_list_append mt_append (pe_fld (pv 0) rfl) (pa_cons (pe_fld (pv 0) rfl) pa_nil)))
  (Evl.pss_cut (ps_if (pt_cmpR op_gt (pe_callB call_len_seq rfl E.n_len (by decide +kernel) (pa_cons (pe_fld (pv 0) rfl) pa_nil)) (pe_fld (pv 0) rfl) (nomark _))
  (pss_one (ps_expr (pe_bm PySem.F.plainAttrs_list PySem.F.slot_list_pop PySem.F.type_list_pop mt_popAt (pe_fld (pv 0) rfl) (pa_cons pe_int pa_nil))))
  pss_nil)
  (pss_cons (ps_fld (pv 0) (pe_make E.mkD G_d_init (hr.mono (by decide)) rfl E.g_Desk E.D_d_init.b .nil passL (pa_cons (pe_fld (pv 0) rfl) pa_nil)) rfl)
  (pss_one (ps_fld (pv 0) pe_int rfl))))), ?_⟩
    refine ⟨_, rfl, q, E.CL, dx, _, _, rfl, X.at_, E.clL, E.aL_full, rfl, .inl ⟨rfl, _, SqL.of X.L⟩, _, rfl, q, E.CL, dx, _, _, rfl, X.at_, E.clL, E.aL_begun, rfl, f, _, _, rfl, rfl, X.L, sz50 (by rw [List.length_map]; omega), ?_⟩
    have hf1 : (upd H f (.lst ((ps.map fun x => V.ref x.1) ++ [V.ref b]))) f = some (.lst ((ps ++ [(b, d)]).map fun x => V.ref x.1)) := by rw [upd_same, List.map_append]; rfl
    have hq1 : (upd H f (.lst ((ps.map fun x => V.ref x.1) ++ [V.ref b]))) q = some (.ins E.CL dx (lfl (k : Int) (pc : Int) (mx : Int) f b (j : Int))) := by rw [upd_ne qf]; exact X.at_
    have kp1 : ∀ a o, H a = some o → a ≠ f → (upd H f (.lst ((ps.map fun x => V.ref x.1) ++ [V.ref b]))) a = some o := fun a o ha haf => by rw [upd_ne haf]; exact ha
    have fr1 : ∀ a, (upd H f (.lst ((ps.map fun x => V.ref x.1) ++ [V.ref b]))) a = none → H a = none := fun a ha => by
      by_cases z : a = f
      · rw [z, upd_same] at ha; cases ha
      · rw [upd_ne z] at ha; exact ha
    generalize upd H f (.lst ((ps.map fun x => V.ref x.1) ++ [V.ref b])) = H1 at *
    refine ⟨fun σ H' => σ = [some (.ref q)] ∧ ∃ ps', H' f = some (.lst (ps'.map fun x => V.ref x.1)) ∧ H' q = some (.ins E.CL dx (lfl (k : Int) (pc : Int) (mx : Int) f b (j : Int))) ∧ (∀ a o, H a = some o → a ≠ f → H' a = some o) ∧ (∀ a, H' a = none → H a = none) ∧
      (∀ x ∈ ps', x ∈ ps ∨ x = (b, d)) ∧ Paired (fun x s => DeskAt E.C H x.1 x.2 k s) ps' (latF k mx fs s), ?_, ?_⟩
    · refine ⟨_, rfl, q, E.CL, dx, _, _, rfl, hq1, E.clL, E.aL_full, rfl, f, _, rfl, .inl (SqL.of hf1), _, rfl, q, E.CL, dx, _, _, rfl, hq1, E.clL, E.aL_pieces, rfl, _, _, rfl, rfl, _, rfl, ?_⟩
      rw [List.length_map, List.length_append, List.length_singleton]
      by_cases c : mx < ps.length + 1
      · refine iteT' (decide_eq_true (by omega)) ?_
        obtain ⟨x0, r0, e0⟩ : ∃ x0 r0, ps ++ [(b, d)] = x0 :: r0 := by
          cases ps with
          | nil => exact ⟨_, _, rfl⟩
          | cons x r => exact ⟨_, _, rfl⟩
        refine ⟨_, rfl, q, E.CL, dx, _, _, rfl, hq1, E.clL, E.aL_full, rfl, .inl ⟨rfl, _, SqL.of hf1⟩, f, _, 0, 0, .ref x0.1, rfl, rfl, hf1, by decide, by decide, by rw [e0]; exact seqI0 (by rw [List.length_map]; exact Nat.succ_pos _), by rw [e0]; rfl, ?_⟩
        refine ⟨rfl, r0, by rw [upd_same, e0]; rfl, by rw [upd_ne qf]; exact hq1, fun a o ha haf => by rw [upd_ne haf]; exact kp1 a o ha haf, fun a ha => ?_, fun x hx => ?_, ?_⟩
        · by_cases z : a = f
          · rw [z, upd_same] at ha; cases ha
          · rw [upd_ne z] at ha; exact fr1 a ha
        · have : x ∈ ps ++ [(b, d)] := by rw [e0]; exact List.mem_cons_of_mem _ hx
          rcases List.mem_append.mp this with h | h
          · exact .inl h
          · exact .inr (List.mem_singleton.mp h)
        · unfold latF
          rw [if_pos (by omega)]
          rw [e0] at all
          cases hfs : fs ++ [s] with
          | nil => rw [hfs] at all; cases all
          | cons y r =>
            rw [hfs] at all
            cases all with
            | cons _ t => exact t
      · refine iteF' (decide_eq_false (by omega)) ?_
        refine ⟨rfl, ps ++ [(b, d)], hf1, hq1, kp1, fr1, fun x hx => ?_, ?_⟩
        · rcases List.mem_append.mp hx with h | h
          · exact .inl h
          · exact .inr (List.mem_singleton.mp h)
        · unfold latF
          rw [if_neg (by omega)]
          exact all
    · rintro σ H2 ⟨rfl, ps', g1, g2, g3, g4, g5, g6⟩
      refine ⟨_, rfl, q, E.CL, dx, _, _, rfl, g2, E.clL, E.aL_drawers, rfl, fun b' dxb' hb' hdx hne => make_atV E k1 k2 rfl hb' hdx hne fun d' H3 hd' s3 D' => ⟨rfl, ?_⟩⟩
      have qb' : q ≠ b' := ne_of_none g2 hb'
      have qd' : q ≠ d' := ne_of_none g2 hd'
      refine ⟨_, rfl, q, E.CL, dx, _, rfl, s3 _ _ g2, E.clL, E.aL_begun, (by show 6 < 1000; decide), ?_⟩
      refine ⟨_, rfl, q, E.CL, dx, _, rfl, upd_same, E.clL, E.aL_comings, (by show 6 < 1000; decide), ?_⟩
      have xq : ∀ x ∈ ps', x.1 ≠ q ∧ x.2 ≠ q ∧ x.1 ≠ f ∧ x.2 ≠ f := fun x hx => by
        have key : ∀ {p d : Addr} {s : DS}, DeskAt E.C H p d k s → p ≠ f ∧ d ≠ f ∧ d ≠ q := fun D => by
          obtain ⟨⟨z, h1⟩, h2⟩ := D
          exact ⟨ne_of h1 X.L (by intro z; cases z), ne_of h2 X.L (by intro z; cases z), ne_of h2 X.at_ (by intro z; cases z)⟩
        rcases g5 x hx with h | rfl
        · have : ∀ {ps : List (Addr × Addr)} {fs : List DS}, Paired (fun x s => DeskAt E.C H x.1 x.2 k s) ps fs → ∀ x ∈ ps, ∃ s, DeskAt E.C H x.1 x.2 k s := by
            intro ps fs p
            induction p with
            | nil => intro x hx; cases hx
            | cons a _ ih =>
              intro x hx
              rcases List.mem_cons.mp hx with rfl | hx
              · exact ⟨_, a⟩
              · exact ih x hx
          obtain ⟨s', D⟩ := this X.P x h
          exact ⟨(X.ne x h).2.2, (key D).2.2, (key D).1, (key D).2.1⟩
        · exact ⟨X.qb.symm, (key X.D).2.2, (key X.D).1, (key X.D).2.1⟩
      refine qq _ b' d' ps' ⟨?_, ?_, ?_, (D'.upd_ne qb' qd').upd_ne qb' qd', fun x hx => ?_, qb'⟩ (g4 _ hb') (g4 _ hd') g5 fun a o ha haq haf => ?_
      · rw [upd_same]; rfl
      · rw [upd_ne qf.symm, upd_ne qf.symm]
        exact s3 _ _ g1
      · refine desks_same (fun x hx o => ?_) g6
        obtain ⟨a1, a2, a3, a4⟩ := xq x hx
        exact ⟨fun h => by rw [upd_ne a1, upd_ne a1]; exact s3 _ _ (g3 _ _ h a3), fun h => by rw [upd_ne a2, upd_ne a2]; exact s3 _ _ (g3 _ _ h a4)⟩
      · obtain ⟨a1, a2, a3, a4⟩ := xq x hx
        have : ∀ {ps : List (Addr × Addr)} {fs : List DS}, Paired (fun x s => DeskAt E.C H x.1 x.2 k s) ps fs → ∀ x ∈ ps, ∃ s, DeskAt E.C H x.1 x.2 k s := by
          intro ps fs p
          induction p with
          | nil => intro x hx; cases hx
          | cons a _ ih =>
            intro x hx
            rcases List.mem_cons.mp hx with rfl | hx
            · exact ⟨_, a⟩
            · exact ih x hx
        obtain ⟨s', ⟨z, h1⟩, h2⟩ := this g6 x hx
        exact ⟨ne_of_none (g3 _ _ h1 a3) hb', ne_of_none (g3 _ _ h2 a4) hd', a1⟩
      · rw [upd_ne haq, upd_ne haq]
        exact s3 _ _ (g3 _ _ ha haf)
def LeftL (E : EnvD K mg) (H : Hp) (O : Addr → Prop) (q : Addr) (k pc mx : Nat) (fs : List DS) (s : DS) (j : Nat) (Q : VK) : Prop :=
  ∀ H' : Hp, LatAt E H' (fun a => O a ∨ H a = none) q k pc mx fs s j → (∀ a o, H a = some o → ¬ O a → H' a = some o) → Q .non H'
def sp_l_come (E : EnvD K mg) : Sp := fun vs H Q Ex => ∃ (q : Addr) (O : Addr → Prop) (nv wv : V) (k pc mx : Nat) (fs : List DS) (s : DS) (j : Nat), vs = [.ref q, nv, wv] ∧ LatAt E H O q k pc mx fs s j ∧ Ok k s.l ∧ 1 ≤ k ∧ k ≤ 50 ∧ fs.length ≤ 100 ∧
  (∃ T, TyB K H nv T) ∧ (∀ z, nv = .str z → z.length ≤ 1000) ∧ (∃ T, TyB K H wv T) ∧ (isNm nv = false → Ex (.ref E.C_NoName) none H) ∧ (isNm nv = true → isNum wv (10 ^ 60) = false → Ex (.ref E.C_NoWeight) none H) ∧
  ∀ (n : Str) (w : Int), nv = .str n → wv = .int w → nmOk n = true → 1 ≤ w → w ≤ 10 ^ 60 → LeftL E H O q k pc mx (lcF k pc mx fs s j n w) (lcS k pc s j n w) (lcJ pc j) Q
theorem ok_l_come (E : EnvD K mg) : FnOk P w K mg base (L2.CX P w) 6 E.D_l_come.a E.D_l_come.fd P_l_come (sp_l_come E) := by
  have G_d_come : FnOk P w K mg base (L2.CX P w) 3 E.D_d_come.a E.D_d_come.fd P_d_come (sp_d_come E) := ok_d_come E
  have G_l_end_piece : FnOk P w K mg base CX0 5 E.D_l_end_piece.a E.D_l_end_piece.fd P_l_end_piece (sp_l_end_piece E) := ok_l_end_piece E
  refine E.D_l_come.F.ok sc_l_come (fun vs H Q Ex h => ?_) (fun cdv A outer s0 H vs Q Ex hr h => ?_)
  · obtain ⟨q, O, nv, wv, k, pc, mx, fs, s, j, rfl, _⟩ := h
    rfl
  · obtain ⟨q, O, nv, wv, k, pc, mx, fs, s, j, rfl, LA, ok, k1, k2, hl, tyN, hz, tyW, qN, qW, qq⟩ := h
    obtain ⟨f, b, d, dx, ps, X, oq, of', ob, od, op⟩ := LA
    obtain ⟨⟨dxb, hb1⟩, hb2⟩ := id X.D
    have qf : q ≠ f := ne_of X.at_ X.L (by intro z; cases z)
    have fb : f ≠ b := ne_of X.L hb1 (by intro z; cases z)
    have fd : f ≠ d := ne_of X.L hb2 (by intro z; cases z)
    have qd : q ≠ d := ne_of X.at_ hb2 (by intro z; cases z)
    refine ⟨_, (pss_cons (ps_expr (pe_meth (pe_fld (pv 0) rfl) E.cl E.me_d_come G_d_come (hr.mono (by decide)) E.D_d_come.b .nil (passes_call (takes_of rfl rfl rfl rfl) (fun _ _ _ _ h => h)) (pa_cons (pv 1) (pa_cons (pv 2) pa_nil))))
  (pss_cons (ps_fldaug (pv 0) pe_int in_add)
  (pss_one (ps_if (pt_cmpR op_eq (pe_fld (pv 0) rfl) (pe_fld (pv 0) rfl) (nomark _))
  (pss_one (ps_expr (pe_meth0 (pv 0) E.clL E.me_l_end_piece G_l_end_piece (hr.mono (by decide)) E.D_l_end_piece.b .nil pass0)))
  pss_nil)))), ?_⟩
    refine ⟨_, rfl, q, E.CL, dx, _, _, rfl, X.at_, E.clL, E.aL_begun, rfl, b, dxb, _, rfl, hb1, rfl, _, rfl, _, rfl, b, d, nv, wv, k, s, rfl, X.D, ok, k1, k2, tyN, hz, tyW, qN, qW, fun n w en ew hn w1 w2 d' H1 D' hd' kp => ?_⟩
    have q1 : H1 q = some (.ins E.CL dx (lfl (k : Int) (pc : Int) (mx : Int) f b (j : Int))) := kp _ _ X.at_ X.qb qd
    refine ⟨_, rfl, q, E.CL, dx, _, _, rfl, q1, E.clL, E.aL_comings, rfl, _, _, rfl, rfl, dx, _, q1, (by show 6 < 1000; decide), ?_⟩
    have qd' : q ≠ d' := by
      rcases hd' with rfl | h
      · exact qd
      · exact ne_of_none X.at_ h
    have X1 : LatX E (upd H1 q (.ins E.CL dx (lfl (k : Int) (pc : Int) (mx : Int) f b ((j : Int) + 1)))) q f b d' dx ps k pc mx fs (comeM k s n w) (j + 1) := by
      refine ⟨upd_same, by rw [upd_ne qf.symm]; exact kp _ _ X.L fb fd, desks_same (fun x hx o => ?_) X.P, D'.upd_ne X.qb qd', fun x hx => ?_, X.qb⟩
      · obtain ⟨s', ⟨z, g1⟩, g2⟩ := paired_mem X.P hx
        obtain ⟨a1, a2, a3⟩ := X.ne x hx
        refine ⟨fun h => ?_, fun h => ?_⟩
        · rw [upd_ne a3]; exact kp _ _ h a1 (ne_of g1 hb2 (by intro z; cases z))
        · rw [upd_ne (ne_of g2 X.at_ (by intro z; cases z))]; exact kp _ _ h (ne_of g2 hb1 (by intro z; cases z)) a2
      · obtain ⟨s', ⟨z, g1⟩, g2⟩ := paired_mem X.P hx
        obtain ⟨a1, a2, a3⟩ := X.ne x hx
        refine ⟨a1, ?_, a3⟩
        rcases hd' with rfl | h
        · exact a2
        · exact ne_of_none g2 h
    have kp2 : ∀ a o, H a = some o → ¬ O a → (upd H1 q (.ins E.CL dx (lfl (k : Int) (pc : Int) (mx : Int) f b ((j : Int) + 1)))) a = some o := fun a o ha hO => by
      rw [upd_ne (fun z => hO (by rw [z]; exact oq))]
      exact kp _ _ ha (fun z => hO (by rw [z]; exact ob)) (fun z => hO (by rw [z]; exact od))
    have fr2 : ∀ a, (upd H1 q (.ins E.CL dx (lfl (k : Int) (pc : Int) (mx : Int) f b ((j : Int) + 1)))) a = none → O a ∨ H a = none := fun a ha => by
      by_cases hO : O a
      · exact .inl hO
      · refine .inr ?_
        cases e : H a with
        | none => rfl
        | some o => rw [kp2 a o e hO] at ha; cases ha
    have od' : O d' ∨ H d' = none := by
      rcases hd' with rfl | h
      · exact .inl od
      · exact .inr h
    have qq := qq n w en ew hn w1 w2
    rw [lfl_putJ]
    generalize upd H1 q (.ins E.CL dx (lfl (k : Int) (pc : Int) (mx : Int) f b ((j : Int) + 1))) = H2 at X1 kp2 fr2 ⊢
    refine ⟨_, rfl, q, E.CL, dx, _, _, rfl, X1.at_, E.clL, E.aL_comings, rfl, _, rfl, q, E.CL, dx, _, _, rfl, X1.at_, E.clL, E.aL_piece, rfl, rfl, _, rfl, ?_⟩
    by_cases c : j + 1 = pc
    · refine iteT' (decide_eq_true (by rw [c])) ?_
      refine ⟨_, rfl, q, dx, _, rfl, X1.at_, rfl, q, f, b, d', dx, ps, k, pc, mx, fs, _, j + 1, rfl, X1, k1, k2, hl, fun H3 b3 d3 ps3 X3 hb3 hd3 hps kp3 => ?_⟩
      refine qq H3 ⟨f, b3, d3, dx, ps3, ?_, .inl oq, .inl of', fr2 _ hb3, fr2 _ hd3, fun x hx => ?_⟩ fun a o ha hO => ?_
      · unfold lcF lcS lcJ
        rw [if_pos c, if_pos c, if_pos c]
        exact X3
      · rcases hps x hx with h | rfl
        · exact ⟨.inl (op x h).1, .inl (op x h).2⟩
        · exact ⟨.inl ob, od'⟩
      · exact kp3 a o (kp2 a o ha hO) (fun z => hO (by rw [z]; exact oq)) (fun z => hO (by rw [z]; exact of'))
    · refine iteF' (decide_eq_false fun z => c (by have := V.int.inj z; omega)) ?_
      refine qq H2 ⟨f, b, d', dx, ps, ?_, .inl oq, .inl of', .inl ob, od', fun x hx => ⟨.inl (op x hx).1, .inl (op x hx).2⟩⟩ kp2
      unfold lcF lcS lcJ
      rw [if_neg c, if_neg c, if_neg c]
      exact X1
/-- the part of come's promise that does not refuse -/
theorem l_come_at (E : EnvD K mg) {H : Hp} {O : Addr → Prop} {q : Addr} {k pc mx : Nat} {fs : List DS} {s : DS} {j : Nat} {n : Str} {w : Int} {Q : VK} {Ex : XK} (A : LatAt E H O q k pc mx fs s j) (ok : Ok k s.l) (k1 : 1 ≤ k) (k2 : k ≤ 50) (hl : fs.length ≤ 100) (hn : nmOk n = true) (w1 : 1 ≤ w) (w2 : w ≤ 10 ^ 60)
    (f : LeftL E H O q k pc mx (lcF k pc mx fs s j n w) (lcS k pc s j n w) (lcJ pc j) Q) : sp_l_come E [.ref q, .str n, .int w] H Q Ex := by
  refine ⟨q, O, .str n, .int w, k, pc, mx, fs, s, j, rfl, A, ok, k1, k2, hl, ⟨_, .str _⟩, fun z e => ?_, ⟨_, .int _⟩, fun z => ?_, fun _ z => ?_, fun n' w' en ew _ _ _ => ?_⟩
  · rw [← V.str.inj e]
    have := nmOk_len hn
    omega
  · rw [show isNm (V.str n) = nmOk n from rfl, hn] at z
    cases z
  · rw [wt_ok w1 w2] at z
    cases z
  · rw [← V.str.inj en, ← V.int.inj ew]
    exact f
def sp_l_told (E : EnvD K mg) : Sp := fun vs H Q _ => ∃ (q : Addr) (O : Addr → Prop) (k pc mx : Nat) (fs : List DS) (s : DS) (j : Nat), vs = [.ref q] ∧ LatAt E H O q k pc mx fs s j ∧ (∀ x ∈ fs ++ [s], Ok k x.l) ∧ 1 ≤ k ∧ k ≤ 50 ∧ fs.length ≤ 100 ∧
  ∀ (p d : Addr) (H' : Hp), H p = none → H d = none → Same H H' → DeskAt E.C H' p d k (toldM k (fs ++ [s])) → Q (.ref p) H'
theorem ok_l_told (E : EnvD K mg) : FnOk P w K mg base CX0 8 E.D_l_told.a E.D_l_told.fd P_l_told (sp_l_told E) := by
  have G_d_init : FnOk P w K mg base (L2.CX P w) 3 E.D_d_init.a E.D_d_init.fd P_d_init (sp_d_init E) := ok_d_init E
  have G_poured : FnOk P w K mg base (L2.CX P w) 7 E.D_poured.a E.D_poured.fd P_poured (sp_poured E) := ok_poured E
  refine E.D_l_told.F.ok sc_l_told (fun vs H Q Ex h => ?_) (fun cdv A outer s0 H vs Q Ex hr h => ?_)
  · obtain ⟨q, O, k, pc, mx, fs, s, j, rfl, _⟩ := h
    rfl
  · obtain ⟨q, O, k, pc, mx, fs, s, j, rfl, LA, ok, k1, k2, hl, qq⟩ := h
    obtain ⟨f, b, d, dx, ps, X, oq, of', ob, od, op⟩ := LA
    refine ⟨_, (pss_cons (ps_set (i := 1) sc_l_told.nd rfl (by first | exact Or.inl rfl | exact Or.inr rfl) (pe_make E.mkD G_d_init (hr.mono (by decide)) rfl E.g_Desk E.D_d_init.b .nil passL (pa_cons (pe_fld (pv 0) rfl) pa_nil)))
  (pss_cons (ps_for PassesOwn.never rfl (pi_list (pe_lst (StX.pa_star (pe_fld (pv 0) rfl) (pa_cons (pe_fld (pv 0) rfl) pa_nil)))) (pg_name (i := 2) sc_l_told.nd rfl (by first | exact Or.inl rfl | exact Or.inr rfl))
  (pss_one (ps_set (i := 1) sc_l_told.nd rfl (by first | exact Or.inl rfl | exact Or.inr rfl) (pe_call G_poured (hr.mono (by decide)) rfl E.m_poured E.D_poured.F.kp E.D_poured.b .nil passL (pa_cons (pv 1) (pa_cons (pv 2) pa_nil))))))
  (pss_one (ps_ret (pv 1))))), ?_⟩
    refine ⟨_, rfl, q, E.CL, dx, _, _, rfl, X.at_, E.clL, E.aL_drawers, rfl, fun p dxp hp hdx hne => make_atV E k1 k2 rfl hp hdx hne fun d' H1 hd' s1 D' => ⟨rfl, ?_⟩⟩
    have X1 := X.same fun a o _ ha => s1 a o ha
    have all : Paired (fun x s => DeskAt E.C H x.1 x.2 k s) (ps ++ [(b, d)]) (fs ++ [s]) := paired_append X.P (.cons X.D .nil)
    have pl : ps.length = fs.length := paired_len X.P
    have pl2 : (ps ++ [(b, d)]).length = (fs ++ [s]).length := paired_len all
    refine ⟨_, rfl, q, E.CL, dx, _, _, rfl, X1.at_, E.clL, E.aL_full, rfl, f, _, rfl, .inr (SqL.of X1.L), _, rfl, q, E.CL, dx, _, _, rfl, X1.at_, E.clL, E.aL_begun, rfl, ?_, fun a ha => ?_⟩
    · show ((ps.map fun x => V.ref x.1) ++ [V.ref b]).length ≤ sizeLine
      rw [List.length_append, List.length_map, List.length_singleton]
      exact Nat.le_trans (by omega : ps.length + 1 ≤ 1000) (by decide)
    have hA : (upd H1 a (.lst ((ps.map fun x => V.ref x.1) ++ [V.ref b]))) a = some (.lst ((ps ++ [(b, d)]).map fun x => V.ref x.1)) := by rw [upd_same, List.map_append]; rfl
    have s2 : Same H (upd H1 a (.lst ((ps.map fun x => V.ref x.1) ++ [V.ref b]))) := Same.trans s1 (Same.new ha)
    have D2 := D'.same (Same.new (o := .lst ((ps.map fun x => V.ref x.1) ++ [V.ref b])) ha)
    generalize upd H1 a (.lst ((ps.map fun x => V.ref x.1) ++ [V.ref b])) = H2 at hA s2 D2 ⊢
    refine ⟨a, rfl, ⟨_, SqL.of hA⟩, for_list (K := K) (a := a) (xs := (ps ++ [(b, d)]).map fun x => V.ref x.1) (fun i σ H' => (∃ p d o3, σ = [some (.ref q), some (.ref p), o3] ∧ H p = none ∧ H d = none ∧ DeskAt E.C H' p d k (toldM k ((fs ++ [s]).take i))) ∧ Same H2 H')
      ⟨⟨p, d', none, rfl, hp, hd', D2⟩, fun _ _ h => h⟩ (fun i σ H' _ h => SqL.of (h.2 _ _ hA)) ?_ ?_⟩
    · rintro i x σ H' hx ⟨⟨p1, d1, o3, rfl, hp1, hd1, g1⟩, g2⟩
      rw [List.getElem?_map] at hx
      obtain ⟨y, hy, rfl⟩ := Option.map_eq_some_iff.mp hx
      obtain ⟨si, hsi, Di⟩ := paired_at all hy
      have Di := Di.same (Same.trans s2 g2)
      have Oi := ok si (List.mem_of_getElem? hsi)
      have Ot := toldM_ok ((fs ++ [s]).take i) fun z hz => ok z (List.mem_of_mem_take hz)
      have et : toldM k ((fs ++ [s]).take (i + 1)) = pourM k (toldM k ((fs ++ [s]).take i)) si := by rw [take_snoc hsi, toldM_snoc]
      refine ⟨_, rfl, _, rfl, p1, d1, k, _, y.1, y.2, k, si, rfl, g1, Di, Ot, Oi, k1, k2, k2, fun _ p' d' H3 hp' hd' s3 D' => ?_, fun z => absurd rfl z⟩
      exact ⟨⟨p', d', _, rfl, (Same.trans s2 g2).free hp', (Same.trans s2 g2).free hd', by rw [et]; exact D'⟩, Same.trans g2 s3⟩
    · rintro σ H' ⟨⟨p1, d1, o3, rfl, hp1, hd1, g1⟩, g2⟩
      refine ⟨_, rfl, qq p1 d1 H' hp1 hd1 (Same.trans s2 g2) ?_⟩
      rw [List.length_map, pl2, List.take_of_length_le (Nat.le_refl _)] at g1
      exact g1
def sp_l_reach (E : EnvD K mg) : Sp := fun vs H Q _ => ∃ (q : Addr) (O : Addr → Prop) (k pc mx : Nat) (fs : List DS) (s : DS) (j : Nat), vs = [.ref q] ∧ LatAt E H O q k pc mx fs s j ∧ fs.length ≤ 100 ∧ Q (.int ((fs.length * pc + j : Nat) : Int)) H
theorem ok_l_reach (E : EnvD K mg) : FnOk P w K mg base CX0 1 E.D_l_reach.a E.D_l_reach.fd P_l_reach (sp_l_reach E) := by
  refine E.D_l_reach.F.ok sc_l_reach (fun vs H Q Ex h => ?_) (fun cdv A outer s0 H vs Q Ex hr h => ?_)
  · obtain ⟨q, O, k, pc, mx, fs, s, j, rfl, _⟩ := h
    rfl
  · obtain ⟨q, O, k, pc, mx, fs, s, j, rfl, LA, hl, qq⟩ := h
    obtain ⟨f, b, d, dx, ps, X, oq, of', ob, od, op⟩ := LA
    refine ⟨_, (pss_one (ps_ret (pe_op op_add (pe_op op_mul (pe_callB call_len_seq rfl E.n_len (by decide +kernel) (pa_cons (pe_fld (pv 0) rfl) pa_nil)) (pe_fld (pv 0) rfl)) (pe_fld (pv 0) rfl)))), ?_⟩
    refine ⟨_, rfl, q, E.CL, dx, _, _, rfl, X.at_, E.clL, E.aL_full, rfl, f, _, rfl, .inl (SqL.of X.L), _, rfl, q, E.CL, dx, _, _, rfl, X.at_, E.clL, E.aL_piece, rfl, _, _, rfl, rfl, .inl (by rw [List.length_map, paired_len X.P]; omega), _, rfl, q, E.CL, dx, _, _, rfl, X.at_, E.clL, E.aL_comings, rfl, _, _, rfl, rfl, ?_⟩
    rw [List.length_map, paired_len X.P]
    exact qq
/-! ### which refusal -/
def IsW (E : EnvD K mg) (H : Hp) (x : V) (C : Addr) (b : Bool) : Prop := (∃ a D, x = .ref a ∧ H a = some (ExK (.ref D) none a) ∧ ExcC K D ∧ PySem.W.kitOne K (.ref D) (.ref C) = some b) ∨ (x = .non ∧ b = false ∧ PySem.W.kitOne K (.type "NoneType") (.ref C) = some false)
theorem IsW.same {E : EnvD K mg} {H H' : Hp} {x : V} {C : Addr} {b : Bool} (h : IsW E H x C b) (e : Same H H') : IsW E H' x C b := by
  rcases h with ⟨a, D, rfl, h1, h2⟩ | h
  · exact .inl ⟨a, D, rfl, e _ _ h1, h2⟩
  · exact .inr h
theorem IsW.read {E : EnvD K mg} {H : Hp} {x : V} {C : Addr} {b : Bool} {Q : VK} (h : IsW E H x C b) (q : Q (.bl b) H) : rIsK K [x, .ref C] H Q ∨ rIsi K [x, .ref C] H Q := by
  rcases h with ⟨a, D, rfl, h1, h2, h3⟩ | ⟨rfl, rfl, h3⟩
  · exact .inl ⟨a, D, C, b, rfl, h1, h2, h3, q⟩
  · exact .inr ⟨.non, .ref C, _, _, false, rfl, .own _, .base .non, h3, q⟩
def pick (bs : List Bool) : List Str := ((["name", "weight", "desk", "match", "piece", "text"] : List Str).zip bs).filterMap fun q => if q.2 = true then some q.1 else none
def sp_word (E : EnvD K mg) : Sp := fun vs H Q _ => ∃ (x : V) (b1 b2 b3 b4 b5 b6 : Bool), vs = [x] ∧ IsW E H x E.C_NoName b1 ∧ IsW E H x E.C_NoWeight b2 ∧ IsW E H x E.C_NoDesk b3 ∧ IsW E H x E.C_NoMatch b4 ∧ IsW E H x E.C_NoPiece b5 ∧ IsW E H x E.C_NoText b6 ∧
  ∀ H', Same H H' → Q (.str (PySem.Txt.join " " (pick [b1, b2, b3, b4, b5, b6]))) H'
theorem ok_word (E : EnvD K mg) : FnOk P w K mg base CX0 1 E.D_word.a E.D_word.fd P_word (sp_word E) := by
  refine E.D_word.F.ok sc_word (fun vs H Q Ex h => ?_) (fun cdv A outer s0 H vs Q Ex hr h => ?_)
  · obtain ⟨x, b1, b2, b3, b4, b5, b6, rfl, _⟩ := h
    rfl
  · obtain ⟨x, b1, b2, b3, b4, b5, b6, rfl, q1, q2, q3, q4, q5, q6, q⟩ := h
    refine ⟨_, (pss_cons (ps_set (i := 1) sc_word.nd rfl (by first | exact Or.inl rfl | exact Or.inr rfl) (pe_lst (pa_cons pe_str (pa_cons pe_str (pa_cons pe_str (pa_cons pe_str (pa_cons pe_str (pa_cons pe_str pa_nil))))))))
  (pss_cons (ps_set (i := 2) sc_word.nd rfl (by first | exact Or.inl rfl | exact Or.inr rfl) (pe_lst (pa_cons (pe_callB (call_isK.or call_isi) rfl E.n_isinstance (by decide +kernel) (pa_cons (pv 0) (pa_cons (pe_glob (v := .ref E.C_NoName) rfl E.g_NoName rfl) pa_nil))) (pa_cons (pe_callB (call_isK.or call_isi) rfl E.n_isinstance (by decide +kernel) (pa_cons (pv 0) (pa_cons (pe_glob (v := .ref E.C_NoWeight) rfl E.g_NoWeight rfl) pa_nil))) (pa_cons (pe_callB (call_isK.or call_isi) rfl E.n_isinstance (by decide +kernel) (pa_cons (pv 0) (pa_cons (pe_glob (v := .ref E.C_NoDesk) rfl E.g_NoDesk rfl) pa_nil))) pa_nil)))))
  (pss_cons (ps_set (i := 3) sc_word.nd rfl (by first | exact Or.inl rfl | exact Or.inr rfl) (pe_lst (pa_cons (pe_callB (call_isK.or call_isi) rfl E.n_isinstance (by decide +kernel) (pa_cons (pv 0) (pa_cons (pe_glob (v := .ref E.C_NoMatch) rfl E.g_NoMatch rfl) pa_nil))) (pa_cons (pe_callB (call_isK.or call_isi) rfl E.n_isinstance (by decide +kernel) (pa_cons (pv 0) (pa_cons (pe_glob (v := .ref E.C_NoPiece) rfl E.g_NoPiece rfl) pa_nil))) (pa_cons (pe_callB (call_isK.or call_isi) rfl E.n_isinstance (by decide +kernel) (pa_cons (pv 0) (pa_cons (pe_glob (v := .ref E.C_NoText) rfl E.g_NoText rfl) pa_nil))) pa_nil)))))
  (pss_one (ps_ret (pe_join pe_str (pe_lc (own := [("_law_word_here", 4), ("_law_flag", 5)]) rfl sc_word.nd (pi_zip (by rfl) E.n_zip (pa_cons (pv 1) (pa_cons (pe_op op_cat (pv 2) (pv 3)) pa_nil))) (blkOk_by (N := N_word) (sc := defScope s_word) (by decide +kernel)) (fun _ _ _ _ _ => (show PG _ _ (gTup K 2 (gCons (gName 4) (gCons (gName 5) gNil))) from pg_tup rfl (pgs_cons (pg_name (i := 4) sc_word.nd rfl (by first | exact Or.inl rfl | exact Or.inr rfl)) (pgs_cons (pg_name (i := 5) sc_word.nd rfl (by first | exact Or.inl rfl | exact Or.inr rfl)) pgs_nil)))) (fun _ _ _ _ _ => pts_one (pt_val (pv 5))) (fun _ _ _ _ _ => (pv 4))))))))), ?_⟩
    refine ⟨by show 6 ≤ sizeLine; decide, fun l0 hl0 => ?_⟩
    have s1 : Same H (upd H l0 (.lst [.str "name", .str "weight", .str "desk", .str "match", .str "piece", .str "text"])) := Same.new hl0
    have w0 : (upd H l0 (.lst [.str "name", .str "weight", .str "desk", .str "match", .str "piece", .str "text"])) l0 = some (.lst [.str "name", .str "weight", .str "desk", .str "match", .str "piece", .str "text"]) := upd_same
    generalize upd H l0 (.lst [.str "name", .str "weight", .str "desk", .str "match", .str "piece", .str "text"]) = H1 at *
    refine ⟨_, rfl, (q1.same s1).read ⟨_, rfl, (q2.same s1).read ⟨_, rfl, (q3.same s1).read ⟨by show 3 ≤ sizeLine; decide, fun l1 hl1 => ?_⟩⟩⟩⟩
    have s2 : Same H1 (upd H1 l1 (.lst [.bl b1, .bl b2, .bl b3])) := Same.new hl1
    have w1 : (upd H1 l1 (.lst [.bl b1, .bl b2, .bl b3])) l1 = some (.lst [.bl b1, .bl b2, .bl b3]) := upd_same
    have s12 := Same.trans s1 s2
    show gName 2 _ _ (upd H1 l1 (.lst [.bl b1, .bl b2, .bl b3])) _
    generalize upd H1 l1 (.lst [.bl b1, .bl b2, .bl b3]) = H2 at *
    refine ⟨_, rfl, (q4.same s12).read ⟨_, rfl, (q5.same s12).read ⟨_, rfl, (q6.same s12).read ⟨by show 3 ≤ sizeLine; decide, fun l2 hl2 => ?_⟩⟩⟩⟩
    have s3 : Same H2 (upd H2 l2 (.lst [.bl b4, .bl b5, .bl b6])) := Same.new hl2
    have w2 : (upd H2 l2 (.lst [.bl b4, .bl b5, .bl b6])) l2 = some (.lst [.bl b4, .bl b5, .bl b6]) := upd_same
    show gName 3 _ _ (upd H2 l2 (.lst [.bl b4, .bl b5, .bl b6])) _
    generalize upd H2 l2 (.lst [.bl b4, .bl b5, .bl b6]) = H3 at *
    have w1' := s3 _ _ w1
    have w0' := s3 _ _ (s2 _ _ w0)
    refine ⟨⟨_, rfl⟩, _, rfl, _, rfl, _, rfl, l1, l2, _, _, rfl, rfl, w1', w2, by show 3 + 3 ≤ sizeLine; decide, fun l3 hl3 => ?_⟩
    have s4 : Same H3 (upd H3 l3 (.lst ([.bl b1, .bl b2, .bl b3] ++ [.bl b4, .bl b5, .bl b6]))) := Same.new hl3
    have w3 : (upd H3 l3 (.lst ([.bl b1, .bl b2, .bl b3] ++ [.bl b4, .bl b5, .bl b6]))) l3 = some (.lst (([b1, b2, b3, b4, b5, b6] : List Bool).map V.bl)) := upd_same
    generalize upd H3 l3 (.lst ([.bl b1, .bl b2, .bl b3] ++ [.bl b4, .bl b5, .bl b6])) = H4 at *
    have w0'' : H4 l0 = some (.lst ((["name", "weight", "desk", "match", "piece", "text"] : List Str).map V.str)) := s4 _ _ w0'
    have sH : Same H H4 := Same.trans s1 (Same.trans s2 (Same.trans s3 s4))
    have eP : pick [b1, b2, b3, b4, b5, b6] = ((["name", "weight", "desk", "match", "piece", "text"] : List Str).zip [b1, b2, b3, b4, b5, b6]).filterMap fun q => if q.2 = true then some q.1 else none := rfl
    have zl : ((["name", "weight", "desk", "match", "piece", "text"] : List Str).zip [b1, b2, b3, b4, b5, b6]).length = 6 := rfl
    have fin : ∀ z ∈ (["name", "weight", "desk", "match", "piece", "text"] : List Str), z.length ≤ 6 := by decide
    have eL : (["name", "weight", "desk", "match", "piece", "text"] : List Str).length = 6 := rfl
    have eB : ([b1, b2, b3, b4, b5, b6] : List Bool).length = 6 := rfl
    rw [eP] at q
    generalize (["name", "weight", "desk", "match", "piece", "text"] : List Str) = ws at *
    generalize ([b1, b2, b3, b4, b5, b6] : List Bool) = bs at *
    refine ⟨l0, l3, _, _, rfl, SqL.of w0'', SqL.of w3, fun F hF => ?_⟩
    refine lc_zipL (K := K) (a := l0) (b := l3) (xs := ws.map V.str) (ys := bs.map V.bl) (by rw [List.length_map, List.length_map, eL, eB]) (fun i H' => Same H4 H' ∧ H' F = some (.lst ((((ws.zip bs).take i).filterMap fun q => if q.2 = true then some q.1 else none).map V.str))) ⟨Same.new hF, upd_same⟩ (fun i H' h => ⟨SqL.of (h.1 _ _ w0''), SqL.of (h.1 _ _ w3)⟩) ?_ ?_
    · rintro i x y T H' hx hy ⟨sx, h3⟩ hT
      rw [List.getElem?_map] at hx hy
      obtain ⟨w', hw, rfl⟩ := Option.map_eq_some_iff.mp hx
      obtain ⟨b', hb, rfl⟩ := Option.map_eq_some_iff.mp hy
      have hz : (ws.zip bs)[i]? = some (w', b') := List.getElem?_zip_eq_some.mpr ⟨hw, hb⟩
      have es : ((ws.zip bs).take (i + 1)).filterMap (fun q => if q.2 = true then some q.1 else none) = ((ws.zip bs).take i).filterMap (fun q => if q.2 = true then some q.1 else none) ++ (if b' = true then [w'] else []) := by
        rw [take_snoc hz, List.filterMap_append]
        cases b' <;> rfl
      have FT : F ≠ T := ne_of_none h3 hT
      refine ⟨T, _, rfl, SqT.of upd_same, rfl, _, _, rfl, _, _, rfl, rfl, rfl, _, rfl, b', rfl, ?_⟩
      cases b' with
      | true =>
        refine iteT ⟨_, rfl, _, by rw [upd_ne FT]; exact h3, ?_, Same.mut (Same.trans sx (Same.new hT)) hF, ?_⟩
        · rw [List.length_map]
          refine sz50 (Nat.le_trans (List.length_filterMap_le _ _) ?_)
          rw [List.length_take]
          omega
        · rw [upd_same, es, List.map_append]
          rfl
      | false =>
        refine iteF ⟨Same.trans sx (Same.new hT), ?_⟩
        rw [upd_ne FT, es, if_neg Bool.false_ne_true, List.append_nil]
        exact h3
    · rintro H' ⟨sx, h3⟩
      rw [List.length_map, eL, List.take_of_length_le (by rw [zl]; exact Nat.le_refl _)] at h3
      refine ⟨_, F, _, rfl, rfl, .inl (SqL.of h3), ?_, q _ (Same.trans sH sx)⟩
      have le6 : ∀ (l : List Str), (∀ z ∈ l, z.length ≤ 6) → (l.map (·.length)).sum ≤ 6 * l.length := by
        intro l
        induction l with
        | nil => intro _; exact Nat.le_refl _
        | cons x l ih =>
          intro h
          have h1 := h x (List.mem_cons_self ..)
          have h2 := ih fun z hz => h z (List.mem_cons_of_mem _ hz)
          rw [List.map_cons, List.sum_cons, List.length_cons]
          omega
      have hin : ∀ z ∈ (ws.zip bs).filterMap (fun q => if q.2 = true then some q.1 else none), z.length ≤ 6 := fun z hz => by
        obtain ⟨r, hr, er⟩ := List.mem_filterMap.mp hz
        split at er
        · rw [← Option.some.inj er]
          exact fin _ (List.of_mem_zip hr).1
        · cases er
      have hl := Nat.le_trans (List.length_filterMap_le (fun q : Str × Bool => if q.2 = true then some q.1 else none) (ws.zip bs)) (Nat.le_of_eq zl)
      have h6 := le6 _ hin
      show _ + _ * 1 ≤ 16777216
      omega
theorem word_name : PySem.Txt.join " " (pick [true, false, false, false, false, false]) = "name" := by decide +kernel
theorem word_weight : PySem.Txt.join " " (pick [false, true, false, false, false, false]) = "weight" := by decide +kernel
theorem word_desk : PySem.Txt.join " " (pick [false, false, true, false, false, false]) = "desk" := by decide +kernel
theorem word_piece : PySem.Txt.join " " (pick [false, false, false, false, true, false]) = "piece" := by decide +kernel
theorem word_none : PySem.Txt.join " " (pick [false, false, false, false, false, false]) = "" := by decide +kernel
def good3 (v1 v2 v3 : V) : Bool := isNum v1 50 && isNum v2 1000 && isNum v3 50
def sp_made (E : EnvD K mg) : Sp := fun vs H Q _ => ∃ v1 v2 v3, vs = [v1, v2, v3] ∧ (∀ H' : Hp, ∃ T, TyB K H' v1 T) ∧ (∀ H' : Hp, ∃ T, TyB K H' v2 T) ∧ (∀ H' : Hp, ∃ T, TyB K H' v3 T) ∧
  (isNum v1 50 = false → ∀ H', Same H H' → Q (.str "desk") H') ∧ (isNum v1 50 = true → isNum v2 1000 = false ∨ isNum v3 50 = false → ∀ H', Same H H' → Q (.str "piece") H') ∧
  (good3 v1 v2 v3 = true → ∀ H', Same H H' → Q (.str "") H')
theorem ok_made (E : EnvD K mg) : FnOk P w K mg base CX0 7 E.D_made.a E.D_made.fd P_made (sp_made E) := by
  have G_word : FnOk P w K mg base CX0 1 E.D_word.a E.D_word.fd P_word (sp_word E) := ok_word E
  have G_l_init : FnOk P w K mg base (L2.CX P w) 5 E.D_l_init.a E.D_l_init.fd P_l_init (sp_l_init E) := ok_l_init E
  refine E.D_made.F.ok sc_made (fun vs H Q Ex h => ?_) (fun cdv A outer s0 H vs Q Ex hr h => ?_)
  · obtain ⟨v1, v2, v3, rfl, _⟩ := h
    rfl
  · obtain ⟨v1, v2, v3, rfl, t1, t2, t3, qD, qP, qG⟩ := h
    refine ⟨_, (pss_cons (ps_set (i := 3) sc_made.nd rfl (by first | exact Or.inl rfl | exact Or.inr rfl) pe_non)
  (pss_cons (ps_try_keep (i := 4) rfl rfl rfl sc_made.nd rfl rfl ⟨rfl, by decide, .inl E.g_DrawerError⟩ takes0
  (fun W pn xe tk _ => (pss_one (ps_expr (pe_makeS E.mkL G_l_init (hr.mono (by decide)) rfl E.g_Lately E.D_l_init.b (fun σ => passAt tk σ) (pa_cons (pv 0) (pa_cons (pv 1) (pa_cons (pv 2) pa_nil)))))))
  (fun a oe cls d pn hz hf => (pss_one (ps_set (i := 3) sc_made.nd rfl (by first | exact Or.inl rfl | exact Or.inr rfl) (pv 4)))))
  (pss_one (ps_ret (pe_call G_word (hr.mono (by decide)) rfl E.m_word E.D_word.F.kp E.D_word.b .nil pass0 (pa_cons (pv 3) pa_nil)))))), ?_⟩
    refine ⟨_, rfl, _, rfl, _, rfl, fun q dx hq hdx hne => ⟨q, dx, v1, v2, v3, rfl, upd_same, t1, t2, t3, fun k pc mx e1 e2 e3 k1 k2 p1 p2 m1 m2 H' kp LA => ⟨rfl, ?_⟩, fun n1 => ⟨true, E.exm_NoDesk, fun _ a ha => ⟨_, rfl, fun _ => ?_⟩, fun z => by cases z⟩, fun n1 n23 => ⟨true, E.exm_NoPiece, fun _ a ha => ⟨_, rfl, fun _ => ?_⟩, fun z => by cases z⟩⟩⟩
    · have s1 : Same H H' := Same.made hq hdx kp
      refine ⟨_, rfl, .non, false, false, false, false, false, false, rfl, .inr ⟨rfl, rfl, E.kn_NoName⟩, .inr ⟨rfl, rfl, E.kn_NoWeight⟩, .inr ⟨rfl, rfl, E.kn_NoDesk⟩, .inr ⟨rfl, rfl, E.kn_NoMatch⟩, .inr ⟨rfl, rfl, E.kn_NoPiece⟩, .inr ⟨rfl, rfl, E.kn_NoText⟩, fun H2 s2 => ?_⟩
      rw [word_none]
      refine qG ?_ _ (Same.trans s1 s2)
      subst e1 e2 e3
      have n1 : isNum (.int (k : Int)) 50 = true := num_ok k1 k2
      have n2 : isNum (.int (pc : Int)) 1000 = true := by
        show (decide (1 ≤ (pc : Int)) && decide ((pc : Int) ≤ 1000)) = true
        rw [decide_eq_true (by omega), decide_eq_true (by omega)]
        rfl
      have n3 : isNum (.int (mx : Int)) 50 = true := num_ok m1 m2
      unfold good3
      rw [n1, n2, n3]
      rfl
    · have s1 : Same H (upd (upd H dx (.own q)) q (.ins E.CL dx [])) := Same.made hq hdx fun _ _ h _ => h
      generalize upd (upd H dx (.own q)) q (.ins E.CL dx []) = H1 at s1 ha ⊢
      have hA : (upd H1 a (ExK (.ref E.C_NoDesk) none a)) a = some (ExK (.ref E.C_NoDesk) none a) := upd_same
      refine ⟨_, rfl, .ref a, _, _, _, _, _, _, rfl, .inl ⟨a, _, rfl, hA, E.xc_NoDesk, E.kt_NoDesk_NoName⟩, .inl ⟨a, _, rfl, hA, E.xc_NoDesk, E.kt_NoDesk_NoWeight⟩, .inl ⟨a, _, rfl, hA, E.xc_NoDesk, E.kt_NoDesk_NoDesk⟩, .inl ⟨a, _, rfl, hA, E.xc_NoDesk, E.kt_NoDesk_NoMatch⟩,
        .inl ⟨a, _, rfl, hA, E.xc_NoDesk, E.kt_NoDesk_NoPiece⟩, .inl ⟨a, _, rfl, hA, E.xc_NoDesk, E.kt_NoDesk_NoText⟩, fun H2 s2 => ?_⟩
      rw [word_desk]
      exact qD n1 _ (Same.trans s1 (Same.trans (Same.new ha) s2))
    · have s1 : Same H (upd (upd H dx (.own q)) q (.ins E.CL dx [])) := Same.made hq hdx fun _ _ h _ => h
      generalize upd (upd H dx (.own q)) q (.ins E.CL dx []) = H1 at s1 ha ⊢
      have hA : (upd H1 a (ExK (.ref E.C_NoPiece) none a)) a = some (ExK (.ref E.C_NoPiece) none a) := upd_same
      refine ⟨_, rfl, .ref a, _, _, _, _, _, _, rfl, .inl ⟨a, _, rfl, hA, E.xc_NoPiece, E.kt_NoPiece_NoName⟩, .inl ⟨a, _, rfl, hA, E.xc_NoPiece, E.kt_NoPiece_NoWeight⟩, .inl ⟨a, _, rfl, hA, E.xc_NoPiece, E.kt_NoPiece_NoDesk⟩, .inl ⟨a, _, rfl, hA, E.xc_NoPiece, E.kt_NoPiece_NoMatch⟩,
        .inl ⟨a, _, rfl, hA, E.xc_NoPiece, E.kt_NoPiece_NoPiece⟩, .inl ⟨a, _, rfl, hA, E.xc_NoPiece, E.kt_NoPiece_NoText⟩, fun H2 s2 => ?_⟩
      rw [word_piece]
      exact qP n1 n23 _ (Same.trans s1 (Same.trans (Same.new ha) s2))
def sp_come_refused (E : EnvD K mg) : Sp := fun vs H Q _ => ∃ (q : Addr) (O : Addr → Prop) (k pc mx : Nat) (fs : List DS) (s : DS) (j : Nat) (v x : V) (D0 : Addr), vs = [.ref q, v, x] ∧ LatAt E H O q k pc mx fs s j ∧ Ok k s.l ∧ 1 ≤ k ∧ k ≤ 50 ∧ fs.length ≤ 100 ∧ (∃ T, TyB K H v T) ∧ (∀ z, v = .str z → z.length ≤ 1000) ∧ (∃ T, TyB K H x T) ∧
  ((isNm v = false ∧ D0 = E.C_NoName) ∨ (isNm v = true ∧ isNum x (10 ^ 60) = false ∧ D0 = E.C_NoWeight)) ∧ ∀ (a : Addr) (H' : Hp), H a = none → Same H H' → H' a = some (ExK (.ref D0) none a) → Q (.ref a) H'
theorem ok_come_refused (E : EnvD K mg) : FnOk P w K mg base CX0 7 E.D_come_refused.a E.D_come_refused.fd P_come_refused (sp_come_refused E) := by
  have G_l_come : FnOk P w K mg base (L2.CX P w) 6 E.D_l_come.a E.D_l_come.fd P_l_come (sp_l_come E) := ok_l_come E
  refine E.D_come_refused.F.ok sc_come_refused (fun vs H Q Ex h => ?_) (fun cdv A outer s0 H vs Q Ex hr h => ?_)
  · obtain ⟨q, O, k, pc, mx, fs, s, j, v, x, D0, rfl, _⟩ := h
    rfl
  · obtain ⟨q, O, k, pc, mx, fs, s, j, v, x, D0, rfl, LA, ok, k1, k2, hl, tv, lv, tx, h, qq⟩ := h
    obtain ⟨dx, f, b, hq⟩ := LA.at_
    refine ⟨_, (pss_cons (ps_set (i := 3) sc_come_refused.nd rfl (by first | exact Or.inl rfl | exact Or.inr rfl) pe_non)
  (pss_cons (ps_try_keep (i := 4) rfl rfl rfl sc_come_refused.nd rfl rfl ⟨rfl, by decide, .inl E.g_DrawerError⟩ takes0
  (fun W pn xe tk _ => (pss_one (ps_expr (pe_methS5 (pv 0) E.clL E.me_l_come G_l_come (hr.mono (by decide)) E.D_l_come.b (fun σ => passAt tk σ) (pa_cons (pv 1) (pa_cons (pv 2) pa_nil))))))
  (fun a oe cls d pn hz hf => (pss_one (ps_set (i := 3) sc_come_refused.nd rfl (by first | exact Or.inl rfl | exact Or.inr rfl) (pv 4)))))
  (pss_one (ps_ret (pv 3))))), ?_⟩
    rcases h with ⟨hv, rfl⟩ | ⟨hv, hx, rfl⟩
    · refine ⟨_, rfl, q, dx, _, rfl, hq, rfl, _, rfl, _, rfl, q, O, v, x, k, pc, mx, fs, s, j, rfl, LA, ok, k1, k2, hl, tv, lv, tx, fun _ => ⟨true, E.exm_NoName, fun _ a ha => ⟨_, rfl, fun _ => ?_⟩, fun z => by cases z⟩, fun z => (by rw [hv] at z; cases z), fun n w en _ hn _ _ => ?_⟩
      · exact ⟨_, rfl, qq a _ ha (Same.new ha) upd_same⟩
      · rw [en, show isNm (V.str n) = nmOk n from rfl, hn] at hv
        cases hv
    · refine ⟨_, rfl, q, dx, _, rfl, hq, rfl, _, rfl, _, rfl, q, O, v, x, k, pc, mx, fs, s, j, rfl, LA, ok, k1, k2, hl, tv, lv, tx, fun z => (by rw [hv] at z; cases z), fun _ _ => ⟨true, E.exm_NoWeight, fun _ a ha => ⟨_, rfl, fun _ => ?_⟩, fun z => by cases z⟩, fun n w _ ew _ w1 w2 => ?_⟩
      · exact ⟨_, rfl, qq a _ ha (Same.new ha) upd_same⟩
      · rw [ew, wt_ok w1 w2] at hx
        cases hx
theorem cutV_from (xs : List V) (n : Nat) : cutV xs (some (n : Int)) none = xs.drop n := by
  unfold cutV
  rw [HT.sIx_none, HT.sIx_nat]
  by_cases h : n ≤ xs.length
  · rw [Nat.min_eq_left h, List.take_of_length_le (by rw [List.length_drop]; omega)]
  · rw [Nat.min_eq_right (by omega), Nat.sub_self, List.take_zero, List.drop_eq_nil_of_le (by omega)]
def sp_holds (E : EnvD K mg) : Sp := fun vs H Q _ => ∃ (q cl nlp : Addr) (O : Addr → Prop) (k pc mx : Nat) (gs : List Dk) (cur l : Dk) (ts : List Addr) (nl : List Str), vs = [.ref q, .ref cl, .ref nlp, .int (pc : Int), .int (mx : Int)] ∧ LatAt E H O q k pc mx (gs.map (stM k)) (stM k cur) cur.length ∧ Rw k pc mx gs cur ∧ Kp mx l gs cur ∧
  H cl = some (.lst (ts.map V.ref)) ∧ pairs H ts l ∧ l.length ≤ 63 ∧ H nlp = some (.lst (nl.map V.str)) ∧ (∀ n ∈ nl, nmOk n = true) ∧ 1 ≤ k ∧ k ≤ 50 ∧ pc ≤ 1000 ∧ mx ≤ 50 ∧ ∀ H', Same H H' → Q (.bl true) H'
theorem ok_holds (E : EnvD K mg) : FnOk P w K mg base CX0 9 E.D_holds.a E.D_holds.fd P_holds (sp_holds E) := by
  have G_d_drawers : FnOk P w K mg base CX0 1 E.D_d_drawers.a E.D_d_drawers.fd P_d_drawers (sp_d_drawers E) := ok_d_drawers E
  have G_d_shown : FnOk P w K mg base CX0 1 E.D_d_shown.a E.D_d_shown.fd P_d_shown (sp_d_shown E) := ok_d_shown E
  have G_d_lost : FnOk P w K mg base CX0 1 E.D_d_lost.a E.D_d_lost.fd P_d_lost (sp_d_lost E) := ok_d_lost E
  have G_d_weight : FnOk P w K mg base CX0 1 E.D_d_weight.a E.D_d_weight.fd P_d_weight (sp_d_weight E) := ok_d_weight E
  have G_d_least : FnOk P w K mg base (L2.CX P w) 3 E.D_d_least.a E.D_d_least.fd P_d_least (sp_d_least E) := ok_d_least E
  have G_d_most : FnOk P w K mg base (L2.CX P w) 4 E.D_d_most.a E.D_d_most.fd P_d_most (sp_d_most E) := ok_d_most E
  have G_l_told : FnOk P w K mg base CX0 8 E.D_l_told.a E.D_l_told.fd P_l_told (sp_l_told E) := ok_l_told E
  have G_l_reach : FnOk P w K mg base CX0 1 E.D_l_reach.a E.D_l_reach.fd P_l_reach (sp_l_reach E) := ok_l_reach E
  refine E.D_holds.F.ok sc_holds (fun vs H Q Ex h => ?_) (fun cdv A outer s0 H vs Q Ex hr h => ?_)
  · obtain ⟨q, cl, nlp, O, k, pc, mx, gs, cur, l, ts, nl, rfl, _⟩ := h
    rfl
  · obtain ⟨q, cl, nlp, O, k, pc, mx, gs, cur, l, ts, nl, rfl, LA, R, KP, hcl, hP, hl63, hN, hok, k1, k2, pc2, mx2, qq⟩ := h
    obtain ⟨dx, f0, b0, hq⟩ := LA.at_
    obtain ⟨e1, e2, e3, e4⟩ := KP.last R
    have ltl : ts.length = l.length := paired_len hP
    have glen : (gs.map (stM k)).length ≤ 100 := by rw [List.length_map]; have := R.le; omega
    refine ⟨_, (pss_cons (ps_set (i := 5) sc_holds.nd rfl (by first | exact Or.inl rfl | exact Or.inr rfl) (pe_meth0 (pv 0) E.clL E.me_l_reach G_l_reach (hr.mono (by decide)) E.D_l_reach.b .nil pass0))
  (pss_cons (ps_if (PW.pt (pw_or (pt_cmpR op_gt (pv 5) (pe_callB call_len_seq rfl E.n_len (by decide +kernel) (pa_cons (pv 1) pa_nil)) (nomark _)) (pw_or1 (pt_cmpR op_ge (pv 5) (pe_op op_mul (pv 3) (pe_op op_add (pv 4) pe_int)) (nomark _)))))
  (pss_one (ps_ret pe_bl))
  pss_nil)
  (Evl.pss_cut (ps_if (PW.pt (pw_and (pt_cmpR op_ne (pv 5) (pe_callB call_len_seq rfl E.n_len (by decide +kernel) (pa_cons (pv 1) pa_nil)) (nomark _)) (pw_and1 (pt_cmpR op_lt (pv 5) (pe_op op_mul (pv 3) (pv 4)) (nomark _)))))
  (pss_one (ps_ret pe_bl))
  pss_nil)
  (pss_cons (ps_set (i := 6) sc_holds.nd rfl (by first | exact Or.inl rfl | exact Or.inr rfl) (pe_slice sl_list (pv 1) (po_some (pe_op op_sub (pe_callB call_len_seq rfl E.n_len (by decide +kernel) (pa_cons (pv 1) pa_nil)) (pv 5))) po_none))
  (pss_cons (ps_set (i := 7) sc_holds.nd rfl (by first | exact Or.inl rfl | exact Or.inr rfl) (pe_meth0 (pv 0) E.clL E.me_l_told G_l_told (hr.mono (by decide)) E.D_l_told.b .nil pass0))
  (Evl.pss_cut (ps_if (pt_cmpR op_ne (pe_meth0 (pv 7) E.cl E.me_d_weight G_d_weight (hr.mono (by decide)) E.D_d_weight.b .nil pass0) (pe_callB (cr_sum rfl) rfl E.n_sum (by decide +kernel) (pa_cons (pe_lc (own := [("_law_pair", 10)]) rfl sc_holds.nd (pi_list (pv 6)) (blkOk_by (N := N_holds) (sc := defScope s_holds) (by decide +kernel)) (fun _ _ _ _ _ => (pg_name (i := 10) sc_holds.nd rfl (by first | exact Or.inl rfl | exact Or.inr rfl))) (fun _ _ _ _ _ => pts_nil) (fun _ _ _ _ _ => (pe_ix (show IxR _ (rIxT K) from ix_tup) (pv 10) pe_int (fun _ _ => rfl)))) pa_nil)) (nomark _))
  (pss_one (ps_ret pe_bl))
  pss_nil)
  (pss_cons (ps_for PassesOwn.never rfl (pi_list (pv 2)) (pg_name (i := 8) sc_holds.nd rfl (by first | exact Or.inl rfl | exact Or.inr rfl))
  (pss_cons (ps_set (i := 9) sc_holds.nd rfl (by first | exact Or.inl rfl | exact Or.inr rfl) (pe_callB (cr_sum rfl) rfl E.n_sum (by decide +kernel) (pa_cons (pe_lc (own := [("_law_pair", 10)]) rfl sc_holds.nd (pi_list (pv 6)) (blkOk_by (N := N_holds) (sc := defScope s_holds) (by decide +kernel)) (fun _ _ _ _ _ => (pg_name (i := 10) sc_holds.nd rfl (by first | exact Or.inl rfl | exact Or.inr rfl))) (fun _ _ _ _ _ => pts_one (pt_cmpR op_eq (pe_ix (show IxR _ (rIxT K) from ix_tup) (pv 10) pe_int (fun _ _ => rfl)) (pv 8) (nomark _))) (fun _ _ _ _ _ => (pe_ix (show IxR _ (rIxT K) from ix_tup) (pv 10) pe_int (fun _ _ => rfl)))) pa_nil)))
  (pss_one (ps_if (pt_not (pt_chain op_le op_le (pe_meth (pv 7) E.cl E.me_d_least G_d_least (hr.mono (by decide)) E.D_d_least.b .nil passL (pa_cons (pv 8) pa_nil)) (pv 9) (pe_meth (pv 7) E.cl E.me_d_most G_d_most (hr.mono (by decide)) E.D_d_most.b .nil passL (pa_cons (pv 8) pa_nil))))
  (pss_one (ps_ret pe_bl))
  pss_nil))))
  (pss_one (ps_ret (pe_cmpR op_le (pe_op op_add (pe_callB (cr_sumV rfl) rfl E.n_sum (by decide +kernel) (pa_cons (pe_bm0 PySem.F.plainAttrs_dict PySem.F.slot_dict_values PySem.F.type_dict_values mt_values (pe_meth0 (pv 7) E.cl E.me_d_shown G_d_shown (hr.mono (by decide)) E.D_d_shown.b .nil pass0)) pa_nil)) (pe_op op_mul (pe_op op_add (pe_meth0 (pv 7) E.cl E.me_d_drawers G_d_drawers (hr.mono (by decide)) E.D_d_drawers.b .nil pass0) pe_int) (pe_meth0 (pv 7) E.cl E.me_d_lost G_d_lost (hr.mono (by decide)) E.D_d_lost.b .nil pass0))) (pe_meth0 (pv 7) E.cl E.me_d_weight G_d_weight (hr.mono (by decide)) E.D_d_weight.b .nil pass0) (nomark _))))))))))), ?_⟩
    refine ⟨_, rfl, q, dx, _, rfl, hq, rfl, q, _, k, pc, mx, _, _, _, rfl, LA, glen, ?_⟩
    rw [List.length_map]
    generalize gs.length * pc + cur.length = r at e1 e2 e3 e4 ⊢
    have m1 : (pc : Int) * ((mx : Int) + 1) = ((pc * (mx + 1) : Nat) : Int) := by simp
    have m2 : (pc : Int) * (mx : Int) = ((pc * mx : Nat) : Int) := by simp
    have ll : (ts.map V.ref).length = l.length := by rw [List.length_map, ltl]
    refine ⟨_, rfl, _, rfl, cl, _, rfl, .inl (SqL.of hcl), _, _, rfl, rfl, _, rfl, iteF' (decide_eq_false (by rw [ll]; omega)) ⟨_, rfl, _, rfl, _, rfl, _, _, rfl, rfl, _, _, rfl, rfl, .inl (by omega), _, _, rfl, rfl, _, rfl, iteF' (decide_eq_false (by rw [m1]; omega)) ?_⟩⟩
    refine ⟨fun σ H' => H' = H ∧ σ = [some (.ref q), some (.ref cl), some (.ref nlp), some (.int (pc : Int)), some (.int (mx : Int)), some (.int (r : Int)), none, none, none, none, none], ?_, ?_⟩
    · by_cases c : r = l.length
      · refine ⟨_, rfl, _, rfl, cl, _, rfl, .inl (SqL.of hcl), rfl, _, rfl, iteF' (ne_eq (congrArg V.int (by rw [ll]; omega))) (iteF ⟨rfl, rfl⟩)⟩
      · refine ⟨_, rfl, _, rfl, cl, _, rfl, .inl (SqL.of hcl), rfl, _, rfl, iteT' (ne_true fun z => c (by have := V.int.inj z; omega)) ?_⟩
        have h4 := e4 c
        exact ⟨_, rfl, _, rfl, _, rfl, _, _, rfl, rfl, .inl (by omega), _, _, rfl, rfl, _, rfl, iteF' (decide_eq_false (by rw [m2]; omega)) ⟨rfl, rfl⟩⟩
    rintro σ H' ⟨rfl, rfl⟩
    refine ⟨_, rfl, _, rfl, cl, _, rfl, .inl (SqL.of hcl), _, rfl, _, _, rfl, rfl, _, rfl, cl, _, rfl, SqL.of hcl, fun sp hsp => ?_⟩
    rw [ll, show (l.length : Int) - (r : Int) = ((l.length - r : Nat) : Int) by omega, cutV_from, ← List.map_drop]
    have prs := paired_drop (l.length - r) hP
    rw [e2] at prs
    have s1 := Same.new (H := H') (o := .lst ((ts.drop (l.length - r)).map V.ref)) hsp
    have hL1 : (upd H' sp (.lst ((ts.drop (l.length - r)).map V.ref))) sp = some (.lst ((ts.drop (l.length - r)).map V.ref)) := upd_same
    have t63 : (ts.drop (l.length - r)).length ≤ 63 := by rw [List.length_drop]; omega
    show gName 6 _ _ (upd H' sp (.lst ((ts.drop (l.length - r)).map V.ref))) _
    generalize upd H' sp (.lst ((ts.drop (l.length - r)).map V.ref)) = H1 at s1 hL1 ⊢
    generalize ts.drop (l.length - r) = us at prs hL1 t63
    have good : ∀ g ∈ gs ++ [cur], GoodP g := fun g hg => by
      rcases List.mem_append.mp hg with h | h
      · exact R.good g h
      · rw [List.mem_singleton.mp h]; exact R.goodc
    have eF : (gs ++ [cur]).map (stM k) = gs.map (stM k) ++ [stM k cur] := List.map_append
    have oks := R.ok (k := k) (by omega)
    have ot := toldM_ok _ oks
    have nt : Ns (keys (toldM k ((gs ++ [cur]).map (stM k))).l) := toldM_ns _ R.ns
    obtain ⟨tr, B, etr⟩ := told_hd (k := k) (by omega) _ good
    have ett := told_t (k := k) (gs ++ [cur])
    rw [eF] at oks ot nt B ett
    generalize (gs ++ [cur]).flatten = kp at prs etr ett
    have ul : us.length = kp.length := paired_len prs
    have LA1 := LA.same s1
    obtain ⟨dx1, f1, b1, hq1⟩ := LA1.at_
    refine ⟨_, rfl, q, dx1, _, rfl, hq1, rfl, q, _, k, pc, mx, _, _, _, rfl, LA1, oks, k1, k2, glen, fun p d H2 hp hd s2 D => ?_⟩
    generalize toldM k (gs.map (stM k) ++ [stM k cur]) = s at D ot nt B ett
    have s02 := Same.trans s1 s2
    have l50 : s.l.length ≤ 50 := Nat.le_trans ot.len k2
    have prs2 := pairs_same s02 prs
    have hL2 := s2 _ _ hL1
    have hN2 := s02 _ _ hN
    clear s1 s2 prs hL1 LA1 hq1 hcl hP hsp hN hq LA hp hd
    refine ⟨fun σ H' => Same H2 H' ∧ σ = [some (.ref q), some (.ref cl), some (.ref nlp), some (.int (pc : Int)), some (.int (mx : Int)), some (.int (r : Int)), some (.ref sp), some (.ref p), none, none, none], ?_, ?_⟩
    · obtain ⟨⟨dxp, h1⟩, h2⟩ := id D
      refine ⟨_, rfl, p, dxp, _, rfl, h1, rfl, p, d, k, s, rfl, D, ?_⟩
      refine ⟨_, rfl, sp, rfl, ⟨_, SqL.of hL2⟩, fun F hF => ?_⟩
      refine lc_list (K := K) (a := sp) (xs := us.map V.ref) (fun i H' => Same H2 H' ∧ H' F = some (.lst (((kp.take i).map (·.2)).map V.int))) ⟨Same.new hF, upd_same⟩ (fun i H' _ h => SqL.of (h.1 _ _ hL2)) ?_ ?_
      · rintro i x H' hx ⟨s3, h3⟩
        rw [List.getElem?_map] at hx
        obtain ⟨z, hz, rfl⟩ := Option.map_eq_some_iff.mp hx
        obtain ⟨nw, hnw, rz⟩ := paired_at prs2 hz
        have ik : i < kp.length := (List.getElem?_eq_some_iff.mp hnw).1
        refine ⟨rfl, tyes (iteT ⟨_, rfl, z, _, _, _, rfl, rfl, SqT.of (s3 _ _ rz), rfl, _, h3, ?_, Same.mut s3 hF, ?_⟩)⟩
        · rw [List.length_map, List.length_map, List.length_take]
          exact Nat.lt_of_lt_of_le (by omega : _ < 1000) (by decide)
        · rw [upd_same, take_snoc hnw, List.map_append, List.map_append]
          rfl
      · rintro H3 ⟨s3, h3⟩
        rw [List.length_map, ul, List.take_of_length_le (Nat.le_refl _)] at h3
        refine ⟨F, _, rfl, SqL.of h3, rfl, _, rfl, iteF' (ne_eq (congrArg V.int ett)) ⟨s3, rfl⟩⟩
    rintro σ H3 ⟨s3, rfl⟩
    refine ⟨_, rfl, nlp, rfl, ⟨_, SqL.of (s3 _ _ hN2)⟩, for_list (K := K) (a := nlp) (xs := nl.map V.str) (fun i σ H' => Same H2 H' ∧ ∃ o8 o9, σ = [some (.ref q), some (.ref cl), some (.ref nlp), some (.int (pc : Int)), some (.int (mx : Int)), some (.int (r : Int)), some (.ref sp), some (.ref p), o8, o9, none])
      ⟨s3, _, _, rfl⟩ (fun i σ H' _ h => SqL.of (h.1 _ _ hN2)) ?_ ?_⟩
    · clear s3
      rintro i x σ H3 hx ⟨s3, o8, o9, rfl⟩
      obtain ⟨n, hn, rfl⟩ := str_at hx
      have hno := hok n hn
      have nlen : n.length ≤ 1000 := by have := nmOk_len hno; omega
      have hL3 := s3 _ _ hL2
      have prs3 := pairs_same s3 prs2
      refine ⟨_, rfl, sp, rfl, ⟨_, SqL.of hL3⟩, fun F hF => ?_⟩
      let f : Str × Int → Bool := fun q => decide (q.1 = n)
      refine lc_list (K := K) (a := sp) (xs := us.map V.ref) (fun i H' => Same H3 H' ∧ H' F = some (.lst ((((kp.take i).filter f).map (·.2)).map V.int))) ⟨Same.new hF, upd_same⟩ (fun i H' _ h => SqL.of (h.1 _ _ hL3)) ?_ ?_
      · rintro i x H' hx ⟨s4, h4⟩
        rw [List.getElem?_map] at hx
        obtain ⟨z, hz, rfl⟩ := Option.map_eq_some_iff.mp hx
        obtain ⟨nw, hnw, rz⟩ := paired_at prs3 hz
        have rz := s4 _ _ rz
        have ik : i < kp.length := (List.getElem?_eq_some_iff.mp hnw).1
        have ef : (kp.take (i + 1)).filter f = if f nw = true then (kp.take i).filter f ++ [nw] else (kp.take i).filter f := by rw [take_snoc hnw, filter_snoc]
        refine ⟨rfl, _, rfl, z, _, _, _, rfl, rfl, SqT.of rz, rfl, _, rfl, rfl, _, rfl, ?_⟩
        by_cases e : nw.1 = n
        · refine iteT' (decide_eq_true (by rw [e])) ?_
          rw [if_pos (show f nw = true from decide_eq_true e)] at ef
          refine ⟨_, rfl, z, _, _, _, rfl, rfl, SqT.of rz, rfl, _, h4, ?_, Same.mut s4 hF, ?_⟩
          · rw [List.length_map, List.length_map]
            refine sz50 (Nat.le_trans (List.length_filter_le _ _) ?_)
            rw [List.length_take]
            omega
          · rw [upd_same, ef, List.map_append, List.map_append]
            rfl
        · refine iteF' (decide_eq_false (fun z => e (V.str.inj z))) ?_
          rw [if_neg (show ¬ f nw = true from fun z => e (of_decide_eq_true z))] at ef
          exact ⟨s4, by rw [ef]; exact h4⟩
      · rintro H4 ⟨s4, h4⟩
        rw [List.length_map, ul, List.take_of_length_le (Nat.le_refl _)] at h4
        have s34 := Same.trans s3 s4
        have D4 := D.same s34
        obtain ⟨⟨dx4, g1⟩, g2⟩ := id D4
        have ew : ((kp.filter f).map (·.2)).sum = (lk tr n).getD 0 := (etr n).symm
        refine ⟨F, _, rfl, SqL.of h4, ?_⟩
        rw [ew]
        refine ⟨_, rfl, p, dx4, _, rfl, g1, rfl, _, rfl, p, d, k, s, _, rfl, D4, ⟨_, .str _⟩, fun z e => (by rw [← V.str.inj e]; exact nlen), fun n' e' _ => ?_, fun z => (by rw [show isNm (V.str n) = nmOk n from rfl, hno] at z; cases z)⟩
        obtain rfl := V.str.inj e'
        refine ⟨_, rfl, _, _, rfl, rfl, _, rfl, ?_⟩
        rw [decide_eq_true (B.lo n)]
        refine iteT ?_
        refine ⟨_, rfl, p, dx4, _, rfl, g1, rfl, _, rfl, p, d, k, s, _, rfl, D4, ⟨_, .str _⟩, fun z e => (by rw [← V.str.inj e]; exact nlen), fun n' e' _ => ?_, fun z => (by rw [show isNm (V.str n) = nmOk n from rfl, hno] at z; cases z)⟩
        obtain rfl := V.str.inj e'
        refine ⟨_, _, rfl, rfl, _, rfl, ?_⟩
        rw [decide_eq_true (B.hi n)]
        exact iteF ⟨s34, _, _, rfl⟩
    · clear s3
      rintro σ H3 ⟨s3, o8, o9, rfl⟩
      have D3 := D.same s3
      obtain ⟨⟨dx3, h1⟩, h2⟩ := id D3
      refine ⟨_, rfl, p, dx3, _, rfl, h1, rfl, p, d, k, s, rfl, D3, ot.nd, l50, fun e H4 he s4 hE => ?_⟩
      refine ⟨.inr (.inr (.inl ⟨rfl, .inl ⟨_, hE⟩⟩)), e, _, rfl, rfl, hE, fun vx hvx => ⟨vx, e, _, _, rfl, upd_same, by rw [L2.upd_ne (ne_of_none hE hvx)]; exact hE, enc_vals _, ?_⟩⟩
      rw [show ((srt s.l).map (·.2)).sum = tot s.l from tot_perm (srt_perm _)]
      have s5 : Same H3 (upd H4 vx (vwO "dict_values" vx e)) := Same.trans s4 (Same.new hvx)
      generalize upd H4 vx (vwO "dict_values" vx e) = H5 at s5
      have h15 := s5 _ _ h1
      have D5 := D3.same s5
      have hs := B.sum
      refine ⟨_, rfl, p, dx3, _, rfl, h15, rfl, p, d, k, s, rfl, D5, _, _, rfl, rfl, _, rfl, p, dx3, _, rfl, h15, rfl, p, d, k, s, rfl, D5, _, _, rfl, rfl, .inl (by omega), _, _, rfl, rfl, _, rfl, p, dx3, _, rfl, h15, rfl, p, d, k, s, rfl, D5, _, _, rfl, rfl, ?_⟩
      show Q (V.bl (decide (tot s.l + ((k : Int) + 1) * s.g ≤ s.t))) H5
      rw [decide_eq_true hs]
      exact qq _ (Same.trans s02 (Same.trans s3 s5))
/-- fresh ones are of this part -/
def rt (tg : Addr → Nat) (H : Hp) (i : Nat) : Addr → Nat := fun a => if H a = none then i else tg a
theorem rt_new {tg : Addr → Nat} {H : Hp} {i : Nat} {a : Addr} (h : H a = none) : rt tg H i a = i := if_pos h
theorem rt_old {tg : Addr → Nat} {H : Hp} {i : Nat} {a : Addr} {o : HO} (h : H a = some o) : rt tg H i a = tg a := if_neg (by rw [h]; intro z; cases z)
theorem rt_or {tg : Addr → Nat} {H : Hp} {i : Nat} {a : Addr} (h : tg a = i ∨ H a = none) : rt tg H i a = i := by
  unfold rt
  by_cases c : H a = none
  · rw [if_pos c]
  · rw [if_neg c]
    rcases h with h | h
    · exact h
    · exact absurd h c
structure J11 (E : EnvD K mg) (H0 : Hp) (nlp q cl : Addr) (nl : List Str) (k pc mx : Nat) (tg : Addr → Nat) (ts : List Addr) (l : Dk) (fs : List DS) (s : DS) (j : Nat) (H : Hp) : Prop where
  same : Same H0 H
  old : ∀ a o, H0 a = some o → tg a = 0
  nm : H nlp = some (.lst (nl.map V.str))
  nt : tg nlp = 0
  A : LatAt E H (fun a => tg a = 1) q k pc mx fs s j
  L : H cl = some (.lst (ts.map V.ref))
  P : pairs H ts l
  ct : tg cl = 2
  tt : ∀ t ∈ ts, tg t = 2
section
variable {E : EnvD K mg} {H0 H H' : Hp} {nlp q cl : Addr} {nl : List Str} {k pc mx : Nat} {tg : Addr → Nat} {ts : List Addr} {l : Dk} {fs : List DS} {s : DS} {j : Nat}
theorem J11.mono (J : J11 E H0 nlp q cl nl k pc mx tg ts l fs s j H) (e : Same H H') : J11 E H0 nlp q cl nl k pc mx tg ts l fs s j H' :=
  ⟨Same.trans J.same e, J.old, e _ _ J.nm, J.nt, J.A.same e, e _ _ J.L, pairs_same e J.P, J.ct, J.tt⟩
theorem pairs_mem {H : Hp} : ∀ {ts : List Addr} {l : Dk}, pairs H ts l → ∀ t ∈ ts, ∃ o, H t = some o
  | _, _, .nil, t, ht => nomatch ht
  | _, _, .cons a b, t, ht => by
    rcases List.mem_cons.mp ht with rfl | ht
    · exact ⟨_, a⟩
    · exact pairs_mem b t ht
theorem pairs_keepO {H H' : Hp} {O : Addr → Prop} (h : ∀ (b : Addr) (xs : List V), O b → H b = some (.tup xs) → H' b = some (.tup xs)) : ∀ {ts : List Addr} {l : Dk}, (∀ t ∈ ts, O t) → pairs H ts l → pairs H' ts l
  | _, _, _, .nil => .nil
  | _, _, o, .cons a b => .cons (h _ _ (o _ List.mem_cons_self) a) (pairs_keepO h (fun t ht => o t (List.mem_cons_of_mem _ ht)) b)
theorem J11.set1 (J : J11 E H0 nlp q cl nl k pc mx tg ts l fs s j H) {fs' : List DS} {s' : DS} {j' : Nat} (A : LatAt E H' (fun a => tg a = 1 ∨ H a = none) q k pc mx fs' s' j') (fr : ∀ a o, H a = some o → ¬ tg a = 1 → H' a = some o) : J11 E H0 nlp q cl nl k pc mx (rt tg H 1) ts l fs' s' j' H' := by
  have f : ∀ i, i ≠ 1 → ∀ a o, tg a = i → H a = some o → H' a = some o := fun i hi a o t h => fr a o h fun z => hi (by rw [← t, z])
  refine ⟨fun a o h => f 0 (by decide) a o (J.old _ _ h) (J.same _ _ h), fun a o h => (rt_old (J.same _ _ h)).trans (J.old _ _ h), f 0 (by decide) _ _ J.nt J.nm, (rt_old J.nm).trans J.nt, A.keep (fun _ _ _ h => h) fun a o t _ => rt_or t, f 2 (by decide) _ _ J.ct J.L,
    pairs_keepO (fun b xs t h => f 2 (by decide) b _ t h) J.tt J.P, (rt_old J.L).trans J.ct, fun t ht => ?_⟩
  obtain ⟨o, ho⟩ := pairs_mem J.P t ht
  exact (rt_old ho).trans (J.tt t ht)
theorem J11.app (J : J11 E H0 nlp q cl nl k pc mx tg ts l fs s j H) {T : Addr} {n : Str} {w : Int} (hT : H T = none) : J11 E H0 nlp q cl nl k pc mx (rt tg H 2) (ts ++ [T]) (l ++ [(n, w)]) fs s j (upd (upd H T (.tup [.str n, .int w])) cl (.lst (ts.map V.ref ++ [V.ref T]))) := by
  have f : ∀ a o, H a = some o → a ≠ cl → (upd (upd H T (.tup [.str n, .int w])) cl (.lst (ts.map V.ref ++ [V.ref T]))) a = some o := fun a o h hc => by rw [upd_ne hc, upd_ne (ne_of_none h hT)]; exact h
  have cT : T ≠ cl := (ne_of_none J.L hT).symm
  have g : ∀ i, i ≠ 2 → ∀ a o, tg a = i → H a = some o → (upd (upd H T (.tup [.str n, .int w])) cl (.lst (ts.map V.ref ++ [V.ref T]))) a = some o := fun i hi a o t h => f a o h fun z => hi (by rw [← t, z]; exact J.ct)
  refine ⟨fun a o h => g 0 (by decide) a o (J.old _ _ h) (J.same _ _ h), fun a o h => (rt_old (J.same _ _ h)).trans (J.old _ _ h), g 0 (by decide) _ _ J.nt J.nm, (rt_old J.nm).trans J.nt, J.A.keep (g 1 (by decide)) fun a o t h => (rt_old h).trans t, by rw [upd_same, List.map_append]; rfl, ?_, (rt_old J.L).trans J.ct, fun t ht => ?_⟩
  · exact paired_append (pairs_keepO (O := fun _ => True) (fun b xs _ hb => f b _ hb (ne_of hb J.L (by intro z; cases z))) (fun _ _ => trivial) J.P) (.cons (by rw [upd_ne cT, upd_same]) .nil)
  · rcases List.mem_append.mp ht with h | h
    · obtain ⟨o, ho⟩ := pairs_mem J.P t h
      exact (rt_old ho).trans (J.tt t h)
    · rw [List.mem_singleton.mp h]; exact rt_new hT
end
theorem cutV_ints (ns : List Int) (lo hi : Option Int) : ∃ ms : List Int, cutV (ns.map V.int) lo hi = ms.map V.int := by
  unfold cutV
  exact ⟨_, by rw [← List.map_drop, ← List.map_take]⟩
theorem nat_of {i : Int} (h : 0 ≤ i) : ∃ n : Nat, i = (n : Int) := ⟨i.toNat, by omega⟩
theorem ok_law (E : EnvD K mg) : FnOk P w K mg base CX0 10 E.D_law.a E.D_law.fd P_law (spLaw K) := by
  have G_names : FnOk P w K mg base CX0 2 E.D_names.a E.D_names.fd P_names (sp_names (K := K)) := ok_names E
  have G_drawers : FnOk P w K mg base CX0 2 E.D_drawers.a E.D_drawers.fd P_drawers (sp_drawers (K := K)) := ok_drawers E
  have G_coming : FnOk P w K mg base CX0 2 E.D_coming.a E.D_coming.fd P_coming (sp_coming (K := K)) := ok_coming E
  have G_mixed : FnOk P w K mg base CX0 1 E.D_mixed.a E.D_mixed.fd P_mixed sp_mixed := ok_mixed E
  have G_word : FnOk P w K mg base CX0 1 E.D_word.a E.D_word.fd P_word (sp_word E) := ok_word E
  have G_made : FnOk P w K mg base CX0 7 E.D_made.a E.D_made.fd P_made (sp_made E) := ok_made E
  have G_come_refused : FnOk P w K mg base CX0 7 E.D_come_refused.a E.D_come_refused.fd P_come_refused (sp_come_refused E) := ok_come_refused E
  have G_holds : FnOk P w K mg base CX0 9 E.D_holds.a E.D_holds.fd P_holds (sp_holds E) := ok_holds E
  have G_l_init : FnOk P w K mg base (L2.CX P w) 5 E.D_l_init.a E.D_l_init.fd P_l_init (sp_l_init E) := ok_l_init E
  have G_l_come : FnOk P w K mg base (L2.CX P w) 6 E.D_l_come.a E.D_l_come.fd P_l_come (sp_l_come E) := ok_l_come E
  refine E.D_law.F.ok sc_law (fun vs H Q Ex h => ?_) (fun cdv A outer s0 H vs Q Ex hr h => ?_)
  · obtain ⟨a, ns, rfl, _⟩ := h
    rfl
  · obtain ⟨a, ns, rfl, hS, hlen, q⟩ := h
    refine ⟨_, (pss_cons (ps_set (i := 1) sc_law.nd rfl (by first | exact Or.inl rfl | exact Or.inr rfl) (pe_call G_names (hr.mono (by decide)) rfl E.m_names E.D_names.F.kp E.D_names.b .nil pass0 (pa_cons (pv 0) pa_nil)))
  (pss_cons (ps_set (i := 2) sc_law.nd rfl (by first | exact Or.inl rfl | exact Or.inr rfl) (pe_call G_drawers (hr.mono (by decide)) rfl E.m_drawers E.D_drawers.F.kp E.D_drawers.b .nil pass0 (pa_cons (pv 0) pa_nil)))
  (pss_cons (ps_set (i := 3) sc_law.nd rfl (by first | exact Or.inl rfl | exact Or.inr rfl) (pe_call G_mixed (hr.mono (by decide)) rfl E.m_mixed E.D_mixed.F.kp E.D_mixed.b .nil pass0 (pa_cons (pe_op op_add (pe_callB call_len_seq rfl E.n_len (by decide +kernel) (pa_cons (pv 0) pa_nil)) (pe_callB (cr_sum rfl) rfl E.n_sum (by decide +kernel) (pa_cons (pe_slice sl_list (pv 0) po_none (po_some pe_int)) pa_nil))) (pa_cons pe_int pa_nil))))
  (pss_cons (ps_set (i := 4) sc_law.nd rfl (by first | exact Or.inl rfl | exact Or.inr rfl) (pe_op op_add pe_int (pe_op op_mod (pv 3) pe_int)))
  (pss_cons (ps_set (i := 5) sc_law.nd rfl (by first | exact Or.inl rfl | exact Or.inr rfl) (pe_op op_add pe_int (pe_op op_mod (pe_op op_fdiv (pv 3) pe_int) pe_int)))
  (pss_cons (ps_set (i := 6) sc_law.nd rfl (by first | exact Or.inl rfl | exact Or.inr rfl) (pe_make E.mkL G_l_init (hr.mono (by decide)) rfl E.g_Lately E.D_l_init.b .nil passL (pa_cons (pv 2) (pa_cons (pv 4) (pa_cons (pv 5) pa_nil)))))
  (pss_cons (ps_set (i := 7) sc_law.nd rfl (by first | exact Or.inl rfl | exact Or.inr rfl) (pe_lst pa_nil))
  (pss_cons (ps_for PassesOwn.never rfl (pi_enum (by rfl) E.n_enumerate (pa_cons (pv 0) pa_nil)) (pg_tup rfl (pgs_cons (pg_name (i := 8) sc_law.nd rfl (by first | exact Or.inl rfl | exact Or.inr rfl)) (pgs_cons (pg_name (i := 9) sc_law.nd rfl (by first | exact Or.inl rfl | exact Or.inr rfl)) pgs_nil)))
  (pss_cons (ps_asg (pe_call G_coming (hr.mono (by decide)) rfl E.m_coming E.D_coming.F.kp E.D_coming.b .nil pass0 (pa_cons (pv 1) (pa_cons (pv 9) (pa_cons (pv 8) pa_nil)))) (pg_tup rfl (pgs_cons (pg_name (i := 11) sc_law.nd rfl (by first | exact Or.inl rfl | exact Or.inr rfl)) (pgs_cons (pg_name (i := 12) sc_law.nd rfl (by first | exact Or.inl rfl | exact Or.inr rfl)) pgs_nil))))
  (pss_cons (ps_expr (pe_meth (pv 6) E.clL E.me_l_come G_l_come (hr.mono (by decide)) E.D_l_come.b .nil passL (pa_cons (pv 11) (pa_cons (pv 12) pa_nil))))
  (pss_cons (ps_expr (pe_bm PySem.F.plainAttrs_list PySem.F.slot_list_append PySem.F.type_list_append mt_append (pv 7) (pa_cons (pe_tup (pa_cons (pv 11) (pa_cons (pv 12) pa_nil))) pa_nil)))
  (pss_cons (ps_set (i := 13) sc_law.nd rfl (by first | exact Or.inl rfl | exact Or.inr rfl) (pe_ix ix_list (pe_lst (pa_cons (pe_tup (pa_cons pe_str (pa_cons pe_int pa_nil))) (pa_cons (pe_tup (pa_cons (pv 11) (pa_cons pe_int pa_nil))) (pa_cons (pe_tup (pa_cons pe_non (pa_cons pe_int pa_nil))) (pa_cons (pe_tup (pa_cons (pv 11) (pa_cons pe_bl pa_nil))) pa_nil))))) (pe_op op_mod (pv 8) pe_int) (fun _ _ => rfl)))
  (Evl.pss_cut (ps_if (pt_cmpR op_eq (pe_op op_mod (pv 8) pe_int) pe_int (nomark _))
  (pss_cons (ps_set (i := 14) sc_law.nd rfl (by first | exact Or.inl rfl | exact Or.inr rfl) (pe_ix ix_list (pe_lst (pa_cons pe_str (pa_cons pe_str (pa_cons pe_str (pa_cons pe_str pa_nil))))) (pe_op op_mod (pv 8) pe_int) (fun _ _ => rfl)))
  (pss_one (ps_if (pt_cmpR op_ne (pe_call G_word (hr.mono (by decide)) rfl E.m_word E.D_word.F.kp E.D_word.b .nil pass0 (pa_cons (pe_call G_come_refused (hr.mono (by decide)) rfl E.m_come_refused E.D_come_refused.F.kp E.D_come_refused.b .nil pass0 (pa_cons (pv 6) (pa_cons (pe_ix ix_tup (pv 13) pe_int (fun _ _ => rfl)) (pa_cons (pe_ix ix_tup (pv 13) pe_int (fun _ _ => rfl)) pa_nil)))) pa_nil)) (pv 14) (nomark _))
  (pss_one (ps_ret pe_bl))
  pss_nil)))
  pss_nil)
  (pss_one (ps_if (pt_not (pt_val (pe_call G_holds (hr.mono (by decide)) rfl E.m_holds E.D_holds.F.kp E.D_holds.b .nil pass0 (pa_cons (pv 6) (pa_cons (pv 7) (pa_cons (pv 1) (pa_cons (pv 4) (pa_cons (pv 5) pa_nil))))))))
  (pss_one (ps_ret pe_bl))
  pss_nil))))))))
  (pss_cons (ps_set (i := 10) sc_law.nd rfl (by first | exact Or.inl rfl | exact Or.inr rfl) (pe_ix ix_list (pe_lst (pa_cons pe_int (pa_cons pe_int (pa_cons pe_bl (pa_cons pe_non (pa_cons (pe_un un_neg pe_int) pa_nil)))))) (pe_op op_mod (pe_op op_fdiv (pv 3) pe_int) pe_int) (fun _ _ => rfl)))
  (pss_cons (ps_if (PW.pt (pw_or (pt_cmpR op_ne (pe_call G_made (hr.mono (by decide)) rfl E.m_made E.D_made.F.kp E.D_made.b .nil pass0 (pa_cons pe_int (pa_cons (pv 10) (pa_cons pe_int pa_nil)))) pe_str (nomark _)) (pw_or1 (pt_cmpR op_ne (pe_call G_made (hr.mono (by decide)) rfl E.m_made E.D_made.F.kp E.D_made.b .nil pass0 (pa_cons (pv 2) (pa_cons (pv 10) (pa_cons (pv 5) pa_nil)))) pe_str (nomark _)))))
  (pss_one (ps_ret pe_bl))
  pss_nil)
  (pss_one (ps_ret (pe_and (pe_cmpR op_eq (pe_call G_made (hr.mono (by decide)) rfl E.m_made E.D_made.F.kp E.D_made.b .nil pass0 (pa_cons (pv 2) (pa_cons (pv 4) (pa_cons (pe_ix ix_list (pe_lst (pa_cons pe_int (pa_cons pe_int (pa_cons pe_bl pa_nil)))) (pe_op op_mod (pe_op op_fdiv (pv 3) pe_int) pe_int) (fun _ _ => rfl)) pa_nil)))) pe_str (nomark _)) (pe_one (pe_cmpR op_eq (pe_call G_made (hr.mono (by decide)) rfl E.m_made E.D_made.F.kp E.D_made.b .nil pass0 (pa_cons pe_int (pa_cons pe_int (pa_cons pe_int pa_nil)))) pe_str (nomark _)))))))))))))))), ?_⟩
    refine ⟨_, rfl, a, ns, rfl, hS, fun nlp H1 nl hnl s1 hL hl14 hok => ?_⟩
    refine ⟨_, rfl, a, ns, rfl, s1.seq hS, fun k H2 k1 k2 s2 => ?_⟩
    have S2 := Same.trans s1 s2
    have hS2 := S2.seq hS
    have nm2 := s2 _ _ hL
    obtain ⟨ms, ems⟩ := cutV_ints ns none (some 3)
    refine ⟨_, rfl, a, _, rfl, .inl hS2, _, rfl, _, rfl, a, _, rfl, hS2, fun u hu => ⟨u, ms, rfl, SqL.of (by rw [upd_same, ems]), _, _, rfl, rfl, _, _, rfl, fun m m0 m1 => ?_⟩⟩
    have s3 : Same H2 (upd H2 u (.lst (cutV (ns.map V.int) none (some 3)))) := Same.new hu
    generalize upd H2 u (.lst (cutV (ns.map V.int) none (some 3))) = H4 at s3 ⊢
    obtain ⟨pc, epc⟩ := nat_of (i := 1 + m % 9) (by omega)
    have pc1 : 1 ≤ pc := by omega
    have pc2 : pc ≤ 1000 := by omega
    obtain ⟨mx, emx⟩ := nat_of (i := 1 + m / 9 % 5) (by omega)
    have mx1 : 1 ≤ mx := by omega
    have mx2 : mx ≤ 50 := by omega
    refine ⟨_, rfl, _, _, rfl, rfl, mp (by decide), _, _, rfl, rfl, ?_⟩
    show gName 4 (V.int (1 + m % 9)) _ _ _
    rw [epc]
    refine ⟨_, rfl, _, _, rfl, rfl, ⟨by decide, by decide⟩, _, _, rfl, rfl, mp (by decide), _, _, rfl, rfl, ?_⟩
    show gName 5 (V.int (1 + m / 9 % 5)) _ _ _
    rw [emx]
    have SH4 := Same.trans S2 s3
    have nm4 := s3 _ _ nm2
    clear s3 hu hS2 nm2
    refine ⟨_, rfl, _, rfl, _, rfl, fun q1 dx1 hq1 hdx1 hne1 => make_lV E k1 k2 pc1 pc2 mx1 mx2 rfl rfl rfl hq1 hdx1 hne1 fun H5 s5 A1 => ⟨rfl, ?_⟩⟩
    refine ⟨Nat.zero_le _, fun cl hcl => ?_⟩
    have J : J11 E H nlp q1 cl nl k pc mx (rt (rt (fun _ => 0) H4 1) H5 2) [] [] [] ⟨[], 0, 0⟩ 0 (upd H5 cl (.lst [])) := by
      have nm5 := s5 _ _ nm4
      have s6 : Same H5 (upd H5 cl (.lst [])) := Same.new hcl
      refine ⟨Same.trans SH4 (Same.trans s5 s6), fun a o h => ?_, s6 _ _ nm5, by rw [rt_old nm5, rt_old nm4], ?_, upd_same, .nil, rt_new hcl, fun t ht => by simp at ht⟩
      · have h4 := SH4 _ _ h
        rw [rt_old (s5 _ _ h4), rt_old h4]
      · have a5 : LatAt E H5 (fun a => rt (fun _ => 0) H4 1 a = 1) q1 k pc mx [] ⟨[], 0, 0⟩ 0 := A1.keep (fun _ _ _ h => h) fun a o h _ => rt_new h
        exact a5.keep (fun a o _ h => s6 a o h) fun a o t h => (rt_old h).trans t
    show tSeq _ _ _ _ (upd H5 cl (.lst []))
    generalize upd H5 cl (.lst []) = H6 at J ⊢
    generalize rt (rt (fun _ => 0) H4 1) H5 2 = tg at J
    clear A1 s5 nm4 SH4 hcl hq1 hdx1 hne1 hnl s1 s2 hL S2
    refine ⟨_, rfl, a, _, rfl, J.same.seq hS, for_enum (K := K) (a := a) (xs := ns.map V.int) (fun i σ H' => ∃ (tg : Addr → Nat) (ts : List Addr) (l : Dk) (gs : List Dk) (cur : Dk) (o8 o9 o11 o12 o13 o14 : Option V),
      σ = [some (.ref a), some (.ref nlp), some (.int (k : Int)), some (.int m), some (.int (pc : Int)), some (.int (mx : Int)), some (.ref q1), some (.ref cl), o8, o9, none, o11, o12, o13, o14] ∧
      J11 E H nlp q1 cl nl k pc mx tg ts l (gs.map (stM k)) (stM k cur) cur.length H' ∧ Rw k pc mx gs cur ∧ Kp mx l gs cur ∧ l.length = i)
      ⟨tg, [], [], [], [], _, _, _, _, _, _, rfl, J, Rw.nil pc1, Kp.nil mx, rfl⟩ (fun i σ H' ⟨_, _, _, _, _, _, _, _, _, _, _, _, J, _⟩ => J.same.seq hS) ?_ ?_⟩
    · rintro i x T σ H8 hx ⟨tg, ts, l, gs, cur, o8, o9, o11, o12, o13, o14, rfl, J, R, KP, hli⟩ hT
      obtain ⟨y, rfl⟩ := int_at hx
      have hi : i < ns.length := by have := (List.getElem?_eq_some_iff.mp hx).1; rwa [List.length_map] at this
      refine ⟨T, _, rfl, SqT.of upd_same, rfl, _, _, rfl, _, _, rfl, rfl, ?_⟩
      have J := J.mono (Same.new (o := .tup [.int (i : Int), .int y]) hT)
      generalize upd H8 T (.tup [.int (i : Int), .int y]) = H9 at J
      refine ⟨_, rfl, _, rfl, _, rfl, nlp, nl, y, (i : Int), rfl, SqL.of J.nm, hl14, fun u H10 n wt0 hu s10 hU hn w1 w2 => ?_⟩
      have J := J.mono s10
      refine ⟨u, _, rfl, SqT.of hU, rfl, _, _, rfl, _, _, rfl, rfl, ?_⟩
      have hno := hok n hn
      have ok1 := stM_ok (k := k) (by omega) R.goodc
      have len1 : (gs.map (stM k)).length ≤ 100 := by rw [List.length_map]; have := R.le; omega
      obtain ⟨R', eF, eS, eJ⟩ := R.come (k := k) pc1 hno w1 w2
      have KP' := KP.come (n := n) (w := wt0) R mx1
      obtain ⟨dx1, f1, b1, hq1⟩ := J.A.at_
      refine ⟨_, rfl, q1, dx1, _, rfl, hq1, rfl, _, rfl, _, rfl, l_come_at E J.A ok1 k1 k2 len1 hno w1 w2 fun H11 A fr => ?_⟩
      rw [eF, eS, eJ] at A
      have J := J.set1 A fr
      clear A fr hq1 hx hT hU s10 hu eF eS eJ
      have ltl : ts.length = l.length := paired_len J.P
      refine ⟨_, rfl, .inl ⟨rfl, _, SqL.of J.L⟩, _, rfl, _, rfl, by show 2 ≤ sizeLine; decide, fun T2 hT2 => ?_⟩
      refine ⟨cl, ts.map V.ref, _, rfl, rfl, by rw [upd_ne (ne_of_none J.L hT2)]; exact J.L, sz50 (by rw [List.length_map]; omega), ?_⟩
      have J := J.app (n := n) (w := wt0) hT2
      show tSeq _ _ _ _ (upd (upd H11 T2 (.tup [.str n, .int wt0])) cl (.lst (ts.map V.ref ++ [V.ref T2])))
      generalize upd (upd H11 T2 (.tup [.str n, .int wt0])) cl (.lst (ts.map V.ref ++ [V.ref T2])) = H12 at J ⊢
      clear hT2 R KP ok1 len1
      generalize pgG pc mx gs (cur ++ [(n, wt0)]) = gs' at *
      generalize pgC pc (cur ++ [(n, wt0)]) = cur' at *
      refine ⟨by show 2 ≤ sizeLine; decide, fun T0 hT0 => ⟨_, rfl, by show 2 ≤ sizeLine; decide, fun T1 hT1 => ⟨by show 2 ≤ sizeLine; decide, fun T2 hT2 => ⟨_, rfl, by show 2 ≤ sizeLine; decide, fun T3 hT3 => ⟨by show 4 ≤ sizeLine; decide, fun L hL => ?_⟩⟩⟩⟩⟩
      have r0 := Same.new (H := H12) (o := .tup [.str "a1", .int 0]) hT0
      have x0 : (upd H12 T0 (.tup [.str "a1", .int 0])) T0 = some (.tup [.str "a1", .int 0]) := upd_same
      generalize upd H12 T0 (.tup [.str "a1", .int 0]) = H13 at *
      have r1 := Same.new (H := H13) (o := .tup [.str n, .int 0]) hT1
      have x1 : (upd H13 T1 (.tup [.str n, .int 0])) T1 = some (.tup [.str n, .int 0]) := upd_same
      generalize upd H13 T1 (.tup [.str n, .int 0]) = H14 at *
      have r2 := Same.new (H := H14) (o := .tup [.non, .int 1]) hT2
      have x2 : (upd H14 T2 (.tup [.non, .int 1])) T2 = some (.tup [.non, .int 1]) := upd_same
      generalize upd H14 T2 (.tup [.non, .int 1]) = H15 at *
      have r3 := Same.new (H := H15) (o := .tup [.str n, .bl true]) hT3
      have x3 : (upd H15 T3 (.tup [.str n, .bl true])) T3 = some (.tup [.str n, .bl true]) := upd_same
      generalize upd H15 T3 (.tup [.str n, .bl true]) = H16 at *
      have r4 := Same.new (H := H16) (o := .lst [.ref T0, .ref T1, .ref T2, .ref T3]) hL
      have x4 : (upd H16 L (.lst [.ref T0, .ref T1, .ref T2, .ref T3])) L = some (.lst [.ref T0, .ref T1, .ref T2, .ref T3]) := upd_same
      generalize upd H16 L (.lst [.ref T0, .ref T1, .ref T2, .ref T3]) = H17 at *
      have J := J.mono (Same.trans r0 (Same.trans r1 (Same.trans r2 (Same.trans r3 r4))))
      obtain ⟨Tj, v, x, dw, hat, hTj, hdw, tv, lv, tx, hbad⟩ : ∃ (Tj : Addr) (v x : V) (dw : Str), atI [V.ref T0, .ref T1, .ref T2, .ref T3] ((i : Int) % 4) = some (.ref Tj) ∧ H17 Tj = some (.tup [v, x]) ∧ atI [V.str "name", .str "weight", .str "name", .str "weight"] ((i : Int) % 4) = some (.str dw) ∧
          (∀ H' : Hp, ∃ T, TyB K H' v T) ∧ (∀ z, v = .str z → z.length ≤ 1000) ∧ (∀ H' : Hp, ∃ T, TyB K H' x T) ∧ ((isNm v = false ∧ dw = "name") ∨ (isNm v = true ∧ isNum x (10 ^ 60) = false ∧ dw = "weight")) := by
        have h : (i : Int) % 4 = 0 ∨ (i : Int) % 4 = 1 ∨ (i : Int) % 4 = 2 ∨ (i : Int) % 4 = 3 := by omega
        have ln : ∀ z, V.str n = .str z → z.length ≤ 1000 := fun z e => by rw [← V.str.inj e]; have := nmOk_len hno; omega
        rcases h with h | h | h | h <;> rw [h]
        · exact ⟨T0, .str "a1", .int 0, "name", rfl, r4 _ _ (r3 _ _ (r2 _ _ (r1 _ _ x0))), rfl, fun _ => ⟨_, .str _⟩, fun z e => (by rw [← V.str.inj e]; decide), fun _ => ⟨_, .int _⟩, .inl ⟨by decide +kernel, rfl⟩⟩
        · exact ⟨T1, .str n, .int 0, "weight", rfl, r4 _ _ (r3 _ _ (r2 _ _ x1)), rfl, fun _ => ⟨_, .str _⟩, ln, fun _ => ⟨_, .int _⟩, .inr ⟨hno, rfl, rfl⟩⟩
        · exact ⟨T2, .non, .int 1, "name", rfl, r4 _ _ (r3 _ _ x2), rfl, fun _ => ⟨_, .non⟩, fun z e => (by cases e), fun _ => ⟨_, .int _⟩, .inl ⟨rfl, rfl⟩⟩
        · exact ⟨T3, .str n, .bl true, "weight", rfl, r4 _ _ x3, rfl, fun _ => ⟨_, .str _⟩, ln, fun _ => ⟨_, .bl _⟩, .inr ⟨hno, rfl, rfl⟩⟩
      refine ⟨_, rfl, _, _, rfl, rfl, mp (by decide), L, _, _, _, rfl, rfl, SqL.of x4, hat, ?_⟩
      clear r0 r1 r2 r3 r4 x0 x1 x2 x3 x4 hT0 hT1 hT2 hT3 hL hat
      have J0 := J
      refine ⟨fun σ H' => (∃ o13 o14, σ = [some (.ref a), some (.ref nlp), some (.int (k : Int)), some (.int m), some (.int (pc : Int)), some (.int (mx : Int)), some (.ref q1), some (.ref cl), some (.int (i : Int)), some (.int y), none, some (.str n), some (.int wt0), o13, o14]) ∧ Same H17 H', ?_, ?_⟩
      · refine ⟨_, rfl, _, _, rfl, rfl, mp (by decide), rfl, _, rfl, ?_⟩
        by_cases e3 : (i : Int) % 3 = 1
        · refine iteT' (decide_eq_true (congrArg V.int e3)) ?_
          refine ⟨by show 4 ≤ sizeLine; decide, fun L2 hL2 => ⟨_, rfl, _, _, rfl, rfl, mp (by decide), L2, _, _, _, rfl, rfl, SqL.of upd_same, hdw, ?_⟩⟩
          have r5 := Same.new (H := H17) (o := .lst [.str "name", .str "weight", .str "name", .str "weight"]) hL2
          show gName 14 _ _ (upd H17 L2 (.lst [.str "name", .str "weight", .str "name", .str "weight"])) _
          generalize upd H17 L2 (.lst [.str "name", .str "weight", .str "name", .str "weight"]) = H18 at r5 ⊢
          have J := J.mono r5
          have hTj := r5 _ _ hTj
          have ok1 := stM_ok (k := k) (by omega) R'.goodc
          have len1 : (gs'.map (stM k)).length ≤ 100 := by rw [List.length_map]; have := R'.le; omega
          refine ⟨_, rfl, _, rfl, Tj, _, _, v, rfl, rfl, SqT.of hTj, rfl, _, rfl, Tj, _, _, x, rfl, rfl, SqT.of hTj, rfl, ?_⟩
          rcases hbad with ⟨hv, rfl⟩ | ⟨hv, hx, rfl⟩
          · refine ⟨q1, _, k, pc, mx, _, _, _, v, x, E.C_NoName, rfl, J.A, ok1, k1, k2, len1, tv _, lv, tx _, .inl ⟨hv, rfl⟩, fun ae H19 hae s19 hA => ?_⟩
            refine ⟨.ref ae, _, _, _, _, _, _, rfl, .inl ⟨ae, _, rfl, hA, E.xc_NoName, E.kt_NoName_NoName⟩, .inl ⟨ae, _, rfl, hA, E.xc_NoName, E.kt_NoName_NoWeight⟩, .inl ⟨ae, _, rfl, hA, E.xc_NoName, E.kt_NoName_NoDesk⟩, .inl ⟨ae, _, rfl, hA, E.xc_NoName, E.kt_NoName_NoMatch⟩,
              .inl ⟨ae, _, rfl, hA, E.xc_NoName, E.kt_NoName_NoPiece⟩, .inl ⟨ae, _, rfl, hA, E.xc_NoName, E.kt_NoName_NoText⟩, fun H20 s20 => ?_⟩
            rw [word_name]
            exact ⟨_, rfl, rfl, _, rfl, iteF' (ne_eq rfl) ⟨⟨_, _, rfl⟩, Same.trans r5 (Same.trans s19 s20)⟩⟩
          · refine ⟨q1, _, k, pc, mx, _, _, _, v, x, E.C_NoWeight, rfl, J.A, ok1, k1, k2, len1, tv _, lv, tx _, .inr ⟨hv, hx, rfl⟩, fun ae H19 hae s19 hA => ?_⟩
            refine ⟨.ref ae, _, _, _, _, _, _, rfl, .inl ⟨ae, _, rfl, hA, E.xc_NoWeight, E.kt_NoWeight_NoName⟩, .inl ⟨ae, _, rfl, hA, E.xc_NoWeight, E.kt_NoWeight_NoWeight⟩, .inl ⟨ae, _, rfl, hA, E.xc_NoWeight, E.kt_NoWeight_NoDesk⟩, .inl ⟨ae, _, rfl, hA, E.xc_NoWeight, E.kt_NoWeight_NoMatch⟩,
              .inl ⟨ae, _, rfl, hA, E.xc_NoWeight, E.kt_NoWeight_NoPiece⟩, .inl ⟨ae, _, rfl, hA, E.xc_NoWeight, E.kt_NoWeight_NoText⟩, fun H20 s20 => ?_⟩
            rw [word_weight]
            exact ⟨_, rfl, rfl, _, rfl, iteF' (ne_eq rfl) ⟨⟨_, _, rfl⟩, Same.trans r5 (Same.trans s19 s20)⟩⟩
        · exact iteF' (decide_eq_false fun z => e3 (V.int.inj z)) ⟨⟨_, _, rfl⟩, fun _ _ h => h⟩
      rintro σ H18 ⟨⟨o13, o14, rfl⟩, s18⟩
      have J := J0.mono s18
      have ll : (l ++ [(n, wt0)]).length = i + 1 := by rw [List.length_append, List.length_singleton, hli]
      refine ⟨_, rfl, _, rfl, _, rfl, _, rfl, _, rfl, q1, cl, nlp, _, k, pc, mx, gs', cur', _, _, nl, rfl, J.A, R', KP', J.L, J.P, by omega, J.nm, hok, k1, k2, pc2, mx2, fun H19 s19 => ⟨_, rfl, iteF ?_⟩⟩
      exact ⟨_, _, _, gs', cur', _, _, _, _, _, _, rfl, J.mono s19, R', KP', ll⟩
    · rintro σ H8 ⟨_, _, _, _, _, _, _, _, _, _, _, rfl, _, _, _, _⟩
      obtain ⟨bv, hbat, tb, hb⟩ : ∃ bv, atI [V.int 0, .int 1001, .bl true, .non, .int (-1)] (m / 45 % 5) = some bv ∧ (∀ H' : Hp, ∃ T, TyB K H' bv T) ∧ isNum bv 1000 = false := by
        have h : m / 45 % 5 = 0 ∨ m / 45 % 5 = 1 ∨ m / 45 % 5 = 2 ∨ m / 45 % 5 = 3 ∨ m / 45 % 5 = 4 := by omega
        rcases h with h | h | h | h | h <;> rw [h]
        · exact ⟨_, rfl, fun _ => ⟨_, .int _⟩, rfl⟩
        · exact ⟨_, rfl, fun _ => ⟨_, .int _⟩, rfl⟩
        · exact ⟨_, rfl, fun _ => ⟨_, .bl _⟩, rfl⟩
        · exact ⟨_, rfl, fun _ => ⟨_, .non⟩, rfl⟩
        · exact ⟨_, rfl, fun _ => ⟨_, .int _⟩, rfl⟩
      obtain ⟨bv3, hbat3, tb3, hb3⟩ : ∃ bv, atI [V.int 0, .int 51, .bl true] (m / 225 % 3) = some bv ∧ (∀ H' : Hp, ∃ T, TyB K H' bv T) ∧ isNum bv 50 = false := by
        have h : m / 225 % 3 = 0 ∨ m / 225 % 3 = 1 ∨ m / 225 % 3 = 2 := by omega
        rcases h with h | h | h <;> rw [h]
        · exact ⟨_, rfl, fun _ => ⟨_, .int _⟩, rfl⟩
        · exact ⟨_, rfl, fun _ => ⟨_, .int _⟩, rfl⟩
        · exact ⟨_, rfl, fun _ => ⟨_, .bl _⟩, rfl⟩
      have n1 : isNum (.int (k : Int)) 50 = true := num_ok k1 k2
      have ng : ∀ v1 v3 : V, good3 v1 bv v3 = true → False := fun v1 v3 z => by unfold good3 at z; rw [hb] at z; simp at z
      have ng3 : ∀ v1 v2 : V, good3 v1 v2 bv3 = true → False := fun v1 v2 z => by unfold good3 at z; rw [hb3] at z; simp at z
      refine ⟨_, rfl, by show 5 ≤ sizeLine; decide, fun bl hbl => ⟨_, rfl, _, _, rfl, rfl, ⟨by decide, by decide⟩, _, _, rfl, rfl, mp (by decide), bl, _, _, bv, rfl, rfl, SqL.of upd_same, hbat, ?_⟩⟩
      refine ⟨_, rfl, .int 0, bv, .int 1, rfl, fun _ => ⟨_, .int _⟩, tb, fun _ => ⟨_, .int _⟩, fun _ H9 _ => ⟨rfl, _, rfl, iteF' (ne_eq rfl) ?_⟩, fun z => absurd z (by decide), fun z => (ng _ _ z).elim⟩
      refine ⟨_, rfl, _, rfl, _, rfl, .int (k : Int), bv, .int (mx : Int), rfl, fun _ => ⟨_, .int _⟩, tb, fun _ => ⟨_, .int _⟩, fun z => (by rw [n1] at z; cases z), fun _ _ H10 _ => ⟨rfl, _, rfl, iteF' (ne_eq rfl) ?_⟩, fun z => (ng _ _ z).elim⟩
      refine ⟨_, rfl, _, rfl, by show 3 ≤ sizeLine; decide, fun b3 hb3' => ⟨_, rfl, _, _, rfl, rfl, ⟨by decide, by decide⟩, _, _, rfl, rfl, mp (by decide), b3, _, _, bv3, rfl, rfl, SqL.of upd_same, hbat3, ?_⟩⟩
      refine ⟨.int (k : Int), .int (pc : Int), bv3, rfl, fun _ => ⟨_, .int _⟩, fun _ => ⟨_, .int _⟩, tb3, fun z => (by rw [n1] at z; cases z), fun _ _ H11 _ => ⟨rfl, _, rfl, iteT' (decide_eq_true rfl) ?_⟩, fun z => (ng3 _ _ z).elim⟩
      · refine ⟨.int 50, .int 1000, .int 50, rfl, fun _ => ⟨_, .int _⟩, fun _ => ⟨_, .int _⟩, fun _ => ⟨_, .int _⟩, fun z => absurd z (by decide), fun _ z => absurd z (by decide), fun _ H12 _ => ⟨rfl, ?_⟩⟩
        show Q (V.bl (decide _)) _
        rw [decide_eq_true rfl]
        exact q _
end
theorem env_mk {l : PySem.W.OpenLaw} {w : World} {K : PySem.W.Frag} {h : Heap} {mg : Str → Option Value} {fa : Addr} (X : K.In h) (G : h.Ns mainGlobals mg) (hfa : mg "law" = some (.ref fa))
    {od0 an0 : Option Addr} {sl0 : Array (Option Value)} {oc0 kV0 dc0 pm0 cd0 ct0 : Value} {f0 : Addr}
    {od1 an1 : Option Addr} {sl1 : Array (Option Value)} {oc1 kV1 dc1 pm1 cd1 ct1 : Value} {f1 : Addr}
    {od2 an2 : Option Addr} {sl2 : Array (Option Value)} {oc2 kV2 dc2 pm2 cd2 ct2 : Value} {f2 : Addr}
    {od3 an3 : Option Addr} {sl3 : Array (Option Value)} {oc3 kV3 dc3 pm3 cd3 ct3 : Value} {f3 : Addr}
    {od4 an4 : Option Addr} {sl4 : Array (Option Value)} {oc4 kV4 dc4 pm4 cd4 ct4 : Value} {f4 : Addr}
    {od5 an5 : Option Addr} {sl5 : Array (Option Value)} {oc5 kV5 dc5 pm5 cd5 ct5 : Value} {f5 : Addr}
    {od6 an6 : Option Addr} {sl6 : Array (Option Value)} {oc6 kV6 dc6 pm6 cd6 ct6 : Value} {f6 : Addr}
    {od7 an7 : Option Addr} {sl7 : Array (Option Value)} {oc7 kV7 dc7 pm7 cd7 ct7 : Value} {f7 : Addr} {dV7 : Value}
    {od8 an8 : Option Addr} {sl8 : Array (Option Value)} {oc8 kV8 dc8 pm8 cd8 ct8 : Value} {f8 : Addr}
    {od9 an9 : Option Addr} {sl9 : Array (Option Value)} {oc9 kV9 dc9 pm9 cd9 ct9 : Value} {f9 : Addr}
    {od10 an10 : Option Addr} {sl10 : Array (Option Value)} {oc10 kV10 dc10 pm10 cd10 ct10 : Value} {f10 : Addr}
    {od11 an11 : Option Addr} {sl11 : Array (Option Value)} {oc11 kV11 dc11 pm11 cd11 ct11 : Value} {f11 : Addr}
    {od12 an12 : Option Addr} {sl12 : Array (Option Value)} {oc12 kV12 dc12 pm12 cd12 ct12 : Value} {f12 : Addr}
    {od13 an13 : Option Addr} {sl13 : Array (Option Value)} {oc13 kV13 dc13 pm13 cd13 ct13 : Value} {f13 : Addr}
    {od14 an14 : Option Addr} {sl14 : Array (Option Value)} {oc14 kV14 dc14 pm14 cd14 ct14 : Value} {f14 : Addr}
    {od15 an15 : Option Addr} {sl15 : Array (Option Value)} {oc15 kV15 dc15 pm15 cd15 ct15 : Value} {f15 : Addr}
    {od16 an16 : Option Addr} {sl16 : Array (Option Value)} {oc16 kV16 dc16 pm16 cd16 ct16 : Value} {f16 : Addr}
    {od17 an17 : Option Addr} {sl17 : Array (Option Value)} {oc17 kV17 dc17 pm17 cd17 ct17 : Value} {f17 : Addr}
    {od18 an18 : Option Addr} {sl18 : Array (Option Value)} {oc18 kV18 dc18 pm18 cd18 ct18 : Value} {f18 : Addr}
    {od19 an19 : Option Addr} {sl19 : Array (Option Value)} {oc19 kV19 dc19 pm19 cd19 ct19 : Value} {f19 : Addr}
    {od20 an20 : Option Addr} {sl20 : Array (Option Value)} {oc20 kV20 dc20 pm20 cd20 ct20 : Value} {f20 : Addr} {dV20 : Value}
    {od21 an21 : Option Addr} {sl21 : Array (Option Value)} {oc21 kV21 dc21 pm21 cd21 ct21 : Value} {f21 : Addr}
    {od22 an22 : Option Addr} {sl22 : Array (Option Value)} {oc22 kV22 dc22 pm22 cd22 ct22 : Value} {f22 : Addr}
    {od23 an23 : Option Addr} {sl23 : Array (Option Value)} {oc23 kV23 dc23 pm23 cd23 ct23 : Value} {f23 : Addr}
    {od24 an24 : Option Addr} {sl24 : Array (Option Value)} {oc24 kV24 dc24 pm24 cd24 ct24 : Value} {f24 : Addr}
    {od25 an25 : Option Addr} {sl25 : Array (Option Value)} {oc25 kV25 dc25 pm25 cd25 ct25 : Value} {f25 : Addr}
    {od26 an26 : Option Addr} {sl26 : Array (Option Value)} {oc26 kV26 dc26 pm26 cd26 ct26 : Value} {f26 : Addr}
    {od27 an27 : Option Addr} {sl27 : Array (Option Value)} {oc27 kV27 dc27 pm27 cd27 ct27 : Value} {f27 : Addr}
    {od28 an28 : Option Addr} {sl28 : Array (Option Value)} {oc28 kV28 dc28 pm28 cd28 ct28 : Value} {f28 : Addr}
    {od29 an29 : Option Addr} {sl29 : Array (Option Value)} {oc29 kV29 dc29 pm29 cd29 ct29 : Value} {f29 : Addr}
    {od30 an30 : Option Addr} {sl30 : Array (Option Value)} {oc30 kV30 dc30 pm30 cd30 ct30 : Value} {f30 : Addr}
    {od31 an31 : Option Addr} {sl31 : Array (Option Value)} {oc31 kV31 dc31 pm31 cd31 ct31 : Value} {f31 : Addr}
    {od32 an32 : Option Addr} {sl32 : Array (Option Value)} {oc32 kV32 dc32 pm32 cd32 ct32 : Value} {f32 : Addr}
    {T7 : Addr} {oT7 : Obj} {tT7 : Tok} {nT7 : Nat}
    {T20 : Addr} {oT20 : Obj} {tT20 : Tok} {nT20 : Nat}
    {C : Addr} {lt : Tok} {CL : Addr} {C_NoName : Addr} {C_NoWeight : Addr} {C_NoDesk : Addr} {C_NoMatch : Addr} {C_NoPiece : Addr} {C_NoText : Addr} {C_DrawerError : Addr}
    (aL : PySem.W.nsIn K mainGlobals "Lately" = some (some (.ref CL)))
    (aC : PySem.W.nsIn K mainGlobals "Desk" = some (some (.ref C)))
    (a0 : PySem.W.nsIn K mainGlobals "is_name" = some (some (.ref f0)))
    (l0 : K.lookup f0 = some ⟨oc0, od0, .func (PySem.W.fnOf "is_name" "is_name" (defArgs s_is_name) (defBody s_is_name) (defScope s_is_name) .none kV0 dc0 pm0 an0 cd0 ct0), sl0⟩)
    (c0 : PySem.W.codeIn K cd0 "is_name" = true)
    (k0 : PySem.W.keepIn K (.ref f0) = true)
    (a1 : PySem.W.nsIn K mainGlobals "is_number" = some (some (.ref f1)))
    (l1 : K.lookup f1 = some ⟨oc1, od1, .func (PySem.W.fnOf "is_number" "is_number" (defArgs s_is_number) (defBody s_is_number) (defScope s_is_number) .none kV1 dc1 pm1 an1 cd1 ct1), sl1⟩)
    (c1 : PySem.W.codeIn K cd1 "is_number" = true)
    (k1 : PySem.W.keepIn K (.ref f1) = true)
    (a2 : PySem.W.nsIn K mainGlobals "check_name" = some (some (.ref f2)))
    (l2 : K.lookup f2 = some ⟨oc2, od2, .func (PySem.W.fnOf "check_name" "check_name" (defArgs s_check_name) (defBody s_check_name) (defScope s_check_name) .none kV2 dc2 pm2 an2 cd2 ct2), sl2⟩)
    (c2 : PySem.W.codeIn K cd2 "check_name" = true)
    (k2 : PySem.W.keepIn K (.ref f2) = true)
    (a3 : PySem.W.nsIn K mainGlobals "check_weight" = some (some (.ref f3)))
    (l3 : K.lookup f3 = some ⟨oc3, od3, .func (PySem.W.fnOf "check_weight" "check_weight" (defArgs s_check_weight) (defBody s_check_weight) (defScope s_check_weight) .none kV3 dc3 pm3 an3 cd3 ct3), sl3⟩)
    (c3 : PySem.W.codeIn K cd3 "check_weight" = true)
    (k3 : PySem.W.keepIn K (.ref f3) = true)
    (a4 : PySem.W.nsIn K mainGlobals "check_drawers" = some (some (.ref f4)))
    (l4 : K.lookup f4 = some ⟨oc4, od4, .func (PySem.W.fnOf "check_drawers" "check_drawers" (defArgs s_check_drawers) (defBody s_check_drawers) (defScope s_check_drawers) .none kV4 dc4 pm4 an4 cd4 ct4), sl4⟩)
    (c4 : PySem.W.codeIn K cd4 "check_drawers" = true)
    (k4 : PySem.W.keepIn K (.ref f4) = true)
    (a5 : PySem.W.nsIn K mainGlobals "lowered" = some (some (.ref f5)))
    (l5 : K.lookup f5 = some ⟨oc5, od5, .func (PySem.W.fnOf "lowered" "lowered" (defArgs s_lowered) (defBody s_lowered) (defScope s_lowered) .none kV5 dc5 pm5 an5 cd5 ct5), sl5⟩)
    (c5 : PySem.W.codeIn K cd5 "lowered" = true)
    (k5 : PySem.W.keepIn K (.ref f5) = true)
    (a6 : PySem.W.findIn K (.ref C) "__init__" = some (some (.ref f6)))
    (i6 : PySem.W.isFn K (.ref f6) = true)
    (l6 : K.lookup f6 = some ⟨oc6, od6, .func (PySem.W.fnOf "__init__" "Desk.__init__" (defArgs s_d_init) (defBody s_d_init) (defScope s_d_init) .none kV6 dc6 pm6 an6 cd6 ct6), sl6⟩)
    (c6 : PySem.W.codeIn K cd6 "Desk.__init__" = true)
    (k6 : PySem.W.keepIn K (.ref f6) = true)
    (a7 : PySem.W.findIn K (.ref C) "come" = some (some (.ref f7)))
    (i7 : PySem.W.isFn K (.ref f7) = true)
    (l7 : K.lookup f7 = some ⟨oc7, od7, .func (PySem.W.fnOf "come" "Desk.come" (defArgs s_d_come) (defBody s_d_come) (defScope s_d_come) dV7 kV7 dc7 pm7 an7 cd7 ct7), sl7⟩)
    (c7 : PySem.W.codeIn K cd7 "Desk.come" = true)
    (k7 : PySem.W.keepIn K (.ref f7) = true)
    (dv7 : dV7 = .ref T7)
    (dl7 : K.lookup T7 = some oT7)
    (dd7 : oT7.data = .seq #[Value.int 1 tT7] nT7)
    (a8 : PySem.W.findIn K (.ref C) "_come_to_full" = some (some (.ref f8)))
    (i8 : PySem.W.isFn K (.ref f8) = true)
    (l8 : K.lookup f8 = some ⟨oc8, od8, .func (PySem.W.fnOf "_come_to_full" "Desk._come_to_full" (defArgs s_d_come_to_full) (defBody s_d_come_to_full) (defScope s_d_come_to_full) .none kV8 dc8 pm8 an8 cd8 ct8), sl8⟩)
    (c8 : PySem.W.codeIn K cd8 "Desk._come_to_full" = true)
    (k8 : PySem.W.keepIn K (.ref f8) = true)
    (a9 : PySem.W.findIn K (.ref C) "shown" = some (some (.ref f9)))
    (i9 : PySem.W.isFn K (.ref f9) = true)
    (l9 : K.lookup f9 = some ⟨oc9, od9, .func (PySem.W.fnOf "shown" "Desk.shown" (defArgs s_d_shown) (defBody s_d_shown) (defScope s_d_shown) .none kV9 dc9 pm9 an9 cd9 ct9), sl9⟩)
    (c9 : PySem.W.codeIn K cd9 "Desk.shown" = true)
    (k9 : PySem.W.keepIn K (.ref f9) = true)
    (a10 : PySem.W.findIn K (.ref C) "lost" = some (some (.ref f10)))
    (i10 : PySem.W.isFn K (.ref f10) = true)
    (l10 : K.lookup f10 = some ⟨oc10, od10, .func (PySem.W.fnOf "lost" "Desk.lost" (defArgs s_d_lost) (defBody s_d_lost) (defScope s_d_lost) .none kV10 dc10 pm10 an10 cd10 ct10), sl10⟩)
    (c10 : PySem.W.codeIn K cd10 "Desk.lost" = true)
    (k10 : PySem.W.keepIn K (.ref f10) = true)
    (a11 : PySem.W.findIn K (.ref C) "weight" = some (some (.ref f11)))
    (i11 : PySem.W.isFn K (.ref f11) = true)
    (l11 : K.lookup f11 = some ⟨oc11, od11, .func (PySem.W.fnOf "weight" "Desk.weight" (defArgs s_d_weight) (defBody s_d_weight) (defScope s_d_weight) .none kV11 dc11 pm11 an11 cd11 ct11), sl11⟩)
    (c11 : PySem.W.codeIn K cd11 "Desk.weight" = true)
    (k11 : PySem.W.keepIn K (.ref f11) = true)
    (a12 : PySem.W.findIn K (.ref C) "drawers" = some (some (.ref f12)))
    (i12 : PySem.W.isFn K (.ref f12) = true)
    (l12 : K.lookup f12 = some ⟨oc12, od12, .func (PySem.W.fnOf "drawers" "Desk.drawers" (defArgs s_d_drawers) (defBody s_d_drawers) (defScope s_d_drawers) .none kV12 dc12 pm12 an12 cd12 ct12), sl12⟩)
    (c12 : PySem.W.codeIn K cd12 "Desk.drawers" = true)
    (k12 : PySem.W.keepIn K (.ref f12) = true)
    (a13 : PySem.W.findIn K (.ref C) "least" = some (some (.ref f13)))
    (i13 : PySem.W.isFn K (.ref f13) = true)
    (l13 : K.lookup f13 = some ⟨oc13, od13, .func (PySem.W.fnOf "least" "Desk.least" (defArgs s_d_least) (defBody s_d_least) (defScope s_d_least) .none kV13 dc13 pm13 an13 cd13 ct13), sl13⟩)
    (c13 : PySem.W.codeIn K cd13 "Desk.least" = true)
    (k13 : PySem.W.keepIn K (.ref f13) = true)
    (a14 : PySem.W.findIn K (.ref C) "most" = some (some (.ref f14)))
    (i14 : PySem.W.isFn K (.ref f14) = true)
    (l14 : K.lookup f14 = some ⟨oc14, od14, .func (PySem.W.fnOf "most" "Desk.most" (defArgs s_d_most) (defBody s_d_most) (defScope s_d_most) .none kV14 dc14 pm14 an14 cd14 ct14), sl14⟩)
    (c14 : PySem.W.codeIn K cd14 "Desk.most" = true)
    (k14 : PySem.W.keepIn K (.ref f14) = true)
    (a15 : PySem.W.nsIn K mainGlobals "desk_with" = some (some (.ref f15)))
    (l15 : K.lookup f15 = some ⟨oc15, od15, .func (PySem.W.fnOf "desk_with" "desk_with" (defArgs s_desk_with) (defBody s_desk_with) (defScope s_desk_with) .none kV15 dc15 pm15 an15 cd15 ct15), sl15⟩)
    (c15 : PySem.W.codeIn K cd15 "desk_with" = true)
    (k15 : PySem.W.keepIn K (.ref f15) = true)
    (a16 : PySem.W.nsIn K mainGlobals "poured" = some (some (.ref f16)))
    (l16 : K.lookup f16 = some ⟨oc16, od16, .func (PySem.W.fnOf "poured" "poured" (defArgs s_poured) (defBody s_poured) (defScope s_poured) .none kV16 dc16 pm16 an16 cd16 ct16), sl16⟩)
    (c16 : PySem.W.codeIn K cd16 "poured" = true)
    (k16 : PySem.W.keepIn K (.ref f16) = true)
    (a17 : PySem.W.nsIn K mainGlobals "cut" = some (some (.ref f17)))
    (l17 : K.lookup f17 = some ⟨oc17, od17, .func (PySem.W.fnOf "cut" "cut" (defArgs s_cut) (defBody s_cut) (defScope s_cut) .none kV17 dc17 pm17 an17 cd17 ct17), sl17⟩)
    (c17 : PySem.W.codeIn K cd17 "cut" = true)
    (k17 : PySem.W.keepIn K (.ref f17) = true)
    (a18 : PySem.W.nsIn K mainGlobals "check_piece" = some (some (.ref f18)))
    (l18 : K.lookup f18 = some ⟨oc18, od18, .func (PySem.W.fnOf "check_piece" "check_piece" (defArgs s_check_piece) (defBody s_check_piece) (defScope s_check_piece) .none kV18 dc18 pm18 an18 cd18 ct18), sl18⟩)
    (c18 : PySem.W.codeIn K cd18 "check_piece" = true)
    (k18 : PySem.W.keepIn K (.ref f18) = true)
    (a19 : PySem.W.findIn K (.ref CL) "__init__" = some (some (.ref f19)))
    (i19 : PySem.W.isFn K (.ref f19) = true)
    (l19 : K.lookup f19 = some ⟨oc19, od19, .func (PySem.W.fnOf "__init__" "Lately.__init__" (defArgs s_l_init) (defBody s_l_init) (defScope s_l_init) .none kV19 dc19 pm19 an19 cd19 ct19), sl19⟩)
    (c19 : PySem.W.codeIn K cd19 "Lately.__init__" = true)
    (k19 : PySem.W.keepIn K (.ref f19) = true)
    (a20 : PySem.W.findIn K (.ref CL) "come" = some (some (.ref f20)))
    (i20 : PySem.W.isFn K (.ref f20) = true)
    (l20 : K.lookup f20 = some ⟨oc20, od20, .func (PySem.W.fnOf "come" "Lately.come" (defArgs s_l_come) (defBody s_l_come) (defScope s_l_come) dV20 kV20 dc20 pm20 an20 cd20 ct20), sl20⟩)
    (c20 : PySem.W.codeIn K cd20 "Lately.come" = true)
    (k20 : PySem.W.keepIn K (.ref f20) = true)
    (dv20 : dV20 = .ref T20)
    (dl20 : K.lookup T20 = some oT20)
    (dd20 : oT20.data = .seq #[Value.int 1 tT20] nT20)
    (a21 : PySem.W.findIn K (.ref CL) "_end_piece" = some (some (.ref f21)))
    (i21 : PySem.W.isFn K (.ref f21) = true)
    (l21 : K.lookup f21 = some ⟨oc21, od21, .func (PySem.W.fnOf "_end_piece" "Lately._end_piece" (defArgs s_l_end_piece) (defBody s_l_end_piece) (defScope s_l_end_piece) .none kV21 dc21 pm21 an21 cd21 ct21), sl21⟩)
    (c21 : PySem.W.codeIn K cd21 "Lately._end_piece" = true)
    (k21 : PySem.W.keepIn K (.ref f21) = true)
    (a22 : PySem.W.findIn K (.ref CL) "told" = some (some (.ref f22)))
    (i22 : PySem.W.isFn K (.ref f22) = true)
    (l22 : K.lookup f22 = some ⟨oc22, od22, .func (PySem.W.fnOf "told" "Lately.told" (defArgs s_l_told) (defBody s_l_told) (defScope s_l_told) .none kV22 dc22 pm22 an22 cd22 ct22), sl22⟩)
    (c22 : PySem.W.codeIn K cd22 "Lately.told" = true)
    (k22 : PySem.W.keepIn K (.ref f22) = true)
    (a23 : PySem.W.findIn K (.ref CL) "reach" = some (some (.ref f23)))
    (i23 : PySem.W.isFn K (.ref f23) = true)
    (l23 : K.lookup f23 = some ⟨oc23, od23, .func (PySem.W.fnOf "reach" "Lately.reach" (defArgs s_l_reach) (defBody s_l_reach) (defScope s_l_reach) .none kV23 dc23 pm23 an23 cd23 ct23), sl23⟩)
    (c23 : PySem.W.codeIn K cd23 "Lately.reach" = true)
    (k23 : PySem.W.keepIn K (.ref f23) = true)
    (a24 : PySem.W.nsIn K mainGlobals "_law_mixed" = some (some (.ref f24)))
    (l24 : K.lookup f24 = some ⟨oc24, od24, .func (PySem.W.fnOf "_law_mixed" "_law_mixed" (defArgs s_mixed) (defBody s_mixed) (defScope s_mixed) .none kV24 dc24 pm24 an24 cd24 ct24), sl24⟩)
    (c24 : PySem.W.codeIn K cd24 "_law_mixed" = true)
    (k24 : PySem.W.keepIn K (.ref f24) = true)
    (a25 : PySem.W.nsIn K mainGlobals "_law_names" = some (some (.ref f25)))
    (l25 : K.lookup f25 = some ⟨oc25, od25, .func (PySem.W.fnOf "_law_names" "_law_names" (defArgs s_names) (defBody s_names) (defScope s_names) .none kV25 dc25 pm25 an25 cd25 ct25), sl25⟩)
    (c25 : PySem.W.codeIn K cd25 "_law_names" = true)
    (k25 : PySem.W.keepIn K (.ref f25) = true)
    (a26 : PySem.W.nsIn K mainGlobals "_law_coming" = some (some (.ref f26)))
    (l26 : K.lookup f26 = some ⟨oc26, od26, .func (PySem.W.fnOf "_law_coming" "_law_coming" (defArgs s_coming) (defBody s_coming) (defScope s_coming) .none kV26 dc26 pm26 an26 cd26 ct26), sl26⟩)
    (c26 : PySem.W.codeIn K cd26 "_law_coming" = true)
    (k26 : PySem.W.keepIn K (.ref f26) = true)
    (a27 : PySem.W.nsIn K mainGlobals "_law_drawers" = some (some (.ref f27)))
    (l27 : K.lookup f27 = some ⟨oc27, od27, .func (PySem.W.fnOf "_law_drawers" "_law_drawers" (defArgs s_drawers) (defBody s_drawers) (defScope s_drawers) .none kV27 dc27 pm27 an27 cd27 ct27), sl27⟩)
    (c27 : PySem.W.codeIn K cd27 "_law_drawers" = true)
    (k27 : PySem.W.keepIn K (.ref f27) = true)
    (a28 : PySem.W.nsIn K mainGlobals "_law_word" = some (some (.ref f28)))
    (l28 : K.lookup f28 = some ⟨oc28, od28, .func (PySem.W.fnOf "_law_word" "_law_word" (defArgs s_word) (defBody s_word) (defScope s_word) .none kV28 dc28 pm28 an28 cd28 ct28), sl28⟩)
    (c28 : PySem.W.codeIn K cd28 "_law_word" = true)
    (k28 : PySem.W.keepIn K (.ref f28) = true)
    (a29 : PySem.W.nsIn K mainGlobals "_law_made" = some (some (.ref f29)))
    (l29 : K.lookup f29 = some ⟨oc29, od29, .func (PySem.W.fnOf "_law_made" "_law_made" (defArgs s_made) (defBody s_made) (defScope s_made) .none kV29 dc29 pm29 an29 cd29 ct29), sl29⟩)
    (c29 : PySem.W.codeIn K cd29 "_law_made" = true)
    (k29 : PySem.W.keepIn K (.ref f29) = true)
    (a30 : PySem.W.nsIn K mainGlobals "_law_come_refused" = some (some (.ref f30)))
    (l30 : K.lookup f30 = some ⟨oc30, od30, .func (PySem.W.fnOf "_law_come_refused" "_law_come_refused" (defArgs s_come_refused) (defBody s_come_refused) (defScope s_come_refused) .none kV30 dc30 pm30 an30 cd30 ct30), sl30⟩)
    (c30 : PySem.W.codeIn K cd30 "_law_come_refused" = true)
    (k30 : PySem.W.keepIn K (.ref f30) = true)
    (a31 : PySem.W.nsIn K mainGlobals "_law_holds" = some (some (.ref f31)))
    (l31 : K.lookup f31 = some ⟨oc31, od31, .func (PySem.W.fnOf "_law_holds" "_law_holds" (defArgs s_holds) (defBody s_holds) (defScope s_holds) .none kV31 dc31 pm31 an31 cd31 ct31), sl31⟩)
    (c31 : PySem.W.codeIn K cd31 "_law_holds" = true)
    (k31 : PySem.W.keepIn K (.ref f31) = true)
    (a32 : PySem.W.nsIn K mainGlobals "law" = some (some (.ref f32)))
    (l32 : K.lookup f32 = some ⟨oc32, od32, .func (PySem.W.fnOf "law" "law" (defArgs s_law) (defBody s_law) (defScope s_law) .none kV32 dc32 pm32 an32 cd32 ct32), sl32⟩)
    (c32 : PySem.W.codeIn K cd32 "law" = true)
    (k32 : PySem.W.keepIn K (.ref f32) = true)
    (pg : PySem.W.plainGet K C Str.empty = true)
    (hd : PySem.W.hasDictIn K C = true)
    (po : PySem.W.plainOver K C = true)
    (sa : PySem.W.findIn K (.ref C) "__setattr__" = some (some (.builtin "object.__setattr__")))
    (mk : PySem.W.makesIn K C = true)
    (kc : PySem.W.keepIn K (.ref C) = true)
    (pgL : PySem.W.plainGet K CL Str.empty = true)
    (hdL : PySem.W.hasDictIn K CL = true)
    (poL : PySem.W.plainOver K CL = true)
    (saL : PySem.W.findIn K (.ref CL) "__setattr__" = some (some (.builtin "object.__setattr__")))
    (mkLt : PySem.W.makesIn K CL = true)
    (kcL : PySem.W.keepIn K (.ref CL) = true)
    (nL_drawers : PySem.W.findIn K (.ref CL) "_drawers" = some none)
    (nL_piece : PySem.W.findIn K (.ref CL) "_piece" = some none)
    (nL_pieces : PySem.W.findIn K (.ref CL) "_pieces" = some none)
    (nL_full : PySem.W.findIn K (.ref CL) "_full" = some none)
    (nL_begun : PySem.W.findIn K (.ref CL) "_begun" = some none)
    (nL_comings : PySem.W.findIn K (.ref CL) "_comings" = some none)
    (n_drawers : PySem.W.findIn K (.ref C) "_drawers" = some none)
    (n_shown : PySem.W.findIn K (.ref C) "_shown" = some none)
    (n_lost : PySem.W.findIn K (.ref C) "_lost" = some none)
    (n_weight : PySem.W.findIn K (.ref C) "_weight" = some none)
    (gL : PySem.W.nsIn K mainGlobals "LETTERS" = some (some (.str "abcdefghijklmnopqrstuvwxyz" lt)))
    (z_dict : PySem.W.nsIn K mainGlobals "dict" = some none)
    (z_enumerate : PySem.W.nsIn K mainGlobals "enumerate" = some none)
    (z_int : PySem.W.nsIn K mainGlobals "int" = some none)
    (z_isinstance : PySem.W.nsIn K mainGlobals "isinstance" = some none)
    (z_len : PySem.W.nsIn K mainGlobals "len" = some none)
    (z_min : PySem.W.nsIn K mainGlobals "min" = some none)
    (z_range : PySem.W.nsIn K mainGlobals "range" = some none)
    (z_sorted : PySem.W.nsIn K mainGlobals "sorted" = some none)
    (z_str : PySem.W.nsIn K mainGlobals "str" = some none)
    (z_sum : PySem.W.nsIn K mainGlobals "sum" = some none)
    (z_type : PySem.W.nsIn K mainGlobals "type" = some none)
    (z_zip : PySem.W.nsIn K mainGlobals "zip" = some none)
    (e_NoName : PySem.W.nsIn K mainGlobals "NoName" = some (some (.ref C_NoName)))
    (ek_NoName : PySem.W.keepIn K (.ref C_NoName) = true)
    (eb_NoName : PySem.W.subIn K (.ref C_NoName) (.type "BaseException") = some true)
    (et_NoName : PySem.W.typeIn K (.ref C_NoName) = some (.type "type"))
    (ex_NoName : PySem.W.excIn K C_NoName [.type "ValueError", .type "Exception", .type "BaseException", .type "object"] "ValueError.__new__" = true)
    (e_NoWeight : PySem.W.nsIn K mainGlobals "NoWeight" = some (some (.ref C_NoWeight)))
    (ek_NoWeight : PySem.W.keepIn K (.ref C_NoWeight) = true)
    (eb_NoWeight : PySem.W.subIn K (.ref C_NoWeight) (.type "BaseException") = some true)
    (et_NoWeight : PySem.W.typeIn K (.ref C_NoWeight) = some (.type "type"))
    (ex_NoWeight : PySem.W.excIn K C_NoWeight [.type "ValueError", .type "Exception", .type "BaseException", .type "object"] "ValueError.__new__" = true)
    (e_NoDesk : PySem.W.nsIn K mainGlobals "NoDesk" = some (some (.ref C_NoDesk)))
    (ek_NoDesk : PySem.W.keepIn K (.ref C_NoDesk) = true)
    (eb_NoDesk : PySem.W.subIn K (.ref C_NoDesk) (.type "BaseException") = some true)
    (et_NoDesk : PySem.W.typeIn K (.ref C_NoDesk) = some (.type "type"))
    (ex_NoDesk : PySem.W.excIn K C_NoDesk [.type "ValueError", .type "Exception", .type "BaseException", .type "object"] "ValueError.__new__" = true)
    (e_NoMatch : PySem.W.nsIn K mainGlobals "NoMatch" = some (some (.ref C_NoMatch)))
    (ek_NoMatch : PySem.W.keepIn K (.ref C_NoMatch) = true)
    (eb_NoMatch : PySem.W.subIn K (.ref C_NoMatch) (.type "BaseException") = some true)
    (et_NoMatch : PySem.W.typeIn K (.ref C_NoMatch) = some (.type "type"))
    (ex_NoMatch : PySem.W.excIn K C_NoMatch [.type "ValueError", .type "Exception", .type "BaseException", .type "object"] "ValueError.__new__" = true)
    (e_NoPiece : PySem.W.nsIn K mainGlobals "NoPiece" = some (some (.ref C_NoPiece)))
    (ek_NoPiece : PySem.W.keepIn K (.ref C_NoPiece) = true)
    (eb_NoPiece : PySem.W.subIn K (.ref C_NoPiece) (.type "BaseException") = some true)
    (et_NoPiece : PySem.W.typeIn K (.ref C_NoPiece) = some (.type "type"))
    (ex_NoPiece : PySem.W.excIn K C_NoPiece [.type "ValueError", .type "Exception", .type "BaseException", .type "object"] "ValueError.__new__" = true)
    (e_NoText : PySem.W.nsIn K mainGlobals "NoText" = some (some (.ref C_NoText)))
    (ek_NoText : PySem.W.keepIn K (.ref C_NoText) = true)
    (eb_NoText : PySem.W.subIn K (.ref C_NoText) (.type "BaseException") = some true)
    (et_NoText : PySem.W.typeIn K (.ref C_NoText) = some (.type "type"))
    (e_DrawerError : PySem.W.nsIn K mainGlobals "DrawerError" = some (some (.ref C_DrawerError)))
    (ek_DrawerError : PySem.W.keepIn K (.ref C_DrawerError) = true)
    (eb_DrawerError : PySem.W.subIn K (.ref C_DrawerError) (.type "BaseException") = some true)
    (et_DrawerError : PySem.W.typeIn K (.ref C_DrawerError) = some (.type "type"))
    (hdE : PySem.W.hasDictIn K C_DrawerError = true)
    (hnX : PySem.W.specialIn K (.builtin "object.__class__") "__get__" = some (some (.builtin "getset_descriptor.__get__")))
    (htX : PySem.W.takesIn K (.builtin "object.__class__") = some true)
    (xa_NoName : PySem.W.findIn K (.ref C_NoName) "__getattribute__" = some (some (.builtin "BaseException.__getattribute__")))
    (xb_NoName : PySem.W.findIn K (.ref C_NoName) "__getattr__" = some none)
    (xd_NoName : PySem.W.hasDictIn K C_NoName = true)
    (xe_NoName : PySem.W.findIn K (.ref C_NoName) "__class__" = some (some (.builtin "object.__class__")))
    (xm_NoName : PySem.W.mroIn K C_NoName (.type "object") = some true)
    (xs_NoName : PySem.W.subIn K (.ref C_NoName) (.ref C_DrawerError) = some true)
    (kt_NoName_NoName : PySem.W.kitOne K (.ref C_NoName) (.ref C_NoName) = some true)
    (kt_NoName_NoWeight : PySem.W.kitOne K (.ref C_NoName) (.ref C_NoWeight) = some false)
    (kt_NoName_NoDesk : PySem.W.kitOne K (.ref C_NoName) (.ref C_NoDesk) = some false)
    (kt_NoName_NoMatch : PySem.W.kitOne K (.ref C_NoName) (.ref C_NoMatch) = some false)
    (kt_NoName_NoPiece : PySem.W.kitOne K (.ref C_NoName) (.ref C_NoPiece) = some false)
    (kt_NoName_NoText : PySem.W.kitOne K (.ref C_NoName) (.ref C_NoText) = some false)
    (xa_NoWeight : PySem.W.findIn K (.ref C_NoWeight) "__getattribute__" = some (some (.builtin "BaseException.__getattribute__")))
    (xb_NoWeight : PySem.W.findIn K (.ref C_NoWeight) "__getattr__" = some none)
    (xd_NoWeight : PySem.W.hasDictIn K C_NoWeight = true)
    (xe_NoWeight : PySem.W.findIn K (.ref C_NoWeight) "__class__" = some (some (.builtin "object.__class__")))
    (xm_NoWeight : PySem.W.mroIn K C_NoWeight (.type "object") = some true)
    (xs_NoWeight : PySem.W.subIn K (.ref C_NoWeight) (.ref C_DrawerError) = some true)
    (kt_NoWeight_NoName : PySem.W.kitOne K (.ref C_NoWeight) (.ref C_NoName) = some false)
    (kt_NoWeight_NoWeight : PySem.W.kitOne K (.ref C_NoWeight) (.ref C_NoWeight) = some true)
    (kt_NoWeight_NoDesk : PySem.W.kitOne K (.ref C_NoWeight) (.ref C_NoDesk) = some false)
    (kt_NoWeight_NoMatch : PySem.W.kitOne K (.ref C_NoWeight) (.ref C_NoMatch) = some false)
    (kt_NoWeight_NoPiece : PySem.W.kitOne K (.ref C_NoWeight) (.ref C_NoPiece) = some false)
    (kt_NoWeight_NoText : PySem.W.kitOne K (.ref C_NoWeight) (.ref C_NoText) = some false)
    (xa_NoDesk : PySem.W.findIn K (.ref C_NoDesk) "__getattribute__" = some (some (.builtin "BaseException.__getattribute__")))
    (xb_NoDesk : PySem.W.findIn K (.ref C_NoDesk) "__getattr__" = some none)
    (xd_NoDesk : PySem.W.hasDictIn K C_NoDesk = true)
    (xe_NoDesk : PySem.W.findIn K (.ref C_NoDesk) "__class__" = some (some (.builtin "object.__class__")))
    (xm_NoDesk : PySem.W.mroIn K C_NoDesk (.type "object") = some true)
    (xs_NoDesk : PySem.W.subIn K (.ref C_NoDesk) (.ref C_DrawerError) = some true)
    (kt_NoDesk_NoName : PySem.W.kitOne K (.ref C_NoDesk) (.ref C_NoName) = some false)
    (kt_NoDesk_NoWeight : PySem.W.kitOne K (.ref C_NoDesk) (.ref C_NoWeight) = some false)
    (kt_NoDesk_NoDesk : PySem.W.kitOne K (.ref C_NoDesk) (.ref C_NoDesk) = some true)
    (kt_NoDesk_NoMatch : PySem.W.kitOne K (.ref C_NoDesk) (.ref C_NoMatch) = some false)
    (kt_NoDesk_NoPiece : PySem.W.kitOne K (.ref C_NoDesk) (.ref C_NoPiece) = some false)
    (kt_NoDesk_NoText : PySem.W.kitOne K (.ref C_NoDesk) (.ref C_NoText) = some false)
    (xa_NoMatch : PySem.W.findIn K (.ref C_NoMatch) "__getattribute__" = some (some (.builtin "BaseException.__getattribute__")))
    (xb_NoMatch : PySem.W.findIn K (.ref C_NoMatch) "__getattr__" = some none)
    (xd_NoMatch : PySem.W.hasDictIn K C_NoMatch = true)
    (xe_NoMatch : PySem.W.findIn K (.ref C_NoMatch) "__class__" = some (some (.builtin "object.__class__")))
    (xm_NoMatch : PySem.W.mroIn K C_NoMatch (.type "object") = some true)
    (xs_NoMatch : PySem.W.subIn K (.ref C_NoMatch) (.ref C_DrawerError) = some true)
    (kt_NoMatch_NoName : PySem.W.kitOne K (.ref C_NoMatch) (.ref C_NoName) = some false)
    (kt_NoMatch_NoWeight : PySem.W.kitOne K (.ref C_NoMatch) (.ref C_NoWeight) = some false)
    (kt_NoMatch_NoDesk : PySem.W.kitOne K (.ref C_NoMatch) (.ref C_NoDesk) = some false)
    (kt_NoMatch_NoMatch : PySem.W.kitOne K (.ref C_NoMatch) (.ref C_NoMatch) = some true)
    (kt_NoMatch_NoPiece : PySem.W.kitOne K (.ref C_NoMatch) (.ref C_NoPiece) = some false)
    (kt_NoMatch_NoText : PySem.W.kitOne K (.ref C_NoMatch) (.ref C_NoText) = some false)
    (xa_NoPiece : PySem.W.findIn K (.ref C_NoPiece) "__getattribute__" = some (some (.builtin "BaseException.__getattribute__")))
    (xb_NoPiece : PySem.W.findIn K (.ref C_NoPiece) "__getattr__" = some none)
    (xd_NoPiece : PySem.W.hasDictIn K C_NoPiece = true)
    (xe_NoPiece : PySem.W.findIn K (.ref C_NoPiece) "__class__" = some (some (.builtin "object.__class__")))
    (xm_NoPiece : PySem.W.mroIn K C_NoPiece (.type "object") = some true)
    (xs_NoPiece : PySem.W.subIn K (.ref C_NoPiece) (.ref C_DrawerError) = some true)
    (kt_NoPiece_NoName : PySem.W.kitOne K (.ref C_NoPiece) (.ref C_NoName) = some false)
    (kt_NoPiece_NoWeight : PySem.W.kitOne K (.ref C_NoPiece) (.ref C_NoWeight) = some false)
    (kt_NoPiece_NoDesk : PySem.W.kitOne K (.ref C_NoPiece) (.ref C_NoDesk) = some false)
    (kt_NoPiece_NoMatch : PySem.W.kitOne K (.ref C_NoPiece) (.ref C_NoMatch) = some false)
    (kt_NoPiece_NoPiece : PySem.W.kitOne K (.ref C_NoPiece) (.ref C_NoPiece) = some true)
    (kt_NoPiece_NoText : PySem.W.kitOne K (.ref C_NoPiece) (.ref C_NoText) = some false)
    (kt_n_NoName : PySem.W.kitOne K (.type "NoneType") (.ref C_NoName) = some false)
    (kt_n_NoWeight : PySem.W.kitOne K (.type "NoneType") (.ref C_NoWeight) = some false)
    (kt_n_NoDesk : PySem.W.kitOne K (.type "NoneType") (.ref C_NoDesk) = some false)
    (kt_n_NoMatch : PySem.W.kitOne K (.type "NoneType") (.ref C_NoMatch) = some false)
    (kt_n_NoPiece : PySem.W.kitOne K (.type "NoneType") (.ref C_NoPiece) = some false)
    (kt_n_NoText : PySem.W.kitOne K (.type "NoneType") (.ref C_NoText) = some false)
    : ∃ fd : FuncData, (∀ (s : Shared) (v : Value), BindsTo s fd ⟨[v], []⟩ [("_law_script", v)]) ∧ ∀ base : Heap, K.In base → base.Ns mainGlobals mg → FnOk l.prog w K mg base CX0 10 fa fd ["_law_script"] (spLaw K) := by
  have e := hfa.symm.trans (PySem.W.mg_of X G a32)
  cases e
  have F0 := fun_mk (st := s_is_name) l0 c0 k0
  have b0 := F0.binds (ps := P_is_name) fun _ _ _ _ _ _ us hl => match us, hl with | [_], _ => rfl
  have F1 := fun_mk (st := s_is_number) l1 c1 k1
  have b1 := F1.binds (ps := P_is_number) fun _ _ _ _ _ _ us hl => match us, hl with | [_, _], _ => rfl
  have F2 := fun_mk (st := s_check_name) l2 c2 k2
  have b2 := F2.binds (ps := P_check_name) fun _ _ _ _ _ _ us hl => match us, hl with | [_], _ => rfl
  have F3 := fun_mk (st := s_check_weight) l3 c3 k3
  have b3 := F3.binds (ps := P_check_weight) fun _ _ _ _ _ _ us hl => match us, hl with | [_], _ => rfl
  have F4 := fun_mk (st := s_check_drawers) l4 c4 k4
  have b4 := F4.binds (ps := P_check_drawers) fun _ _ _ _ _ _ us hl => match us, hl with | [_], _ => rfl
  have F5 := fun_mk (st := s_lowered) l5 c5 k5
  have b5 := F5.binds (ps := P_lowered) fun _ _ _ _ _ _ us hl => match us, hl with | [_, _], _ => rfl
  have F6 := fun_mk (st := s_d_init) l6 c6 k6
  have b6 := F6.binds (ps := P_d_init) fun _ _ _ _ _ _ us hl => match us, hl with | [_, _], _ => rfl
  subst dv7
  have F7 : FunD K "come" "Desk.come" (defArgs s_d_come) (defBody s_d_come) (defScope s_d_come) [.int 1] [] f7 (PySem.W.fnOf "come" "Desk.come" (defArgs s_d_come) (defBody s_d_come) (defScope s_d_come) (.ref T7) kV7 dc7 pm7 an7 cd7 ct7) := ⟨⟨_, _, _, _, _, _, _, _, _, _, rfl, l7, c7, .inr ⟨by simp, T7, oT7, [Value.int 1 tT7], nT7, rfl, dl7, dd7, .cons ⟨tT7, rfl⟩ .nil⟩, .inl rfl⟩, k7⟩
  have b7 : Binds K (PySem.W.fnOf "come" "Desk.come" (defArgs s_d_come) (defBody s_d_come) (defScope s_d_come) (.ref T7) kV7 dc7 pm7 an7 cd7 ct7) P_d_come [] := by
    obtain ⟨ds, hv, hb⟩ := F7.binds1 (ps := P_d_come) 3 1 (by simp) rfl (fun T kV doc pm an cdv ct us its hl h2 => match us, hl, its, h2 with | [_, _, _], _, [_], _ => ⟨_, rfl, rfl⟩)
    cases hv
    exact hb
  have F8 := fun_mk (st := s_d_come_to_full) l8 c8 k8
  have b8 := F8.binds (ps := P_d_come_to_full) fun _ _ _ _ _ _ us hl => match us, hl with | [_, _, _], _ => rfl
  have F9 := fun_mk (st := s_d_shown) l9 c9 k9
  have b9 := F9.binds (ps := P_d_shown) fun _ _ _ _ _ _ us hl => match us, hl with | [_], _ => rfl
  have F10 := fun_mk (st := s_d_lost) l10 c10 k10
  have b10 := F10.binds (ps := P_d_lost) fun _ _ _ _ _ _ us hl => match us, hl with | [_], _ => rfl
  have F11 := fun_mk (st := s_d_weight) l11 c11 k11
  have b11 := F11.binds (ps := P_d_weight) fun _ _ _ _ _ _ us hl => match us, hl with | [_], _ => rfl
  have F12 := fun_mk (st := s_d_drawers) l12 c12 k12
  have b12 := F12.binds (ps := P_d_drawers) fun _ _ _ _ _ _ us hl => match us, hl with | [_], _ => rfl
  have F13 := fun_mk (st := s_d_least) l13 c13 k13
  have b13 := F13.binds (ps := P_d_least) fun _ _ _ _ _ _ us hl => match us, hl with | [_, _], _ => rfl
  have F14 := fun_mk (st := s_d_most) l14 c14 k14
  have b14 := F14.binds (ps := P_d_most) fun _ _ _ _ _ _ us hl => match us, hl with | [_, _], _ => rfl
  have F15 := fun_mk (st := s_desk_with) l15 c15 k15
  have b15 := F15.binds (ps := P_desk_with) fun _ _ _ _ _ _ us hl => match us, hl with | [_, _, _, _], _ => rfl
  have F16 := fun_mk (st := s_poured) l16 c16 k16
  have b16 := F16.binds (ps := P_poured) fun _ _ _ _ _ _ us hl => match us, hl with | [_, _], _ => rfl
  have F17 := fun_mk (st := s_cut) l17 c17 k17
  have b17 := F17.binds (ps := P_cut) fun _ _ _ _ _ _ us hl => match us, hl with | [_, _, _, _], _ => rfl
  have F18 := fun_mk (st := s_check_piece) l18 c18 k18
  have b18 := F18.binds (ps := P_check_piece) fun _ _ _ _ _ _ us hl => match us, hl with | [_, _], _ => rfl
  have F19 := fun_mk (st := s_l_init) l19 c19 k19
  have b19 := F19.binds (ps := P_l_init) fun _ _ _ _ _ _ us hl => match us, hl with | [_, _, _, _], _ => rfl
  subst dv20
  have F20 : FunD K "come" "Lately.come" (defArgs s_l_come) (defBody s_l_come) (defScope s_l_come) [.int 1] [] f20 (PySem.W.fnOf "come" "Lately.come" (defArgs s_l_come) (defBody s_l_come) (defScope s_l_come) (.ref T20) kV20 dc20 pm20 an20 cd20 ct20) := ⟨⟨_, _, _, _, _, _, _, _, _, _, rfl, l20, c20, .inr ⟨by simp, T20, oT20, [Value.int 1 tT20], nT20, rfl, dl20, dd20, .cons ⟨tT20, rfl⟩ .nil⟩, .inl rfl⟩, k20⟩
  obtain ⟨ds20, hv20, bb20⟩ := F20.binds1 (ps := P_l_come) 2 0 (by simp) rfl (fun T kV doc pm an cdv ct us its hl h2 => match us, hl, its, h2 with | [_, _], _, [_], _ => ⟨_, rfl, rfl⟩)
  have b20 : Binds K (PySem.W.fnOf "come" "Lately.come" (defArgs s_l_come) (defBody s_l_come) (defScope s_l_come) (.ref T20) kV20 dc20 pm20 an20 cd20 ct20) P_l_come [] := by
    obtain ⟨ds, hv, hb⟩ := F20.binds1 (ps := P_l_come) 3 1 (by simp) rfl (fun T kV doc pm an cdv ct us its hl h2 => match us, hl, its, h2 with | [_, _, _], _, [_], _ => ⟨_, rfl, rfl⟩)
    cases hv
    exact hb
  have F21 := fun_mk (st := s_l_end_piece) l21 c21 k21
  have b21 := F21.binds (ps := P_l_end_piece) fun _ _ _ _ _ _ us hl => match us, hl with | [_], _ => rfl
  have F22 := fun_mk (st := s_l_told) l22 c22 k22
  have b22 := F22.binds (ps := P_l_told) fun _ _ _ _ _ _ us hl => match us, hl with | [_], _ => rfl
  have F23 := fun_mk (st := s_l_reach) l23 c23 k23
  have b23 := F23.binds (ps := P_l_reach) fun _ _ _ _ _ _ us hl => match us, hl with | [_], _ => rfl
  have F24 := fun_mk (st := s_mixed) l24 c24 k24
  have b24 := F24.binds (ps := P_mixed) fun _ _ _ _ _ _ us hl => match us, hl with | [_, _], _ => rfl
  have F25 := fun_mk (st := s_names) l25 c25 k25
  have b25 := F25.binds (ps := P_names) fun _ _ _ _ _ _ us hl => match us, hl with | [_], _ => rfl
  have F26 := fun_mk (st := s_coming) l26 c26 k26
  have b26 := F26.binds (ps := P_coming) fun _ _ _ _ _ _ us hl => match us, hl with | [_, _, _], _ => rfl
  have F27 := fun_mk (st := s_drawers) l27 c27 k27
  have b27 := F27.binds (ps := P_drawers) fun _ _ _ _ _ _ us hl => match us, hl with | [_], _ => rfl
  have F28 := fun_mk (st := s_word) l28 c28 k28
  have b28 := F28.binds (ps := P_word) fun _ _ _ _ _ _ us hl => match us, hl with | [_], _ => rfl
  have F29 := fun_mk (st := s_made) l29 c29 k29
  have b29 := F29.binds (ps := P_made) fun _ _ _ _ _ _ us hl => match us, hl with | [_, _, _], _ => rfl
  have F30 := fun_mk (st := s_come_refused) l30 c30 k30
  have b30 := F30.binds (ps := P_come_refused) fun _ _ _ _ _ _ us hl => match us, hl with | [_, _, _], _ => rfl
  have F31 := fun_mk (st := s_holds) l31 c31 k31
  have b31 := F31.binds (ps := P_holds) fun _ _ _ _ _ _ us hl => match us, hl with | [_, _, _, _, _], _ => rfl
  have F32 := fun_mk (st := s_law) l32 c32 k32
  have b32 := F32.binds (ps := P_law) fun _ _ _ _ _ _ us hl => match us, hl with | [_], _ => rfl
  let E : EnvD K mg := { D_is_name := ⟨f0, _, F0, b0⟩, m_is_name := PySem.W.mg_of X G a0, D_is_number := ⟨f1, _, F1, b1⟩, m_is_number := PySem.W.mg_of X G a1, D_check_name := ⟨f2, _, F2, b2⟩, m_check_name := PySem.W.mg_of X G a2, D_check_weight := ⟨f3, _, F3, b3⟩, m_check_weight := PySem.W.mg_of X G a3, D_check_drawers := ⟨f4, _, F4, b4⟩, m_check_drawers := PySem.W.mg_of X G a4, D_lowered := ⟨f5, _, F5, b5⟩, m_lowered := PySem.W.mg_of X G a5, D_d_init := ⟨f6, _, F6, b6⟩, D_d_come := ⟨f7, _, F7, b7⟩, D_d_come_to_full := ⟨f8, _, F8, b8⟩, D_d_shown := ⟨f9, _, F9, b9⟩, D_d_lost := ⟨f10, _, F10, b10⟩, D_d_weight := ⟨f11, _, F11, b11⟩, D_d_drawers := ⟨f12, _, F12, b12⟩, D_d_least := ⟨f13, _, F13, b13⟩, D_d_most := ⟨f14, _, F14, b14⟩, D_desk_with := ⟨f15, _, F15, b15⟩, m_desk_with := PySem.W.mg_of X G a15, D_poured := ⟨f16, _, F16, b16⟩, m_poured := PySem.W.mg_of X G a16, D_cut := ⟨f17, _, F17, b17⟩, m_cut := PySem.W.mg_of X G a17, D_check_piece := ⟨f18, _, F18, b18⟩, m_check_piece := PySem.W.mg_of X G a18, D_l_init := ⟨f19, _, F19, b19⟩, D_l_come := ⟨f20, _, F20, b20, ds20, hv20, bb20⟩, D_l_end_piece := ⟨f21, _, F21, b21⟩, D_l_told := ⟨f22, _, F22, b22⟩, D_l_reach := ⟨f23, _, F23, b23⟩, D_mixed := ⟨f24, _, F24, b24⟩, m_mixed := PySem.W.mg_of X G a24, D_names := ⟨f25, _, F25, b25⟩, m_names := PySem.W.mg_of X G a25, D_coming := ⟨f26, _, F26, b26⟩, m_coming := PySem.W.mg_of X G a26, D_drawers := ⟨f27, _, F27, b27⟩, m_drawers := PySem.W.mg_of X G a27, D_word := ⟨f28, _, F28, b28⟩, m_word := PySem.W.mg_of X G a28, D_made := ⟨f29, _, F29, b29⟩, m_made := PySem.W.mg_of X G a29, D_come_refused := ⟨f30, _, F30, b30⟩, m_come_refused := PySem.W.mg_of X G a30, D_holds := ⟨f31, _, F31, b31⟩, m_holds := PySem.W.mg_of X G a31, D_law := ⟨fa, _, F32, b32⟩, m_law := PySem.W.mg_of X G a32, CL := CL, clL := ⟨pgL, hdL, poL, saL⟩, mkL := ⟨mkLt, a19, i19, kcL⟩, g_Lately := PySem.W.mg_of X G aL, aL_drawers := nL_drawers, aL_piece := nL_piece, aL_pieces := nL_pieces, aL_full := nL_full, aL_begun := nL_begun, aL_comings := nL_comings, me_l_come := ⟨a20, i20, k20⟩, me_l_end_piece := ⟨a21, i21, k21⟩, me_l_told := ⟨a22, i22, k22⟩, me_l_reach := ⟨a23, i23, k23⟩, C := C, cl := ⟨pg, hd, po, sa⟩, mkD := ⟨mk, a6, i6, kc⟩, g_Desk := PySem.W.mg_of X G aC, a_drawers := n_drawers, a_shown := n_shown, a_lost := n_lost, a_weight := n_weight, me_d_come := ⟨a7, i7, k7⟩, me_d_come_to_full := ⟨a8, i8, k8⟩, me_d_shown := ⟨a9, i9, k9⟩, me_d_lost := ⟨a10, i10, k10⟩, me_d_weight := ⟨a11, i11, k11⟩, me_d_drawers := ⟨a12, i12, k12⟩, me_d_least := ⟨a13, i13, k13⟩, me_d_most := ⟨a14, i14, k14⟩, lt := lt, g_LETTERS := PySem.W.mg_of X G gL, n_dict := PySem.W.mg_none_of X G z_dict, n_enumerate := PySem.W.mg_none_of X G z_enumerate, n_int := PySem.W.mg_none_of X G z_int, n_isinstance := PySem.W.mg_none_of X G z_isinstance, n_len := PySem.W.mg_none_of X G z_len, n_min := PySem.W.mg_none_of X G z_min, n_range := PySem.W.mg_none_of X G z_range, n_sorted := PySem.W.mg_none_of X G z_sorted, n_str := PySem.W.mg_none_of X G z_str, n_sum := PySem.W.mg_none_of X G z_sum, n_type := PySem.W.mg_none_of X G z_type, n_zip := PySem.W.mg_none_of X G z_zip, C_NoName := C_NoName, g_NoName := PySem.W.mg_of X G e_NoName, k_NoName := ek_NoName, b_NoName := eb_NoName, t_NoName := et_NoName, x_NoName := ex_NoName, C_NoWeight := C_NoWeight, g_NoWeight := PySem.W.mg_of X G e_NoWeight, k_NoWeight := ek_NoWeight, b_NoWeight := eb_NoWeight, t_NoWeight := et_NoWeight, x_NoWeight := ex_NoWeight, C_NoDesk := C_NoDesk, g_NoDesk := PySem.W.mg_of X G e_NoDesk, k_NoDesk := ek_NoDesk, b_NoDesk := eb_NoDesk, t_NoDesk := et_NoDesk, x_NoDesk := ex_NoDesk, C_NoMatch := C_NoMatch, g_NoMatch := PySem.W.mg_of X G e_NoMatch, k_NoMatch := ek_NoMatch, b_NoMatch := eb_NoMatch, t_NoMatch := et_NoMatch, x_NoMatch := ex_NoMatch, C_NoPiece := C_NoPiece, g_NoPiece := PySem.W.mg_of X G e_NoPiece, k_NoPiece := ek_NoPiece, b_NoPiece := eb_NoPiece, t_NoPiece := et_NoPiece, x_NoPiece := ex_NoPiece, C_NoText := C_NoText, g_NoText := PySem.W.mg_of X G e_NoText, k_NoText := ek_NoText, b_NoText := eb_NoText, t_NoText := et_NoText, C_DrawerError := C_DrawerError, g_DrawerError := PySem.W.mg_of X G e_DrawerError, k_DrawerError := ek_DrawerError, b_DrawerError := eb_DrawerError, t_DrawerError := et_DrawerError, xc_NoName := ⟨xa_NoName, xb_NoName, eb_NoName, xd_NoName, xe_NoName, hnX, htX, xm_NoName⟩, exm_NoName := PySem.W.exm_ref eb_DrawerError hdE et_DrawerError xs_NoName, kt_NoName_NoName := kt_NoName_NoName, kt_NoName_NoWeight := kt_NoName_NoWeight, kt_NoName_NoDesk := kt_NoName_NoDesk, kt_NoName_NoMatch := kt_NoName_NoMatch, kt_NoName_NoPiece := kt_NoName_NoPiece, kt_NoName_NoText := kt_NoName_NoText, xc_NoWeight := ⟨xa_NoWeight, xb_NoWeight, eb_NoWeight, xd_NoWeight, xe_NoWeight, hnX, htX, xm_NoWeight⟩, exm_NoWeight := PySem.W.exm_ref eb_DrawerError hdE et_DrawerError xs_NoWeight, kt_NoWeight_NoName := kt_NoWeight_NoName, kt_NoWeight_NoWeight := kt_NoWeight_NoWeight, kt_NoWeight_NoDesk := kt_NoWeight_NoDesk, kt_NoWeight_NoMatch := kt_NoWeight_NoMatch, kt_NoWeight_NoPiece := kt_NoWeight_NoPiece, kt_NoWeight_NoText := kt_NoWeight_NoText, xc_NoDesk := ⟨xa_NoDesk, xb_NoDesk, eb_NoDesk, xd_NoDesk, xe_NoDesk, hnX, htX, xm_NoDesk⟩, exm_NoDesk := PySem.W.exm_ref eb_DrawerError hdE et_DrawerError xs_NoDesk, kt_NoDesk_NoName := kt_NoDesk_NoName, kt_NoDesk_NoWeight := kt_NoDesk_NoWeight, kt_NoDesk_NoDesk := kt_NoDesk_NoDesk, kt_NoDesk_NoMatch := kt_NoDesk_NoMatch, kt_NoDesk_NoPiece := kt_NoDesk_NoPiece, kt_NoDesk_NoText := kt_NoDesk_NoText, xc_NoMatch := ⟨xa_NoMatch, xb_NoMatch, eb_NoMatch, xd_NoMatch, xe_NoMatch, hnX, htX, xm_NoMatch⟩, exm_NoMatch := PySem.W.exm_ref eb_DrawerError hdE et_DrawerError xs_NoMatch, kt_NoMatch_NoName := kt_NoMatch_NoName, kt_NoMatch_NoWeight := kt_NoMatch_NoWeight, kt_NoMatch_NoDesk := kt_NoMatch_NoDesk, kt_NoMatch_NoMatch := kt_NoMatch_NoMatch, kt_NoMatch_NoPiece := kt_NoMatch_NoPiece, kt_NoMatch_NoText := kt_NoMatch_NoText, xc_NoPiece := ⟨xa_NoPiece, xb_NoPiece, eb_NoPiece, xd_NoPiece, xe_NoPiece, hnX, htX, xm_NoPiece⟩, exm_NoPiece := PySem.W.exm_ref eb_DrawerError hdE et_DrawerError xs_NoPiece, kt_NoPiece_NoName := kt_NoPiece_NoName, kt_NoPiece_NoWeight := kt_NoPiece_NoWeight, kt_NoPiece_NoDesk := kt_NoPiece_NoDesk, kt_NoPiece_NoMatch := kt_NoPiece_NoMatch, kt_NoPiece_NoPiece := kt_NoPiece_NoPiece, kt_NoPiece_NoText := kt_NoPiece_NoText, kn_NoName := kt_n_NoName, kn_NoWeight := kt_n_NoWeight, kn_NoDesk := kt_n_NoDesk, kn_NoMatch := kt_n_NoMatch, kn_NoPiece := kt_n_NoPiece, kn_NoText := kt_n_NoText }
  exact ⟨PySem.W.fnOf "law" "law" (defArgs s_law) (defBody s_law) (defScope s_law) .none kV32 dc32 pm32 an32 cd32 ct32, fun s v => .of_eq rfl, fun base _ _ => ok_law E⟩
theorem walk {l : PySem.W.OpenLaw} {q : Program} {loose : List Str} {XP : (Str → Option Value) → Heap → Prop} {YP : World → Heap → Prop} {d : DefRec} {K : Params → PySem.W.Frag} (hn : l.most = some 63) (hdf : d.params.defaults = [])
    (hY : ∀ (w : World) (h : Heap), YP w h → (K w.params).In h)
    (F : ∀ (w : World) (mg : Str → Option Value) (fa : Addr) (h : Heap), (K w.params).In h → h.Ns mainGlobals mg → mg d.name = some (.ref fa) →
      ∃ fd : FuncData, (∀ (s : Shared) (u : Value), BindsTo s fd ⟨[u], []⟩ [("_law_script", u)]) ∧ ∀ base : Heap, (K w.params).In base → base.Ns mainGlobals mg → FnOk l.prog w (K w.params) mg base CX0 10 fa fd ["_law_script"] (spLaw (K w.params))) :
    PySem.W.WalkO q loose XP YP l.row.toRowW d [] (fun f vs => PySem.call f vs) :=
  L2.walk_of (n := 63) (k := 10) (x := "_law_script") (CX := fun _ => CX0) (sp := fun w => spLaw (K w.params)) hn (by decide) hdf ⟨rfl, by decide, by decide⟩ hY F (fun _ _ a ns hl _ hS => ⟨a, ns, rfl, hS, hl, fun _ => rfl⟩) fun _ _ _ _ _ z => z
end DK
open PySem PySem.W PyProof.Rows
set_option maxRecDepth 100000 in
set_option maxHeartbeats 0 in
theorem PySem.Challenge.cw_drawerdesk_k11_whole_lately_bounds_holds : PySem.Challenge.rw_drawerdesk_k11_whole_lately_bounds.Holds := by
  w_on; o_law; k_head; (case hw => w_witness2)
  k_fill
  refine DK.walk (l := PySem.Challenge.rw_drawerdesk_k11_whole_lately_bounds) rfl rfl (fun w h Y => PySem.W.kIn_of Y) ?F
  case F =>
    intro w mg fa h KX G hmg
    refine' DK.env_mk KX G hmg ?aL ?aC ?a0 ?l0 ?c0 ?k0 ?a1 ?l1 ?c1 ?k1 ?a2 ?l2 ?c2 ?k2 ?a3 ?l3 ?c3 ?k3 ?a4 ?l4 ?c4 ?k4 ?a5 ?l5 ?c5 ?k5 ?a6 ?i6 ?l6 ?c6 ?k6 ?a7 ?i7 ?l7 ?c7 ?k7 ?dv7 ?dl7 ?dd7 ?a8 ?i8 ?l8 ?c8 ?k8 ?a9 ?i9 ?l9 ?c9 ?k9 ?a10 ?i10 ?l10 ?c10 ?k10 ?a11 ?i11 ?l11 ?c11 ?k11 ?a12 ?i12 ?l12 ?c12 ?k12 ?a13 ?i13 ?l13 ?c13 ?k13 ?a14 ?i14 ?l14 ?c14 ?k14 ?a15 ?l15 ?c15 ?k15 ?a16 ?l16 ?c16 ?k16 ?a17 ?l17 ?c17 ?k17 ?a18 ?l18 ?c18 ?k18 ?a19 ?i19 ?l19 ?c19 ?k19 ?a20 ?i20 ?l20 ?c20 ?k20 ?dv20 ?dl20 ?dd20 ?a21 ?i21 ?l21 ?c21 ?k21 ?a22 ?i22 ?l22 ?c22 ?k22 ?a23 ?i23 ?l23 ?c23 ?k23 ?a24 ?l24 ?c24 ?k24 ?a25 ?l25 ?c25 ?k25 ?a26 ?l26 ?c26 ?k26 ?a27 ?l27 ?c27 ?k27 ?a28 ?l28 ?c28 ?k28 ?a29 ?l29 ?c29 ?k29 ?a30 ?l30 ?c30 ?k30 ?a31 ?l31 ?c31 ?k31 ?a32 ?l32 ?c32 ?k32 ?pg ?hd ?po ?sa ?mk ?kc ?pgL ?hdL ?poL ?saL ?mkLt ?kcL ?nL_drawers ?nL_piece ?nL_pieces ?nL_full ?nL_begun ?nL_comings ?n_drawers ?n_shown ?n_lost ?n_weight ?gL ?z_dict ?z_enumerate ?z_int ?z_isinstance ?z_len ?z_min ?z_range ?z_sorted ?z_str ?z_sum ?z_type ?z_zip ?e_NoName ?ek_NoName ?eb_NoName ?et_NoName ?ex_NoName ?e_NoWeight ?ek_NoWeight ?eb_NoWeight ?et_NoWeight ?ex_NoWeight ?e_NoDesk ?ek_NoDesk ?eb_NoDesk ?et_NoDesk ?ex_NoDesk ?e_NoMatch ?ek_NoMatch ?eb_NoMatch ?et_NoMatch ?ex_NoMatch ?e_NoPiece ?ek_NoPiece ?eb_NoPiece ?et_NoPiece ?ex_NoPiece ?e_NoText ?ek_NoText ?eb_NoText ?et_NoText ?e_DrawerError ?ek_DrawerError ?eb_DrawerError ?et_DrawerError ?hdE ?hnX ?htX ?xa_NoName ?xb_NoName ?xd_NoName ?xe_NoName ?xm_NoName ?xs_NoName ?kt_NoName_NoName ?kt_NoName_NoWeight ?kt_NoName_NoDesk ?kt_NoName_NoMatch ?kt_NoName_NoPiece ?kt_NoName_NoText ?xa_NoWeight ?xb_NoWeight ?xd_NoWeight ?xe_NoWeight ?xm_NoWeight ?xs_NoWeight ?kt_NoWeight_NoName ?kt_NoWeight_NoWeight ?kt_NoWeight_NoDesk ?kt_NoWeight_NoMatch ?kt_NoWeight_NoPiece ?kt_NoWeight_NoText ?xa_NoDesk ?xb_NoDesk ?xd_NoDesk ?xe_NoDesk ?xm_NoDesk ?xs_NoDesk ?kt_NoDesk_NoName ?kt_NoDesk_NoWeight ?kt_NoDesk_NoDesk ?kt_NoDesk_NoMatch ?kt_NoDesk_NoPiece ?kt_NoDesk_NoText ?xa_NoMatch ?xb_NoMatch ?xd_NoMatch ?xe_NoMatch ?xm_NoMatch ?xs_NoMatch ?kt_NoMatch_NoName ?kt_NoMatch_NoWeight ?kt_NoMatch_NoDesk ?kt_NoMatch_NoMatch ?kt_NoMatch_NoPiece ?kt_NoMatch_NoText ?xa_NoPiece ?xb_NoPiece ?xd_NoPiece ?xe_NoPiece ?xm_NoPiece ?xs_NoPiece ?kt_NoPiece_NoName ?kt_NoPiece_NoWeight ?kt_NoPiece_NoDesk ?kt_NoPiece_NoMatch ?kt_NoPiece_NoPiece ?kt_NoPiece_NoText ?kt_n_NoName ?kt_n_NoWeight ?kt_n_NoDesk ?kt_n_NoMatch ?kt_n_NoPiece ?kt_n_NoText
    (case aL => k_is)
    (case aC => k_is)
    (case e_NoName => k_is)
    (case e_NoWeight => k_is)
    (case e_NoDesk => k_is)
    (case e_NoMatch => k_is)
    (case e_NoPiece => k_is)
    (case e_NoText => k_is)
    (case e_DrawerError => k_is)
    (case a0 => k_is)
    (case l0 => k_is)
    (case c0 => k_is)
    (case k0 => k_is)
    (case a1 => k_is)
    (case l1 => k_is)
    (case c1 => k_is)
    (case k1 => k_is)
    (case a2 => k_is)
    (case l2 => k_is)
    (case c2 => k_is)
    (case k2 => k_is)
    (case a3 => k_is)
    (case l3 => k_is)
    (case c3 => k_is)
    (case k3 => k_is)
    (case a4 => k_is)
    (case l4 => k_is)
    (case c4 => k_is)
    (case k4 => k_is)
    (case a5 => k_is)
    (case l5 => k_is)
    (case c5 => k_is)
    (case k5 => k_is)
    (case a6 => k_is)
    (case i6 => k_is)
    (case l6 => k_is)
    (case c6 => k_is)
    (case k6 => k_is)
    (case a7 => k_is)
    (case i7 => k_is)
    (case l7 => k_is)
    (case c7 => k_is)
    (case k7 => k_is)
    (case dv7 => first | rfl | k_is)
    (case dl7 => k_is)
    (case dd7 => first | rfl | k_is)
    (case a8 => k_is)
    (case i8 => k_is)
    (case l8 => k_is)
    (case c8 => k_is)
    (case k8 => k_is)
    (case a9 => k_is)
    (case i9 => k_is)
    (case l9 => k_is)
    (case c9 => k_is)
    (case k9 => k_is)
    (case a10 => k_is)
    (case i10 => k_is)
    (case l10 => k_is)
    (case c10 => k_is)
    (case k10 => k_is)
    (case a11 => k_is)
    (case i11 => k_is)
    (case l11 => k_is)
    (case c11 => k_is)
    (case k11 => k_is)
    (case a12 => k_is)
    (case i12 => k_is)
    (case l12 => k_is)
    (case c12 => k_is)
    (case k12 => k_is)
    (case a13 => k_is)
    (case i13 => k_is)
    (case l13 => k_is)
    (case c13 => k_is)
    (case k13 => k_is)
    (case a14 => k_is)
    (case i14 => k_is)
    (case l14 => k_is)
    (case c14 => k_is)
    (case k14 => k_is)
    (case a15 => k_is)
    (case l15 => k_is)
    (case c15 => k_is)
    (case k15 => k_is)
    (case a16 => k_is)
    (case l16 => k_is)
    (case c16 => k_is)
    (case k16 => k_is)
    (case a17 => k_is)
    (case l17 => k_is)
    (case c17 => k_is)
    (case k17 => k_is)
    (case a18 => k_is)
    (case l18 => k_is)
    (case c18 => k_is)
    (case k18 => k_is)
    (case a19 => k_is)
    (case i19 => k_is)
    (case l19 => k_is)
    (case c19 => k_is)
    (case k19 => k_is)
    (case a20 => k_is)
    (case i20 => k_is)
    (case l20 => k_is)
    (case c20 => k_is)
    (case k20 => k_is)
    (case dv20 => first | rfl | k_is)
    (case dl20 => k_is)
    (case dd20 => first | rfl | k_is)
    (case a21 => k_is)
    (case i21 => k_is)
    (case l21 => k_is)
    (case c21 => k_is)
    (case k21 => k_is)
    (case a22 => k_is)
    (case i22 => k_is)
    (case l22 => k_is)
    (case c22 => k_is)
    (case k22 => k_is)
    (case a23 => k_is)
    (case i23 => k_is)
    (case l23 => k_is)
    (case c23 => k_is)
    (case k23 => k_is)
    (case a24 => k_is)
    (case l24 => k_is)
    (case c24 => k_is)
    (case k24 => k_is)
    (case a25 => k_is)
    (case l25 => k_is)
    (case c25 => k_is)
    (case k25 => k_is)
    (case a26 => k_is)
    (case l26 => k_is)
    (case c26 => k_is)
    (case k26 => k_is)
    (case a27 => k_is)
    (case l27 => k_is)
    (case c27 => k_is)
    (case k27 => k_is)
    (case a28 => k_is)
    (case l28 => k_is)
    (case c28 => k_is)
    (case k28 => k_is)
    (case a29 => k_is)
    (case l29 => k_is)
    (case c29 => k_is)
    (case k29 => k_is)
    (case a30 => k_is)
    (case l30 => k_is)
    (case c30 => k_is)
    (case k30 => k_is)
    (case a31 => k_is)
    (case l31 => k_is)
    (case c31 => k_is)
    (case k31 => k_is)
    (case a32 => k_is)
    (case l32 => k_is)
    (case c32 => k_is)
    (case k32 => k_is)
    (case pg => k_is)
    (case hd => k_is)
    (case po => k_is)
    (case sa => k_is)
    (case mk => k_is)
    (case kc => k_is)
    (case pgL => k_is)
    (case hdL => k_is)
    (case poL => k_is)
    (case saL => k_is)
    (case mkLt => k_is)
    (case kcL => k_is)
    (case nL_drawers => k_is)
    (case nL_piece => k_is)
    (case nL_pieces => k_is)
    (case nL_full => k_is)
    (case nL_begun => k_is)
    (case nL_comings => k_is)
    (case n_drawers => k_is)
    (case n_shown => k_is)
    (case n_lost => k_is)
    (case n_weight => k_is)
    (case gL => k_is)
    (case z_dict => k_is)
    (case z_enumerate => k_is)
    (case z_int => k_is)
    (case z_isinstance => k_is)
    (case z_len => k_is)
    (case z_min => k_is)
    (case z_range => k_is)
    (case z_sorted => k_is)
    (case z_str => k_is)
    (case z_sum => k_is)
    (case z_type => k_is)
    (case z_zip => k_is)
    (case ek_NoName => k_is)
    (case eb_NoName => k_is)
    (case et_NoName => k_is)
    (case ex_NoName => k_exc)
    (case ek_NoWeight => k_is)
    (case eb_NoWeight => k_is)
    (case et_NoWeight => k_is)
    (case ex_NoWeight => k_exc)
    (case ek_NoDesk => k_is)
    (case eb_NoDesk => k_is)
    (case et_NoDesk => k_is)
    (case ex_NoDesk => k_exc)
    (case ek_NoMatch => k_is)
    (case eb_NoMatch => k_is)
    (case et_NoMatch => k_is)
    (case ex_NoMatch => k_exc)
    (case ek_NoPiece => k_is)
    (case eb_NoPiece => k_is)
    (case et_NoPiece => k_is)
    (case ex_NoPiece => k_exc)
    (case ek_NoText => k_is)
    (case eb_NoText => k_is)
    (case et_NoText => k_is)
    (case ek_DrawerError => k_is)
    (case eb_DrawerError => k_is)
    (case et_DrawerError => k_is)
    (case hdE => k_is)
    (case hnX => k_is)
    (case htX => k_is)
    (case xa_NoName => k_is)
    (case xb_NoName => k_is)
    (case xd_NoName => k_is)
    (case xe_NoName => k_is)
    (case xm_NoName => k_is)
    (case xs_NoName => k_is)
    (case kt_NoName_NoName => kit_is)
    (case kt_NoName_NoWeight => kit_is)
    (case kt_NoName_NoDesk => kit_is)
    (case kt_NoName_NoMatch => kit_is)
    (case kt_NoName_NoPiece => kit_is)
    (case kt_NoName_NoText => kit_is)
    (case xa_NoWeight => k_is)
    (case xb_NoWeight => k_is)
    (case xd_NoWeight => k_is)
    (case xe_NoWeight => k_is)
    (case xm_NoWeight => k_is)
    (case xs_NoWeight => k_is)
    (case kt_NoWeight_NoName => kit_is)
    (case kt_NoWeight_NoWeight => kit_is)
    (case kt_NoWeight_NoDesk => kit_is)
    (case kt_NoWeight_NoMatch => kit_is)
    (case kt_NoWeight_NoPiece => kit_is)
    (case kt_NoWeight_NoText => kit_is)
    (case xa_NoDesk => k_is)
    (case xb_NoDesk => k_is)
    (case xd_NoDesk => k_is)
    (case xe_NoDesk => k_is)
    (case xm_NoDesk => k_is)
    (case xs_NoDesk => k_is)
    (case kt_NoDesk_NoName => kit_is)
    (case kt_NoDesk_NoWeight => kit_is)
    (case kt_NoDesk_NoDesk => kit_is)
    (case kt_NoDesk_NoMatch => kit_is)
    (case kt_NoDesk_NoPiece => kit_is)
    (case kt_NoDesk_NoText => kit_is)
    (case xa_NoMatch => k_is)
    (case xb_NoMatch => k_is)
    (case xd_NoMatch => k_is)
    (case xe_NoMatch => k_is)
    (case xm_NoMatch => k_is)
    (case xs_NoMatch => k_is)
    (case kt_NoMatch_NoName => kit_is)
    (case kt_NoMatch_NoWeight => kit_is)
    (case kt_NoMatch_NoDesk => kit_is)
    (case kt_NoMatch_NoMatch => kit_is)
    (case kt_NoMatch_NoPiece => kit_is)
    (case kt_NoMatch_NoText => kit_is)
    (case xa_NoPiece => k_is)
    (case xb_NoPiece => k_is)
    (case xd_NoPiece => k_is)
    (case xe_NoPiece => k_is)
    (case xm_NoPiece => k_is)
    (case xs_NoPiece => k_is)
    (case kt_NoPiece_NoName => kit_is)
    (case kt_NoPiece_NoWeight => kit_is)
    (case kt_NoPiece_NoDesk => kit_is)
    (case kt_NoPiece_NoMatch => kit_is)
    (case kt_NoPiece_NoPiece => kit_is)
    (case kt_NoPiece_NoText => kit_is)
    (case kt_n_NoName => kit_is)
    (case kt_n_NoWeight => kit_is)
    (case kt_n_NoDesk => kit_is)
    (case kt_n_NoMatch => kit_is)
    (case kt_n_NoPiece => kit_is)
    (case kt_n_NoText => kit_is)
